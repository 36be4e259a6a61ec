import PyProof.Rows.All
import Wide.All
import OpenK.AllK
import Wide.FinOn
import PyProof.EqAt
import PyProof.EqKinds
import PyProof.TupleCall
import PyProof.JoinWalk
import HandS.Base
import HandS.Call
import HandS.List
import HandS.Comp
import HandS.Text
import HandS.AnyAll
import HandS.GenOver
import HandS.Walk
import PyProof.GenRules
import PyProof.GenQ
import PyProof.WalkInts
import HandS.ForMost
import HandS.EndTab
import HandS.EndOwn
import HandS.Codes
import HandS.IsInst
import KE.KExcSuper
import HandS.ExcInit
import HandS.FStr
import HandS.Nested
import KE.KExcIs
import HandS.Exc
import HandS.ExcOwn
import HandS.ExcCtx
import HandS.HotCalls
import HandS.ExcInitHot
import HandS.ExcIs
import HandS.ExcField
import HandS.CallSlots
import HandS.WordsExc
import KE.GoesEnum
import HandS.Iter
import HandS.StrMore
import PyProof.ListStr
import KE.KRevSl
import HandS.Style
import HandS.TupAny
import KE.GoesZip
import HandS.Zip
import PySem.Challenge.RW_traceclasses_k00_alphabets
set_option Elab.async false
set_option linter.all false
set_option maxRecDepth 100000
set_option maxHeartbeats 4000000
/-! Generator expressions over a text, with tests, that read names of the def around them. -/
namespace TcG
open PySem PySem.Spec PyProof.Rows L2

/-- the state in which a step of the generator runs keeps what stood when it was made, the code table aside -/
def Kept (P : Addr) (s1 s2 : Shared) : Prop := ∀ b o, b ≠ P → s1.heap.get? b = some o → s2.heap.get? b = some o

/-- the run of the tests of one clause -/
abbrev testsRun (ifs : List Expr) (cenv : Env) : Sem Bool :=
  forIn ifs true fun c r => if r = true then do let ok ← isTrue c cenv (eval c cenv); pure (ForInStep.yield ok) else pure (ForInStep.yield r)

/-- what the steps of a generator over the signs of a text do -/
structure Steps (X : Cx) (pins : List (Addr × Obj)) (σ : L2.St) (scope : Scope) (x : Str) (ifs : List Expr) (elt : Expr) (P : Addr) (a : Str) (pz : Nat → Bool) (F : Nat → Value → Prop) (s1 : Shared) : Prop where
  tests : ∀ (C : Addr) (code : Value) (bi : Addr) (A' : Around) E' (c : Nat) (t : Tok) (s2 : Shared) (m2 : Str → Option Value), A'.handled = none → c ∈ a.cps.toList → s2.heap.Ns C m2 → m2 x = some (.str ⟨#[c]⟩ t) → Kept P s1 s2 →
    wpAny (model X.prog X.w) A' (testsRun ifs (genEnv scope (cloFrom X.env.cells scope.names []) C code bi X.env)) (fun ok s3 => ok = pz c ∧ Keeps s2 s3) E' s2
  elt : ∀ (C : Addr) (code : Value) (bi : Addr) (A' : Around) E' (c : Nat) (t : Tok) (s2 : Shared) (m2 : Str → Option Value), A'.handled = none → c ∈ a.cps.toList → pz c = true → s2.heap.Ns C m2 → m2 x = some (.str ⟨#[c]⟩ t) → Kept P s1 s2 →
    wpAny (model X.prog X.w) A' (eval elt (genEnv scope (cloFrom X.env.cells scope.names []) C code bi X.env)) (fun y s3 => F c y ∧ Keeps s2 s3) E' s2

/-- the generator g, ready to be walked in s5: over the signs of a that pass -/
def ReadyT (X : Cx) (pins : List (Addr × Obj)) (σ : L2.St) (H1 : Hp) (P : Addr) (a : Str) (pz : Nat → Bool) (F : Nat → Value → Prop) (g : Addr) (s5 : Shared) : Prop :=
  ∃ (fp wr : List Addr) (G : Array GenState → Array GenState → Prop) (Fv : Nat → Value → Prop) (St : Nat → Shared → Prop),
    WalksS X.prog X.w X.A.in1.in1 g fp wr G (a.cps.toList.filter pz).length Fv St ∧ WalksS X.prog X.w X.A.in1 g fp wr G (a.cps.toList.filter pz).length Fv St ∧ St 0 s5 ∧ (∀ b ∈ fp, b < s5.heap.objs.size) ∧ g ∈ fp ∧
    (∀ i s9, St i s9 → s9.TypeIs (.ref g) "generator") ∧
    (∀ j v, Fv j v → ∃ c, (a.cps.toList.filter pz)[j]? = some c ∧ F c v) ∧
    ∀ s', Moved wr G s5 s' → ∃ H2, GxR.Tabbed P H1 H2 ∧ Inv X pins σ H2 s'

/-- the passing places of a list are the places of its filter -/
theorem passing_filter (pz : Nat → Bool) : ∀ (l : List Nat), ((List.range l.length).filter (fun i => (l[i]?.map pz).getD false)).map (fun i => l.getD i 0) = l.filter pz := by
  intro l
  have key : ∀ (r p : List Nat), ((List.range' p.length r.length).filter (fun i => ((p ++ r)[i]?.map pz).getD false)).map (fun i => (p ++ r).getD i 0) = r.filter pz := by
    intro r
    induction r with
    | nil => intro p; rfl
    | cons x r ih =>
      intro p
      have e0 : (p ++ x :: r)[p.length]? = some x := by simp
      have e1 : (p ++ x :: r).getD p.length 0 = x := by simp
      have ih2 := ih (p ++ [x])
      have ea : p ++ [x] ++ r = p ++ x :: r := by simp
      have el : (p ++ [x]).length = p.length + 1 := by simp
      rw [ea, el] at ih2
      rw [List.length_cons, List.range'_succ, List.filter_cons, List.filter_cons, e0]
      show List.map _ (if (pz x) = true then _ else _) = _
      by_cases h : pz x = true
      · rw [if_pos h, if_pos h, List.map_cons, e1, ih2]
      · rw [if_neg h, if_neg h, ih2]
  have := key l []
  rw [List.range_eq_range']
  simpa using this

theorem passing_of {pz : Nat → Bool} {l : List Nat} {j i : Nat} (h : (passing (fun i => (l[i]?.map pz).getD false) l.length 0)[j]? = some i) : ∃ c, l[i]? = some c ∧ (l.filter pz)[j]? = some c := by
  unfold passing at h
  rw [List.drop_zero] at h
  have hf := passing_filter pz l
  have hj : (l.filter pz)[j]? = some (l.getD i 0) := by
    rw [← hf, List.getElem?_map, h]
    rfl
  have hm : i ∈ List.range l.length := (List.mem_filter.mp (List.mem_of_getElem? h)).1
  have hi := List.mem_range.mp hm
  refine ⟨l[i], List.getElem?_eq_getElem hi, ?_⟩
  rw [hj]
  simp [List.getD, hi]
theorem passing_length (pz : Nat → Bool) (l : List Nat) : (passing (fun i => (l[i]?.map pz).getD false) l.length 0).length = (l.filter pz).length := by
  unfold passing
  rw [List.drop_zero, ← passing_filter pz l, List.length_map]

section
variable {X : Cx} {pins : List (Addr × Obj)} {σ : L2.St} {H : Hp} {s : Shared}

theorem gen_text {c P : Addr} {elt iter : Expr} {ifs : List Expr} {x : Str} {px gpos : Pos} {scope : Scope} {pz : Str → Nat → Bool} {F : Str → Nat → Value → Prop} {te : TE} {k : Nat} {Q' : Value → Shared → Prop} {R : Str → Hp → Prop}
    (room : Room k X.A) (TB : GxR.TabB X.base X.mg c P) (codeAt : X.env.code = .ref c) (S : GxR.GenS X.env scope x) (hi : PE X iter te)
    (plain : ∀ v, genFold iter X.env v = pure v) (I : Inv X pins σ H s) (h : te σ H fun v H1 => ∃ a : Str, v = .str a ∧ GxR.TabG H1 P ∧ R a H1)
    (hel : ∀ a H1 s1, Inv X pins σ H1 s1 → GxR.TabG H1 P → R a H1 → Steps X pins σ scope x ifs elt P a (pz a) (F a) s1)
    (goal : ∀ a H1 g s5, R a H1 → ReadyT X pins σ H1 P a (pz a) (F a) g s5 → Q' (.ref g) s5) :
    wpAny (model X.prog X.w) X.A (eval (.GeneratorExp elt [⟨.Name x px, iter, ifs, 0⟩] scope gpos) X.env) Q' X.xe s := by
  refine wpAny_GeneratorExp_walksQ room.hd S.co (closure_ok S.free) S.cell S.dot S.loc S.kind
    (by have := room.dp; omega) ?_ plain
  refine thn (hi.run pins s σ H _ I h) fun xv s1 ⟨v, H1, I1, r1, q1⟩ => ?_
  obtain ⟨a, rfl, ⟨ps, tabAt, tri⟩, q1⟩ := q1
  obtain ⟨tk0, rfl⟩ := _root_.id r1
  refine wpAny_pyIter_str fun o St W hst => ?_
  have hel := hel a H1 s1 I1 ⟨ps, tabAt, tri⟩ q1
  have tab1 : s1.heap.get? P = some { cls := .none, data := .fields ps } := I1.hok P _ tabAt
  have tabLt : P < s1.heap.objs.size := Heap.lt_size tab1
  have tab2 : (s1.heap.push o).get? P = some { cls := .none, data := .fields ps } := Heap.get?_push_of_some _ tab1
  have cd : PySem.W.CodeHd (s1.heap.push o) c P := TB.code.keeps fun b u e => Heap.get?_push_of_some _ (I1.bk b u e)
  have lim2 : (s1.heap.push o).NoLimit := I1.nolimit.push o
  have cont : ∀ (code : Value) (h3 : Heap) (tk : Nat) (ps' : Array Value), Heap.ExtBut P (s1.heap.push o) h3 → (s1.heap.push o).objs.size ≤ h3.objs.size → h3.get? P = some { cls := .none, data := .fields ps' } →
      (∃ more, ps' = ps ++ more) → TriplesOk ps'.toList →
      wpAny (model X.prog X.w) X.A (builtinsFor X.env.globals X.env.builtins) (fun bi s4 =>
        ∃ J fp wr n0 Pf St0 pz F, Value.ref s1.heap.objs.size = .ref J ∧ (∀ A' : Around, A'.handled = none → Walks X.prog X.w A' J fp wr n0 Pf St0) ∧ St0 0 s4.heap ∧ (∀ b ∈ fp, b < s4.heap.objs.size) ∧ s4.heap.NoLimit ∧ cStatics ∉ wr ∧
          (∀ href : Heap, (∀ b o, s4.heap.get? b = some o → href.get? b = some o) →
            QuietGen X.prog X.w (genEnv scope (cloFrom X.env.cells scope.names []) s4.heap.objs.size code bi X.env) x ifs elt (List.range s4.heap.objs.size) wr Pf pz F href) ∧
          (∀ a h5 tk gs, gs.bare = true → s4.heap.objs.size < a → h5.objs.size = a + 1 → (∀ b o, s4.heap.get? b = some o → h5.get? b = some o) →
            WalksS X.prog X.w X.A.in4 a (a :: s4.heap.objs.size :: List.range s4.heap.objs.size) (s4.heap.objs.size :: wr) (GenOnlyQ s4.gens.size) (passing pz n0 0).length
              (fun j y => ∃ i, (passing pz n0 0)[j]? = some i ∧ F i y) (GenAt X.prog X.w X.A.in4 a s4.gens.size s4.heap.objs.size (List.range s4.heap.objs.size) wr pz n0 F) →
            GenAt X.prog X.w X.A.in4 a s4.gens.size s4.heap.objs.size (List.range s4.heap.objs.size) wr pz n0 F 0 { s4 with gens := s4.gens.push gs, toks := tk, heap := h5 } →
            Q' (.ref a) { s4 with gens := s4.gens.push gs, toks := tk, heap := h5 })) X.xe { s1 with heap := h3, toks := tk } := by
    intro code h3 tk ps' ext size3 tab3 grown tri3
    obtain ⟨bm, ob, e1, e2, e3, e4, e5, e6, e7, e8⟩ := TB.bm
    have statP : cStatics ≠ P := fun e => by
      obtain ⟨_, stat, _⟩ := I1.nolimit
      obtain ⟨o', es, ep, ho, hd, _⟩ := stat
      rw [e, tab1] at ho
      cases ho
      cases hd
    have statLt : cStatics < s1.heap.objs.size := let ⟨_, stat, _⟩ := I1.nolimit; stat.lt
    have sz2 : (s1.heap.push o).objs.size = s1.heap.objs.size + 1 := Heap.size_push ..
    have keep3 : ∀ b u, b ≠ P → s1.heap.get? b = some u → h3.get? b = some u := fun b u hb e => ext b u hb (Heap.get?_push_of_some _ e)
    refine wpAny_builtinsFor (m := X.mg)
      (by rw [I1.ok.glob]; exact ((I1.mod.glob.keeps I1.bk).push o).extBut ext TB.gP)
      e1 e2 (keep3 _ _ e4 (I1.bk _ _ e5)) e6 e7 e8 ?_
    refine ⟨s1.heap.objs.size, [s1.heap.objs.size], [s1.heap.objs.size], a.cps.size, SignAt a, St, (fun i => (a.cps.toList[i]?.map (pz a)).getD false), (fun i y => ∃ cc, a.cps.toList[i]? = some cc ∧ F a cc y), rfl, W, ?_, ?_, lim2.extBut ext statP, ?_, ?_, ?_⟩
    · refine (W X.A room.hd).frame _ _ _ hst fun b hb u e => ext b u (fun z => ?_) e
      rcases List.mem_cons.mp hb with z2 | z2
      · exact Nat.ne_of_lt tabLt (z.symm.trans z2)
      · cases z2
    · intro b hb
      rcases List.mem_cons.mp hb with z | z
      · rw [z]
        show s1.heap.objs.size < h3.objs.size
        omega
      · cases z
    · intro z
      rcases List.mem_cons.mp z with z | z
      · exact Nat.ne_of_lt statLt z
      · cases z
    · intro href ahead
      have kept : ∀ s2 : Shared, (∀ b ∈ List.range h3.objs.size, b ∉ [s1.heap.objs.size] → ∀ o, href.get? b = some o → s2.heap.get? b = some o) → Kept P s1 s2 := fun s2 hk b u hb e => by
        have lt := Heap.lt_size e
        have lt3 : b < h3.objs.size := by
          have q : (s1.heap.push o).objs.size ≤ h3.objs.size := size3
          rw [sz2] at q
          exact Nat.lt_of_lt_of_le (Nat.lt_succ_of_lt lt) q
        refine hk b (List.mem_range.mpr lt3) (fun z => ?_) u (ahead b u (keep3 b u hb e))
        rcases List.mem_cons.mp z with z | z
        · exact Nat.ne_of_lt lt z
        · cases z
      refine ⟨fun A' E' i v s2 m2 hA hPv hn hm hk => ?_, fun A' E' i v s2 m2 hA hPv hp hn hm hk => ?_⟩
      · obtain ⟨cc, u, hcc, rfl⟩ := hPv
        have hcl : a.cps.toList[i]? = some cc := by rw [Array.getElem?_toList]; exact hcc
        refine wpAny_mono (hel.tests _ _ _ A' E' cc u s2 m2 hA (List.mem_of_getElem? hcl) hn hm (kept s2 hk)) (fun ok s3 r => ⟨?_, r.2⟩) fun _ _ e => e
        rw [r.1, hcl]
        rfl
      · obtain ⟨cc, u, hcc, rfl⟩ := hPv
        have hcl : a.cps.toList[i]? = some cc := by rw [Array.getElem?_toList]; exact hcc
        have hp2 : pz a cc = true := by
          rw [hcl] at hp
          exact hp
        exact wpAny_mono (hel.elt _ _ _ A' E' cc u s2 m2 hA (List.mem_of_getElem? hcl) hp2 hn hm (kept s2 hk)) (fun y s3 r => ⟨⟨cc, hcl, r.1⟩, r.2⟩) fun _ _ e => e
    · intro g h5 tk5 gs bare5 above5 size5 keep5 W5 at5
      have en : a.cps.size = a.cps.toList.length := by simp
      rw [en] at W5 at5
      rw [passing_length] at W5
      refine goal a H1 g _ q1 ⟨_, _, _, _, _, W5.in4_2, W5.in4_1, at5, ?_, List.mem_cons_self, fun i s9 h9 => ?_, ?_, fun s' hm => ?_⟩
      · intro b hb
        show b < h5.objs.size
        have e5 : h5.objs.size = g + 1 := size5
        have h8 : h3.objs.size < g := above5
        rw [e5]
        rcases List.mem_cons.mp hb with z | z
        · rw [z]
          exact Nat.lt_succ_self g
        · rcases List.mem_cons.mp z with z | z
          · rw [z]
            exact Nat.lt_succ_of_lt h8
          · exact Nat.lt_succ_of_lt (Nat.lt_trans (show b < h3.objs.size from List.mem_range.mp z) h8)
      · obtain ⟨isg, _⟩ := h9
        exact isg.typeIs
      · intro j v hv
        obtain ⟨i, hij, cc, hcc, hF⟩ := hv
        obtain ⟨c2, hc2, hj⟩ := passing_of hij
        rw [hcc] at hc2
        cases hc2
        exact ⟨cc, hj, hF⟩
      · obtain ⟨more, em⟩ := grown
        have nwr : ∀ b u, s1.heap.get? b = some u → b ∉ h3.objs.size :: [s1.heap.objs.size] := fun b u e hb => by
          have lt := Heap.lt_size e
          have q : s1.heap.objs.size < h3.objs.size := by
            have q0 : (s1.heap.push o).objs.size ≤ h3.objs.size := size3
            rw [sz2] at q0
            exact q0
          rcases List.mem_cons.mp hb with z | z
          · exact Nat.ne_of_lt (Nat.lt_trans lt q) z
          · rcases List.mem_cons.mp z with z | z
            · exact Nat.ne_of_lt lt z
            · cases z
        have J := GxR.inv_tab (more := more) (h' := s'.heap) (g' := s'.gens) (d' := s'.drawn) (t' := s'.toks) I1 tabAt
          (fun b u hb e => hm.heap b u (nwr b u e) (keep5 b u (keep3 b u hb e)))
          (by rw [← em]; exact hm.heap P _ (nwr P _ tab1) (keep5 P _ tab3)) (AllBare.movedS (I1.bare.push bare5) hm)
        rw [GxR.sh_eta s1 s' hm.os] at J
        exact ⟨upd H1 P (.tbl (ps ++ more)), ⟨⟨ps ++ more, upd_same, by rw [← em]; exact tri3⟩, fun b hb => upd_ne hb⟩, J⟩
  refine ⟨lim2, ?_⟩
  cases hf : codeAmong gpos ps.toList with
  | none =>
    refine wpAny_genexprCodeX codeAt (cd.code tab2 tri) (cd.tab tab2) hf fun c' h' tk ext ge lt code' _ tab' _ => ?_
    obtain ⟨o1, vs, f1, tf, fl, tg, inF, tx, tt, op, _, _, _, _, _, _, _, _, _, tri', _⟩ := code'
    exact cont _ h' tk _ ext (Nat.le_trans ge (Nat.le_of_lt lt)) tab'.2 ⟨_, rfl⟩ tri'
  | some cv =>
    refine wpAny_genexprCode_hit codeAt (cd.code tab2 tri) hf ?_
    exact cont cv (s1.heap.push o) s1.toks ps (Heap.ExtBut.refl _ _) (Nat.le_refl _) tab2 ⟨#[], by simp⟩ tri
end
end TcG
/-! ''.join(x for x in W if x in L): the signs of W that stand in L; L a name of the def around. -/
namespace TcG
open PySem PySem.Spec PyProof.Rows L2

theorem clo_look {cells : List (Str × Addr)} {names : List (Str × NameKind)} {y : Str} {c : Addr} (hf : (y, NameKind.free) ∈ names) (hc : cells.lookup y = some c) : (cloFrom cells names []).lookup y = some c := by
  have hm := cloFrom_has (cells := cells) (acc := []) hf
  rw [hc] at hm
  have hall : ∀ d, (y, d) ∈ cloFrom cells names [] → d = c := fun d hd => by
    rcases cloFrom_mem hd with z | ⟨_, z⟩
    · cases z
    · rw [z, hc]
      rfl
  cases e : (cloFrom cells names []).lookup y with
  | none =>
    exfalso
    have : ∀ (l : List (Str × Addr)), (y, c) ∈ l → l.lookup y ≠ none := by
      intro l
      induction l with
      | nil => intro h; cases h
      | cons p r ih =>
        intro h
        obtain ⟨n, d⟩ := p
        rw [List.lookup_cons]
        by_cases hn : (y == n) = true
        · rw [hn]
          intro z
          cases z
        · rw [Bool.not_eq_true] at hn
          rw [hn]
          refine ih ?_
          rcases List.mem_cons.mp h with h | h
          · cases h
            simp at hn
          · exact h
    exact this _ hm e
  | some d => rw [hall d (PySem.mem_of_lookup e)]

/-- the scope of a generator expression of one clause over the name x, in a def with these names -/
def genOk (outer : List (Str × NameKind)) (sc : Scope) (x : Str) : Bool :=
  decide (sc.kind = .function) && !sc.isCoroutine && sc.names.all (fun y => decide (y.2 ≠ .cell) && (decide (y.2 ≠ .free) || decide (outer.lookup y.1 = some .cell)))
    && decide (sc.names.lookup (".0" : Str) = some NameKind.local) && decide (sc.names.lookup x = some NameKind.local)
theorem gens_of {X : Cx} {sc : Scope} {x : Str} (ok : X.Ok) (h : genOk X.env.scope.names sc x = true) : GxR.GenS X.env sc x := by
  unfold genOk at h
  simp only [Bool.and_eq_true, List.all_eq_true, Bool.or_eq_true, decide_eq_true_eq, Bool.not_eq_true'] at h
  obtain ⟨⟨⟨⟨h1, h2⟩, h3⟩, h4⟩, h5⟩ := h
  refine ⟨h1, h2, fun y hy => (h3 y hy).1, h4, h5, fun y hy e => ?_⟩
  rcases (h3 y hy).2 with z | z
  · exact absurd e z
  · exact ok.has y.1 (.inl z)

section
variable {X : Cx} {pins : List (Addr × Obj)} {σ : L2.St} {H : Hp} {s : Shared}

/-- a name of the def around, read by a step of the generator -/
theorem ld_free {P : Addr} {scope : Scope} {y : Str} {iy : Nat} {v : V} {s1 s2 : Shared} {C : Addr} {code : Value} {bi : Addr} {A' : Around} {E' : Value → Shared → Prop} {py : Pos} {Q : Value → Shared → Prop} {ps : Array Value}
    (I1 : Inv X pins σ H s1) (tab : H P = some (.tbl ps)) (hN : X.N[iy]? = some y) (hv : σ[iy]? = some (some v)) (hk : X.env.kindOf y = some .cell) (kind : scope.kind = .function) (hl : scope.names.lookup y = some .free)
    (kept : Kept P s1 s2) (hd : (y == ("__debug__" : Str)) = false) (hcd : (y == ("__classdict__" : Str)) = false) (h : ∀ u, RelV v u → Q u s2) :
    wpAny (model X.prog X.w) A' (eval (.Name y py) (genEnv scope (cloFrom X.env.cells scope.names []) C code bi X.env)) Q E' s2 := by
  obtain ⟨m, _, look⟩ := I1.loc
  obtain ⟨u, ru, l⟩ := look iy y v hN hv (.inr (.inl hk))
  rcases l with ⟨z, _⟩ | ⟨_, c, hc, o, ho, hdat⟩
  · rw [hk] at z
    cases z
  · have tab1 : s1.heap.get? P = some { cls := .none, data := .fields ps } := I1.hok P _ tab
    have nP : c ≠ P := fun z => by
      rw [z, tab1] at ho
      cases ho
      cases hdat
    have cell2 : s2.heap.IsCell c (some u) := ⟨o, kept c o nP ho, hdat⟩
    exact wpAny_Name (wpAny_loadName_free kind hl (clo_look (PySem.mem_of_lookup hl) hc) cell2 (h u ru) hcd) hd

/-- the test «x in y» of a sign, y a text of the def around -/
theorem steps_in {P : Addr} {scope : Scope} {x y : Str} {iy : Nat} {L a : Str} {s1 : Shared} {ps : Array Value} {p1 p2 p3 p4 : Pos}
    (I1 : Inv X pins σ H s1) (tab : H P = some (.tbl ps)) (S : GxR.GenS X.env scope x) (hN : X.N[iy]? = some y) (hv : σ[iy]? = some (some (.str L))) (hk : X.env.kindOf y = some .cell) (hl : scope.names.lookup y = some .free)
    (hd : (y == ("__debug__" : Str)) = false) (hcd : (y == ("__classdict__" : Str)) = false) (hdx : (x == ("__debug__" : Str)) = false) :
    Steps X pins σ scope x [.Compare (.Name x p1) [.In] [.Name y p2] p3] (.Name x p4) P a (fun c => decide (c ∈ L.cps.toList)) (fun c v => ∃ t, v = .str ⟨#[c]⟩ t) s1 := by
  refine ⟨fun C code bi A' E' c t s2 m2 hA hc hn hm kept => ?_, fun C code bi A' E' c t s2 m2 hA hc hp hn hm kept => ?_⟩
  · unfold testsRun
    simp only [List.forIn_cons, List.forIn_nil, if_true]
    refine wpAny_bind (wpAny_bind (wpAny_isTrue_Compare1 ?_))
    refine wpAny_Name (wpAny_loadName_local (env := genEnv scope (cloFrom X.env.cells scope.names []) C code bi X.env) S.kind S.loc hn hm ?_) hdx
    refine ld_free I1 tab hN hv hk S.kind hl kept hd hcd fun u ru => ?_
    obtain ⟨t', rfl⟩ := (show ∃ t', u = Value.str L t' from ru)
    refine PyProof.Rows.in_str ?_
    refine wpAny_truthy_bool ?_
    refine wpAny_pure ?_
    show wpAny _ _ (pure _) _ _ _
    refine wpAny_pure ⟨PySem.StrLaws.found_one L c, GxR.keeps_refl _⟩
  · refine wpAny_Name (wpAny_loadName_local (env := genEnv scope (cloFrom X.env.cells scope.names []) C code bi X.env) S.kind S.loc hn hm ?_) hdx
    exact ⟨⟨t, rfl⟩, GxR.keeps_refl _⟩

/-- the reading: W, a text; L stands in the i-th slot -/
def tKept (P : Addr) (i : Nat) (te : TE) : TE := fun σ H Q => te σ H fun v H1 => ∃ a : Str, v = .str a ∧ GxR.TabG H1 P ∧ ∃ L : Str, σ[i]? = some (some (.str L)) ∧ a.cps.toList.length ≤ 1000 ∧
  ∀ H2, GxR.Tabbed P H1 H2 → Q (.str ⟨(a.cps.toList.filter fun c => decide (c ∈ L.cps.toList)).toArray⟩) H2

theorem joinOk_ones (l : List Nat) (h : l.length ≤ 1000) : JoinOk ⟨#[]⟩ (l.map fun c => (⟨#[c]⟩ : Str)) = true := by
  unfold JoinOk
  have key : ∀ (l : List Nat) (n : Nat), (l.map fun c => (⟨#[c]⟩ : Str)).foldl (fun a b => a + b.length + (⟨#[]⟩ : Str).length) n = n + l.length := by
    intro l
    induction l with
    | nil => intro n; rfl
    | cons x r ih =>
      intro n
      rw [List.map_cons, List.foldl_cons, ih, List.length_cons]
      show n + 1 + 0 + r.length = n + (r.length + 1)
      omega
  rw [List.foldl_toArray, key]
  have : PySem.Builtin.Str.tooLong (0 + l.length) = false := by
    unfold PySem.Builtin.Str.tooLong
    simp only [decide_eq_false_iff_not]
    have : sizeLine = 16777216 := rfl
    omega
  rw [this]
  rfl

theorem pe_kept {c P : Addr} {j : Nat} {iter : Expr} {x y : Str} {iy : Nat} {px p1 p2 p3 p4 p5 apos cpos gpos : Pos} {scope : Scope} {te : TE} {k : Nat}
    (room : Room k X.A) (TB : GxR.TabB X.base X.mg c P) (codeAt : X.env.code = .ref c) (gen : genOk X.env.scope.names scope x = true) (hi : PE X iter te)
    (hN : X.N[iy]? = some y) (hk : X.env.kindOf y = some .cell) (hl : scope.names.lookup y = some .free)
    (plain : ∀ v, genFold iter X.env v = pure v) (hd : (y == ("__debug__" : Str)) = false := by decide) (hcd : (y == ("__classdict__" : Str)) = false := by decide) (hdx : (x == ("__debug__" : Str)) = false := by decide)
    (base : attributeBase (.Constant (.str ⟨#[]⟩) j p5) "join" X.env (eval (.Constant (.str ⟨#[]⟩) j p5) X.env) = eval (.Constant (.str ⟨#[]⟩) j p5) X.env := by rfl)
    (few : ((backTo cpos (starEach [.GeneratorExp (.Name x p4) [⟨.Name x px, iter, [.Compare (.Name x p1) [.In] [.Name y p2] p3], 0⟩] scope gpos] X.env)).all (fun x => !x.1) && (backToKw cpos (keywordEach [] X.env)).all (fun x => x.1.isSome)
      && decide (([.GeneratorExp (.Name x p4) [⟨.Name x px, iter, [.Compare (.Name x p1) [.In] [.Name y p2] p3], 0⟩] scope gpos] : List Expr).length + ([] : List Keyword).length + (if ([] : List Keyword).isEmpty then 0 else 1) < 30)) = true := by rfl)
    (line : (apos.endLine == cpos.line) = true := by rfl)
    (each : starEach [.GeneratorExp (.Name x p4) [⟨.Name x px, iter, [.Compare (.Name x p1) [.In] [.Name y p2] p3], 0⟩] scope gpos] X.env
      = (false, eval (.GeneratorExp (.Name x p4) [⟨.Name x px, iter, [.Compare (.Name x p1) [.In] [.Name y p2] p3], 0⟩] scope gpos) X.env) :: starEach [] X.env := by rfl)
    (bare : (backTo cpos (starEach [] X.env)).any (·.1) = false := by rfl) :
    PE X (.Call (.Attribute (.Constant (.str ⟨#[]⟩) j p5) "join" apos) [.GeneratorExp (.Name x p4) [⟨.Name x px, iter, [.Compare (.Name x p1) [.In] [.Name y p2] p3], 0⟩] scope gpos] [] cpos) (tKept P iy te) := by
  refine ⟨fun pins s σ H Q I h => ?_⟩
  have S := gens_of I.ok gen
  refine wpAny_Call_method_late base few line rfl (Calls.Constant_str ?_)
  refine ⟨"str", _, PySem.F.plainAttrs_str, PySem.F.slot_str_join, PySem.F.type_str_join, typeIs_str _ _ _, (fun _ e => nomatch e), ?_⟩
  rw [each]
  refine Calls.callWith_builtin (by show (false || (backTo cpos (starEach [] X.env)).any (·.1)) = false; rw [bare] <;> rfl) (Calls.evalArgs_plain ?_)
  have I' := I.tok (s.toks + 1)
  refine Calls.spliced_cons (gen_text (pz := fun a c => match σ[iy]? with | some (some (.str L)) => decide (c ∈ L.cps.toList) | _ => false) (F := fun a c v => ∃ t, v = .str ⟨#[c]⟩ t)
    (R := fun a H1 => ∃ L : Str, σ[iy]? = some (some (.str L)) ∧ a.cps.toList.length ≤ 1000 ∧ ∀ H2, GxR.Tabbed P H1 H2 → Q (.str ⟨(a.cps.toList.filter fun c => decide (c ∈ L.cps.toList)).toArray⟩) H2)
    room TB codeAt S hi plain I' h (fun a H1 s1 I1 tb r => ?_) fun a H1 g s5 hR hG => ?_)
  · obtain ⟨ps, tab, _⟩ := tb
    obtain ⟨L, hv, _⟩ := r
    rw [hv]
    exact steps_in I1 tab S hN hv hk hl hd hcd hdx
  refine Calls.spliced_nil ?_
  obtain ⟨L, hv, small, q⟩ := hR
  rw [hv] at hG
  obtain ⟨fp, wr, G, F, St, W, _, hst, hfp, hg, hT, hstr, back⟩ := hG
  have hlen : (a.cps.toList.filter fun c => decide (c ∈ L.cps.toList)).length ≤ 1000 := Nat.le_trans (List.length_filter_le _ _) small
  refine PySem.SC.joinGen W hT hst hfp hg (fun i v hv => ?_) (fun s' l hm hio => ?_) (Nat.le_trans hlen (by decide))
  · obtain ⟨cc, _, t, e⟩ := hstr i v hv
    exact ⟨_, _, e⟩
  · have e : l.map (·.1) = (a.cps.toList.filter fun c => decide (c ∈ L.cps.toList)).map fun c => (⟨#[c]⟩ : Str) := by
      have n0 : l.length = (a.cps.toList.filter fun c => decide (c ∈ L.cps.toList)).length := by
        have e0 := hio.1
        rw [List.size_toArray] at e0
        unfold strValues at e0
        rw [List.length_map] at e0
        exact e0
      refine List.ext_getElem? fun j => ?_
      rw [List.getElem?_map, List.getElem?_map]
      cases hj : l[j]? with
      | none =>
        have h1 : (a.cps.toList.filter fun c => decide (c ∈ L.cps.toList))[j]? = none := by
          rw [List.getElem?_eq_none_iff] at hj ⊢
          omega
        rw [h1]
        rfl
      | some p =>
        have h2 : (strValues l).toArray[j]? = some (.str p.1 p.2) := by
          rw [List.getElem?_toArray]
          unfold strValues
          rw [List.getElem?_map, hj]
          rfl
        obtain ⟨cc, hc, t, ev⟩ := hstr j _ (hio.2 j _ h2)
        rw [hc]
        injection ev with ev1
        show some p.1 = some _
        rw [ev1]
    obtain ⟨H3, ht, J⟩ := back s' hm
    rw [e]
    refine ⟨joinOk_ones _ hlen, fun t' k' => ⟨.str _, H3, J.tok k', ⟨t', ?_⟩, q H3 ht⟩⟩
    have e2 := join_ones (a.cps.toList.filter fun c => decide (c ∈ L.cps.toList))
    unfold Txt.join
    rw [PySem.StrLaws.glued_eq_join, e2]
end
end TcG
/-! The context of a generator's own frame, in the hand layer's words. -/
namespace TcG
open PySem PySem.Spec PyProof.Rows L2 GenW

/-- the scope of a generator expression in a def with these names, in this order: what it captures is a cell of the def, none of the def's names is its own -/
def genFit (N : List Str) (outer : List (Str × NameKind)) (gs : Scope) : Bool :=
  decide (gs.kind = .function) && !gs.isCoroutine && gs.names.all (fun y => decide (y.2 ≠ .cell) && (decide (y.2 ≠ .free) || decide (outer.lookup y.1 = some .cell)))
    && decide (gs.names.lookup (".0" : Str) = some NameKind.local) && N.all (fun x => decide (gs.names.lookup x ≠ some NameKind.local))
structure GenF (N : List Str) (env : Env) (gs : Scope) : Prop where
  kind : gs.kind = .function
  co : gs.isCoroutine = false
  cell : ∀ y ∈ gs.names, y.2 ≠ .cell
  free : ∀ y ∈ gs.names, y.2 = .free → env.kindOf y.1 = some .cell
  dot : gs.names.lookup (".0" : Str) = some NameKind.local
  own : ∀ x ∈ N, gs.names.lookup x ≠ some NameKind.local
theorem genF_of {N : List Str} {env : Env} {gs : Scope} (h : genFit N env.scope.names gs = true) : GenF N env gs := by
  unfold genFit at h
  simp only [Bool.and_eq_true, List.all_eq_true, Bool.or_eq_true, decide_eq_true_eq, Bool.not_eq_true'] at h
  obtain ⟨⟨⟨⟨h1, h2⟩, h3⟩, h4⟩, h5⟩ := h
  refine ⟨h1, h2, fun y hy => (h3 y hy).1, fun y hy e => ?_, h4, h5⟩
  rcases (h3 y hy).2 with z | z
  · exact absurd e z
  · exact z

abbrev genE (X : Cx) (gs : Scope) (code : Value) (C : Addr) : Env := genEnv gs (cloFrom X.env.cells gs.names []) C code builtinsNs X.env
def genX (X : Cx) (own : List Str) (gs : Scope) (code : Value) (C : Addr) (s0 : Shared) (H0 : Hp) (fp : List Addr) (Ag : Around) : Cx where
  prog := X.prog
  w := X.w
  K := X.K
  mg := X.mg
  base := X.base
  A := Ag
  N := X.N ++ own
  s_0 := s0
  H_0 := H0
  env := genE X gs code C
  outer := X.stack
  stack := genE X gs code C :: X.stack
  ex := fp
  fn := fun _ => false
  calm := true
  pn := []
  xe := fun _ _ => False

section
variable {X : Cx} {pins : List (Addr × Obj)} {σ : L2.St} {H : Hp} {s : Shared}

theorem clo_of {gs : Scope} (F : GenF X.N X.env gs) (ok : X.Ok) {y : Str} {c : Addr} (h : (cloFrom X.env.cells gs.names []).lookup y = some c) : X.env.kindOf y = some .cell ∧ X.env.cells.lookup y = some c := by
  rcases cloFrom_mem (PySem.mem_of_lookup h) with z | ⟨z, e⟩
  · cases z
  · have k := F.free _ z rfl
    obtain ⟨d, hd⟩ := ok.has y (.inl k)
    rw [hd] at e
    exact ⟨k, by rw [hd, e]; rfl⟩

/-- the slots at the generator's entry -/
abbrev gSt (σ : L2.St) (own : List Str) : L2.St := σ ++ own.map fun _ => none
theorem gSt_get {own : List Str} {i : Nat} {v : V} (h : (gSt σ own)[i]? = some (some v)) : i < σ.length ∧ σ[i]? = some (some v) := by
  unfold gSt at h
  by_cases hi : i < σ.length
  · rw [List.getElem?_append_left hi] at h
    exact ⟨hi, h⟩
  · rw [List.getElem?_append_right (by omega), List.getElem?_map] at h
    cases e : own[i - σ.length]? with
    | none => rw [e] at h; cases h
    | some a => rw [e] at h; cases h

theorem inv_gen {own : List Str} {gs : Scope} {code : Value} {fp : List Addr} {Ag : Around} {m : Str → Option Value} {h5 : Heap} {g5 : Array GenState} {tk : Nat} {a C : Addr} {oa : Obj} (F : GenF X.N X.env gs) (I : Inv X pins σ H s) (hf : ∀ b ∈ fp, FpOk X pins H b)
    (hob : ∀ b ∈ fp, ∃ o, s.heap.get? b = some o) (hh : Ag.handled = none) (hfr : Ag.frames = some (genE X gs code C :: X.stack)) (hC : C = s.heap.objs.size) (ns : h5.Ns C m) (keep : ∀ b o, s.heap.get? b = some o → h5.get? b = some o) (bare : AllBare g5)
    (ha : h5.get? a = some oa) (haC : C < a) (hd : ∀ v, oa.data ≠ .cell v) :
    Inv (genX X own gs code C s H fp Ag) [(a, oa)] (gSt σ own) H { s with heap := h5, gens := g5, toks := tk } := by
  have hlt : ∀ b ∈ fp, b < s.heap.objs.size := fun b hb => let ⟨o, e⟩ := hob b hb; Heap.lt_size e
  have cl : ∀ {y : Str} {c : Addr}, (genE X gs code C).cells.lookup y = some c → X.env.kindOf y = some .cell ∧ X.env.cells.lookup y = some c := fun h => clo_of F I.ok h
  have nstk : ∀ b, s.heap.objs.size ≤ b → b ∉ frs X.stack := fun b hb z => by
    rcases List.mem_cons.mp (I.stkSub b z) with e | z
    · rw [e] at hb
      exact Nat.lt_irrefl _ (Nat.lt_of_lt_of_le I.lt hb)
    · exact I.nofs hb z
  refine ⟨⟨I.ok.mod, F.kind, I.ok.glob, rfl, Nat.le_of_eq hC.symm, fun x y c h1 h2 => I.ok.inj x y c (cl h1).2 (cl h2).2, fun x hx => ?_, fun x c h => (nomatch h), fun _ => hh, hfr, .inr ⟨rfl, rfl⟩, fun b hb => ⟨?_, fun x c h => ?_⟩, I.bs, Nat.le_trans I.ok.bsz I.sz, fun b o e hb => ?_, fun b hb z => ?_, I.stack, I.stkFree⟩,
    rfl, bare, Un.kept keep, ⟨m, ns, fun i x v e1 e2 e3 => ?_⟩, fun x c h => ?_, ?_, fun x c h => I.freeC x c (cl h).2, fun p hp => ?_, I.hok.kept keep, ?_⟩
  · have hx : gs.names.lookup x = some .cell ∨ gs.names.lookup x = some .free := hx
    rcases hx with hx | hx
    · exact absurd rfl (F.cell _ (PySem.mem_of_lookup hx))
    · have hm := PySem.mem_of_lookup hx
      obtain ⟨c, hc⟩ := I.ok.has x (.inl (F.free _ hm rfl))
      exact ⟨c, clo_look hm hc⟩
  · rw [show (genX X own gs code C s H fp Ag).env.locals = C from rfl, hC]
    exact Nat.ne_of_lt (hlt b hb)
  · exact (hf b hb).2.2.2.2.1 x c (cl h).2
  · rcases (hf b hb).2.2.2.1 with z | z
    · exact I.ok.noex b o e z
    · exact absurd (Nat.lt_of_lt_of_le (Heap.lt_size e) (Nat.le_trans I.ok.bsz z)) (Nat.lt_irrefl _)
  · have z : b ∈ frs X.stack := z
    rcases List.mem_cons.mp (I.stkSub b z) with e | z
    · exact (hf b hb).2.1 e
    · exact (hf b hb).2.2.1 z
  · obtain ⟨hi, e2⟩ := gSt_get e2
    have e1 : X.N[i]? = some x := by
      have : (X.N ++ own)[i]? = some x := e1
      rw [List.getElem?_append_left (by rw [← I.len]; exact hi)] at this
      exact this
    have e3 : gs.names.lookup x = some .local ∨ gs.names.lookup x = some .cell ∨ gs.names.lookup x = some .free := e3
    rcases e3 with e3 | e3 | e3
    · exact absurd e3 (F.own x (List.mem_of_getElem? e1))
    · exact absurd rfl (F.cell _ (PySem.mem_of_lookup e3))
    · have hm := PySem.mem_of_lookup e3
      have k := F.free _ hm rfl
      obtain ⟨m0, _, look⟩ := I.loc
      obtain ⟨u, ru, l⟩ := look i x v e1 e2 (.inr (.inl k))
      refine ⟨u, ru, .inr ⟨.inr e3, ?_⟩⟩
      rcases l with ⟨z, _⟩ | ⟨_, c, hc, o, ho, hdat⟩
      · rw [k] at z
        cases z
      · exact ⟨c, clo_look hm hc, o, keep c o ho, hdat⟩
  · obtain ⟨v, o, ho, hdat⟩ := I.cell x c (cl h).2
    exact ⟨v, o, keep c o ho, hdat⟩
  · exact I.hok.fresh (by rw [show (genX X own gs code C s H fp Ag).env.locals = C from rfl, hC]; exact Nat.le_refl _)
  · have hp : p = (a, oa) := by simpa [genX] using hp
    subst hp
    have ge : s.heap.objs.size ≤ a := by rw [← hC]; exact Nat.le_of_lt haC
    exact ⟨ha, I.hok.fresh ge, Nat.ne_of_gt haC, nstk a ge, hd⟩
  · show (gSt σ own).length = (X.N ++ own).length
    rw [List.length_append, List.length_append, List.length_map, I.len]

theorem fp_gen {own : List Str} {gs : Scope} {code : Value} {fp : List Addr} {Ag : Around} {a C : Addr} {oa : Obj} {H' : Hp} (F : GenF X.N X.env gs) (I : Inv X pins σ H s) (hf : ∀ b ∈ fp, FpOk X pins H b) (hob : ∀ b ∈ fp, ∃ o, s.heap.get? b = some o) (hC : C = s.heap.objs.size) (haC : C < a) (hn : ∀ b ∈ fp, H' b = none) :
    ∀ b ∈ fp, FpOk (genX X own gs code C s H fp Ag) [(a, oa)] H' b := fun b hb => by
  have lt : b < s.heap.objs.size := let ⟨o, e⟩ := hob b hb; Heap.lt_size e
  refine ⟨hn b hb, by rw [show (genX X own gs code C s H fp Ag).env.locals = C from rfl, hC]; exact Nat.ne_of_lt lt, fun z => ?_, .inl hb, fun x c h => (hf b hb).2.2.2.2.1 x c (clo_of F I.ok h).2, fun p hp => ?_⟩
  · have z : b ∈ frs X.stack := z
    rcases List.mem_cons.mp (I.stkSub b z) with e | z
    · exact (hf b hb).2.1 e
    · exact (hf b hb).2.2.1 z
  · have hp : p = (a, oa) := by simpa [genX] using hp
    subst hp
    exact Nat.ne_of_gt (Nat.lt_trans (by rw [hC]; exact lt) haC)

/-- the generator is done with: back in the def -/
theorem inv_back {own : List Str} {gs : Scope} {code : Value} {fp : List Addr} {Ag : Around} {C : Addr} {pins' : List (Addr × Obj)} {σ' : L2.St} {H' : Hp} {s' : Shared} (I : Inv X pins σ H s) (hf : ∀ b ∈ fp, FpOk X pins H b) (J : Inv (genX X own gs code C s H fp Ag) pins' σ' H' s') : Inv X pins σ H' s' :=
  I.call' (ch := fp) J.os J.base J.hok J.bare fun b hb => ⟨(hf b hb).2.2.2.1, (hf b hb).2.1, (hf b hb).2.2.2.2.1, (hf b hb).2.2.2.2.2⟩
end

/-- the state in which a generator is woken keeps what stood when it fell asleep -/
structure Woken (s s' : Shared) : Prop where
  os : s'.os = s.os
  bare : AllBare s.gens → AllBare s'.gens
  keep : ∀ b o, s.heap.get? b = some o → s'.heap.get? b = some o
theorem Woken.refl (s : Shared) : Woken s s := ⟨rfl, fun h => h, fun _ _ e => e⟩
theorem Woken.trans {s s' s'' : Shared} (x : Woken s s') (y : Woken s' s'') : Woken s s'' := ⟨y.os.trans x.os, fun h => y.bare (x.bare h), fun b o e => y.keep b o (x.keep b o e)⟩
theorem bare_set {gs : Array GenState} {g : Nat} {x : GenState} (h : AllBare gs) (hx : x.bare = true) : AllBare (gs.setIfInBounds g x) := fun y hy => by
  obtain ⟨i, hi, rfl⟩ := Array.mem_iff_getElem.mp hy
  by_cases e : i = g
  · subst e
    rw [Array.getElem_setIfInBounds_self]
    exact hx
  · have hi2 : i < gs.size := by simpa using hi
    rw [Array.getElem_setIfInBounds_ne hi2 (Ne.symm e)]
    exact h _ (Array.getElem_mem hi2)
theorem Woken.set {s : Shared} {g : Nat} {x : GenState} (hx : x.bare = true) : Woken s (s.setGen g x) := ⟨rfl, fun h => bare_set h hx, fun _ _ e => e⟩
theorem Inv.woken {X : Cx} {pins : List (Addr × Obj)} {σ : L2.St} {H : Hp} {s s' : Shared} (I : Inv X pins σ H s) (w : Woken s s') : Inv X pins σ H s' :=
  I.call' (ch := []) w.os (Un.kept w.keep) (I.hok.kept w.keep) (w.bare I.bare) fun _ z => nomatch z
end TcG
/-! A generator with two clauses. -/
namespace TcG
open PySem PySem.Spec PyProof.Rows L2
theorem two_outer (elt t1 i1 t2 i2 : Expr) (scope : Scope) (pos : Pos) (it acc : Value) (env : Env) :
    compTurn (.GeneratorExp elt [⟨t1, i1, [], 0⟩, ⟨t2, i2, [], 0⟩] scope pos) 0 it acc env = (do
      standAt i1.pos
      match ← pyNext it with
      | none => pure (.done .next)
      | some v =>
        letOwnedTupleGo t1 it v
        assign t1 env v
        let x ← eval i2 env
        standAt i2.pos
        let x ← foldedSetIterable i2 env x
        let _ ← runOwn (.compStart (.GeneratorExp elt [⟨t1, i1, [], 0⟩, ⟨t2, i2, [], 0⟩] scope pos) 1 (← holding [x] (pyIter x)) acc env) env
        again (.compLoop (.GeneratorExp elt [⟨t1, i1, [], 0⟩, ⟨t2, i2, [], 0⟩] scope pos) 0 it acc env)) := by rfl
theorem two_inner (elt t1 i1 t2 i2 : Expr) (scope : Scope) (pos : Pos) (it acc : Value) (env : Env) :
    compTurn (.GeneratorExp elt [⟨t1, i1, [], 0⟩, ⟨t2, i2, [], 0⟩] scope pos) 1 it acc env = (do
      standAt i2.pos
      match ← pyNext it with
      | none => pure (.done .next)
      | some v =>
        letOwnedTupleGo t2 it v
        assign t2 env v
        (do let v ← eval elt env; standAt elt.pos; let _ ← yieldOut env v)
        again (.compLoop (.GeneratorExp elt [⟨t1, i1, [], 0⟩, ⟨t2, i2, [], 0⟩] scope pos) 1 it acc env)) := by rfl
end TcG
/-! A generator expression run for all(): its steps in the hand layer's words. -/
namespace TcG
open PySem PySem.Spec PyProof.Rows L2 GenW

def Keep (σ σ' : L2.St) : Prop := ∀ (i : Nat) (v : V), σ[i]? = some (some v) → σ'[i]? = some (some v)
theorem Keep.refl (σ : L2.St) : Keep σ σ := fun _ _ h => h
theorem Keep.set {σ : L2.St} {k : Nat} {x : V} (h : σ[k]? = some none) : Keep σ (σ.set k (some x)) := fun i v e => by
  have : k ≠ i := fun z => by rw [z, e] at h; cases h
  rw [List.getElem?_set_ne this]
  exact e
theorem Keep.trans {σ σ' σ'' : L2.St} (x : Keep σ σ') (y : Keep σ' σ'') : Keep σ σ'' := fun i v h => y i v (x i v h)
theorem Inv.keep {X : Cx} {pins : List (Addr × Obj)} {σ σ' : L2.St} {H : Hp} {s : Shared} (I : Inv X pins σ' H s) (hl : σ.length = X.N.length) (k : Keep σ σ') : Inv X pins σ H s := I.weak (by rw [hl, I.len]) k

def GenR (X : Cx) (pins : List (Addr × Obj)) (σ : L2.St) (Qt : Hp → Prop) : GenEnd := fun _ _ r s => r = .ok .next ∧ ∃ H, Inv X pins σ H s ∧ Qt H
def GenY (X : Cx) (pins : List (Addr × Obj)) (σ : L2.St) (Qf : Hp → Prop) : Protocol := fun _ _ v s kap => ∃ b H, v = .bool b ∧ Inv X pins σ H s ∧ (b = false → Qf H) ∧ (b = true → ∀ s', Woken s s' → kap (.send .none) s')

/-- the around of the frame -/
structure GenA (X : Cx) (A : Around) (c : Code) (fs : List Frame) : Prop where
  over : A.over c fs = X.A
  calm : X.calm = true
  xe : ∀ e s, ¬ X.xe e s
  co : X.env.scope.isCoroutine = false

section
variable {X : Cx} {A : Around} {pins : List (Addr × Obj)} {σ0 : L2.St} {Qt Qf : Hp → Prop} {elt iter tg : Expr} {gs : Scope} {gpos : Pos}

theorem thx {α : Type} {M : Model} {B : Around} {t : Sem α} {Q Q' : α → Shared → Prop} {E : Value → Shared → Prop} {s : Shared} (xe : ∀ e s, ¬ X.xe e s) (h : wpAny M B t Q X.xe s) (f : ∀ a s', Q a s' → Q' a s') : wpAny M B t Q' E s := wpAny_mono h f fun e s z => absurd z (xe e s)
theorem yield_out {env : Env} (hco : env.scope.isCoroutine = false) : ∀ v, yieldOut env v = yieldValue v := fun v => by simp only [yieldOut, hco, Bool.false_eq_true, if_false]

theorem seg_all1 {it : Addr} {fp : List Addr} {tn : Nat → Heap → Prop} {J : It} {g : TG} {te : TE} {n : Nat} {W : Nat → Hp → Prop}
    (GA : GenA X A (.compLoop (.GeneratorExp elt [⟨tg, iter, [], 0⟩] gs gpos) 0 (.ref it) .none X.env) [])
    (T : Turn X.prog X.w X.K tg J fp it tn) (hf : ∀ H, (∀ b ∈ fp, H b = none) → ∀ b ∈ fp, FpOk X pins H b) (hl : σ0.length = X.N.length) (hg : PG X tg g) (he : PE X elt te)
    (go : ∀ i H, i < n → W i H → J.go i H) (stop : ∀ H, W n H → J.stop n H ∧ Qt H)
    (turn : ∀ i H x H', i < n → W i H → J.yld i H x H' → g x σ0 H' fun σ2 H3 => Keep σ0 σ2 ∧ te σ2 H3 fun v H4 => ∃ b, v = .bl b ∧ (b = true → W (i + 1) H4) ∧ (b = false → Qf H4)) :
    ∀ (k i : Nat) (s0 s : Shared) (H : Hp), n - i = k → i ≤ n → Inv X pins σ0 H s → tn i s.heap → (∀ b ∈ fp, H b = none) → W i H →
      Seg (model X.prog X.w) A (GenR X pins σ0 Qt) (GenY X pins σ0 Qf) (n - i) s0
        (.compLoop (.GeneratorExp elt [⟨tg, iter, [], 0⟩] gs gpos) 0 (.ref it) .none X.env)
        ((model X.prog X.w).den (.compLoop (.GeneratorExp elt [⟨tg, iter, [], 0⟩] gs gpos) 0 (.ref it) .none X.env)) [] s := by
  obtain ⟨ov, calm, xe, co⟩ := GA
  intro k
  induction k with
  | zero =>
    intro i s0 s H hk hi I st fr w
    have hin : i = n := by omega
    subst hin
    show Seg _ A _ _ _ s0 _ ((compTurn (.GeneratorExp elt [⟨tg, iter, [], 0⟩] gs gpos) 0 (.ref it) .none X.env).onRaise (leaving X.env)) [] s
    rw [compTurn_gen, Sem.onRaise_eq_wrap]
    refine seg_bind_wrap (wpAny_standAt ?_)
    obtain ⟨js, q⟩ := stop H w
    refine seg_bind_wrap (ov.symm ▸ thx xe (T.done X rfl rfl rfl calm i pins s σ0 H _ I (hf H fr) st js) fun r s1 ⟨hr, I1⟩ => ?_)
    subst hr
    exact seg_end (.ok .next) ⟨rfl, H, I1, q⟩
  | succ k ih =>
    intro i s0 s H hk hi I st fr w
    have hlt : i < n := by omega
    have hn : n - i = (n - (i + 1)) + 1 := by omega
    rw [hn]
    show Seg _ A _ _ _ s0 _ ((compTurn (.GeneratorExp elt [⟨tg, iter, [], 0⟩] gs gpos) 0 (.ref it) .none X.env).onRaise (leaving X.env)) [] s
    rw [compTurn_gen, Sem.onRaise_eq_wrap]
    refine seg_bind_wrap (wpAny_standAt ?_)
    refine seg_bind_wrap (ov.symm ▸ thx xe (T.item X rfl rfl rfl calm i pins s σ0 H _ I (hf H fr) st (go i H hlt w)) fun r s1 ⟨u, hr, h1⟩ => ?_)
    subst hr
    refine seg_bind_wrap (ov.symm ▸ thx xe h1 fun _ s2 ⟨x, H2, I2, r2, y2, st2, fr2⟩ => ?_)
    have I2' := I2.pinned (hf H2 fr2) (T.obj _ _ st2)
    refine seg_bind_wrap (ov.symm ▸ thx xe (hg.run _ s2 σ0 H2 x u _ I2' r2 (turn i H x H2 hlt w y2)) fun _ s3 ⟨σ3, H3, I3, k3, q3⟩ => ?_)
    simp only [List.forIn_nil]
    refine seg_bind_wrap (wpAny_pure ?_)
    simp only [if_true]
    simp only [yield_out co]
    rw [Sem.bind_eq_wrap', Sem.bind_eq_wrap', Sem.wrap_wrap, Sem.wrap_wrap]
    refine seg_wrap (ov.symm ▸ thx xe (he.run _ s3 σ3 H3 _ I3 q3) fun y s4 ⟨v, H4, I4, r4, b, hv, qt, qf⟩ => ?_)
    subst hv
    obtain rfl : y = .bool b := r4
    have fr4 : ∀ b ∈ fp, H4 b = none := fun b hb => by
      obtain ⟨o, e, d⟩ := T.obj _ _ st2 b hb
      exact (I4.pin (b, o) (List.mem_append_right _ (List.mem_append_right _ (mem_pinsAt hb e)))).2.1
    have st4 : tn (i + 1) s4.heap := T.keep _ _ _ st2 fun b hb o e => (I4.pin (b, o) (List.mem_append_right _ (List.mem_append_right _ (mem_pinsAt hb e)))).1
    have I5 : Inv X pins σ0 H4 s4 := Inv.keep I4.unpinned hl k3
    refine seg_at (seg_yield rfl rfl rfl ⟨b, H4, rfl, I5, qf, fun hb s5 wk => ?_⟩)
    exact seg_again rfl (ih (i + 1) s5 s5 H4 (by omega) hlt (Inv.woken I5 wk) (T.keep _ _ _ st4 fun b _ o e => wk.keep b o e) fr4 (qt hb))

/-! ### two clauses -/
variable {i1 i2 t1 t2 : Expr}
abbrev gen2 (elt t1 i1 t2 i2 : Expr) (gs : Scope) (gpos : Pos) : Expr := .GeneratorExp elt [⟨t1, i1, [], 0⟩, ⟨t2, i2, [], 0⟩] gs gpos

theorem seg_in {it : Addr} {fp : List Addr} {tn : Nat → Heap → Prop} {J : It} {g : TG} {te : TE} {n r : Nat} {W : Nat → Hp → Prop} {R : GenEnd} {pins0 : List (Addr × Obj)} {σ1 : L2.St} {fs : List Frame} {Qe : Hp → Prop}
    (GA : GenA X A (.compLoop (gen2 elt t1 i1 t2 i2 gs gpos) 1 (.ref it) .none X.env) fs) (split : splitAtGen fs = none) (guard : fs.any Frame.guarded = false)
    (T : Turn X.prog X.w X.K t2 J fp it tn) (hf : ∀ H, (∀ b ∈ fp, H b = none) → ∀ b ∈ fp, FpOk X pins H b) (hl : σ1.length = X.N.length) (hg : PG X t2 g) (he : PE X elt te) (un : ∀ H s, Inv X pins σ1 H s → Inv X pins0 σ0 H s)
    (go : ∀ i H, i < n → W i H → J.go i H) (stop : ∀ H, W n H → J.stop n H ∧ Qe H)
    (turn : ∀ i H x H', i < n → W i H → J.yld i H x H' → g x σ1 H' fun σ2 H3 => Keep σ1 σ2 ∧ te σ2 H3 fun v H4 => ∃ b, v = .bl b ∧ (b = true → W (i + 1) H4) ∧ (b = false → Qf H4))
    (fin : ∀ s0 s H, Inv X pins σ1 H s → Qe H → Seg (model X.prog X.w) A R (GenY X pins0 σ0 Qf) r s0 (.compLoop (gen2 elt t1 i1 t2 i2 gs gpos) 1 (.ref it) .none X.env) (.pure (.done .next)) fs s) :
    ∀ (k i : Nat) (s0 s : Shared) (H : Hp), n - i = k → i ≤ n → Inv X pins σ1 H s → tn i s.heap → (∀ b ∈ fp, H b = none) → W i H →
      Seg (model X.prog X.w) A R (GenY X pins0 σ0 Qf) (r + (n - i)) s0
        (.compLoop (gen2 elt t1 i1 t2 i2 gs gpos) 1 (.ref it) .none X.env)
        ((model X.prog X.w).den (.compLoop (gen2 elt t1 i1 t2 i2 gs gpos) 1 (.ref it) .none X.env)) fs s := by
  obtain ⟨ov, calm, xe, co⟩ := GA
  intro k
  induction k with
  | zero =>
    intro i s0 s H hk hi I st fr w
    have hin : i = n := by omega
    subst hin
    rw [Nat.sub_self, Nat.add_zero]
    show Seg _ A _ _ _ s0 _ ((compTurn (gen2 elt t1 i1 t2 i2 gs gpos) 1 (.ref it) .none X.env).onRaise _) fs s
    rw [two_inner, Sem.onRaise_eq_wrap]
    refine seg_bind_wrap (wpAny_standAt ?_)
    obtain ⟨js, q⟩ := stop H w
    refine seg_bind_wrap (ov.symm ▸ thx xe (T.done X rfl rfl rfl calm i pins s σ1 H _ I (hf H fr) st js) fun r s1 ⟨hr, I1⟩ => ?_)
    subst hr
    exact fin s0 s1 H I1 q
  | succ k ih =>
    intro i s0 s H hk hi I st fr w
    have hlt : i < n := by omega
    have hn : r + (n - i) = (r + (n - (i + 1))) + 1 := by omega
    rw [hn]
    show Seg _ A _ _ _ s0 _ ((compTurn (gen2 elt t1 i1 t2 i2 gs gpos) 1 (.ref it) .none X.env).onRaise _) fs s
    rw [two_inner, Sem.onRaise_eq_wrap]
    refine seg_bind_wrap (wpAny_standAt ?_)
    refine seg_bind_wrap (ov.symm ▸ thx xe (T.item X rfl rfl rfl calm i pins s σ1 H _ I (hf H fr) st (go i H hlt w)) fun r s1 ⟨u, hr, h1⟩ => ?_)
    subst hr
    refine seg_bind_wrap (ov.symm ▸ thx xe h1 fun _ s2 ⟨x, H2, I2, r2, y2, st2, fr2⟩ => ?_)
    have I2' := I2.pinned (hf H2 fr2) (T.obj _ _ st2)
    refine seg_bind_wrap (ov.symm ▸ thx xe (hg.run _ s2 σ1 H2 x u _ I2' r2 (turn i H x H2 hlt w y2)) fun _ s3 ⟨σ3, H3, I3, k3, q3⟩ => ?_)
    simp only [yield_out co]
    rw [Sem.bind_eq_wrap', Sem.bind_eq_wrap', Sem.wrap_wrap, Sem.wrap_wrap]
    refine seg_wrap (ov.symm ▸ thx xe (he.run _ s3 σ3 H3 _ I3 q3) fun y s4 ⟨v, H4, I4, r4, b, hv, qt, qf⟩ => ?_)
    subst hv
    obtain rfl : y = .bool b := r4
    have fr4 : ∀ b ∈ fp, H4 b = none := fun b hb => by
      obtain ⟨o, e, d⟩ := T.obj _ _ st2 b hb
      exact (I4.pin (b, o) (List.mem_append_right _ (List.mem_append_right _ (mem_pinsAt hb e)))).2.1
    have st4 : tn (i + 1) s4.heap := T.keep _ _ _ st2 fun b hb o e => (I4.pin (b, o) (List.mem_append_right _ (List.mem_append_right _ (mem_pinsAt hb e)))).1
    have I5 : Inv X pins σ1 H4 s4 := Inv.keep I4.unpinned hl k3
    refine seg_at (seg_yield split rfl guard ⟨b, H4, rfl, un _ _ I5, qf, fun hb s5 wk => ?_⟩)
    exact seg_again rfl (ih (i + 1) s5 s5 H4 (by omega) hlt (Inv.woken I5 wk) (T.keep _ _ _ st4 fun b _ o e => wk.keep b o e) fr4 (qt hb))
end
end TcG
namespace TcG
open PySem PySem.Spec PyProof.Rows L2 GenW
section
variable {X : Cx} {A : Around} {pins : List (Addr × Obj)} {σ0 : L2.St} {Qt Qf : Hp → Prop} {elt i1 i2 t1 t2 : Expr} {gs : Scope} {gpos : Pos}

/-- all pairs are gone through: what the inner walk of one turn is to show -/
def In2 (Qf : Hp → Prop) (n2 : Nat) (g2 : TG) (te : TE) (Nx : Hp → Prop) (σ : L2.St) (J2 : It) (H : Hp) : Prop :=
  ∃ W2 : Nat → Hp → Prop, W2 0 H ∧ (∀ j H, j < n2 → W2 j H → J2.go j H) ∧ (∀ H, W2 n2 H → J2.stop n2 H ∧ Nx H) ∧
    ∀ j H y H', j < n2 → W2 j H → J2.yld j H y H' → g2 y σ H' fun σ3 H5 => Keep σ σ3 ∧ te σ3 H5 fun v H6 => ∃ b, v = .bl b ∧ (b = true → W2 (j + 1) H6) ∧ (b = false → Qf H6)

theorem seg_all2 {it : Addr} {fp : List Addr} {tn : Nat → Heap → Prop} {J : It} {g1 g2 : TG} {w2 : TI} {te : TE} {n n2 : Nat} {W : Nat → Hp → Prop}
    (GA : GenA X A (.compLoop (gen2 elt t1 i1 t2 i2 gs gpos) 0 (.ref it) .none X.env) [])
    (T : Turn X.prog X.w X.K t1 J fp it tn) (hf : ∀ H, (∀ b ∈ fp, H b = none) → ∀ b ∈ fp, FpOk X pins H b) (hl : σ0.length = X.N.length) (hg1 : PG X t1 g1) (hi2 : PI X t2 i2 w2) (hg2 : PG X t2 g2) (he : PE X elt te)
    (fold : ∀ x, foldedSetIterable i2 X.env x = pure x)
    (go : ∀ i H, i < n → W i H → J.go i H) (stop : ∀ H, W n H → J.stop n H ∧ Qt H)
    (turn : ∀ i H x H', i < n → W i H → J.yld i H x H' → g1 x σ0 H' fun σ2 H3 => Keep σ0 σ2 ∧ w2 σ2 H3 (In2 Qf n2 g2 te (W (i + 1)) σ2)) :
    ∀ (k i : Nat) (s0 s : Shared) (H : Hp), n - i = k → i ≤ n → Inv X pins σ0 H s → tn i s.heap → (∀ b ∈ fp, H b = none) → W i H →
      Seg (model X.prog X.w) A (GenR X pins σ0 Qt) (GenY X pins σ0 Qf) ((n - i) * n2) s0
        (.compLoop (gen2 elt t1 i1 t2 i2 gs gpos) 0 (.ref it) .none X.env)
        ((model X.prog X.w).den (.compLoop (gen2 elt t1 i1 t2 i2 gs gpos) 0 (.ref it) .none X.env)) [] s := by
  obtain ⟨ov, calm, xe, co⟩ := id GA
  intro k
  induction k with
  | zero =>
    intro i s0 s H hk hi I st fr w
    have hin : i = n := by omega
    subst hin
    show Seg _ A _ _ _ s0 _ ((compTurn (gen2 elt t1 i1 t2 i2 gs gpos) 0 (.ref it) .none X.env).onRaise (leaving X.env)) [] s
    rw [two_outer, Sem.onRaise_eq_wrap]
    refine seg_bind_wrap (wpAny_standAt ?_)
    obtain ⟨js, q⟩ := stop H w
    refine seg_bind_wrap (ov.symm ▸ thx xe (T.done X rfl rfl rfl calm i pins s σ0 H _ I (hf H fr) st js) fun r s1 ⟨hr, I1⟩ => ?_)
    subst hr
    exact seg_end (.ok .next) ⟨rfl, H, I1, q⟩
  | succ k ih =>
    intro i s0 s H hk hi I st fr w
    have hlt : i < n := by omega
    have hn : (n - i) * n2 = (n - (i + 1)) * n2 + (n2 - 0) := by
      have : n - i = (n - (i + 1)) + 1 := by omega
      rw [this, Nat.succ_mul, Nat.sub_zero]
    rw [hn]
    show Seg _ A _ _ _ s0 _ ((compTurn (gen2 elt t1 i1 t2 i2 gs gpos) 0 (.ref it) .none X.env).onRaise (leaving X.env)) [] s
    rw [two_outer, Sem.onRaise_eq_wrap]
    refine seg_bind_wrap (wpAny_standAt ?_)
    refine seg_bind_wrap (ov.symm ▸ thx xe (T.item X rfl rfl rfl calm i pins s σ0 H _ I (hf H fr) st (go i H hlt w)) fun r s1 ⟨u, hr, h1⟩ => ?_)
    subst hr
    refine seg_bind_wrap (ov.symm ▸ thx xe h1 fun _ s2 ⟨x, H2, I2, r2, y2, st2, fr2⟩ => ?_)
    have I2' := I2.pinned (hf H2 fr2) (T.obj _ _ st2)
    refine seg_bind_wrap (ov.symm ▸ thx xe (hg1.run _ s2 σ0 H2 x u _ I2' r2 (turn i H x H2 hlt w y2)) fun _ s3 ⟨σ3, H3, I3, k3, q3⟩ => ?_)
    refine seg_bind_wrap (ov.symm ▸ thx xe (hi2.run _ s3 σ3 H3 _ I3 q3) fun v s4 h4 => ?_)
    refine seg_bind_wrap (wpAny_standAt ?_)
    refine seg_bind_wrap (wpAny_of_eq (fold v) ?_)
    refine seg_bind_wrap (wpAny_holding (ov.symm ▸ thx xe h4 fun itv s5 h5 => ?_))
    obtain ⟨it2, fp2, tn2, J2, H5, e, I5, T2, st5, f5, W2, w0, go2, stop2, turn2⟩ := h5
    subst e
    have hl3 : σ3.length = X.N.length := I5.len
    rw [Sem.bind_eq_wrap', Sem.wrap_wrap]
    have ov2 : ∀ (c' : Code) (k' : Result → Sem PySem.Fin) (g' : Bool) (l' kp' : List Value) (p' : Pos), c'.weight = 0 → c'.cUnits = 0 → A.over c' [.ret k' none g' l' (.compLoop (gen2 elt t1 i1 t2 i2 gs gpos) 0 (.ref it) .none X.env) p' kp'] = X.A :=
      fun c' k' g' l' kp' p' hw hu => by rw [over_loop hw hu]; exact ov
    show Seg _ A _ _ _ s0 _ (.call _ none false [] _) [] s5
    refine seg_call fun p => ?_
    have key : ∀ (k' : Result → Sem PySem.Fin) (l' kp' : List Value), (∀ s0 s H, Inv X (pins ++ pinsAt fp s2.heap) σ3 H s → W (i + 1) H →
        Seg (model X.prog X.w) A (GenR X pins σ0 Qt) (GenY X pins σ0 Qf) ((n - (i + 1)) * n2) s0 (.compLoop (gen2 elt t1 i1 t2 i2 gs gpos) 0 (.ref it) .none X.env) (k' (.ok .next)) [] s) →
        Seg (model X.prog X.w) A (GenR X pins σ0 Qt) (GenY X pins σ0 Qf) ((n - (i + 1)) * n2 + (n2 - 0)) s0 (.compStart (gen2 elt t1 i1 t2 i2 gs gpos) 1 (.ref it2) .none X.env)
          ((model X.prog X.w).den (.compStart (gen2 elt t1 i1 t2 i2 gs gpos) 1 (.ref it2) .none X.env)) [.ret k' none false l' (.compLoop (gen2 elt t1 i1 t2 i2 gs gpos) 0 (.ref it) .none X.env) p kp'] s5 := fun k' l' kp' fin => by
      have loop : ∀ s0 s, Inv X (pins ++ pinsAt fp s2.heap) σ3 H5 s → tn2 0 s.heap → Seg (model X.prog X.w) A (GenR X pins σ0 Qt) (GenY X pins σ0 Qf) ((n - (i + 1)) * n2 + (n2 - 0)) s0
          (.compLoop (gen2 elt t1 i1 t2 i2 gs gpos) 1 (.ref it2) .none X.env) ((model X.prog X.w).den (.compLoop (gen2 elt t1 i1 t2 i2 gs gpos) 1 (.ref it2) .none X.env)) [.ret k' none false l' (.compLoop (gen2 elt t1 i1 t2 i2 gs gpos) 0 (.ref it) .none X.env) p kp'] s := fun s0 s I st =>
        seg_in (pins := pins ++ pinsAt fp s2.heap) (pins0 := pins) (σ0 := σ0) (σ1 := σ3) (W := W2) (Qe := W (i + 1)) ⟨ov2 _ _ _ _ _ _ rfl rfl, calm, xe, co⟩ rfl rfl T2 (fun H hn b hb => ⟨hn b hb, (f5 b hb).2⟩) hl3 hg2 he
          (fun H s I => Inv.keep I.unpinned hl k3) go2 stop2 turn2 (fun s0 s H I q => seg_leaf (.ok .next) (fin s0 s H I q)) n2 0 s0 s H5 (Nat.sub_zero _) (Nat.zero_le _) I st (fun b hb => (f5 b hb).1) w0
      show Seg _ A _ _ _ s0 _ ((compStart (gen2 elt t1 i1 t2 i2 gs gpos) 1 (.ref it2) .none X.env).onRaise _) _ s5
      unfold compStart
      rw [Sem.onRaise_eq_wrap]
      show Seg _ A _ _ _ s0 _ ((ask >>= _).wrap _ _ _ _) _ s5
      refine seg_bind_wrap (wpAny_askSetting ?_)
      split
      · exact seg_again rfl (loop _ _ I5 st5)
      · refine seg_bind_wrap (wpAny_rule (seg_bind_wrap (wpAny_standAt (seg_bind_wrap ?_))))
        exact T2.self _ 0 _ _ _ st5 (seg_again rfl (loop _ _ I5 st5))
    refine key _ _ _ fun s0 s H I w => ?_
    have st6 : tn (i + 1) s.heap := T.keep _ _ _ st2 fun b hb o e => (I.pin (b, o) (List.mem_append_right _ (List.mem_append_right _ (mem_pinsAt hb e)))).1
    have fr6 : ∀ b ∈ fp, H b = none := fun b hb => by
      obtain ⟨o, e, d⟩ := T.obj _ _ st2 b hb
      exact (I.pin (b, o) (List.mem_append_right _ (List.mem_append_right _ (mem_pinsAt hb e)))).2.1
    exact seg_again rfl (ih (i + 1) s0 s H (by omega) hlt (Inv.keep I.unpinned hl k3) st6 fr6 w)
end
end TcG
/-! all() of a generator expression. -/
namespace TcG
open PySem PySem.Spec PyProof.Rows L2 GenW
section
variable {prog : Program} {w : World} {A : Around}

/-- what the loop of all() has in its hand -/
theorem all_loopG {X : Cx} {pins : List (Addr × Obj)} {σ0 : L2.St} {Qt Qf : Hp → Prop} {a : Addr} {g : Nat} {oa : Obj} {Rr : Result → Shared → Prop} (hpin : (a, oa) ∈ pins) (hisg : ∀ h : Heap, h.get? a = some oa → h.IsGen a g) (hh : A.handled = none) (hroom : A.depth < recursionLimit) (hlim : ∀ H s, Inv X pins σ0 H s → s.heap.NoLimit)
    (hR : ∀ s' b H, Inv X pins σ0 H s' → (b = true → Qt H) → (b = false → Qf H) → Rr (.ok (.ret (.bool b))) s') :
    ∀ (n : Nat) (s : Shared) (gs : GenState), s.heap.get? a = some oa → s.heap.NoLimit → s.gens[g]? = some gs → (∀ s', Woken s s' → gs.Goes (model prog w) A.in1.in1 (GenR X pins σ0 Qt) (GenY X pins σ0 Qf) n (.send .none) s') →
      codeAny (model prog w) A (.builtin "all.loop" ⟨[.ref a], []⟩) Rr s := by
  intro n
  induction n with
  | zero =>
    intro s gs ha hl hgs hgo
    refine codeAny_builtin F.entry_all_loop ?_
    rw [Around.under_plainId F.plain_all_loop _]
    show wpAny _ A.in1 (pyNext (.ref a) >>= _) _ _ s
    refine wpAny_bind (wpAny_pyNext_genexpQ (P := fun _ _ s => ∃ H, Inv X pins σ0 H s ∧ Qt H) hh hl hroom (hisg _ ha) hgs (hgo _ (Woken.set rfl)) (fun v s1 gs' hb hv => ?_) (fun s1 hp h' hk => ?_))
    · obtain ⟨b, H, rfl, I1, qf, qt⟩ := hv
      cases b with
      | true => exact False.elim (qt rfl s1 (Woken.refl _))
      | false =>
        refine wpAny_bind (wpAny_holding (wpAny_truthy_bool ?_))
        refine wpAny_bind (wpAny_letGo ?_)
        simp only [Bool.false_eq_true, if_false]
        refine wpAny_bind (wpAny_rule (wpAny_pure ?_))
        exact hR _ false H (Inv.woken I1 (Woken.set hb)) (fun z => nomatch z) fun _ => qf rfl
    · obtain ⟨H, I1, q⟩ := hp
      refine wpAny_bind (wpAny_rule (wpAny_pure ?_))
      exact hR _ true H (Inv.woken (s' := { s1.setGen g .finished with heap := h' }) I1 ((Woken.set (s := s1) (g := g) (x := .finished) rfl).trans ⟨rfl, fun h => h, fun b o e => hk b o e⟩)) (fun _ => q) fun z => nomatch z
  | succ n ih =>
    intro s gs ha hl hgs hgo
    have hg : g < s.gens.size := (Array.getElem?_eq_some_iff.mp hgs).1
    refine codeAny_builtin F.entry_all_loop ?_
    rw [Around.under_plainId F.plain_all_loop _]
    show wpAny _ A.in1 (pyNext (.ref a) >>= _) _ _ s
    refine wpAny_bind (wpAny_gsz (Nat.le_refl s.gens.size) (wpAny_pyNext_genexpQ (P := fun _ _ s => ∃ H, Inv X pins σ0 H s ∧ Qt H) hh hl hroom (hisg _ ha) hgs (hgo _ (Woken.set rfl)) (fun v s1 gs' hb hv hsz => ?_) (fun s1 hp h' hk hsz => ?_)))
    · obtain ⟨b, H, rfl, I1, qf, qt⟩ := hv
      refine wpAny_bind (wpAny_holding (wpAny_truthy_bool ?_))
      refine wpAny_bind (wpAny_letGo ?_)
      have I2 : Inv X pins σ0 H (s1.setGen g gs') := Inv.woken I1 (Woken.set hb)
      cases b with
      | true =>
        simp only [if_true]
        refine wpAny_pure ⟨plainId_quiet F.plain_all_loop _, ih _ gs' (I2.pin _ (List.mem_append_right _ hpin)).1 (hlim _ _ I2) ?_ fun s' wk => qt rfl s' ((Woken.set hb).trans wk)⟩
        have hsz : s.gens.size ≤ (s1.setGen g gs').gens.size := hsz
        rw [GenW.setGen_size] at hsz
        have : g < s1.gens.size := Nat.lt_of_lt_of_le hg hsz
        exact setGen_self (gs := s1.gens[g]) (Array.getElem?_eq_getElem this)
      | false =>
        simp only [Bool.false_eq_true, if_false]
        refine wpAny_bind (wpAny_rule (wpAny_pure ?_))
        exact hR _ false H I2 (fun z => nomatch z) fun _ => qf rfl
    · obtain ⟨H, I1, q⟩ := hp
      refine wpAny_bind (wpAny_rule (wpAny_pure ?_))
      exact hR _ true H (Inv.woken (s' := { s1.setGen g .finished with heap := h' }) I1 ((Woken.set (s := s1) (g := g) (x := .finished) rfl).trans ⟨rfl, fun h => h, fun b o e => hk b o e⟩)) (fun _ => q) fun z => nomatch z

theorem call_allG {a : Addr} {E : Value → Shared → Prop} {Q : Value → Shared → Prop} {s : Shared} {g : Nat} (hg : s.heap.IsGen a g) (h : codeAny (model prog w) A (.builtin "all.loop" ⟨[.ref a], []⟩) (fun r s' => match r with | .ok (.ret v) => Q v s' | .ok _ => False | .error e => E e s') s) :
    wpAny (model prog w) A (call (.builtin "all") [.ref a]) Q E s := by
  refine call_function_tree F.kind_all F.plain_all F.entry_all (F.args_all1 _) ?_
  unfold Builtin.«all»
  refine wpAny_bind (m := oneArg "all" _) (wpAny_pure ?_)
  refine wpAny_bind (wpAny_pyIter_gen hg ?_)
  exact wpAny_pure ⟨plainId_quiet F.plain_all_loop _, h⟩
end

section
variable {M : Model} {A : Around} {E : Value → Shared → Prop} {s : Shared}
theorem eval_Gen (elt target iter : Expr) (ifs : List Expr) (rest : List Comprehension) (scope : Scope) (pos : Pos) (env : Env) (hco : scope.isCoroutine = false) :
    eval (.GeneratorExp elt (⟨target, iter, ifs, 0⟩ :: rest) scope pos) env = (do
      let x ← eval iter env
      standAt iter.pos
      let x ← genFold iter env x
      let it ← holding [x] (pyIter x)
      enterFrame
      let cl ← closureFor scope env
      let code ← genexprCode env pos (env.qual ++ "<genexpr>") scope
      let bi ← builtinsFor env.globals env.builtins
      let cenv ← newFunctionEnv scope env.globals cl [(".0", it)] (env.qual ++ "<genexpr>.") none code none bi
      newGenerator (.compStart (.GeneratorExp elt (⟨target, iter, ifs, 0⟩ :: rest) scope pos) 0 it .none cenv) "<genexpr>" (env.qual ++ "<genexpr>")) := by
  rw [arm_eval_GeneratorExp]
  simp only [hco, Bool.false_eq_true, if_false]
  cases iter <;> rfl
theorem gen_make {env : Env} {elt target iter : Expr} {ifs : List Expr} {rest : List Comprehension} {scope : Scope} {cl : List (Str × Addr)} {pos : Pos} {Q : Value → Shared → Prop}
    (hco : scope.isCoroutine = false) (hclos : closureFor scope env = pure cl) (hcell : ∀ y ∈ scope.names, y.2 ≠ .cell) (h0 : scope.names.lookup (".0" : Str) = some NameKind.local) (hkind : scope.kind = .function)
    (hroom : A.depth < recursionLimit)
    (h : wpAny M A (eval iter env) (fun xv s₁ => wpAny M A (pyIter xv) (fun it s₂ => s₂.heap.NoLimit ∧
      wpAny M A (genexprCode env pos (env.qual ++ "<genexpr>") scope) (fun code s₃ => wpAny M A (builtinsFor env.globals env.builtins) (fun bi s₄ =>
        ∀ h', h'.Ns s₄.heap.objs.size (fun y => if y = ".0" then some it else none) → Heap.SameBut s₄.heap.objs.size (s₄.heap.push { cls := .type "frame", data := .dict #[] }) h' →
          Q (.ref h'.objs.size) { s₄ with
            gens := s₄.gens.push (.fresh (.compStart (.GeneratorExp elt (⟨target, iter, ifs, 0⟩ :: rest) scope pos) 0 it .none (genEnv scope cl s₄.heap.objs.size code bi env))),
            toks := s₄.toks + 1 + 1 + 1,
            heap := h'.push { cls := .type "generator", data := .fields #[.int s₄.gens.size 0, .str "<genexpr>" (s₄.toks + 1), .str (env.qual ++ "<genexpr>") (s₄.toks + 1 + 1)] } }) E s₃) E s₂) E s₁) E s)
    (hs : ∀ x, genFold iter env x = pure x) :
    wpAny M A (eval (.GeneratorExp elt (⟨target, iter, ifs, 0⟩ :: rest) scope pos) env) Q E s := by
  rw [eval_Gen _ _ _ _ _ _ _ _ hco, hclos]
  refine wpAny_bind (wpAny_mono h (fun xv s₁ h₁ => ?_) fun _ _ e => e)
  refine wpAny_bind (wpAny_standAt ?_)
  refine wpAny_bind (wpAny_of_eq (hs xv) ?_)
  refine wpAny_bind (wpAny_holding (wpAny_mono h₁ (fun it s₂ h₂ => ?_) fun _ _ e => e))
  refine wpAny_bind (wpAny_enterFrame h₂.1 hroom ?_)
  refine wpAny_bind (wpAny_pure ?_)
  refine wpAny_bind (wpAny_mono h₂.2 (fun code s₃ h₃ => ?_) fun _ _ e => e)
  refine wpAny_bind (wpAny_mono h₃ (fun bi s₄ h₄ => ?_) fun _ _ e => e)
  have hbinds : ∀ y ∈ ([((".0" : Str), it)] : List (Str × Value)), scope.names.lookup y.1 = some NameKind.local := by
    intro y hy
    rcases List.mem_cons.mp hy with rfl | hy
    · exact h0
    · cases hy
  refine wpAny_bind (wpAny_newFunctionEnv hcell hbinds (fun h' hn' hs' => ?_) hkind)
  have e : (fun y : Str => ([((".0" : Str), it)] : List (Str × Value)).reverse.lookup y) = fun y : Str => if y = (".0" : Str) then some it else none := by
    funext y
    by_cases hy : y = ".0"
    · subst hy; simp
    · have : (y == (".0" : Str)) = false := by simpa using hy
      simp [List.lookup, this, hy]
  rw [e] at hn'
  simp only [newGenerator, newFields]
  refine wpAny_bind (wpAny_newGen (wpAny_bind (wpAny_mkText (wpAny_bind (wpAny_mkText (wpAny_newObj_type ?_ (by size_fits)))))))
  exact h₄ h' hn' hs'
end
end TcG
/-! all(elt for x in xs), all(elt for x in xs for y in ys): rules; the element may call defs. -/
namespace TcG
open PySem PySem.Spec PyProof.Rows L2 GenW
section
variable {X : Cx}

/-- the loop of the generator, in its own frame, shows what Z wants -/
def RunG (X : Cx) (own : List Str) (gs : Scope) (k : Nat) (e tg : Expr) (Z : It → Hp → L2.St → VK → Prop) : Prop :=
  ∀ (code : Value) (C : Addr) (s0 : Shared) (H2 : Hp) (fp : List Addr) (it : Addr) (tn : Nat → Heap → Prop) (J : It) (A Ag : Around) (pins : List (Addr × Obj)) (σ : L2.St) (Q : VK),
    GenA (genX X own gs code C s0 H2 fp Ag) A (.compLoop e 0 (.ref it) .none (genX X own gs code C s0 H2 fp Ag).env) [] → Room k Ag → Turn X.prog X.w X.K tg J fp it tn →
    (∀ H, (∀ b ∈ fp, H b = none) → ∀ b ∈ fp, FpOk (genX X own gs code C s0 H2 fp Ag) pins H b) → σ.length = (genX X own gs code C s0 H2 fp Ag).N.length → Z J H2 σ Q →
    ∃ n : Nat, ∀ s0' s, Inv (genX X own gs code C s0 H2 fp Ag) pins σ H2 s → tn 0 s.heap → (∀ b ∈ fp, H2 b = none) →
      Seg (model X.prog X.w) A (GenR (genX X own gs code C s0 H2 fp Ag) pins σ fun H => Q (.bl true) H) (GenY (genX X own gs code C s0 H2 fp Ag) pins σ fun H => Q (.bl false) H) n s0'
        (.compLoop e 0 (.ref it) .none (genX X own gs code C s0 H2 fp Ag).env) ((model X.prog X.w).den (.compLoop e 0 (.ref it) .none (genX X own gs code C s0 H2 fp Ag).env)) [] s

def tAllG (P : Addr) (own : List Str) (wi : TI) (Z : It → Hp → L2.St → VK → Prop) : TE := fun σ H Q => wi σ H fun J H1 => TabG' H1 P ∧ ∀ H2, GxR.Tabbed P H1 H2 → Z J H2 (gSt σ own) Q
where TabG' := GxR.TabG

theorem pe_allG {c P : Addr} {elt iter tg : Expr} {rest : List Comprehension} {own : List Str} {pa pos gpos : Pos} {gs : Scope} {wi : TI} {Z : It → Hp → L2.St → VK → Prop} {k : Nat}
    (room : Room (k + 1) X.A) (ga : Gl X "all") (ma : X.mg "all" = none) (ba : bootBuiltins "all" = some (.builtin "all")) (TB : GxR.TabB X.base X.mg c P) (codeAt : X.env.code = .ref c) (fit : genFit X.N X.env.scope.names gs = true)
    (hi : PI X tg iter wi) (plain : ∀ v, genFold iter X.env v = pure v) (run : RunG X own gs k (.GeneratorExp elt (⟨tg, iter, [], 0⟩ :: rest) gs gpos) tg Z)
    (he : starEach [.GeneratorExp elt (⟨tg, iter, [], 0⟩ :: rest) gs gpos] X.env = (false, eval (.GeneratorExp elt (⟨tg, iter, [], 0⟩ :: rest) gs gpos) X.env) :: starEach [] X.env := by rfl) :
    PE X (.Call (.Name "all" pa) [.GeneratorExp elt (⟨tg, iter, [], 0⟩ :: rest) gs gpos] [] pos) (tAllG P own wi Z) := by
  refine ⟨fun pins s σ H Q I h => ?_⟩
  have F : GenF X.N X.env gs := genF_of fit
  refine wpAny_Call_Name_kw (ld_blt I ga ma ba ?_)
  refine PyProof.Rows.callWith_builtin1 ?_ he (by rfl)
  rw [he]
  refine Calls.spliced_cons (gen_make F.co (closure_ok fun y hy e => I.ok.has _ (.inl (F.free y hy e))) F.cell F.dot F.kind (by have := room.dp; omega) ?_ plain)
  refine thn (hi.run pins s σ H _ I h) fun xv s1 h1 => thn h1 fun itv s2 h2 => ?_
  obtain ⟨it, fp, tn, J, H1, rfl, I2, T, st2, f2, tab, q⟩ := h2
  obtain ⟨ps, tabAt, tri⟩ : GxR.TabG H1 P := tab
  have tab2 : s2.heap.get? P = some { cls := .none, data := .fields ps } := I2.hok P _ tabAt
  have cd : PySem.W.CodeHd s2.heap c P := TB.code.keeps fun b u e => I2.bk b u e
  refine ⟨I2.nolimit, ?_⟩
  have cont : ∀ (code : Value) (h3 : Heap) (tk : Nat) (ps' : Array Value), Heap.ExtBut P s2.heap h3 → s2.heap.objs.size ≤ h3.objs.size → h3.get? P = some { cls := .none, data := .fields ps' } → (∃ more, ps' = ps ++ more) → TriplesOk ps'.toList →
      wpAny (model X.prog X.w) X.A (builtinsFor X.env.globals X.env.builtins) (fun bi s4 =>
        ∀ h', h'.Ns s4.heap.objs.size (fun y => if y = ".0" then some (Value.ref it) else none) → Heap.SameBut s4.heap.objs.size (s4.heap.push { cls := .type "frame", data := .dict #[] }) h' →
          wpAny (model X.prog X.w) X.A (spliced (backTo pos (starEach [] X.env))) (fun us s' => wpAny (model X.prog X.w) X.A (call (.builtin "all") (.ref h'.objs.size :: us)) (EP X pins σ Q) X.xe s') X.xe { s4 with
            gens := s4.gens.push (.fresh (.compStart (.GeneratorExp elt (⟨tg, iter, [], 0⟩ :: rest) gs gpos) 0 (.ref it) .none (genEnv gs (cloFrom X.env.cells gs.names []) s4.heap.objs.size code bi X.env))),
            toks := s4.toks + 1 + 1 + 1,
            heap := h'.push { cls := .type "generator", data := .fields #[.int s4.gens.size 0, .str "<genexpr>" (s4.toks + 1), .str (X.env.qual ++ "<genexpr>") (s4.toks + 1 + 1)] } }) X.xe { s2 with heap := h3, toks := tk } := by
    intro code h3 tk ps' ext size3 tab3 grown tri3
    obtain ⟨bm, ob, e1, e2, e3, e4, e5, e6, e7, e8⟩ := TB.bm
    refine wpAny_builtinsFor (m := X.mg)
      (by rw [I2.ok.glob]; exact (I2.mod.glob.keeps I2.bk).extBut ext TB.gP)
      e1 e2 (ext _ _ e4 (I2.bk _ _ e5)) e6 e7 e8 ?_
    intro h' ns sb
    obtain ⟨more, em⟩ := grown
    subst em
    have I3 := GxR.inv_tab (more := more) (h' := h3) (g' := s2.gens) (d' := s2.drawn) (t' := tk) I2 tabAt (fun b u hb e => ext b u hb e) tab3 I2.bare
    have tb3 : GxR.Tabbed P H1 (upd H1 P (.tbl (ps ++ more))) := ⟨⟨ps ++ more, upd_same, tri3⟩, fun b hb => upd_ne hb⟩
    have nP : ∀ b ∈ fp, b ≠ P := fun b hb z => by
      have := (f2 b hb).1
      rw [z, tabAt] at this
      cases this
    have fr3 : ∀ b ∈ fp, upd H1 P (.tbl (ps ++ more)) b = none := fun b hb => by rw [upd_ne (nP b hb)]; exact (f2 b hb).1
    have f3 : ∀ b ∈ fp, FpOk X pins (upd H1 P (.tbl (ps ++ more))) b := fun b hb => ⟨fr3 b hb, (f2 b hb).2⟩
    have st3 : tn 0 h3 := T.keep _ _ _ st2 fun b hb o e => ext b o (nP b hb) e
    have hob : ∀ b ∈ fp, ∃ o, h3.get? b = some o := fun b hb => let ⟨o, e, _⟩ := T.obj _ _ st3 b hb; ⟨o, e⟩
    have sz : h'.objs.size = h3.objs.size + 1 := by rw [sb.1, Heap.size_push]
    have keep5 : ∀ b o, h3.get? b = some o → (h'.push { cls := .type "generator", data := .fields #[.int s2.gens.size 0, .str "<genexpr>" (tk + 1), .str (X.env.qual ++ "<genexpr>") (tk + 1 + 1)] }).get? b = some o :=
      fun b o e => Heap.get?_push_of_some _ (sb.extBut b o (Nat.ne_of_lt (Heap.lt_size e)) (Heap.get?_push_of_some _ e))
    have hA : ((X.A.in1.in1).over (.compLoop (.GeneratorExp elt (⟨tg, iter, [], 0⟩ :: rest) gs gpos) 0 (.ref it) .none (genE X gs code h3.objs.size)) []).frames = some (genE X gs code h3.objs.size :: X.stack) := by
      show pushEnvs [genE X gs code h3.objs.size] (pushEnvs (envsOf []) X.A.frames) = _
      rw [I2.ok.frames]
      rfl
    have rk : Room k ((X.A.in1.in1).over (.compLoop (.GeneratorExp elt (⟨tg, iter, [], 0⟩ :: rest) gs gpos) 0 (.ref it) .none (genE X gs code h3.objs.size)) []) :=
      ⟨room.hd, by have := room.dp; show X.A.depth + 0 + 1 + 3 * k + 5 < _; omega, by have := room.un; show X.A.units + 1 + 1 + 0 + 3 + 16 * k + 200 < _; omega⟩
    have get5 := Heap.get?_push_size h' (o := { cls := .type "generator", data := .fields #[.int s2.gens.size 0, .str "<genexpr>" (tk + 1), .str (X.env.qual ++ "<genexpr>") (tk + 1 + 1)] }) rfl
    have haC : h3.objs.size < h'.objs.size := by rw [sz]; exact Nat.lt_succ_self _
    have J5 := inv_gen (own := own) (code := code) (Ag := (X.A.in1.in1).over (.compLoop (.GeneratorExp elt (⟨tg, iter, [], 0⟩ :: rest) gs gpos) 0 (.ref it) .none (genE X gs code h3.objs.size)) []) (g5 := s2.gens.push (.fresh (.compStart (.GeneratorExp elt (⟨tg, iter, [], 0⟩ :: rest) gs gpos) 0 (.ref it) .none (genE X gs code h3.objs.size)))) (tk := tk + 1 + 1 + 1) F I3 f3 hob room.hd hA rfl (ns.push _) keep5 (I2.bare.push rfl) get5 haC (fun v z => by cases z)
    obtain ⟨n, seg⟩ := run code h3.objs.size _ _ fp it tn J X.A.in1.in1 _ _ (gSt σ own) Q ⟨rfl, rfl, fun _ _ z => z, F.co⟩ rk T (fun H hn => fp_gen F I3 f3 hob rfl haC hn) J5.len (q _ tb3)
    refine Calls.spliced_nil ?_
    have isg : ∀ h : Heap, h.get? h'.objs.size = some { cls := .type "generator", data := .fields #[.int s2.gens.size 0, .str "<genexpr>" (tk + 1), .str (X.env.qual ++ "<genexpr>") (tk + 1 + 1)] } → h.IsGen h'.objs.size s2.gens.size := fun h e => ⟨_, _, _, e, rfl, rfl, rfl⟩
    refine call_allG (isg _ get5) (all_loopG (X := genX X own gs code h3.objs.size { s2 with heap := h3, toks := tk } (upd H1 P (.tbl (ps ++ more))) fp ((X.A.in1.in1).over (.compLoop (.GeneratorExp elt (⟨tg, iter, [], 0⟩ :: rest) gs gpos) 0 (.ref it) .none (genE X gs code h3.objs.size)) [])) (pins := [(h'.objs.size, { cls := .type "generator", data := .fields #[.int s2.gens.size 0, .str "<genexpr>" (tk + 1), .str (X.env.qual ++ "<genexpr>") (tk + 1 + 1)] })]) (σ0 := gSt σ own) (Qt := fun H => Q (.bl true) H) (Qf := fun H => Q (.bl false) H) List.mem_cons_self isg room.hd (by have := room.dp; omega) (fun H s J => J.nolimit) (fun s' b H J qt qf => ?_) n _ _ get5 J5.nolimit (Array.getElem?_push_size ..) fun s' wk => ⟨rfl, ?_⟩)
    · refine ⟨.bl b, H, inv_back I3 f3 J, rfl, ?_⟩
      cases b with
      | true => exact qt rfl
      | false => exact qf rfl
    · have J6 := Inv.woken J5 wk
      have st6 : tn 0 s'.heap := T.keep _ _ _ st3 fun b _ o e => wk.keep b o (keep5 b o e)
      show Seg _ _ _ _ _ _ _ ((compStart (.GeneratorExp elt (⟨tg, iter, [], 0⟩ :: rest) gs gpos) 0 (.ref it) .none (genE X gs code h3.objs.size)).onRaise _) _ s'
      unfold compStart
      rw [Sem.onRaise_eq_wrap]
      show Seg _ _ _ _ _ _ _ ((ask >>= _).wrap _ _ _ _) _ s'
      refine seg_bind_wrap (wpAny_askSetting ?_)
      split
      · exact seg_again rfl (seg _ _ J6 st6 fr3)
      · refine seg_bind_wrap (wpAny_rule (seg_bind_wrap (wpAny_standAt (seg_bind_wrap ?_))))
        exact T.self _ 0 _ _ _ st6 (seg_again rfl (seg _ _ J6 st6 fr3))
  cases hf : codeAmong gpos ps.toList with
  | none =>
    refine wpAny_genexprCodeX codeAt (cd.code tab2 tri) (cd.tab tab2) hf fun c' h' tk ext ge lt code' _ tab' _ => ?_
    obtain ⟨o1, vs, f1, tf, fl, tg, inF, tx, tt, op, _, _, _, _, _, _, _, _, _, tri', _⟩ := code'
    exact cont _ h' tk _ ext (Nat.le_trans ge (Nat.le_of_lt lt)) tab'.2 ⟨_, rfl⟩ tri'
  | some cv =>
    refine wpAny_genexprCode_hit codeAt (cd.code tab2 tri) hf ?_
    exact cont cv s2.heap s2.toks ps (Heap.ExtBut.refl _ _) (Nat.le_refl _) tab2 ⟨#[], by simp⟩ tri

/-! ### one clause -/
/-- every item is tested: n of them; W tells what holds ahead of the i-th -/
def Z1 (g : TG) (te : TE) : It → Hp → L2.St → VK → Prop := fun J H2 σ Q => ∃ (n : Nat) (W : Nat → Hp → Prop), W 0 H2 ∧ (∀ i H, i < n → W i H → J.go i H) ∧ (∀ H, W n H → J.stop n H ∧ Q (.bl true) H) ∧
  ∀ i H x H', i < n → W i H → J.yld i H x H' → g x σ H' fun σ2 H3 => Keep σ σ2 ∧ te σ2 H3 fun v H4 => ∃ b, v = .bl b ∧ (b = true → W (i + 1) H4) ∧ (b = false → Q (.bl false) H4)
theorem run1 {own : List Str} {gs : Scope} {k : Nat} {elt tg iter : Expr} {gpos : Pos} {g : TG} {te : TE} (co : gs.isCoroutine = false)
    (hg : ∀ code C s0 H0 fp Ag, PG (genX X own gs code C s0 H0 fp Ag) tg g) (he : ∀ code C s0 H0 fp Ag, Room k Ag → PE (genX X own gs code C s0 H0 fp Ag) elt te) : RunG X own gs k (.GeneratorExp elt [⟨tg, iter, [], 0⟩] gs gpos) tg (Z1 g te) := by
  intro code C s0 H2 fp it tn J A Ag pins σ Q GA rk T hf hl z
  obtain ⟨n, W, w0, go, stop, turn⟩ := z
  exact ⟨n, fun s0' s I st fr => by
    have := seg_all1 (X := genX X own gs code C s0 H2 fp Ag) (σ0 := σ) (Qt := fun H => Q (.bl true) H) (Qf := fun H => Q (.bl false) H) (W := W) GA T hf hl (hg _ _ _ _ _ _) (he _ _ _ _ _ _ rk) go stop turn n 0 s0' s H2 (Nat.sub_zero _) (Nat.zero_le _) I st fr w0
    rw [Nat.sub_zero] at this
    exact this⟩
/-! ### two clauses -/
def Z2 (g1 : TG) (w2 : TI) (g2 : TG) (te : TE) : It → Hp → L2.St → VK → Prop := fun J H2 σ Q => ∃ (n n2 : Nat) (W : Nat → Hp → Prop), W 0 H2 ∧ (∀ i H, i < n → W i H → J.go i H) ∧ (∀ H, W n H → J.stop n H ∧ Q (.bl true) H) ∧
  ∀ i H x H', i < n → W i H → J.yld i H x H' → g1 x σ H' fun σ2 H3 => Keep σ σ2 ∧ w2 σ2 H3 (In2 (fun H => Q (.bl false) H) n2 g2 te (W (i + 1)) σ2)
theorem run2 {own : List Str} {gs : Scope} {k : Nat} {elt t1 i1 t2 i2 : Expr} {gpos : Pos} {g1 g2 : TG} {w2 : TI} {te : TE} (co : gs.isCoroutine = false)
    (hg1 : ∀ code C s0 H0 fp Ag, PG (genX X own gs code C s0 H0 fp Ag) t1 g1) (hi2 : ∀ code C s0 H0 fp Ag, Room k Ag → PI (genX X own gs code C s0 H0 fp Ag) t2 i2 w2) (fold : ∀ env x, foldedSetIterable i2 env x = pure x)
    (hg2 : ∀ code C s0 H0 fp Ag, PG (genX X own gs code C s0 H0 fp Ag) t2 g2) (he : ∀ code C s0 H0 fp Ag, Room k Ag → PE (genX X own gs code C s0 H0 fp Ag) elt te) : RunG X own gs k (gen2 elt t1 i1 t2 i2 gs gpos) t1 (Z2 g1 w2 g2 te) := by
  intro code C s0 H2 fp it tn J A Ag pins σ Q GA rk T hf hl z
  obtain ⟨n, n2, W, w0, go, stop, turn⟩ := z
  exact ⟨n * n2, fun s0' s I st fr => by
    have := seg_all2 (X := genX X own gs code C s0 H2 fp Ag) (σ0 := σ) (Qt := fun H => Q (.bl true) H) (Qf := fun H => Q (.bl false) H) (W := W) GA T hf hl (hg1 _ _ _ _ _ _) (hi2 _ _ _ _ _ _ rk) (hg2 _ _ _ _ _ _) (he _ _ _ _ _ _ rk) (fold _) go stop turn n 0 s0' s H2 (Nat.sub_zero _) (Nat.zero_le _) I st fr w0
    rw [Nat.sub_zero] at this
    exact this⟩
end
end TcG
/-! min, max of two texts; a text unpacked into names. -/
namespace TcG
open PySem PySem.Spec PyProof.Rows L2

/-- the text of these signs -/
def tx (l : List Nat) : Str := ⟨l.toArray⟩
theorem tx_list (l : List Nat) : (tx l).cps.toList = l := rfl
theorem tx_inj {a b : List Nat} (h : tx a = tx b) : a = b := by
  have := congrArg (fun s : Str => s.cps.toList) h
  exact this
theorem tx_of (s : Str) : s = tx s.cps.toList := by
  cases s
  rfl
theorem tx_eq {a b : List Nat} : decide (V.str (tx a) = V.str (tx b)) = decide (a = b) := by
  by_cases h : a = b
  · rw [h]
    simp
  · rw [decide_eq_false h]
    exact decide_eq_false fun z => h (tx_inj (V.str.inj z))
theorem tx_append (a b : List Nat) : tx a ++ tx b = tx (a ++ b) := by
  show Str.append _ _ = _
  unfold Str.append tx
  simp
theorem tx_length (l : List Nat) : (tx l).length = l.length := by
  show l.toArray.size = l.length
  simp

section
variable {prog : Program} {w : World} {A : Around} {E : Value → Shared → Prop} {s : Shared}

def two (p q : Str) (t u : Tok) : Array Value := #[.str p t, .str q u]

theorem cmp_two {op : CmpOp} {p q : Str} {t u : Tok} {r : Str → Str → Bool}
    (h : ∀ (x y : Str) (t u : Tok) (A' : Around) (s : Shared) (Q : Value → Shared → Prop) (E : Value → Shared → Prop), Q (.bool (r x y)) s → wpAny (model prog w) A' (richCompare op (.str x t) (.str y u)) Q E s) :
    CmpOf prog w A op (fun i v => (two p q t u)[i]? = some v) (fun i j => match i, j with | 1, 0 => r q p | 0, 1 => r p q | 0, 0 => r p p | _, _ => r q q) := by
  intro i j a b s Q E ha hb hQ
  match i, j with
  | 0, 0 => cases ha; cases hb; exact h _ _ _ _ _ _ _ _ hQ
  | 0, 1 => cases ha; cases hb; exact h _ _ _ _ _ _ _ _ hQ
  | 1, 0 => cases ha; cases hb; exact h _ _ _ _ _ _ _ _ hQ
  | 1, 1 => cases ha; cases hb; exact h _ _ _ _ _ _ _ _ hQ
  | i + 2, _ => simp [two] at ha
  | 0, j + 2 => simp [two] at hb
  | 1, j + 2 => simp [two] at hb

theorem min_two_texts {p q : Str} {t u : Tok} {Q : Value → Shared → Prop} (hh : A.handled = none)
    (h : ∀ h' tk t', (∀ c o, s.heap.get? c = some o → h'.get? c = some o) → Q (.str (if q.cps.toList < p.cps.toList then q else p) t') { s with heap := h', toks := tk }) :
    wpAny (model prog w) A (call (.builtin "min") [.str p t, .str q u]) Q E s := by
  have tupAt : (s.heap.push { cls := .type "tuple", data := .seq #[.str p t, .str q u] }).IsTuple s.heap.objs.size (two p q t u) := ⟨_, Heap.get?_push_size _ rfl, rfl, 0, by rfl⟩
  refine call_min_two (wpAny_pyIter_tuple tupAt ?_)
  have sz : (s.heap.push { cls := .type "tuple", data := .seq #[.str p t, .str q u] }).objs.size = s.heap.objs.size + 1 := Heap.size_push ..
  refine ⟨_, [_, s.heap.objs.size], [_], _, _, _, _, rfl,
    Walks.tuple (A := A.in1) hh _ s.heap.objs.size (by rw [sz]; exact Nat.ne_of_lt (Nat.lt_succ_self _)) (two p q t u),
    ⟨⟨_, Heap.get?_push_size _ rfl, rfl, rfl⟩, tupAt.push _⟩, fun c hc => ?_, (by decide : 0 < 2), cmp_two (r := fun x y => decide (x.cps.toList < y.cps.toList)) (fun x y t u A' s Q E hq => PyProof.Rows.lt_str hq), fun v h' tk hP hk => ?_⟩
  · show c < ((s.heap.push _).push _).objs.size
    rw [Heap.size_push, sz]
    rcases List.mem_cons.mp hc with z | z
    · rw [z, sz]
      exact Nat.lt_succ_self _
    · rcases List.mem_cons.mp z with z | z
      · rw [z]
        exact Nat.lt_succ_of_lt (Nat.lt_succ_self _)
      · cases z
  · have old : ∀ c o, s.heap.get? c = some o → h'.get? c = some o := fun c o e => by
      refine hk c o (fun hm => ?_) (Heap.get?_push_of_some _ (Heap.get?_push_of_some _ e))
      rcases List.mem_cons.mp hm with z | z
      · have lt := Heap.lt_size e
        rw [z, sz] at lt
        exact Nat.lt_irrefl _ (Nat.lt_of_succ_lt lt)
      · cases z
    by_cases hba : q.cps.toList < p.cps.toList
    · have e : v = .str q u := by
        have hP2 : (two p q t u)[argBest (fun i j => match i, j with | 1, 0 => decide (q.cps.toList < p.cps.toList) | 0, 1 => decide (p.cps.toList < q.cps.toList) | 0, 0 => decide (p.cps.toList < p.cps.toList) | _, _ => decide (q.cps.toList < q.cps.toList)) 1]? = some v := hP
        simp [argBest, hba, two] at hP2
        exact hP2.symm
      have := h h' tk u old
      rw [if_pos hba] at this
      rw [e]
      exact this
    · have e : v = .str p t := by
        have hP2 : (two p q t u)[argBest (fun i j => match i, j with | 1, 0 => decide (q.cps.toList < p.cps.toList) | 0, 1 => decide (p.cps.toList < q.cps.toList) | 0, 0 => decide (p.cps.toList < p.cps.toList) | _, _ => decide (q.cps.toList < q.cps.toList)) 1]? = some v := hP
        simp [argBest, hba, two] at hP2
        exact hP2.symm
      have := h h' tk t old
      rw [if_neg hba] at this
      rw [e]
      exact this

theorem max_two_texts {p q : Str} {t u : Tok} {Q : Value → Shared → Prop} (hh : A.handled = none)
    (h : ∀ h' tk t', (∀ c o, s.heap.get? c = some o → h'.get? c = some o) → Q (.str (if p.cps.toList < q.cps.toList then q else p) t') { s with heap := h', toks := tk }) :
    wpAny (model prog w) A (call (.builtin "max") [.str p t, .str q u]) Q E s := by
  have tupAt : (s.heap.push { cls := .type "tuple", data := .seq #[.str p t, .str q u] }).IsTuple s.heap.objs.size (two p q t u) := ⟨_, Heap.get?_push_size _ rfl, rfl, 0, by rfl⟩
  refine call_max_two (wpAny_pyIter_tuple tupAt ?_)
  have sz : (s.heap.push { cls := .type "tuple", data := .seq #[.str p t, .str q u] }).objs.size = s.heap.objs.size + 1 := Heap.size_push ..
  refine ⟨_, [_, s.heap.objs.size], [_], _, _, _, _, rfl,
    Walks.tuple (A := A.in1) hh _ s.heap.objs.size (by rw [sz]; exact Nat.ne_of_lt (Nat.lt_succ_self _)) (two p q t u),
    ⟨⟨_, Heap.get?_push_size _ rfl, rfl, rfl⟩, tupAt.push _⟩, fun c hc => ?_, (by decide : 0 < 2), cmp_two (r := fun x y => decide (y.cps.toList < x.cps.toList)) (fun x y t u A' s Q E hq => PySem.P.gt_str hq), fun v h' tk hP hk => ?_⟩
  · show c < ((s.heap.push _).push _).objs.size
    rw [Heap.size_push, sz]
    rcases List.mem_cons.mp hc with z | z
    · rw [z, sz]
      exact Nat.lt_succ_self _
    · rcases List.mem_cons.mp z with z | z
      · rw [z]
        exact Nat.lt_succ_of_lt (Nat.lt_succ_self _)
      · cases z
  · have old : ∀ c o, s.heap.get? c = some o → h'.get? c = some o := fun c o e => by
      refine hk c o (fun hm => ?_) (Heap.get?_push_of_some _ (Heap.get?_push_of_some _ e))
      rcases List.mem_cons.mp hm with z | z
      · have lt := Heap.lt_size e
        rw [z, sz] at lt
        exact Nat.lt_irrefl _ (Nat.lt_of_succ_lt lt)
      · cases z
    by_cases hba : p.cps.toList < q.cps.toList
    · have e : v = .str q u := by
        have hP2 : (two p q t u)[argBest (fun i j => match i, j with | 1, 0 => decide (p.cps.toList < q.cps.toList) | 0, 1 => decide (q.cps.toList < p.cps.toList) | 0, 0 => decide (p.cps.toList < p.cps.toList) | _, _ => decide (q.cps.toList < q.cps.toList)) 1]? = some v := hP
        simp [argBest, hba, two] at hP2
        exact hP2.symm
      have := h h' tk u old
      rw [if_pos hba] at this
      rw [e]
      exact this
    · have e : v = .str p t := by
        have hP2 : (two p q t u)[argBest (fun i j => match i, j with | 1, 0 => decide (p.cps.toList < q.cps.toList) | 0, 1 => decide (q.cps.toList < p.cps.toList) | 0, 0 => decide (p.cps.toList < p.cps.toList) | _, _ => decide (q.cps.toList < q.cps.toList)) 1]? = some v := hP
        simp [argBest, hba, two] at hP2
        exact hP2.symm
      have := h h' tk t old
      rw [if_neg hba] at this
      rw [e]
      exact this

/-- n items of a walk from i on -/
theorem draw_walk {I : Addr} {fp wr : List Addr} {N : Nat} {P : Nat → Value → Prop} {St : Nat → Heap → Prop} (W : Walks prog w A I fp wr N P St) : ∀ (n i : Nat) (s : Shared) (Q : List Value → Shared → Prop), St i s.heap → i + n ≤ N →
    (∀ vs h' tk, vs.length = n → (∀ j v, vs[j]? = some v → P (i + j) v) → St (i + n) h' → (∀ b o, b ∉ wr → s.heap.get? b = some o → h'.get? b = some o) → Q vs { s with heap := h', toks := tk }) → wpAny (model prog w) A (draw (.ref I) n) Q E s
  | 0, i, s, Q, st, _, hQ => by
    show wpAny _ _ (pure []) Q E s
    exact wpAny_pure (hQ [] s.heap s.toks rfl (fun j v hj => by simp at hj) st fun _ _ _ e => e)
  | n + 1, i, s, Q, st, hle, hQ => by
    show wpAny _ _ (pyNext (.ref I) >>= _) Q E s
    refine wpAny_bind (W.item i s _ _ (by omega) st fun v h1 tk1 hv st1 k1 => ?_)
    refine wpAny_bind (wpAny_holding (draw_walk W n (i + 1) _ _ st1 (by omega) fun vs h2 tk2 hl hvs st2 k2 => wpAny_pure ?_))
    refine hQ (v :: vs) h2 tk2 (by rw [List.length_cons, hl]) (fun j x hj => ?_) ?_ fun b o hb e => k2 b o hb (k1 b o hb e)
    · cases j with
      | zero =>
        cases hj
        exact hv
      | succ j =>
        have := hvs j x (by simpa using hj)
        rw [show i + (j + 1) = i + 1 + j by omega]
        exact this
    · rw [show i + (n + 1) = i + 1 + n by omega]
      exact st2

theorem items_text {x : Str} {t : Tok} {n : Nat} {Q : List Value → Shared → Prop} (hh : A.handled = none) (hn : n = x.cps.size)
    (hQ : ∀ vs h' tk, vs.length = n → (∀ (j : Nat) v, vs[j]? = some v → SignAt x j v) → (∀ b o, s.heap.get? b = some o → h'.get? b = some o) → Q vs { s with heap := h', toks := tk }) :
    wpAny (model prog w) A (unpackItems (.str x t) n none) Q E s := by
  unfold unpackItems
  refine wpAny_bind ?_
  · unfold notIterableAtAll
    refine wpAny_bind (wpAny_specialOf (typeIs_str s x t) PySem.F.slot_str_iter.lookup ?_)
    refine wpAny_pure ?_
    simp only [Bool.false_eq_true, if_false]
    refine wpAny_bind (wpAny_holding (wpAny_pyIter_str fun o St W hst => ?_))
    have W := W A hh
    refine wpAny_bind (wpAny_holding (draw_walk W n 0 _ _ hst (by omega) fun vs h1 tk1 hl hvs st1 k1 => ?_))
    rw [if_neg (by omega)]
    have st1 : St x.cps.size h1 := by
      rw [← hn]
      simpa using st1
    refine wpAny_bind (wpAny_holding (W.done _ _ _ st1 fun h2 tk2 k2 => ?_))
    simp only [Option.isSome_none, Bool.false_eq_true, if_false]
    refine wpAny_pure (hQ vs h2 tk2 hl (fun j v hj => by simpa using hvs j v hj) fun b o e => ?_)
    have nb : b ∉ [s.heap.objs.size] := fun z => by
      rcases List.mem_cons.mp z with z | z
      · exact Nat.ne_of_lt (Heap.lt_size e) z
      · cases z
    exact k2 b o nb (k1 b o nb (Heap.get?_push_of_some _ e))
end

section
variable {X : Cx} {pos : Pos}
theorem call_minT (hc : X.calm = true) : CallR X (.builtin "min") (fun xs H Q => ∃ p q : Str, xs = [.str p, .str q] ∧ Q (.str (if q.cps.toList < p.cps.toList then q else p)) H) := by
  intro pins s σ H xs us Q I r h
  obtain ⟨p, q, rfl, hq⟩ := h
  obtain ⟨u, w', rfl, ⟨t, rfl⟩, ⟨t', rfl⟩⟩ := vals2 r
  exact min_two_texts (I.ok.hd hc) fun h' tk t2 k => ⟨.str _, H, I.kept k, ⟨t2, rfl⟩, hq⟩
theorem call_maxT (hc : X.calm = true) : CallR X (.builtin "max") (fun xs H Q => ∃ p q : Str, xs = [.str p, .str q] ∧ Q (.str (if p.cps.toList < q.cps.toList then q else p)) H) := by
  intro pins s σ H xs us Q I r h
  obtain ⟨p, q, rfl, hq⟩ := h
  obtain ⟨u, w', rfl, ⟨t, rfl⟩, ⟨t', rfl⟩⟩ := vals2 r
  exact max_two_texts (I.ok.hd hc) fun h' tk t2 k => ⟨.str _, H, I.kept k, ⟨t2, rfl⟩, hq⟩

/-- (a, b, ..) = a text of as many signs -/
def gUnT (n : Nat) (t : TGs) : TG := fun v σ H Q => ∃ l : List Nat, v = .str (tx l) ∧ l.length = n ∧ t (l.map fun c => .str (tx [c])) σ H Q
theorem pg_unT {es : List Expr} {k : Nat} {t : TGs} {n : Nat} (hc : X.calm = true) (h : PGs X es t)
    (hn : (assignEach es X.env).length = n := by rfl) (hst : (assignEach es X.env).findIdx? (·.1) = none := by rfl) : PG X (.Tuple es k pos) (gUnT n t) := by
  refine ⟨fun pins s σ H v u Q I r hw => ?_⟩
  obtain ⟨l, rfl, hl, hw⟩ := hw
  obtain ⟨tk, rfl⟩ := (show ∃ tk, u = Value.str (tx l) tk from r)
  rw [PyProof.Rows.assign_Tuple]
  refine wpAny_bind (wpAny_standAt ?_)
  unfold unpack
  rw [hn, hst]
  have sz : (tx l).cps.size = l.length := tx_length l
  refine wpAny_bind (wpAny_holding (items_text (I.ok.hd hc) (by rw [sz, hl]) fun vs h' tk' hvl hvs kp => ?_))
  have I1 : Inv X pins σ H { s with heap := h', toks := tk' } := I.kept kp
  refine h.run pins _ σ H _ _ Q I1 ?_ hw
  have key : ∀ (l : List Nat) (vs : List Value), vs.length = l.length → (∀ (j : Nat) v, vs[j]? = some v → ∃ c u, l[j]? = some c ∧ v = .str ⟨#[c]⟩ u) → Vals (l.map fun c => .str (tx [c])) vs := by
    intro l
    induction l with
    | nil =>
      intro vs e _
      cases vs with
      | nil => exact .nil
      | cons _ _ => cases e
    | cons c r ih =>
      intro vs e h
      cases vs with
      | nil => cases e
      | cons v vs =>
        obtain ⟨c', u, e1, rfl⟩ := h 0 v rfl
        cases e1
        exact .cons ⟨u, rfl⟩ (ih vs (Nat.succ.inj e) fun j v hj => h (j + 1) v hj)
  refine key l vs (by rw [hvl, hl]) fun j v hj => ?_
  obtain ⟨c, u, e1, e2⟩ := hvs j v hj
  exact ⟨c, u, by simpa [tx] using e1, e2⟩
end
end TcG
/-! Defs whose code object is known; the end of a law in which several defs hold generator expressions. -/
namespace TcG
open PySem PySem.Spec PyProof.Rows L2

/-- a def of the text whose code object stands at c -/
structure FunC (K : PySem.W.Frag) (x qual : Str) (st : Stmt) (f : Addr) (fd : FuncData) (c : Addr) : Prop where
  ex : ∃ (oc : Value) (od : Option Addr) (kV doc pm : Value) (an : Option Addr) (ct : Value) (osl : Array (Option Value)),
    fd = PySem.W.fnOf x qual (defArgs st) (defBody st) (defScope st) .none kV doc pm an (.ref c) ct ∧ K.lookup f = some ⟨oc, od, .func fd, osl⟩ ∧ PySem.W.codeIn K (.ref c) qual = true
  kp : PySem.W.keepIn K (.ref f) = true
section
variable {P : Program} {w : World} {K : PySem.W.Frag} {mg : Str → Option Value} {base : Heap}
theorem FunC.fun {x qual : Str} {st : Stmt} {f : Addr} {fd : FuncData} {c : Addr} (F : FunC K x qual st f fd c) : Fun K x qual st f fd := by
  obtain ⟨oc, od, kV, doc, pm, an, ct, osl, h1, h2, h3⟩ := F.ex
  exact ⟨⟨oc, od, kV, doc, pm, an, .ref c, ct, osl, h1, h2, h3⟩, F.kp⟩
theorem FunC.ok {x qual : Str} {st : Stmt} {f : Addr} {fd : FuncData} {c : Addr} {N ps : List Str} {k : Nat} {sp : Sp} (F : FunC K x qual st f fd c) (S : FnScope N ps (defScope st)) (len : ∀ vs H Q E, sp vs H Q E → vs.length = ps.length)
    (body : ∀ (A : Around) (outer : List Env) (s : Shared) (H : Hp) (vs : List V) (Q : VK) (E : XK), Room k (A.deeper (envOfC qual (defScope st) s.heap.objs.size f (.ref c))) → sp vs H Q E →
      ∃ t, PSs (cxOf CX0 P w K mg base N qual (defScope st) f (.ref c) A outer s H E).nox (defBody st) t ∧ t { nx := fun _ H' => Q .non H', rt := Q } (start N vs) H) : FnOk P w K mg base CX0 (k + 1) f fd ps sp := by
  obtain ⟨oc, od, kV, doc, pm, an, ct, osl, rfl, lk, code⟩ := F.ex
  refine fn_of lk code S len fun A outer s H vs Q E hr h => ?_
  obtain ⟨t, ht, q⟩ := body A outer s H vs Q E hr h
  exact ⟨t, ht.nox, q⟩
theorem func_mk {x qual : Str} {st : Stmt} {f c : Addr} {oc : Value} {od an : Option Addr} {osl : Array (Option Value)} {kV doc pm ct : Value} (l : K.lookup f = some ⟨oc, od, .func (PySem.W.fnOf x qual (defArgs st) (defBody st) (defScope st) .none kV doc pm an (.ref c) ct), osl⟩)
    (i : PySem.W.codeIn K (.ref c) qual = true) (k : PySem.W.keepIn K (.ref f) = true) : FunC K x qual st f (PySem.W.fnOf x qual (defArgs st) (defBody st) (defScope st) .none kV doc pm an (.ref c) ct) c := ⟨⟨oc, od, kV, doc, pm, an, ct, osl, rfl, l, i⟩, k⟩
end

/-- what the end knows of a def of the view: its code object and the empty table -/
def TabOf (mg : Str → Option Value) (h : Heap) (x : Str) : Prop :=
  ∃ (f : Addr) (o : Obj) (fd : FuncData) (c P : Addr), mg x = some (.ref f) ∧ h.get? f = some o ∧ o.data = .func fd ∧ fd.code = .ref c ∧ PySem.W.CodeHd h c P ∧ h.get? P = some { cls := .none, data := .fields #[] }
open LamX in
theorem walk_ofMany {l : PySem.W.OpenLaw} {n k : Nat} {q : Program} {loose : List Str} {XP : (Str → Option Value) → Heap → Prop} {YP : World → Heap → Prop} {d : DefRec} {K : Params → PySem.W.Frag} {CX : World → CXT} {x : Str}
    (most : l.most = some n) (size : n ≤ sizeLine) (plain : d.params.defaults = []) (room : Room k callerA) (hY : ∀ (w : World) (h : Heap), YP w h → (K w.params).In h)
    (F : ∀ (w : World) (mg : Str → Option Value) (fa : Addr) (h : Heap), (K w.params).In h → h.Ns mainGlobals mg → mg d.name = some (.ref fa) → (∀ y : Str, ((recsOf q).any fun e => e.name == y) = true → TabOf mg h y) → LawAtS l w (K w.params) (CX w) k n x mg fa h)
    (hCX : ∀ (w : World) (H : Hp) (s : Shared) (e : Value) (s' : Shared), CX w [] H s (fun _ _ _ => False) e s' → False) :
    PySem.W.WalkO q loose XP YP l.row.toRowW d [] (fun f vs => PySem.call f vs) := by
  refine Att.attach_callB most plain fun w s0 s1 mg mb fa o pm cd doc a vs ns G Y ho hd hcd hmg hobj hints hlen hbits hg => ?_
  have KX := hY w _ Y
  have tabs : ∀ y : Str, ((recsOf q).any fun e => e.name == y) = true → TabOf mg s1.heap y := fun y hy => by
    obtain ⟨e, he, en⟩ := List.any_eq_true.mp hy
    have en : e.name = y := beq_iff_eq.mp en
    obtain ⟨f', o', fd', c', P', g1, g2, g3, g4, g5, g6⟩ := G.T.tab e he
    rw [en] at g1
    exact ⟨f', o', fd', c', P', g1, g2, g3, g4, PySem.W.CodeHd.of g5 g6, g6.2⟩
  obtain ⟨fd, cs, sp, hT, nT, C, hb, hsp, hF⟩ := F w mg fa _ KX G.T.g hmg tabs
  exact law_callTs KX G.T.g G.T.b G.T.builtins G.T.nolimit hg hT nT C G.T.bmain hobj hints (Nat.le_trans hlen size) room hF hb (fun H hH hS => hsp H a ns hlen hbits hH hS) fun H e s' => hCX w H s1 e s'

/-- the table of a def, by what the written part tells -/
theorem tab_at {K : PySem.W.Frag} {mg : Str → Option Value} {h : Heap} {x : Str} {f c P : Addr} {oc e : Value} {od dd : Option Addr} {fd : FuncData} {osl sl : Array (Option Value)} {vs : Array Value} (KX : K.In h) (T : TabOf mg h x)
    (m : mg x = some (.ref f)) (l : K.lookup f = some ⟨oc, od, .func fd, osl⟩) (hc : fd.code = .ref c) (lc : K.lookup c = some ⟨e, dd, .fields vs, sl⟩) (hP : vs[11]? = some (.ref P)) :
    PySem.W.CodeHd h c P ∧ h.get? P = some { cls := .none, data := .fields #[] } := by
  obtain ⟨f', o', fd', c', P', g1, g2, g3, g4, g5, g6⟩ := T
  rw [m] at g1
  cases g1
  rw [KX _ _ l] at g2
  cases g2
  cases g3
  rw [hc] at g4
  cases g4
  have g5' := g5
  obtain ⟨o2, vs2, file, tf, flags, tg, inF, text, tt, e1, e2, e3, e4, _⟩ := g5'
  rw [KX _ _ lc] at e1
  cases e1
  cases e3
  rw [hP] at e4
  cases e4
  exact ⟨g5, g6⟩
end TcG
/-! What a call leaves as it was. -/
namespace TcG
open PySem PySem.Spec PyProof.Rows L2

theorem same_new {H : Hp} {p : Addr} {o : HO} (h : H p = none) : Same H (upd H p o) := fun b x e => by
  rw [upd_ne (ne_of_none e h)]
  exact e

/-- all but what stands at S is as it was -/
def Mv (S : List Addr) (H H' : Hp) : Prop := ∀ a o, a ∉ S → H a = some o → H' a = some o
theorem Mv.refl (S : List Addr) (H : Hp) : Mv S H H := fun _ _ _ e => e
theorem Mv.trans {S : List Addr} {H H1 H2 : Hp} (a : Mv S H H1) (b : Mv S H1 H2) : Mv S H H2 := fun c o n e => b c o n (a c o n e)
theorem Mv.of_same {S : List Addr} {H H1 : Hp} (a : Same H H1) : Mv S H H1 := fun c o _ e => a c o e
theorem Mv.wide {S T : List Addr} {H H1 : Hp} (a : Mv S H H1) (h : ∀ x ∈ S, x ∈ T) : Mv T H H1 := fun c o n e => a c o (fun z => n (h c z)) e
theorem Mv.new {S : List Addr} {H : Hp} {p : Addr} {o : HO} (h : H p = none) : Mv S H (upd H p o) := .of_same (same_new h)
theorem Mv.put {H : Hp} {p : Addr} {o : HO} : Mv [p] H (upd H p o) := fun a u n e => by
  rw [upd_ne (fun z => n (by rw [z]; exact List.mem_cons_self))]
  exact e
theorem Mv.tabbed {P : Addr} {H H' : Hp} (h : GxR.Tabbed P H H') : Mv [P] H H' := fun a o n e => by
  rw [h.2 a fun z => n (by rw [z]; exact List.mem_cons_self)]
  exact e
/-- an object of another kind stands elsewhere -/
theorem Mv.seqT {K : PySem.W.Frag} {S : List Addr} {H H' : Hp} {a : Addr} {xs : List V} (m : Mv S H H') (h : SqT K H a xs) (n : ∀ p ∈ S, ∀ u, Rd H p u → ∀ ys, u ≠ .tup ys) : SqT K H' a xs := by
  rcases h with h | h
  · have nS : a ∉ S := fun z => n a z _ h _ rfl
    rcases h with h | ⟨o, h⟩
    · exact .inl (.inl (m a _ nS h))
    · exact .inl (.inr ⟨o, m a _ nS h⟩)
  · exact .inr h
theorem Mv.seqL {K : PySem.W.Frag} {S : List Addr} {H H' : Hp} {a : Addr} {xs : List V} (m : Mv S H H') (h : SqL K H a xs) (n : ∀ p ∈ S, ∀ u, Rd H p u → u ≠ .lst xs) : SqL K H' a xs := by
  rcases h with h | h
  · have nS : a ∉ S := fun z => n a z _ h rfl
    rcases h with h | ⟨o, h⟩
    · exact .inl (.inl (m a _ nS h))
    · exact .inl (.inr ⟨o, m a _ nS h⟩)
  · exact .inr h
theorem Same.seqT {K : PySem.W.Frag} {H H' : Hp} {a : Addr} {xs : List V} (m : Same H H') (h : SqT K H a xs) : SqT K H' a xs :=
  (Mv.of_same (S := []) m).seqT h fun p hp => nomatch hp
theorem rd_of {H : Hp} {p : Addr} {o u : HO} (h : H p = some o) (hf : ∀ q v, o ≠ .frz q v) (r : Rd H p u) : u = o := by
  rcases r with r | ⟨q, r⟩
  · rw [h] at r
    cases r
    rfl
  · rw [h] at r
    cases r
    exact absurd rfl (hf _ _)
theorem fmod_range {x m : Int} (h : 0 < m) : 0 ≤ x.fmod m ∧ x.fmod m < m := by
  rw [Int.fmod_eq_emod_of_nonneg x (by omega)]
  exact ⟨Int.emod_nonneg _ (by omega), Int.emod_lt_of_pos _ h⟩

/-- the box of numbers that the law draws from: its digits stand at dl -/
def Box (K : PySem.W.Frag) (b dl : Addr) (H : Hp) : Prop := ∃ (ds : List Int) (n : Int), H b = some (.lst [.ref dl, .int n]) ∧ 0 ≤ n ∧ SqL K H dl (ds.map V.int)
theorem box_list_ne {dl : Addr} {n : Int} (ds : List Int) : HO.lst [V.ref dl, .int n] ≠ .lst (ds.map V.int) := fun z => by
  cases ds with
  | nil => cases z
  | cons x r => cases z
/-- the table grows, the box stays -/
theorem Box.mvT {K : PySem.W.Frag} {b dl P : Addr} {H H' : Hp} (h : Box K b dl H) (m : Mv [P] H H') (t : GxR.TabG H P) : Box K b dl H' := by
  obtain ⟨ds, n, hb, hn, hd⟩ := h
  obtain ⟨ps, tab, _⟩ := t
  have rd : ∀ u, Rd H P u → u = .tbl ps := fun u r => rd_of tab (fun _ _ z => by cases z) r
  refine ⟨ds, n, m b _ (fun z => ?_) hb, hn, m.seqL hd fun p hp u r => ?_⟩
  · rw [List.mem_singleton.mp z, tab] at hb
    cases hb
  · rw [List.mem_singleton.mp hp] at r
    rw [rd u r]
    intro z
    cases z
theorem Box.same {K : PySem.W.Frag} {b dl : Addr} {H H' : Hp} (h : Box K b dl H) (m : Same H H') : Box K b dl H' := by
  obtain ⟨ds, n, hb, hn, hd⟩ := h
  exact ⟨ds, n, m _ _ hb, hn, m.seq hd⟩
/-- what was made behind the box is changed -/
theorem Box.put {K : PySem.W.Frag} {b dl p : Addr} {o : HO} {H0 H : Hp} (h0 : Box K b dl H0) (np : H0 p = none) (h : Box K b dl H) : Box K b dl (upd H p o) := by
  obtain ⟨ds0, n0, hb0, _, hd0⟩ := h0
  obtain ⟨ds, n, hb, hn, hd⟩ := h
  have bp : b ≠ p := ne_of_none hb0 np
  rcases hd0 with hd0 | hd0
  · have dp : dl ≠ p := by
      rcases hd0 with z | ⟨q, z⟩
      · exact ne_of_none z np
      · exact ne_of_none z np
    refine ⟨ds, n, by rw [upd_ne bp]; exact hb, hn, ?_⟩
    rcases hd with (z | ⟨q, z⟩) | z
    · exact .inl (.inl (by rw [upd_ne dp]; exact z))
    · exact .inl (.inr ⟨q, by rw [upd_ne dp]; exact z⟩)
    · exact .inr z
  · exact ⟨ds0, n, by rw [upd_ne bp]; exact hb, hn, .inr hd0⟩
theorem Box.tabG {b dl P : Addr} {H H' : Hp} {K : PySem.W.Frag} (h : Box K b dl H) (m : Mv [b] H H') (t : GxR.TabG H P) : GxR.TabG H' P := by
  obtain ⟨ds, n, hb, hn, hd⟩ := h
  obtain ⟨ps, tab, tri⟩ := t
  refine ⟨ps, m P _ (fun z => ?_) tab, tri⟩
  rw [List.mem_singleton.mp z, hb] at tab
  cases tab
theorem Box.seqT {K : PySem.W.Frag} {b dl a : Addr} {H H' : Hp} {xs : List V} (h : Box K b dl H) (m : Mv [b] H H') (t : SqT K H a xs) : SqT K H' a xs := by
  obtain ⟨ds, n, hb, hn, hd⟩ := h
  refine m.seqT t fun p hp u r => ?_
  rw [List.mem_singleton.mp hp] at r
  rw [rd_of hb (fun _ _ z => by cases z) r]
  intro ys z
  cases z
theorem tab_seqT {K : PySem.W.Frag} {P a : Addr} {H H' : Hp} {xs : List V} (h : GxR.TabG H P) (m : Mv [P] H H') (t : SqT K H a xs) : SqT K H' a xs := by
  obtain ⟨ps, tab, _⟩ := h
  refine m.seqT t fun p hp u r => ?_
  rw [List.mem_singleton.mp hp] at r
  rw [rd_of tab (fun _ _ z => by cases z) r]
  intro ys z
  cases z
end TcG
/-! Loops and comprehensions over the signs of a text; alphabets. -/
namespace TcG
open PySem PySem.Spec PyProof.Rows L2

theorem its_go {l : List Nat} {i : Nat} {H : Hp} : (Its (tx l)).go i H ↔ i < l.length := by
  show i < (tx l).cps.size ↔ _
  rw [show (tx l).cps.size = l.length from tx_length l]
theorem its_stop {l : List Nat} {i : Nat} {H : Hp} : (Its (tx l)).stop i H ↔ l.length ≤ i := by
  show (tx l).cps.size ≤ i ↔ _
  rw [show (tx l).cps.size = l.length from tx_length l]
theorem its_yld {l : List Nat} {i : Nat} {H H' : Hp} {v : V} (h : (Its (tx l)).yld i H v H') : H' = H ∧ ∃ c, l[i]? = some c ∧ v = .str (tx [c]) := by
  obtain ⟨e, c, h1, h2⟩ := h
  exact ⟨e, c, by simpa [tx] using h1, h2⟩

/-- for c in a text -/
theorem for_text {l : List Nat} {g : TG} {tb : TS} {D : Ends} {σ : L2.St} {H : Hp} (Pv : Nat → L2.St → Hp → Prop) (h0 : Pv 0 σ H)
    (turn : ∀ i c σ H, l[i]? = some c → Pv i σ H → g (.str (tx [c])) σ H fun σ2 H2 => tb { D with nx := Pv (i + 1), ct := Pv (i + 1), bk := D.nx } σ2 H2) (out : ∀ σ H, Pv l.length σ H → D.nx σ H) :
    ∃ W : Nat → Nat → L2.St → Hp → Prop, (∃ m, W 0 m σ H) ∧ ∀ i m σ H, W i m σ H →
      ((Its (tx l)).stop i H ∧ D.nx σ H) ∨ ((Its (tx l)).go i H ∧ ∃ N : L2.St → Hp → Prop, (∀ σ' H', N σ' H' → ∃ m', m' < m ∧ W (i + 1) m' σ' H') ∧ ∀ x H', (Its (tx l)).yld i H x H' → g x σ H' fun σ2 H2 => tb { D with nx := N, ct := N, bk := D.nx } σ2 H2) := by
  refine ⟨fun i m σ H => m = l.length - i ∧ i ≤ l.length ∧ Pv i σ H, ⟨l.length, by simp, Nat.zero_le _, h0⟩, ?_⟩
  rintro i m σ H ⟨rfl, hi, p⟩
  by_cases lt : i < l.length
  · refine .inr ⟨its_go.mpr lt, Pv (i + 1), fun σ' H' p' => ⟨l.length - (i + 1), by omega, rfl, lt, p'⟩, fun x H' y => ?_⟩
    obtain ⟨e, c, hc, rfl⟩ := its_yld y
    subst e
    exact turn i c σ _ hc p
  · have e : i = l.length := by omega
    subst e
    exact .inl ⟨its_stop.mpr (Nat.le_refl _), out σ H p⟩

/-- [.. for c in a text if ..] -/
theorem lc_text {l : List Nat} {g : TG} {tt : TT} {te : TE} {vs : List Nat} {σ : L2.St} {H1 : Hp} {D : Addr} {Qd : Hp → Prop} (Pv : Nat → Hp → Prop) (h0 : Pv 0 (upd H1 D (.lst [])))
    (turn : ∀ i c H, l[i]? = some c → Pv i H → g (.str (tx [c])) (wipe σ vs) H fun σ2 H2 => wipe σ2 vs = wipe σ vs ∧ tt σ2 H2 fun b H3 =>
      if b = true then te σ2 H3 fun y H4 => ∃ acc, H4 D = some (.lst acc) ∧ acc.length < sizeLine ∧ Pv (i + 1) (upd H4 D (.lst (acc ++ [y]))) else Pv (i + 1) H3) (out : ∀ H, Pv l.length H → Qd H) :
    ∃ W : Nat → Nat → Hp → Prop, (∃ m, W 0 m (upd H1 D (.lst []))) ∧ ∀ i m H, W i m H →
      ((Its (tx l)).stop i H ∧ Qd H) ∨ ((Its (tx l)).go i H ∧ ∃ Nx : Hp → Prop, (∀ H', Nx H' → ∃ m', m' < m ∧ W (i + 1) m' H') ∧ ∀ x H', (Its (tx l)).yld i H x H' → g x (wipe σ vs) H' fun σ2 H2 => wipe σ2 vs = wipe σ vs ∧ tt σ2 H2 fun b H3 =>
        if b = true then te σ2 H3 fun y H4 => ∃ acc, H4 D = some (.lst acc) ∧ acc.length < sizeLine ∧ Nx (upd H4 D (.lst (acc ++ [y]))) else Nx H3) := by
  refine ⟨fun i m H => m = l.length - i ∧ i ≤ l.length ∧ Pv i H, ⟨l.length, by simp, Nat.zero_le _, h0⟩, ?_⟩
  rintro i m H ⟨rfl, hi, p⟩
  by_cases lt : i < l.length
  · refine .inr ⟨its_go.mpr lt, Pv (i + 1), fun H' p' => ⟨l.length - (i + 1), by omega, rfl, lt, p'⟩, fun x H' y => ?_⟩
    obtain ⟨e, c, hc, rfl⟩ := its_yld y
    subst e
    exact turn i c _ hc p
  · have e : i = l.length := by omega
    subst e
    exact .inl ⟨its_stop.mpr (Nat.le_refl _), out H p⟩

/-- the second clause of a comprehension, over a text -/
theorem lc2_text {l : List Nat} {g1 : TG} {tt1 : TT} {te : TE} {vs1 : List Nat} {σ2 : L2.St} {D : Addr} {H4 : Hp} {Nx : Hp → Prop} (Pv : Nat → Hp → Prop) (h0 : Pv 0 H4)
    (turn : ∀ i c H, l[i]? = some c → Pv i H → g1 (.str (tx [c])) (wipe σ2 vs1) H fun σ3 H5 => wipe σ3 vs1 = wipe σ2 vs1 ∧ tt1 σ3 H5 fun b H6 =>
        if b = true then te σ3 H6 fun y H7 => ∃ acc, H7 D = some (.lst acc) ∧ acc.length < sizeLine ∧ Pv (i + 1) (upd H7 D (.lst (acc ++ [y]))) else Pv (i + 1) H6) (out : ∀ H, Pv l.length H → Nx H) :
    ∃ W1 : Nat → Nat → Hp → Prop, (∃ m, W1 0 m H4) ∧ ∀ j k H, W1 j k H →
      ((Its (tx l)).stop j H ∧ Nx H) ∨ ((Its (tx l)).go j H ∧ ∃ Nx1 : Hp → Prop, (∀ H', Nx1 H' → ∃ k', k' < k ∧ W1 (j + 1) k' H') ∧ ∀ x H', (Its (tx l)).yld j H x H' → g1 x (wipe σ2 vs1) H' fun σ3 H5 => wipe σ3 vs1 = wipe σ2 vs1 ∧ tt1 σ3 H5 fun b H6 =>
        if b = true then te σ3 H6 fun y H7 => ∃ acc, H7 D = some (.lst acc) ∧ acc.length < sizeLine ∧ Nx1 (upd H7 D (.lst (acc ++ [y]))) else Nx1 H6) := by
  refine ⟨fun i m H => m = l.length - i ∧ i ≤ l.length ∧ Pv i H, ⟨l.length, by simp, Nat.zero_le _, h0⟩, ?_⟩
  rintro i m H ⟨rfl, hi, p⟩
  by_cases lt : i < l.length
  · refine .inr ⟨its_go.mpr lt, Pv (i + 1), fun H' p' => ⟨l.length - (i + 1), by omega, rfl, lt, p'⟩, fun x H' y => ?_⟩
    obtain ⟨e, c, hc, rfl⟩ := its_yld y
    subst e
    exact turn i c _ hc p
  · have e : i = l.length := by omega
    subst e
    exact .inl ⟨its_stop.mpr (Nat.le_refl _), out H p⟩
/-- .. and the first one -/
theorem lc2_first {l : List Nat} {n : Nat} {R : L2.St → Hp → (Hp → Prop) → Prop} {vs : List Nat} {σ : L2.St} {H1 : Hp} {D : Addr} {Qd : Hp → Prop} (Pv : Nat → Hp → Prop) (h0 : Pv 0 (upd H1 D (.lst [])))
    (turn : ∀ i c H, l[i]? = some c → Pv i H → wipe ((wipe σ vs).set n (some (.str (tx [c])))) vs = wipe σ vs ∧ R ((wipe σ vs).set n (some (.str (tx [c])))) H (Pv (i + 1))) (out : ∀ H, Pv l.length H → Qd H) :
    ∃ W : Nat → Nat → Hp → Prop, (∃ m, W 0 m (upd H1 D (.lst []))) ∧ ∀ i m H, W i m H →
      ((Its (tx l)).stop i H ∧ Qd H) ∨ ((Its (tx l)).go i H ∧ ∃ Nx : Hp → Prop, (∀ H', Nx H' → ∃ m', m' < m ∧ W (i + 1) m' H') ∧ ∀ x H', (Its (tx l)).yld i H x H' → gName n x (wipe σ vs) H' fun σ2 H2 => wipe σ2 vs = wipe σ vs ∧ tYes σ2 H2 fun b H3 =>
        if b = true then R σ2 H3 Nx else Nx H3) := by
  refine ⟨fun i m H => m = l.length - i ∧ i ≤ l.length ∧ Pv i H, ⟨l.length, by simp, Nat.zero_le _, h0⟩, ?_⟩
  rintro i m H ⟨rfl, hi, p⟩
  by_cases lt : i < l.length
  · refine .inr ⟨its_go.mpr lt, Pv (i + 1), fun H' p' => ⟨l.length - (i + 1), by omega, rfl, lt, p'⟩, fun x H' y => ?_⟩
    obtain ⟨e, c, hc, rfl⟩ := its_yld y
    subst e
    exact turn i c _ hc p
  · have e : i = l.length := by omega
    subst e
    exact .inl ⟨its_stop.mpr (Nat.le_refl _), out H p⟩

theorem take_next {α : Type} {l : List α} {i : Nat} {x : α} (h : l[i]? = some x) : l.take (i + 1) = l.take i ++ [x] := by
  rw [List.take_add_one, h]
  rfl

/-! ### rows of texts, alphabets -/
def txs (ps : List (List Nat)) : List V := ps.map fun p => .str (tx p)
theorem txs_flat (ps : List (List Nat)) : (txs ps).all flatV = true := by
  unfold txs
  rw [List.all_map, List.all_eq_true]
  intro p _
  rfl
theorem inV_txs (p : List Nat) (ps : List (List Nat)) : inV (.str (tx p)) (txs ps) = decide (p ∈ ps) := by
  unfold inV txs
  rw [List.any_map]
  have key : ∀ q : List Nat, ((fun y => eqV y (.str (tx p))) ∘ fun q => V.str (tx q)) q = decide (q = p) := fun q => by
    show (tx q == tx p) = _
    by_cases h : q = p
    · rw [h]
      simp
    · rw [decide_eq_false h]
      exact beq_eq_false_iff_ne.mpr fun z => h (tx_inj z)
  rw [Bool.eq_iff_iff, List.any_eq_true, decide_eq_true_eq]
  constructor
  · intro ⟨q, hq, e⟩
    rw [key] at e
    rw [← of_decide_eq_true e]
    exact hq
  · intro h
    exact ⟨p, h, by rw [key]; exact decide_eq_true rfl⟩
/-- the alphabet at a: letters ls, pairs ps -/
def Alpha (K : PySem.W.Frag) (H : Hp) (a : Addr) (ls : List Nat) (ps : List (List Nat)) : Prop :=
  ∃ pt, SqT K H a [.str "alphabet", .str (tx ls), .ref pt] ∧ SqT K H pt (txs ps)
theorem Alpha.same {K : PySem.W.Frag} {H H' : Hp} {a : Addr} {ls : List Nat} {ps : List (List Nat)} (h : Alpha K H a ls ps) (m : Same H H') : Alpha K H' a ls ps := by
  obtain ⟨pt, h1, h2⟩ := h
  exact ⟨pt, Same.seqT m h1, Same.seqT m h2⟩
theorem Alpha.mvB {K : PySem.W.Frag} {H H' : Hp} {a b dl : Addr} {ls : List Nat} {ps : List (List Nat)} (h : Alpha K H a ls ps) (bx : Box K b dl H) (m : Mv [b] H H') : Alpha K H' a ls ps := by
  obtain ⟨pt, h1, h2⟩ := h
  exact ⟨pt, bx.seqT m h1, bx.seqT m h2⟩
theorem Alpha.mvT {K : PySem.W.Frag} {H H' : Hp} {a P : Addr} {ls : List Nat} {ps : List (List Nat)} (h : Alpha K H a ls ps) (t : GxR.TabG H P) (m : Mv [P] H H') : Alpha K H' a ls ps := by
  obtain ⟨pt, h1, h2⟩ := h
  exact ⟨pt, tab_seqT t m h1, tab_seqT t m h2⟩
/-- whether two letters are independent -/
def ind (ps : List (List Nat)) (x y : Nat) : Bool := decide ([min x y, max x y] ∈ ps)
theorem ind_comm (ps : List (List Nat)) (x y : Nat) : ind ps x y = ind ps y x := by
  unfold ind
  rw [Nat.min_comm, Nat.max_comm]
/-- pairs tell the lesser letter first -/
def Pairs (ls : List Nat) (ps : List (List Nat)) : Prop := ∀ p ∈ ps, ∃ x y, p = [x, y] ∧ x < y ∧ x ∈ ls ∧ y ∈ ls
theorem ind_self {ls : List Nat} {ps : List (List Nat)} (h : Pairs ls ps) (x : Nat) : ind ps x x = false := by
  unfold ind
  refine decide_eq_false fun z => ?_
  obtain ⟨a, b, e, lt, _⟩ := h _ z
  simp at e
  omega
theorem ind_either {ls : List Nat} {ps : List (List Nat)} (h : Pairs ls ps) (x y : Nat) : (decide ([x, y] ∈ ps) || decide ([y, x] ∈ ps)) = ind ps x y := by
  unfold ind
  rw [Bool.eq_iff_iff, Bool.or_eq_true, decide_eq_true_eq, decide_eq_true_eq, decide_eq_true_eq]
  constructor
  · rintro (z | z)
    · obtain ⟨a, b, e, lt, _⟩ := h _ z
      simp at e
      rw [Nat.min_eq_left (by omega), Nat.max_eq_right (by omega)]
      exact z
    · obtain ⟨a, b, e, lt, _⟩ := h _ z
      simp at e
      rw [Nat.min_eq_right (by omega), Nat.max_eq_left (by omega)]
      exact z
  · intro z
    by_cases le : x ≤ y
    · rw [Nat.min_eq_left le, Nat.max_eq_right le] at z
      exact .inl z
    · rw [Nat.min_eq_right (by omega), Nat.max_eq_left (by omega)] at z
      exact .inr z
theorem tx_lt (a b : Nat) : decide ((tx [a]).cps.toList < (tx [b]).cps.toList) = decide (a < b) := by
  show decide ([a] < [b]) = _
  by_cases h : a < b
  · rw [decide_eq_true h]
    exact decide_eq_true (List.Lex.rel h)
  · rw [decide_eq_false h]
    refine decide_eq_false fun z => h ?_
    cases z with
    | rel r => exact r
    | cons r => cases r
theorem min_tx (x y : Nat) : (if (tx [y]).cps.toList < (tx [x]).cps.toList then tx [y] else tx [x]) = tx [min x y] := by
  have e := tx_lt y x
  by_cases h : y < x
  · rw [decide_eq_true h] at e
    rw [if_pos (of_decide_eq_true e), Nat.min_eq_right (by omega)]
  · rw [decide_eq_false h] at e
    rw [if_neg (of_decide_eq_false e), Nat.min_eq_left (by omega)]
theorem max_tx (x y : Nat) : (if (tx [x]).cps.toList < (tx [y]).cps.toList then tx [y] else tx [x]) = tx [max x y] := by
  have e := tx_lt x y
  by_cases h : x < y
  · rw [decide_eq_true h] at e
    rw [if_pos (of_decide_eq_true e), Nat.max_eq_right (by omega)]
  · rw [decide_eq_false h] at e
    rw [if_neg (of_decide_eq_false e), Nat.max_eq_left (by omega)]
end TcG
/-! What parts two words, as a function; numbers of letters in texts. -/
namespace TcG
open PySem PySem.Spec PyProof.Rows L2

theorem count_tx (a : List Nat) (c : Nat) : Txt.count (tx a) (tx [c]) = (a.count c : Int) := by
  have h := count_is (tx a) c
  rw [countIn_signs_sum] at h
  rw [show (tx [c]) = (⟨#[c]⟩ : Str) from rfl, h, tx_list]
  clear h
  induction a with
  | nil => rfl
  | cons x r ih =>
    rw [List.map_cons, List.sum_cons, ih, List.count_cons]
    by_cases e : x = c
    · subst e
      simp
      omega
    · simp [e]

theorem find_at {α : Type} {l : List α} {p : α → Bool} {i : Nat} {x : α} (h : l[i]? = some x) (before : ∀ y ∈ l.take i, p y = false) (here : p x = true) : l.find? p = some x := by
  have e : l = l.take i ++ x :: l.drop (i + 1) := by
    have hi := (List.getElem?_eq_some_iff.mp h)
    obtain ⟨lt, hx⟩ := hi
    rw [← hx, ← List.drop_eq_getElem_cons lt, List.take_append_drop]
  rw [e, List.find?_append]
  have n : (l.take i).find? p = none := List.find?_eq_none.mpr fun y hy z => by
    rw [before y hy] at z
    cases z
  rw [n, List.find?_cons, here]
  rfl
theorem find_no {α : Type} {l : List α} {p : α → Bool} (h : ∀ y ∈ l, p y = false) : l.find? p = none := List.find?_eq_none.mpr fun y hy z => by
  rw [h y hy] at z
  cases z

inductive Paper where
  | count (x : Nat)
  | order (x y : Nat)
def keepM (l a : List Nat) : List Nat := a.filter fun c => decide (c ∈ l)
/-- the pairs of letters of ls, the lesser one first -/
def pairsWith (ls : List Nat) (x : Nat) : List (List Nat) := (ls.filter fun y => decide (x < y)).map fun y => [x, y]
def pairsOf (ls : List Nat) : List (List Nat) := ls.flatMap (pairsWith ls)
def parted (ps : List (List Nat)) (a b : List Nat) : List Nat → Bool
  | [x, y] => !ind ps x y && decide (keepM [x, y] a ≠ keepM [x, y] b)
  | _ => false
theorem parted_two (ps : List (List Nat)) (a b : List Nat) (x y : Nat) : parted ps a b [x, y] = (!ind ps x y && decide (keepM [x, y] a ≠ keepM [x, y] b)) := rfl
def orderOf : Option (List Nat) → Option Paper
  | some [x, y] => some (.order x y)
  | _ => none
def countsApart (a b : List Nat) (c : Nat) : Bool := decide (a.count c ≠ b.count c)
def partsM (ls : List Nat) (ps : List (List Nat)) (a b : List Nat) : Option Paper := match ls.find? (countsApart a b) with
  | some c => some (.count c)
  | none => orderOf ((pairsOf ls).find? (parted ps a b))
theorem partsM_count {ls : List Nat} {ps : List (List Nat)} {a b : List Nat} {c : Nat} (h : ls.find? (countsApart a b) = some c) : partsM ls ps a b = some (.count c) := by
  unfold partsM
  rw [h]
theorem partsM_order {ls : List Nat} {ps : List (List Nat)} {a b : List Nat} (h : ls.find? (countsApart a b) = none) : partsM ls ps a b = orderOf ((pairsOf ls).find? (parted ps a b)) := by
  unfold partsM
  rw [h]
theorem pairsOf_mem {ls p : List Nat} (h : p ∈ pairsOf ls) : ∃ x y, p = [x, y] ∧ x ∈ ls ∧ y ∈ ls ∧ x < y := by
  unfold pairsOf at h
  obtain ⟨x, hx, hp⟩ := List.mem_flatMap.mp h
  unfold pairsWith at hp
  obtain ⟨y, hy, e⟩ := List.mem_map.mp hp
  obtain ⟨h1, h2⟩ := List.mem_filter.mp hy
  exact ⟨x, y, e.symm, hx, h1, of_decide_eq_true h2⟩
/-- the paper as a value -/
def PaperV (H : Hp) (v : V) : Option Paper → Prop
  | none => v = .non
  | some (.count x) => ∃ p, v = .ref p ∧ H p = some (.tup [.str "count", .str (tx [x])])
  | some (.order x y) => ∃ p, v = .ref p ∧ H p = some (.tup [.str "order", .str (tx [x]), .str (tx [y])])
end TcG
/-! Slices of texts; exchanges of neighbours. -/
namespace TcG
open PySem PySem.Spec PyProof.Rows L2
theorem cut_to (l : List Nat) (k : Nat) : cutS (tx l) none (some (k : Int)) = tx (l.take k) := by
  unfold cutS
  rw [HT.sIx_none, HT.sIx_nat, tx_length]
  show (⟨((l.drop 0).take (min k l.length - 0)).toArray⟩ : Str) = tx (l.take k)
  rw [List.drop_zero, Nat.sub_zero]
  unfold tx
  by_cases h : k ≤ l.length
  · rw [Nat.min_eq_left h]
  · rw [Nat.min_eq_right (by omega), List.take_length, List.take_of_length_le (by omega)]
theorem cut_from (l : List Nat) (k : Nat) : cutS (tx l) (some (k : Int)) none = tx (l.drop k) := by
  unfold cutS
  rw [HT.sIx_none, HT.sIx_nat, tx_length]
  show (⟨((l.drop (min k l.length)).take (l.length - min k l.length)).toArray⟩ : Str) = tx (l.drop k)
  unfold tx
  by_cases h : k ≤ l.length
  · rw [Nat.min_eq_left h, List.take_of_length_le (by rw [List.length_drop]; omega)]
  · rw [Nat.min_eq_right (by omega), List.drop_length, List.drop_of_length_le (show l.length ≤ k by omega)]
    simp
/-- the signs at k and behind it have changed places -/
def swapAt (l : List Nat) (k : Nat) : List Nat := l.take k ++ (match l[k + 1]?, l[k]? with | some y, some x => [y, x] | _, _ => []) ++ l.drop (k + 2)
theorem swapAt_eq {l : List Nat} {k x y : Nat} (hx : l[k]? = some x) (hy : l[k + 1]? = some y) : swapAt l k = l.take k ++ [y] ++ [x] ++ l.drop (k + 2) := by
  unfold swapAt
  rw [hx, hy]
  simp
/-- one exchange of neighbouring independent letters -/
inductive Ex1 (ps : List (List Nat)) : List Nat → List Nat → Prop
  | mk (p q : List Nat) (x y : Nat) (h : ind ps x y = true) : Ex1 ps (p ++ x :: y :: q) (p ++ y :: x :: q)
/-- some exchanges, one behind the other -/
inductive Exs (ps : List (List Nat)) : List Nat → List Nat → Prop
  | refl (a : List Nat) : Exs ps a a
  | step {a b c : List Nat} (h : Exs ps a b) (e : Ex1 ps b c) : Exs ps a c
theorem Exs.one {ps : List (List Nat)} {a b : List Nat} (e : Ex1 ps a b) : Exs ps a b := .step (.refl a) e
theorem Exs.trans {ps : List (List Nat)} {a b c : List Nat} (h : Exs ps a b) (g : Exs ps b c) : Exs ps a c := by
  induction g with
  | refl => exact h
  | step _ e ih => exact .step ih e
theorem split_two {l : List Nat} {k x y : Nat} (hx : l[k]? = some x) (hy : l[k + 1]? = some y) : l = l.take k ++ x :: y :: l.drop (k + 2) := by
  obtain ⟨h1, e1⟩ := List.getElem?_eq_some_iff.mp hx
  obtain ⟨h2, e2⟩ := List.getElem?_eq_some_iff.mp hy
  have d1 : l.drop k = x :: l.drop (k + 1) := by rw [List.drop_eq_getElem_cons h1, e1]
  have d2 : l.drop (k + 1) = y :: l.drop (k + 2) := by rw [List.drop_eq_getElem_cons h2, e2]
  rw [← d2, ← d1, List.take_append_drop]
theorem swap_ex {ps : List (List Nat)} {l : List Nat} {k x y : Nat} (hx : l[k]? = some x) (hy : l[k + 1]? = some y) (h : ind ps x y = true) : Ex1 ps l (swapAt l k) := by
  have e := split_two hx hy
  rw [swapAt_eq hx hy]
  have s : l.take k ++ [y] ++ [x] ++ l.drop (k + 2) = l.take k ++ y :: x :: l.drop (k + 2) := by simp
  rw [s]
  have g := Ex1.mk (l.take k) (l.drop (k + 2)) x y h
  rw [← e] at g
  exact g
theorem Ex1.swap {ps : List (List Nat)} {a b : List Nat} (h : Ex1 ps a b) : ∃ k x y, a[k]? = some x ∧ a[k + 1]? = some y ∧ ind ps x y = true ∧ b = swapAt a k := by
  obtain ⟨p, q, x, y, hi⟩ := h
  have hx : (p ++ x :: y :: q)[p.length]? = some x := by simp
  have hy : (p ++ x :: y :: q)[p.length + 1]? = some y := by simp
  refine ⟨p.length, x, y, hx, hy, hi, ?_⟩
  rw [swapAt_eq hx hy]
  simp [List.drop_append]
theorem Ex1.perm {ps : List (List Nat)} {a b : List Nat} (h : Ex1 ps a b) : a.Perm b := by
  obtain ⟨p, q, x, y, _⟩ := h
  exact List.Perm.append_left p (List.Perm.swap y x q)
theorem Exs.perm {ps : List (List Nat)} {a b : List Nat} (h : Exs ps a b) : a.Perm b := by
  induction h with
  | refl => exact List.Perm.refl _
  | step _ e ih => exact ih.trans e.perm
end TcG
/-! The letters from a on, and drawn pairs of them. -/
namespace TcG
open PySem PySem.Spec PyProof.Rows L2
def alph (n : Nat) : List Nat := [97, 98, 99, 100, 101, 102].take n
theorem alph_len {n : Nat} (h : n ≤ 6) : (alph n).length = n := by
  unfold alph
  rw [List.length_take]
  exact Nat.min_eq_left h
theorem alph_at {n j : Nat} (h : n ≤ 6) (hj : j < n) : (alph n)[j]? = some (97 + j) := by
  have key : ∀ n ≤ 6, ∀ j < n, (alph n)[j]? = some (97 + j) := by decide
  exact key n h j hj
theorem alph_pairs {n j : Nat} (h : n ≤ 6) (hj : j < n) : pairsWith (alph n) (97 + j) = ((alph n).drop (j + 1)).map fun y => [97 + j, y] := by
  have key : ∀ n ≤ 6, ∀ j < n, pairsWith (alph n) (97 + j) = ((alph n).drop (j + 1)).map fun y => [97 + j, y] := by decide
  exact key n h j hj
theorem alph_nodup {n : Nat} (h : n ≤ 6) : (pairsOf (alph n)).Nodup := by
  have key : ∀ n ≤ 6, (pairsOf (alph n)).Nodup := by decide
  exact key n h
theorem alph_count {n : Nat} (h : n ≤ 6) : (pairsOf (alph n)).length ≤ 15 := by
  have key : ∀ n ≤ 6, (pairsOf (alph n)).length ≤ 15 := by decide
  exact key n h
theorem alph_rising {n : Nat} (h : n ≤ 6) : (alph n).Pairwise (· < ·) := by
  have key : ∀ n ≤ 6, (alph n).Pairwise (· < ·) := by decide
  exact key n h
theorem at_eq {α : Type} {xs : List α} {z : Int} {j : Nat} {v : α} (e : z = (j : Int)) (h : xs[j]? = some v) : atI xs z = some v := by
  rw [e]
  exact atI_nat h
/-- an alphabet that was drawn -/
structure Drawn (n : Nat) (ps : List (List Nat)) : Prop where
  big : n ≤ 6
  some : 1 ≤ n
  sub : ∀ p ∈ ps, p ∈ pairsOf (alph n)
  nodup : ps.Nodup
  sorted : sortedS (ps.map tx) = true
theorem Drawn.pairs {n : Nat} {ps : List (List Nat)} (d : Drawn n ps) : Pairs (alph n) ps := fun p hp => by
  obtain ⟨x, y, e, hx, hy, lt⟩ := pairsOf_mem (d.sub p hp)
  exact ⟨x, y, e, lt, hx, hy⟩
theorem map_tx_inj {a b : List (List Nat)} (h : a.map tx = b.map tx) : a = b := by
  have e : ∀ l : List (List Nat), (l.map tx).map (fun s => s.cps.toList) = l := fun l => by
    rw [List.map_map]
    exact List.map_id _
  rw [← e a, ← e b, h]
theorem txs_map (ps : List (List Nat)) : txs ps = (ps.map tx).map V.str := by
  unfold txs
  rw [List.map_map]
  rfl
/-- the texts of a row, back as rows of signs -/
theorem rows_of (ys : List Str) : ys = (ys.map fun s => s.cps.toList).map tx := by
  rw [List.map_map]
  exact (List.map_id _).symm
theorem drawn_of {n : Nat} {prs : List (List Nat)} {ys : List Str} (h : n ≤ 6) (h1 : 1 ≤ n) (sub : prs.Sublist (pairsOf (alph n))) (pm : ys.Perm (prs.map tx)) (so : sortedS ys = true) : ∃ ps, ys = ps.map tx ∧ Drawn n ps := by
  refine ⟨ys.map fun s => s.cps.toList, rows_of ys, h, h1, fun p hp => ?_, ?_, by rw [← rows_of]; exact so⟩
  · obtain ⟨s, hs, e⟩ := List.mem_map.mp hp
    obtain ⟨q, hq, eq⟩ := List.mem_map.mp (pm.mem_iff.mp hs)
    rw [← e, ← eq]
    exact sub.subset hq
  · have e : (prs.map tx).map (fun s => s.cps.toList) = prs := by
      rw [List.map_map]
      exact List.map_id _
    have pm2 := pm.map (fun s : Str => s.cps.toList)
    rw [e] at pm2
    exact pm2.nodup_iff.mpr ((alph_nodup h).sublist sub)
end TcG
/-! Values that the law calls the same. -/
namespace TcG
open PySem PySem.Spec PyProof.Rows L2
theorem tyx_tup {K : PySem.W.Frag} {H : Hp} {p : Addr} {xs : List V} (h : SqT K H p xs) : TyX K H (.ref p) (.type "tuple") := by
  rcases h with (h | ⟨o, h⟩) | ⟨o, its, n, hk, hc, _⟩
  · exact .base (.tup h)
  · exact .fTuple h
  · exact .kTuple hk hc
/-- the same up to n tuples deep -/
def SameR (K : PySem.W.Frag) (H : Hp) : Nat → V → V → Prop
  | 0, _, _ => False
  | n + 1, x, y => (x = y ∧ flatV x = true) ∨ ∃ p q xs ys, x = .ref p ∧ y = .ref q ∧ SqT K H p xs ∧ SqT K H q ys ∧ xs.length = ys.length ∧ xs.length ≤ 100 ∧ ∀ (i : Nat) a b, xs[i]? = some a → ys[i]? = some b → SameR K H n a b
end TcG
/-! Words that exchanges lead to, searched breadth first. -/
namespace TcG
open PySem PySem.Spec PyProof.Rows L2
theorem len_le_of_mem {α : Type} [DecidableEq α] : ∀ {F G : List α}, F.Nodup → (∀ x ∈ F, x ∈ G) → F.length ≤ G.length
  | [], _, _, _ => Nat.zero_le _
  | x :: r, G, nd, h => by
    have hx : x ∈ G := h x List.mem_cons_self
    obtain ⟨nx, nr⟩ := List.nodup_cons.mp nd
    have ih := len_le_of_mem (F := r) (G := G.erase x) nr fun y hy => (List.mem_erase_of_ne (show y ≠ x from fun e => nx (by rw [← e]; exact hy))).mpr (h y (List.mem_cons_of_mem _ hy))
    have hl := List.length_erase_of_mem hx
    have pos : 0 < G.length := List.length_pos_of_mem hx
    rw [List.length_cons]
    omega
/-- all words of n letters of ls -/
def wordsOf (ls : List Nat) : Nat → List (List Nat)
  | 0 => [[]]
  | n + 1 => ls.flatMap fun c => (wordsOf ls n).map (c :: ·)
theorem wordsOf_mem (ls : List Nat) : ∀ (f : List Nat), (∀ c ∈ f, c ∈ ls) → f ∈ wordsOf ls f.length
  | [], _ => List.mem_singleton.mpr rfl
  | c :: r, h => List.mem_flatMap.mpr ⟨c, h c List.mem_cons_self, List.mem_map.mpr ⟨r, wordsOf_mem ls r fun d hd => h d (List.mem_cons_of_mem _ hd), rfl⟩⟩
theorem flat_const {α β : Type} (k : Nat) (f : α → List β) (h : ∀ x, (f x).length = k) : ∀ l : List α, (l.flatMap f).length = l.length * k
  | [] => by simp
  | x :: r => by rw [List.flatMap_cons, List.length_append, h, flat_const k f h r, List.length_cons, Nat.succ_mul, Nat.add_comm]
theorem wordsOf_len (ls : List Nat) : ∀ n, (wordsOf ls n).length = ls.length ^ n
  | 0 => rfl
  | n + 1 => by
    show (ls.flatMap fun c => (wordsOf ls n).map (c :: ·)).length = _
    rw [flat_const (ls.length ^ n) _ (fun x => by rw [List.length_map, wordsOf_len ls n]), Nat.pow_succ, Nat.mul_comm]
/-- what is found so far -/
structure Grown (ps : List (List Nat)) (a : List Nat) (F : List (List Nat)) : Prop where
  nd : F.Nodup
  has : a ∈ F
  sound : ∀ f ∈ F, Exs ps a f
theorem Grown.bound {ps : List (List Nat)} {a ls : List Nat} {F : List (List Nat)} (g : Grown ps a F) (h : ∀ c ∈ a, c ∈ ls) (hl : ls.length ≤ 5) (ha : a.length ≤ 7) : F.length ≤ 78125 := by
  have h1 : F.length ≤ (wordsOf ls a.length).length := len_le_of_mem g.nd fun f hf => by
    have pm := (g.sound f hf).perm
    have := wordsOf_mem ls f fun c hc => h c (pm.mem_iff.mpr hc)
    rw [← pm.length_eq] at this
    exact this
  rw [wordsOf_len] at h1
  have h2 : ls.length ^ a.length ≤ 5 ^ a.length := Nat.pow_le_pow_left hl _
  have h3 : 5 ^ a.length ≤ 5 ^ 7 := Nat.pow_le_pow_right (by decide) ha
  exact Nat.le_trans h1 (Nat.le_trans h2 (Nat.le_trans h3 (by decide)))
def ClosedTo (ps : List (List Nat)) (F : List (List Nat)) (n : Nat) : Prop := ∀ i, i < n → ∀ f, F[i]? = some f → ∀ g, Ex1 ps f g → g ∈ F
theorem Grown.all {ps : List (List Nat)} {a : List Nat} {F : List (List Nat)} (g : Grown ps a F) (c : ClosedTo ps F F.length) (v : List Nat) : v ∈ F ↔ Exs ps a v := by
  refine ⟨g.sound v, fun h => ?_⟩
  induction h with
  | refl => exact g.has
  | step _ e ih =>
    obtain ⟨i, hi⟩ := List.mem_iff_getElem?.mp ih
    exact c i (List.getElem?_eq_some_iff.mp hi).1 _ hi _ e
theorem Grown.put {ps : List (List Nat)} {a f g : List Nat} {F : List (List Nat)} (h : Grown ps a F) (hf : f ∈ F) (e : Ex1 ps f g) (n : g ∉ F) : Grown ps a (F ++ [g]) where
  nd := List.nodup_append.mpr ⟨h.nd, by simp, fun x hx y hy => by
    rw [List.mem_singleton.mp hy]
    exact fun z => n (z ▸ hx)⟩
  has := List.mem_append_left _ h.has
  sound := fun x hx => by
    rcases List.mem_append.mp hx with hx | hx
    · exact h.sound x hx
    · rw [List.mem_singleton.mp hx]
      exact .step (h.sound f hf) e
theorem ClosedTo.put {ps : List (List Nat)} {F : List (List Nat)} {g : List Nat} {n : Nat} (h : ClosedTo ps F n) (hn : n ≤ F.length) : ClosedTo ps (F ++ [g]) n := fun i hi f hf x e => by
  rw [List.getElem?_append_left (by omega)] at hf
  exact List.mem_append_left _ (h i hi f hf x e)
/-- the known words as a dict's pairs -/
def knownOf (F : List (List Nat)) : List (Key × V) := F.map fun f => (Sum.inr (tx f), .bl true)
theorem known_find (F : List (List Nat)) (g : List Nat) : (valV (knownOf F) (Sum.inr (tx g))).isSome = decide (g ∈ F) := by
  induction F with
  | nil => rfl
  | cons f r ih =>
    show (valV ((Sum.inr (tx f), V.bl true) :: knownOf r) (Sum.inr (tx g))).isSome = _
    by_cases e : f = g
    · rw [valV_pos (by rw [e])]
      simp [e]
    · rw [valV_neg (fun z => e (tx_inj (Sum.inr.inj z))), ih]
      have : g ≠ f := fun z => e z.symm
      simp [this]
theorem known_put {F : List (List Nat)} {g : List Nat} (h : g ∉ F) : putK (knownOf F) (Sum.inr (tx g)) (.bl true) = knownOf (F ++ [g]) := by
  unfold putK
  have : ((knownOf F).any fun kv => decide (kv.1 = Sum.inr (tx g))) = false := by
    rw [List.any_eq_false]
    intro kv hk z
    obtain ⟨f, hf, e⟩ := List.mem_map.mp hk
    rw [← e] at z
    exact h (tx_inj (Sum.inr.inj (of_decide_eq_true z)) ▸ hf)
  rw [this, if_neg Bool.false_ne_true]
  unfold knownOf
  rw [List.map_append]
  rfl
end TcG
/-! Words are alike exactly if nothing parts them. -/
namespace TcG
open PySem PySem.Spec PyProof.Rows L2
variable {ps : List (List Nat)} {ls : List Nat}
theorem Ex1.pre {a b : List Nat} (r : List Nat) (h : Ex1 ps a b) : Ex1 ps (r ++ a) (r ++ b) := by
  obtain ⟨p, q, x, y, hi⟩ := h
  have := Ex1.mk (r ++ p) q x y hi
  rw [List.append_assoc, List.append_assoc] at this
  exact this
theorem Ex1.post {a b : List Nat} (r : List Nat) (h : Ex1 ps a b) : Ex1 ps (a ++ r) (b ++ r) := by
  obtain ⟨p, q, x, y, hi⟩ := h
  have := Ex1.mk p (q ++ r) x y hi
  simpa using this
theorem Exs.pre {a b : List Nat} (r : List Nat) (h : Exs ps a b) : Exs ps (r ++ a) (r ++ b) := by
  induction h with
  | refl => exact .refl _
  | step _ e ih => exact .step ih (e.pre r)
theorem Exs.post {a b : List Nat} (r : List Nat) (h : Exs ps a b) : Exs ps (a ++ r) (b ++ r) := by
  induction h with
  | refl => exact .refl _
  | step _ e ih => exact .step ih (e.post r)
theorem Ex1.symm {a b : List Nat} (h : Ex1 ps a b) : Ex1 ps b a := by
  obtain ⟨p, q, x, y, hi⟩ := h
  exact .mk p q y x (by rw [ind_comm]; exact hi)
theorem Exs.symm {a b : List Nat} (h : Exs ps a b) : Exs ps b a := by
  induction h with
  | refl => exact .refl _
  | step _ e ih => exact (Exs.one e.symm).trans ih
/-- a letter passes letters that are independent of it -/
theorem bubble (x : Nat) (q : List Nat) : ∀ p : List Nat, (∀ y ∈ p, ind ps y x = true) → Exs ps (p ++ x :: q) (x :: (p ++ q))
  | [], _ => .refl _
  | y :: p, h => by
    have ih := bubble x q p fun z hz => h z (List.mem_cons_of_mem _ hz)
    have h1 : Exs ps (y :: (p ++ x :: q)) (y :: x :: (p ++ q)) := ih.pre [y]
    exact .step h1 (Ex1.mk [] (p ++ q) y x (h y List.mem_cons_self))

theorem keepM_append (l a b : List Nat) : keepM l (a ++ b) = keepM l a ++ keepM l b := by
  unfold keepM
  rw [List.filter_append]
theorem keepM_cons_in {l : List Nat} {c : Nat} (h : c ∈ l) (a : List Nat) : keepM l (c :: a) = c :: keepM l a := by
  unfold keepM
  rw [List.filter_cons, if_pos (decide_eq_true h)]
theorem keepM_cons_out {l : List Nat} {c : Nat} (h : c ∉ l) (a : List Nat) : keepM l (c :: a) = keepM l a := by
  unfold keepM
  rw [List.filter_cons, if_neg (by rw [decide_eq_false h]; exact Bool.false_ne_true)]
theorem keepM_none {l a : List Nat} (h : ∀ c ∈ a, c ∉ l) : keepM l a = [] := by
  unfold keepM
  rw [List.filter_eq_nil_iff]
  intro c hc z
  exact h c hc (of_decide_eq_true z)
theorem keepM_swap (u v : Nat) (a : List Nat) : keepM [u, v] a = keepM [v, u] a := by
  unfold keepM
  refine List.filter_congr fun c _ => ?_
  rw [Bool.eq_iff_iff, decide_eq_true_eq, decide_eq_true_eq]
  simp only [List.mem_cons, List.not_mem_nil, or_false]
  exact Or.comm

/-- the words of all dependent letters are the same in both -/
def KeepsM (ls : List Nat) (ps : List (List Nat)) (a b : List Nat) : Prop := ∀ u v, u ∈ ls → v ∈ ls → u ≠ v → ind ps u v = false → keepM [u, v] a = keepM [u, v] b

theorem split_first {x : Nat} : ∀ {a : List Nat}, x ∈ a → ∃ p q, a = p ++ x :: q ∧ x ∉ p
  | [], h => nomatch h
  | c :: r, h => by
    by_cases e : c = x
    · exact ⟨[], r, by rw [e]; rfl, by simp⟩
    · have hr : x ∈ r := by
        rcases List.mem_cons.mp h with z | z
        · exact absurd z.symm e
        · exact z
      obtain ⟨p, q, e1, e2⟩ := split_first hr
      refine ⟨c :: p, q, by rw [e1]; rfl, fun z => ?_⟩
      rcases List.mem_cons.mp z with z | z
      · exact e z.symm
      · exact e2 z

theorem alike_of_keeps : ∀ (b a : List Nat), (∀ c ∈ a, c ∈ ls) → (∀ c ∈ b, c ∈ ls) → a.Perm b → KeepsM ls ps a b → Exs ps a b
  | [], a, _, _, pm, _ => by
    rw [pm.eq_nil]
    exact .refl _
  | x :: b, a, ia, ib, pm, kp => by
    have hx : x ∈ a := pm.mem_iff.mpr List.mem_cons_self
    obtain ⟨p, q, rfl, nx⟩ := split_first hx
    have xl : x ∈ ls := ib x List.mem_cons_self
    have free : ∀ y ∈ p, ind ps y x = true := fun y hy => by
      cases e : ind ps y x with
      | true => rfl
      | false =>
        exfalso
        have ne : y ≠ x := fun z => nx (z ▸ hy)
        have k := kp y x (ia y (List.mem_append_left _ hy)) xl ne e
        rw [keepM_append, keepM_cons_in (by simp) b] at k
        -- the first of both letters in p is y
        have hk : ∀ c ∈ keepM [y, x] p, c = y := fun c hc => by
          obtain ⟨h1, h2⟩ := List.mem_filter.mp hc
          have h2 := of_decide_eq_true h2
          rcases List.mem_cons.mp h2 with z | z
          · exact z
          · rw [List.mem_singleton.mp z] at h1
            exact absurd h1 nx
        have hy2 : y ∈ keepM [y, x] p := List.mem_filter.mpr ⟨hy, decide_eq_true List.mem_cons_self⟩
        cases ek : keepM [y, x] p with
        | nil =>
          rw [ek] at hy2
          cases hy2
        | cons c r =>
          rw [ek] at k hk
          have := hk c List.mem_cons_self
          rw [List.cons_append] at k
          have k1 := (List.cons.inj k).1
          exact ne (this ▸ k1)
    have go : Exs ps (p ++ x :: q) (x :: (p ++ q)) := bubble x q p free
    have pm2 : (p ++ q).Perm b := by
      have h1 : (x :: (p ++ q)).Perm (x :: b) := go.perm.symm.trans pm
      exact h1.cons_inv
    have kp2 : KeepsM ls ps (p ++ q) b := fun u v hu hv ne hi => by
      have k := kp u v hu hv ne hi
      by_cases hm : x ∈ [u, v]
      · have none : keepM [u, v] p = [] := keepM_none fun c hc z => by
          have f := free c hc
          have cx : c ≠ x := fun z => nx (z ▸ hc)
          have : ind ps c x = false := by
            rcases List.mem_cons.mp hm with m | m
            · rcases List.mem_cons.mp z with z | z
              · exact absurd (z.trans m.symm) cx
              · rw [List.mem_singleton.mp z, m, ind_comm]
                exact hi
            · have m := List.mem_singleton.mp m
              rcases List.mem_cons.mp z with z | z
              · rw [z, m]
                exact hi
              · exact absurd ((List.mem_singleton.mp z).trans m.symm) cx
          rw [f] at this
          cases this
        rw [keepM_append, none, keepM_cons_in hm, keepM_cons_in hm] at k
        rw [keepM_append, none]
        exact (List.cons.inj k).2
      · rw [keepM_append, keepM_cons_out hm, keepM_cons_out hm] at k
        rw [keepM_append]
        exact k
    have ih := alike_of_keeps b (p ++ q) (fun c hc => ia c (by
      rcases List.mem_append.mp hc with h | h
      · exact List.mem_append_left _ h
      · exact List.mem_append_right _ (List.mem_cons_of_mem _ h))) (fun c hc => ib c (List.mem_cons_of_mem _ hc)) pm2 kp2
    exact go.trans (ih.pre [x])

theorem Ex1.keeps (pr : Pairs ls ps) {a b : List Nat} (h : Ex1 ps a b) {u v : Nat} (hi : ind ps u v = false) : keepM [u, v] a = keepM [u, v] b := by
  obtain ⟨p, q, x, y, hxy⟩ := h
  rw [keepM_append, keepM_append]
  congr 1
  by_cases hx : x ∈ [u, v]
  · by_cases hy : y ∈ [u, v]
    · exfalso
      have ne : x ≠ y := fun z => by
        rw [z, ind_self pr] at hxy
        cases hxy
      simp only [List.mem_cons, List.not_mem_nil, or_false] at hx hy
      rcases hx with hx | hx <;> rcases hy with hy | hy
      · exact ne (hx.trans hy.symm)
      · rw [hx, hy, hi] at hxy
        cases hxy
      · rw [hx, hy, ind_comm, hi] at hxy
        cases hxy
      · exact ne (hx.trans hy.symm)
    · rw [keepM_cons_in hx, keepM_cons_out hy, keepM_cons_out hy, keepM_cons_in hx]
  · rw [keepM_cons_out hx]
    by_cases hy : y ∈ [u, v]
    · rw [keepM_cons_in hy, keepM_cons_in hy, keepM_cons_out hx]
    · rw [keepM_cons_out hy, keepM_cons_out hy, keepM_cons_out hx]
theorem Exs.keeps (pr : Pairs ls ps) {a b : List Nat} (h : Exs ps a b) {u v : Nat} (hi : ind ps u v = false) : keepM [u, v] a = keepM [u, v] b := by
  induction h with
  | refl => rfl
  | step _ e ih => exact ih.trans (e.keeps pr hi)

theorem orderOf_none {o : Option (List Nat)} (h : ∀ p, o = some p → ∃ x y, p = [x, y]) (e : orderOf o = none) : o = none := by
  cases o with
  | none => rfl
  | some p =>
    obtain ⟨x, y, rfl⟩ := h p rfl
    cases e
theorem mem_pairsOf {x y : Nat} (hx : x ∈ ls) (hy : y ∈ ls) (lt : x < y) : [x, y] ∈ pairsOf ls :=
  List.mem_flatMap.mpr ⟨x, hx, List.mem_map.mpr ⟨y, List.mem_filter.mpr ⟨hy, decide_eq_true lt⟩, rfl⟩⟩
/-- THE PROMISE [e2]: nothing parts two words exactly if they are alike -/
theorem partsM_none (pr : Pairs ls ps) {a b : List Nat} (ia : ∀ c ∈ a, c ∈ ls) (ib : ∀ c ∈ b, c ∈ ls) : partsM ls ps a b = none ↔ Exs ps a b := by
  constructor
  · intro h
    have h1 : ls.find? (countsApart a b) = none := by
      cases e : ls.find? (countsApart a b) with
      | none => rfl
      | some c =>
        rw [partsM_count e] at h
        cases h
    rw [partsM_order h1] at h
    have h2 : (pairsOf ls).find? (parted ps a b) = none := orderOf_none (fun p hp => by
      obtain ⟨x, y, e, _⟩ := pairsOf_mem (List.mem_of_find?_eq_some hp)
      exact ⟨x, y, e⟩) h
    have pm : a.Perm b := List.perm_iff_count.mpr fun c => by
      by_cases hc : c ∈ ls
      · have := List.find?_eq_none.mp h1 c hc
        unfold countsApart at this
        simpa using this
      · rw [List.count_eq_zero_of_not_mem fun z => hc (ia c z), List.count_eq_zero_of_not_mem fun z => hc (ib c z)]
    refine alike_of_keeps b a ia ib pm fun u v hu hv ne hi => ?_
    have key : ∀ x y, x ∈ ls → y ∈ ls → x < y → ind ps x y = false → keepM [x, y] a = keepM [x, y] b := fun x y hx hy lt hi => by
      have := List.find?_eq_none.mp h2 [x, y] (mem_pairsOf hx hy lt)
      rw [parted_two, hi] at this
      simpa using this
    by_cases lt : u < v
    · exact key u v hu hv lt hi
    · rw [keepM_swap u v a, keepM_swap u v b]
      exact key v u hv hu (by omega) (by rw [ind_comm]; exact hi)
  · intro h
    have h1 : ls.find? (countsApart a b) = none := find_no fun c _ => decide_eq_false fun z => z (h.perm.count_eq c)
    rw [partsM_order h1]
    have h2 : (pairsOf ls).find? (parted ps a b) = none := find_no fun d hd => by
      obtain ⟨x, y, rfl, _⟩ := pairsOf_mem hd
      rw [parted_two]
      cases e : ind ps x y with
      | true => rfl
      | false =>
        rw [h.keeps pr e]
        simp
    rw [h2]
    rfl
end TcG
/-! Rows of exchanges; as few as can be. -/
namespace TcG
open PySem PySem.Spec PyProof.Rows L2
variable {ps : List (List Nat)} {ls : List Nat}
def canAt (ps : List (List Nat)) (w : List Nat) (z : Int) : Bool := decide (0 ≤ z) && (decide (z < (w.length : Int) - 1) && (match w[z.toNat]?, w[z.toNat + 1]? with | some x, some y => ind ps x y | _, _ => false))
/-- the word behind exchanges at these places, and the number of the first that is not possible -/
def runEx (ps : List (List Nat)) : List Nat → List Int → Nat → List Nat × Option Nat
  | w, [], _ => (w, none)
  | w, z :: r, k => if canAt ps w z = true then runEx ps (swapAt w z.toNat) r (k + 1) else (w, some k)
theorem runEx_go {w : List Nat} {z : Int} (r : List Int) (k : Nat) (h : canAt ps w z = true) : runEx ps w (z :: r) k = runEx ps (swapAt w z.toNat) r (k + 1) := by
  rw [runEx, if_pos h]
theorem runEx_no {w : List Nat} {z : Int} (r : List Int) (k : Nat) (h : canAt ps w z = false) : runEx ps w (z :: r) k = (w, some k) := by
  rw [runEx, if_neg (by rw [h]; exact Bool.false_ne_true)]
def desc (n : Nat) : Nat → List Nat
  | 0 => []
  | j + 1 => (n + j) :: desc n j
theorem desc_len (n : Nat) : ∀ j, (desc n j).length = j
  | 0 => rfl
  | j + 1 => by
    show (desc n j).length + 1 = j + 1
    rw [desc_len n j]
/-- the places of exchanges that lead from the one to the other, letter by letter -/
def exL : Nat → List Nat → List Nat → List Nat
  | _, _, [] => []
  | n, rest, x :: b => desc n (rest.idxOf x) ++ exL (n + 1) (rest.erase x) b
def KeepsA (ps : List (List Nat)) (a b : List Nat) : Prop := ∀ u v, ind ps u v = false → keepM [u, v] a = keepM [u, v] b
theorem Exs.keepsA (pr : Pairs ls ps) {a b : List Nat} (h : Exs ps a b) : KeepsA ps a b := fun u v hi => h.keeps pr hi
theorem keepsA_step (pr : Pairs ls ps) {a b : List Nat} {x : Nat} (kp : KeepsA ps a (x :: b)) : ∃ p q, a = p ++ x :: q ∧ x ∉ p ∧ (∀ y ∈ p, ind ps y x = true) ∧ KeepsA ps (p ++ q) b := by
  have hx : x ∈ a := by
    have k := kp x x (ind_self pr x)
    have m : x ∈ keepM [x, x] (x :: b) := List.mem_filter.mpr ⟨List.mem_cons_self, decide_eq_true List.mem_cons_self⟩
    rw [← k] at m
    exact (List.mem_filter.mp m).1
  obtain ⟨p, q, rfl, nx⟩ := split_first hx
  have free : ∀ y ∈ p, ind ps y x = true := fun y hy => by
    cases e : ind ps y x with
    | true => rfl
    | false =>
      exfalso
      have k := kp y x e
      rw [keepM_append, keepM_cons_in (by simp) b] at k
      have only : ∀ c ∈ keepM [y, x] p, c = y := fun c hc => by
        obtain ⟨h1, h2⟩ := List.mem_filter.mp hc
        rcases List.mem_cons.mp (of_decide_eq_true h2) with z | z
        · exact z
        · rw [List.mem_singleton.mp z] at h1
          exact absurd h1 nx
      have hy2 : y ∈ keepM [y, x] p := List.mem_filter.mpr ⟨hy, decide_eq_true List.mem_cons_self⟩
      cases ek : keepM [y, x] p with
      | nil =>
        rw [ek] at hy2
        cases hy2
      | cons c r =>
        rw [ek] at k only
        have ec := only c List.mem_cons_self
        rw [List.cons_append] at k
        have k1 := (List.cons.inj k).1
        exact nx (by rw [← k1, ec]; exact hy)
  refine ⟨p, q, rfl, nx, free, fun u v hi => ?_⟩
  have k := kp u v hi
  by_cases hm : x ∈ [u, v]
  · have none : keepM [u, v] p = [] := keepM_none fun c hc z => by
      have f := free c hc
      have bad : ind ps c x = false := by
        rcases List.mem_cons.mp hm with m | m
        · rcases List.mem_cons.mp z with z | z
          · rw [z, m]
            exact ind_self pr u
          · rw [List.mem_singleton.mp z, m, ind_comm]
            exact hi
        · have m := List.mem_singleton.mp m
          rcases List.mem_cons.mp z with z | z
          · rw [z, m]
            exact hi
          · rw [List.mem_singleton.mp z, m]
            exact ind_self pr v
      rw [f] at bad
      cases bad
    rw [keepM_append, none, keepM_cons_in hm, keepM_cons_in hm] at k
    rw [keepM_append, none]
    exact (List.cons.inj k).2
  · rw [keepM_append, keepM_cons_out hm, keepM_cons_out hm] at k
    rw [keepM_append]
    exact k
theorem keepsA_nil (pr : Pairs ls ps) {a : List Nat} (kp : KeepsA ps a []) : a = [] := by
  cases a with
  | nil => rfl
  | cons x r =>
    have k := kp x x (ind_self pr x)
    rw [keepM_cons_in List.mem_cons_self] at k
    cases k
theorem idx_first {x : Nat} {p q : List Nat} (nx : x ∉ p) : (p ++ x :: q).idxOf x = p.length := by
  induction p with
  | nil => exact List.idxOf_cons_self
  | cons y p ih =>
    have ne : ¬ y = x := fun z => nx (by rw [z]; exact List.mem_cons_self)
    have e := ih fun z => nx (List.mem_cons_of_mem _ z)
    rw [List.cons_append, List.idxOf_cons, e]
    have : (y == x) = false := by simpa using ne
    rw [this]
    rfl
theorem erase_first {x : Nat} {p q : List Nat} (nx : x ∉ p) : (p ++ x :: q).erase x = p ++ q := by
  rw [List.erase_append_right _ nx, List.erase_cons_head]
/-- a letter goes ahead of the letters of p -/
theorem run_move (pre : List Nat) (x : Nat) (more : List Nat) : ∀ (n : Nat) (p q : List Nat) (k : Nat), p.length = n → (∀ y ∈ p, ind ps y x = true) →
    runEx ps (pre ++ (p ++ x :: q)) ((desc pre.length n ++ more).map Int.ofNat) k = runEx ps (pre ++ x :: (p ++ q)) (more.map Int.ofNat) (k + n)
  | 0, p, q, k, hl, _ => by
    obtain rfl : p = [] := List.eq_nil_of_length_eq_zero hl
    rfl
  | n + 1, p, q, k, hl, free => by
    obtain ⟨r, y, rfl⟩ : ∃ r y, p = r ++ [y] := ⟨p.dropLast, p.getLast (fun z => by rw [z] at hl; cases hl), (List.dropLast_concat_getLast _).symm⟩
    have lr : r.length = n := by simpa using hl
    have ew : pre ++ ((r ++ [y]) ++ x :: q) = (pre ++ r) ++ y :: x :: q := by simp
    have lpr : (pre ++ r).length = pre.length + n := by rw [List.length_append, lr]
    have hy : ((pre ++ r) ++ y :: x :: q)[pre.length + n]? = some y := by rw [← lpr]; simp
    have hx : ((pre ++ r) ++ y :: x :: q)[pre.length + n + 1]? = some x := by
      rw [← lpr, List.getElem?_append_right (by omega), show (pre ++ r).length + 1 - (pre ++ r).length = 1 by omega]
      rfl
    have can : canAt ps ((pre ++ r) ++ y :: x :: q) (Int.ofNat (pre.length + n)) = true := by
      unfold canAt
      rw [show (Int.ofNat (pre.length + n)).toNat = pre.length + n from rfl, hy, hx]
      have e1 : decide (0 ≤ Int.ofNat (pre.length + n)) = true := decide_eq_true (Int.natCast_nonneg _)
      have e2 : decide (Int.ofNat (pre.length + n) < ((((pre ++ r) ++ y :: x :: q).length : Nat) : Int) - 1) = true := decide_eq_true (by
        rw [List.length_append, lpr, List.length_cons, List.length_cons]
        show ((pre.length + n : Nat) : Int) < _
        omega)
      rw [e1, e2]
      exact free y (by simp)
    have sw : swapAt ((pre ++ r) ++ y :: x :: q) (pre.length + n) = pre ++ (r ++ x :: (y :: q)) := by
      rw [swapAt_eq hy hx, ← lpr, List.take_left]
      have : ((pre ++ r) ++ y :: x :: q).drop ((pre ++ r).length + 2) = q := by
        rw [← List.drop_drop, List.drop_left]
        rfl
      rw [this]
      simp
    show runEx ps (pre ++ ((r ++ [y]) ++ x :: q)) (Int.ofNat (pre.length + n) :: (desc pre.length n ++ more).map Int.ofNat) k = _
    rw [ew, runEx_go _ k can, show (Int.ofNat (pre.length + n)).toNat = pre.length + n from rfl, sw, run_move pre x more n r (y :: q) (k + 1) lr fun z hz => free z (List.mem_append_left _ hz)]
    have e3 : r ++ [y] ++ q = r ++ y :: q := by simp
    rw [e3, show k + 1 + n = k + (n + 1) by omega]
theorem run_exL (pr : Pairs ls ps) : ∀ (b a pre : List Nat) (k : Nat), KeepsA ps a b → ∃ n, runEx ps (pre ++ a) ((exL pre.length a b).map Int.ofNat) k = (pre ++ b, none) ∧ n = k
  | [], a, pre, k, kp => by
    rw [keepsA_nil pr kp]
    exact ⟨k, rfl, rfl⟩
  | x :: b, a, pre, k, kp => by
    obtain ⟨p, q, rfl, nx, free, kp2⟩ := keepsA_step pr kp
    unfold exL
    rw [idx_first nx, erase_first nx, run_move pre x _ p.length p q k rfl free]
    obtain ⟨n, h, _⟩ := run_exL pr b (p ++ q) (pre ++ [x]) (k + p.length) kp2
    have el : (pre ++ [x]).length = pre.length + 1 := by simp
    rw [el] at h
    refine ⟨k, ?_, rfl⟩
    have e1 : pre ++ x :: (p ++ q) = pre ++ [x] ++ (p ++ q) := by simp
    have e2 : pre ++ x :: b = pre ++ [x] ++ b := by simp
    rw [e1, e2]
    exact h

/-! how many pairs stand the other way round -/
/-- the place of the letter c of which n stand before it -/
def nth : List Nat → Nat → Nat → Nat
  | [], _, _ => 0
  | x :: b, c, n => if x = c then (match n with | 0 => 0 | n + 1 => nth b c n + 1) else nth b c n + 1
theorem nth_first (b : List Nat) (x : Nat) : nth (x :: b) x 0 = 0 := by simp [nth]
theorem nth_hit (b : List Nat) (x n : Nat) : nth (x :: b) x (n + 1) = nth b x n + 1 := by simp [nth]
theorem nth_miss {x c : Nat} (b : List Nat) (n : Nat) (h : ¬ x = c) : nth (x :: b) c n = nth b c n + 1 := by simp [nth, h]
def spots (b : List Nat) : List Nat → List Nat → List Nat
  | _, [] => []
  | seen, c :: r => nth b c (seen.count c) :: spots b (c :: seen) r
def inverts : List Nat → Nat
  | [] => 0
  | x :: r => (r.filter fun y => decide (y < x)).length + inverts r
theorem spots_len (b : List Nat) : ∀ a seen, (spots b seen a).length = a.length
  | [], _ => rfl
  | c :: r, seen => by
    show (spots b (c :: seen) r).length + 1 = r.length + 1
    rw [spots_len b r]
theorem spots_append (b : List Nat) : ∀ p seen q, spots b seen (p ++ q) = spots b seen p ++ spots b (p.reverse ++ seen) q
  | [], _, _ => rfl
  | c :: p, seen, q => by
    show nth b c (seen.count c) :: spots b (c :: seen) (p ++ q) = nth b c (seen.count c) :: (spots b (c :: seen) p ++ _)
    rw [spots_append b p (c :: seen) q, List.reverse_cons, List.append_assoc]
    rfl
/-- behind the first x: what was counted for x is one more -/
theorem spots_behind {b : List Nat} {x : Nat} : ∀ (q S T : List Nat), (∀ c, c ≠ x → S.count c = T.count c) → S.count x = T.count x + 1 → spots (x :: b) S q = (spots b T q).map (· + 1)
  | [], _, _, _, _ => rfl
  | c :: q, S, T, h1, h2 => by
    have ih := spots_behind (b := b) q (c :: S) (c :: T) (fun d hd => by rw [List.count_cons, List.count_cons, h1 d hd]) (by rw [List.count_cons, List.count_cons, h2]; omega)
    show nth (x :: b) c (S.count c) :: spots (x :: b) (c :: S) q = (nth b c (T.count c) + 1) :: (spots b (c :: T) q).map (· + 1)
    rw [ih]
    congr 1
    by_cases e : x = c
    · rw [← e, h2, nth_hit]
    · rw [nth_miss _ _ e, h1 c fun z => e z.symm]
theorem spots_ahead {b : List Nat} {x : Nat} : ∀ (p S : List Nat), x ∉ p → spots (x :: b) S p = (spots b S p).map (· + 1)
  | [], _, _ => rfl
  | c :: p, S, nx => by
    have ne : ¬ x = c := fun z => nx (by rw [z]; exact List.mem_cons_self)
    have ih := spots_ahead (b := b) p (c :: S) fun z => nx (List.mem_cons_of_mem _ z)
    show nth (x :: b) c (S.count c) :: spots (x :: b) (c :: S) p = (nth b c (S.count c) + 1) :: (spots b (c :: S) p).map (· + 1)
    rw [ih]
    congr 1
    rw [nth_miss _ _ ne]
theorem spots_same {b : List Nat} : ∀ (q S T : List Nat), (∀ c, S.count c = T.count c) → spots b S q = spots b T q
  | [], _, _, _ => rfl
  | c :: q, S, T, h => by
    show nth b c (S.count c) :: spots b (c :: S) q = nth b c (T.count c) :: spots b (c :: T) q
    rw [h c, spots_same q (c :: S) (c :: T) fun d => by rw [List.count_cons, List.count_cons, h d]]
theorem inverts_put : ∀ u v : List Nat, inverts (u.map (· + 1) ++ 0 :: v.map (· + 1)) = u.length + inverts (u ++ v)
  | [], v => by
    show (List.filter (fun y => decide (y < 0)) (v.map (· + 1))).length + inverts (v.map (· + 1)) = 0 + inverts v
    have e0 : List.filter (fun y => decide (y < 0)) (v.map (· + 1)) = [] := List.filter_eq_nil_iff.mpr fun y _ z => absurd (of_decide_eq_true z) (Nat.not_lt_zero y)
    have e1 : ∀ v : List Nat, inverts (v.map (· + 1)) = inverts v := fun v => by
      induction v with
      | nil => rfl
      | cons y r ih =>
        show (List.filter (fun z => decide (z < y + 1)) (r.map (· + 1))).length + inverts (r.map (· + 1)) = (List.filter (fun z => decide (z < y)) r).length + inverts r
        rw [ih, List.filter_map, List.length_map]
        congr 2
        refine List.filter_congr fun z _ => ?_
        simp
    rw [e0, e1]
    rfl
  | t :: u, v => by
    show (List.filter (fun y => decide (y < t + 1)) (u.map (· + 1) ++ 0 :: v.map (· + 1))).length + inverts (u.map (· + 1) ++ 0 :: v.map (· + 1)) = u.length + 1 + ((List.filter (fun y => decide (y < t)) (u ++ v)).length + inverts (u ++ v))
    rw [inverts_put u v, List.filter_append, List.filter_append, List.filter_cons, if_pos (by simp), List.filter_map, List.filter_map, List.length_append, List.length_cons, List.length_map, List.length_map, List.length_append]
    have e : ∀ l : List Nat, List.filter ((fun y => decide (y < t + 1)) ∘ (· + 1)) l = List.filter (fun y => decide (y < t)) l := fun l => List.filter_congr fun z _ => by simp
    rw [e u, e v]
    omega
/-- as many exchanges as pairs stand the other way round -/
theorem exL_least (pr : Pairs ls ps) : ∀ (b a : List Nat) (n : Nat), KeepsA ps a b → (exL n a b).length = inverts (spots b [] a)
  | [], a, n, kp => by
    rw [keepsA_nil pr kp]
    rfl
  | x :: b, a, n, kp => by
    obtain ⟨p, q, rfl, nx, free, kp2⟩ := keepsA_step pr kp
    unfold exL
    rw [idx_first nx, erase_first nx, List.length_append, desc_len, exL_least pr b (p ++ q) (n + 1) kp2, spots_append, spots_append]
    have e0 : spots (x :: b) (p.reverse ++ []) (x :: q) = 0 :: spots (x :: b) (x :: (p.reverse ++ [])) q := by
      show nth (x :: b) x ((p.reverse ++ []).count x) :: _ = _
      have z : (p.reverse ++ []).count x = 0 := List.count_eq_zero_of_not_mem (by simpa using nx)
      rw [z, nth_first]
    rw [e0, spots_ahead p [] nx, spots_behind q (x :: (p.reverse ++ [])) (p.reverse ++ []) (fun c hc => by rw [List.count_cons, if_neg (by simpa using fun z : x = c => hc z.symm)]; rfl) (by rw [List.count_cons, if_pos (by simp)]), inverts_put, spots_len]
theorem exL_len : ∀ (b a : List Nat) (n : Nat), (exL n a b).length ≤ b.length * (a.length + 1)
  | [], a, n => Nat.zero_le _
  | x :: b, a, n => by
    unfold exL
    have ih := exL_len b (a.erase x) (n + 1)
    have h1 : (a.erase x).length ≤ a.length := List.length_erase_le
    have h2 : a.idxOf x ≤ a.length := List.idxOf_le_length
    have h3 : b.length * ((a.erase x).length + 1) ≤ b.length * (a.length + 1) := Nat.mul_le_mul_left _ (by omega)
    rw [List.length_append, desc_len, List.length_cons, Nat.succ_mul]
    omega
theorem swapAt_len {l : List Nat} {k : Nat} (h : k + 1 < l.length) : (swapAt l k).length = l.length := by
  rw [swapAt_eq (List.getElem?_eq_getElem (by omega : k < l.length)) (List.getElem?_eq_getElem h)]
  simp only [List.length_append, List.length_take, List.length_drop, List.length_cons, List.length_nil]
  omega
theorem canAt_bounds {w : List Nat} {z : Int} (h : canAt ps w z = true) : ∃ k : Nat, z = (k : Int) ∧ k + 1 < w.length := by
  unfold canAt at h
  obtain ⟨h1, h2⟩ := Bool.and_eq_true_iff.mp h
  obtain ⟨h2, _⟩ := Bool.and_eq_true_iff.mp h2
  have a := of_decide_eq_true h1
  have b := of_decide_eq_true h2
  exact ⟨z.toNat, by omega, by omega⟩
theorem canAt_in {w : List Nat} {k x y : Nat} (hx : w[k]? = some x) (hy : w[k + 1]? = some y) : canAt ps w (k : Int) = ind ps x y := by
  obtain ⟨lt, _⟩ := List.getElem?_eq_some_iff.mp hy
  unfold canAt
  rw [show ((k : Int)).toNat = k from rfl, hx, hy, decide_eq_true (by omega : (0 : Int) ≤ (k : Int)), decide_eq_true (by omega : (k : Int) < (w.length : Int) - 1)]
  rfl
theorem canAt_out {w : List Nat} {z : Int} (h : ¬ (0 ≤ z ∧ z < (w.length : Int) - 1)) : canAt ps w z = false := by
  unfold canAt
  by_cases a : (0 : Int) ≤ z
  · rw [decide_eq_false (fun b : z < (w.length : Int) - 1 => h ⟨a, b⟩)]
    simp
  · rw [decide_eq_false a]
    rfl
theorem canAt_mem {w : List Nat} {z : Int} (h : canAt ps w z = true) {c : Nat} (hc : c ∈ swapAt w z.toNat) : c ∈ w := by
  obtain ⟨k, rfl, lt⟩ := canAt_bounds h
  rw [show ((k : Int)).toNat = k from rfl, swapAt_eq (List.getElem?_eq_getElem (by omega : k < w.length)) (List.getElem?_eq_getElem lt)] at hc
  simp only [List.mem_append, List.mem_singleton] at hc
  rcases hc with ((hc | hc) | hc) | hc
  · exact List.mem_of_mem_take hc
  · rw [hc]
    exact List.getElem_mem lt
  · rw [hc]
    exact List.getElem_mem _
  · exact List.mem_of_mem_drop hc
end TcG
/-! The __init__ of an own error below ValueError: super().__init__(text); self.x = y. -/
namespace TcG
open PySem PySem.Spec PyProof.Rows L2 NdefX
/-- what the written part says of the class D and its __init__ -/
structure InitC (P : Program) (K : PySem.W.Frag) (mg : Str → Option Value) (D : Addr) (F : NF) (cc : Addr) : Prop where
  cl : F.cl = [(("__class__" : Str), cc)]
  code : PySem.W.codeIn K (.ref F.c) F.qual = true
  file : ∃ (ccl : Value) (cdd : Option Addr) (vs : Array Value) (ccs : Array (Option Value)) (fl : Str) (tf : Tok), K.lookup F.c = some ⟨ccl, cdd, .fields vs, ccs⟩ ∧ vs[2]? = some (.str fl tf) ∧ ((P.main.file : Str) == fl) = true
  cell : ∃ (cl : Value) (cld : Option Addr) (csl : Array (Option Value)), K.lookup cc = some ⟨cl, cld, .cell (some (.ref D)), csl⟩
  clsD : ∃ cd, PySem.W.clsIn K D = some cd
  top : (P.main.scope.names.lookup ("super" : Str)).isSome = false
  sup : mg "super" = none
  init : PySem.W.ks_superIn K D D "__init__" = some (some (.builtin "ValueError.__init__"))
  below : PySem.W.subIn K (.ref D) (.type "ValueError") = some true
  self : PySem.W.mroIn K D (.ref D) = some true
  opaq : PySem.W.nsIn K cStatics "thirdparty.any" = some none
  oex : OexC K D

section
variable {P : Program} {w : World} {K : PySem.W.Frag} {mg : Str → Option Value} {base : Heap}
theorem fn_super {D f cc : Addr} {F : NF} {N ps : List Str} {k : Nat} {sp : Sp} {e : Expr} {rest : List Stmt} {p0 p1 p2 p3 p4 : Pos} {self : Str} {ar : Arg} {pl : Env → Sem Bool}
    {oc kV doc pm ct : Value} {od an : Option Addr} {osl : Array (Option Value)} (lk : K.lookup f = some ⟨oc, od, .func (PySem.W.fnX F.name F.qual F.params F.body F.scope F.cl .none kV doc pm an (.ref F.c) ct), osl⟩)
    (C : InitC P K mg D F cc) (S : NScope N (self :: ps) ["__class__"] F.scope)
    (hbd : F.body = .Expr (.Call (.Attribute (.Call (.Name "super" p0) [] [] p1) "__init__" p2) [e] [] p3) p4 :: rest) (hpar : (F.params.posonlyargs ++ F.params.args).head? = some ar) (har : ar.arg = self) (hks : F.scope.names.lookup ("super" : Str) = some .globalImplicit)
    (len : ∀ vs H Q E, sp vs H Q E → vs.length = (self :: ps).length)
    (hstar : ∀ env : Env, starEach [e] env = [(false, eval e env)])
    (hform : ∀ env : Env, eval (.Call (.Attribute (.Call (.Name "super" p0) [] [] p1) "__init__" p2) [e] [] p3) env = (do
      let ov ← attributeBase (.Call (.Name "super" p0) [] [] p1) "__init__" env (eval (.Call (.Name "super" p0) [] [] p1) env)
      standAt p2.atName
      let (f, first) ← holding [ov] (getMethod ov "__init__" (pl env))
      callWith p3 f first (backTo p3 (starEach [e] env)) []))
    (hs : ∀ env : Env, swapsWith (.Call (.Attribute (.Call (.Name "super" p0) [] [] p1) "__init__" p2) [e] [] p3) none p4.line env = pure false) (hint : ∀ env : Env, env.scope = F.scope → interactive env = false)
    (body : ∀ (A : Around) (outer : List Env) (s : Shared) (H : Hp) (vs : List V) (Q : VK) (E : XK), Room k (A.deeper (envF F f s.heap.objs.size)) → sp vs H Q E →
      ∃ (a : Addr) (te : TE) (t : TS), PE (ncx CX0 P w K mg base N F f A outer s H E) e te ∧ PSs (ncx CX0 P w K mg base N F f A outer s H E) rest t ∧ vs[0]? = some (.ref a) ∧
        te (startF N vs [none]) H (fun v H1 => H1 a = some (exo a D none) ∧ t { nx := fun _ H' => Q .non H', rt := Q } (startF N vs [none]) H1) ∧ H a = some (exo a D none)) :
    FnOk P w K mg base CX0 (k + 1) f (PySem.W.fnX F.name F.qual F.params F.body F.scope F.cl .none kV doc pm an (.ref F.c) ct) (self :: ps) sp := by
  refine ⟨len, fun A outer s H args us vs Q E hr e0 hb r hsp => ?_⟩
  have hl := len _ _ _ _ hsp
  have KX : K.In s.heap := e0.mod.kin.keeps fun b o e => (e0.bs b o e).1
  have KB : K.In base := e0.mod.kin
  have lim : s.heap.NoLimit := e0.mod.nolimit.keeps fun b o e => (e0.bs b o e).1
  obtain ⟨cl0, cld, csl, hcell⟩ := C.cell
  have cells : CellsAt F.cl ["__class__"] [none] s.heap H := by
    rw [C.cl]
    refine ⟨rfl, fun y c h => ?_, fun x y c h1 h2 => ?_, fun i y hy => ?_⟩
    · have ec : c = cc := by
        have := PySem.mem_of_lookup h
        simpa using (List.mem_singleton.mp this) |> (fun z => congrArg Prod.snd z)
      rw [ec]
      exact ⟨(e0.bs _ _ (KB _ _ hcell)).2, _, _, KX _ _ hcell, rfl⟩
    · have e1 := congrArg Prod.fst (List.mem_singleton.mp (PySem.mem_of_lookup h1))
      have e2 := congrArg Prod.fst (List.mem_singleton.mp (PySem.mem_of_lookup h2))
      exact e1.trans e2.symm
    · cases i with
      | zero =>
        cases hy
        exact ⟨cc, rfl, fun v hv => by cases hv⟩
      | succ i => simp at hy
  refine PySem.ks_codeAny_call_defAt (fd := PySem.W.fnX F.name F.qual F.params F.body F.scope F.cl .none kV doc pm an (.ref F.c) ct) (body := F.body) (binds := (self :: ps).zip us) hr.depth (KX _ _ lk) rfl lim (PySem.W.codeRec_of KX C.code) rfl hb S.nocell
    (fun ⟨n, _⟩ hy => S.par n (List.of_mem_zip hy).1) (fun h1 hns kp => ?_) S.co S.gen S.kind
  obtain ⟨a, te, t, he, ht, ha0, q, ea⟩ := body A outer s H vs Q E (hr.deeper _) hsp
  have I : Inv (ncx CX0 P w K mg base N F f A outer s H E) [] (startF N vs [none]) H { s with heap := h1, toks := s.toks + ((self :: ps).zip us).length } := inv_startN S hr.hd e0 hl r cells hns kp
  generalize hs0 : ({ s with heap := h1, toks := s.toks + ((self :: ps).zip us).length } : Shared) = s0 at I ⊢
  have run : _root_.PySem.wpAt (model P w) (A.deeper (envF F f s.heap.objs.size)) (.func F.body (envF F f s.heap.objs.size)) (execs F.body (envF F f s.heap.objs.size))
      (SP (ncx CX0 P w K mg base N F f A outer s H E) [] { nx := fun _ H' => Q .non H', rt := Q, bk := fun _ _ => False, ct := fun _ _ => False })
      (ncx CX0 P w K mg base N F f A outer s H E).xe s0 := by
    subst hs0
    obtain ⟨cdD, hD⟩ := C.clsD
    obtain ⟨ccl, cdd, vs2, ccs, fl, tf, hcode, hvs, hfile⟩ := C.file
    have KI : K.In h1 := KX.keeps kp
    obtain ⟨oD, hD1, hD2⟩ : ∃ oD, h1.get? D = some oD ∧ oD.data = .cls cdD := by
      have hD := hD
      unfold PySem.W.clsIn at hD
      split at hD
      · rename_i c d cd' sl ho
        cases hD
        exact ⟨_, KI _ _ ho, rfl⟩
      · cases hD
    obtain ⟨t1, hx⟩ := exo_at I.hok ea
    have inst : PySem.W.InstAt h1 a { cls := .ref D, dict := none, data := .fields #[.ref t1, .none, .none, .none, .bool false, .none] } D none := ⟨hx, rfl, rfl, trivial⟩
    have kself : (envF F f s.heap.objs.size).kindOf self = some .local := S.par self List.mem_cons_self
    have ndN : N[0]? = some self := by
      have e1 := S.pre
      cases N with
      | nil => simp at e1
      | cons n r =>
        have : n = self := by
          have := congrArg (fun l => l[0]?) e1
          simpa using this
        rw [this]
        rfl
    have hself : ∃ m, h1.Ns s.heap.objs.size m ∧ m self = some (.ref a) := by
      obtain ⟨m, hn, look⟩ := I.loc
      have h0 : (startF N vs [none])[0]? = some (some (.ref a)) := by
        unfold startF
        cases vs with
        | nil => cases ha0
        | cons v r =>
          cases ha0
          rfl
      obtain ⟨u, ru, l⟩ := look 0 self (.ref a) ndN h0 (.inl kself)
      cases ru
      rcases l with ⟨_, l⟩ | ⟨l, _⟩
      · exact ⟨m, hn, l⟩
      · rcases l with l | l
        · rw [show (ncx CX0 P w K mg base N F f A outer s H E).env.kindOf self = some .local from kself] at l
          cases l
        · rw [show (ncx CX0 P w K mg base N F f A outer s H E).env.kindOf self = some .local from kself] at l
          cases l
    obtain ⟨m, hns2, hm2⟩ := hself
    obtain ⟨mb, hb1, hb2⟩ := I.mod.blt
    rw [hbd]
    have frk : F.scope.names.lookup ("__class__" : Str) = some .free := S.frk _ (List.mem_singleton.mpr rfl)
    have hkl : (envF F f s.heap.objs.size).scope.kind = .function := S.kind
    refine PySem.ks_wpAt_execs_cons (PySem.ks_wpAt_Expr_any (PySem.ks_wpAt_MethodCall (pl := pl (envF F f s.heap.objs.size)) ?_ (hform _)) (hint _ rfl) (hs _))
    refine PySem.ks_wpAt_super_base hks frk (by decide) rfl (kp _ _ (KX _ _ lk)) rfl hpar rfl (KI _ _ hcode) rfl hvs hfile C.top ?_
    refine PySem.W.ks_loadName_global hkl hks (Calls.loadGlobal_builtin (env := envF F f s.heap.objs.size) (I.mod.glob.keeps I.bk) C.sup (hb1.keeps I.bk) ((hb2 _ (by decide)).trans (by decide +kernel)) ⟨rfl, ?_⟩)
    refine wpAny_loadName_free hkl frk (by rw [show (envF F f s.heap.objs.size).cells = F.cl from rfl, C.cl]; rfl) ⟨_, KI _ _ hcell, rfl⟩ ?_
    rw [har]
    refine wpAny_loadName_local hkl kself hns2 hm2 ?_
    refine PySem.ks_wpAny_isType_cls hD1 hD2 ⟨rfl, ?_⟩
    refine PySem.ks_wpAny_call_super hD1 hD2 hx rfl (fun c z => by cases z) (PySem.W.looks_mroIn KI C.self) (fun h2 so2 kp2 => ?_)
    -- the __init__ of ValueError, bound
    have KI2 : K.In h2 := KI.keeps kp2
    have hx2 := kp2 _ _ hx
    have hDa : a ≠ D := fun z => by
      rw [z, hD1] at hx
      cases hx
      cases hD2
    have isVE : PySem.W.Looks (model P w) h2 (isInstance (.ref a) (.type "ValueError")) true :=
      (show PySem.W.InstAt h2 a { cls := .ref D, dict := none, data := .fields #[.ref t1, .none, .none, .none, .bool false, .none] } D none from ⟨hx2, rfl, rfl, trivial⟩).type.andThen (PySem.W.looks_subIn KI2 C.below)
    have hal : PySem.W.alongIn K "__init__" ((cdD.mro.dropWhile (· != .ref D)).drop 1) = some (some (.builtin "ValueError.__init__")) := by
      have := C.init
      unfold PySem.W.ks_superIn at this
      rw [hD] at this
      exact this
    refine PySem.W.kxs_getMethod PySem.W.kxs_ValueError so2 (PySem.W.looks_opaque KI2 C.opaq) (l₀ := cdD.mro) (fun A Q E s k q => wpAny_bind ((PySem.W.looks_clsIn KI2 hD) A _ E s k (wpAny_pure q))) rfl KI2 hal isVE hDa (by decide) ?_
    -- its call
    generalize hu : h2.objs.size = u
    have kp3 : ∀ b o, h1.get? b = some o → (h2.push (PySem.W.kxs_mw "ValueError.__init__" a)).get? b = some o := fun b o e => Heap.get?_push_of_some _ (kp2 b o e)
    have hw : (h2.push (PySem.W.kxs_mw "ValueError.__init__" a)).get? u = some (PySem.W.kxs_mw "ValueError.__init__" a) := by
      rw [← hu]
      exact Heap.get?_push_size _ rfl
    have I3 := I.kept (h' := h2.push (PySem.W.kxs_mw "ValueError.__init__" a)) (t' := s.toks + ((self :: ps).zip us).length + 1) kp3
    have new : ∀ b o, h1.get? b = some o → b ≠ u := fun b o e z => by
      have := Heap.lt_size (kp2 b o e)
      rw [z, ← hu] at this
      exact Nat.lt_irrefl _ this
    have lt2 : h1.objs.size ≤ u := by
      rw [← hu]
      exact Nat.le_of_lt (Nat.lt_of_lt_of_le (Heap.lt_size so2) (Nat.le_refl _))
    have nH : H u = none := I.hok.fresh lt2
    have I4 : Inv (ncx CX0 P w K mg base N F f A outer s H E) [(u, PySem.W.kxs_mw "ValueError.__init__" a)] (startF N vs [none]) H { s with heap := h2.push (PySem.W.kxs_mw "ValueError.__init__" a), toks := s.toks + ((self :: ps).zip us).length + 1 } :=
      I3.pins_of fun p hp => by
        rw [List.mem_singleton.mp hp]
        refine ⟨hw, nH, fun z => ?_, I.nofs lt2, fun v z => by cases z⟩
        have := I.lt
        rw [← z] at this
        exact absurd (Nat.lt_of_lt_of_le this lt2) (Nat.lt_irrefl _)
    refine PySem.W.kxs_callWith (i := "ValueError.__init__") (x := a) ?_ ?_
    · rw [hstar]
      rfl
    rw [hstar]
    refine Calls.evalArgs_plain (Calls.spliced_cons ?_)
    refine thn (he.run _ _ _ H _ I4 q) fun v s3 ⟨x, H1, I5, r1, ea1, q1⟩ => Calls.spliced_nil ?_
    have hw5 := (I5.pin (u, PySem.W.kxs_mw "ValueError.__init__" a) (List.mem_append_right _ List.mem_cons_self)).1
    refine ⟨hw5, ?_⟩
    obtain ⟨t2, hx5⟩ := exo_at I5.hok ea1
    obtain ⟨nm, qn, nN, bs, bm, sn, sub, ab, col, dd, k0, k1, k2, k3, k5, hcls, _⟩ := C.oex.cls
    have I6 : Inv (ncx CX0 P w K mg base N F f A outer s H E) [] (startF N vs [none]) H1 s3 := I5.pins_of fun p hp => nomatch hp
    have hC := I6.kIn _ _ hcls
    obtain ⟨hh, g, d, tk, os⟩ := s3
    refine wpAny_call (codeAny_of_tree ?_)
    show wpAny _ (A.deeper (envF F f s.heap.objs.size)).in1 (callAny (.ref u) ⟨[v], []⟩) _ _ _
    simp only [callAny]
    refine wpAny_bind (wpAny_load hw5 ?_)
    simp only [PySem.W.kxs_mw, show (Value.type "method-wrapper" == Value.type "method" || Value.type "method-wrapper" == Value.type "builtin_function_or_method" || Value.type "method-wrapper" == Value.type "method-wrapper") = true by decide, if_true]
    refine PySem.W.KFB.if_so (by decide) ?_
    refine wpAny_bind (PySem.W.check_bound_init PySem.F.excBase_ValueError.toExcCallFacts hC hx5 rfl ?_)
    refine wpAny_bind (wpAny_pure (wpAny_pure ?_))
    refine ⟨PySem.plainId_quiet PySem.F.excBase_ValueError.init.plain _, codeAny_builtin PySem.F.excBase_ValueError.initEntry ?_⟩
    refine PySem.W.exc_init_tree (cls := .ref D) (t0 := t2) (dv := none) (c2 := .none) (c3 := .none) (b4 := .bool false) hx5 (by show 1 ≤ sizeLine; decide) fun h' k e' _ => ?_
    have J := I6.write (t' := tk) (x := a) (e := a) (o := exo a D none) (by rw [ea1]; exact True.intro) (.inl rfl) k ⟨_, e'⟩ (exo_ok e')
    have eu : upd H1 a (exo a D none) = H1 := by
      funext b
      by_cases hb : b = a
      · rw [hb, upd_same, ea1]
      · rw [upd_ne hb]
    rw [eu] at J
    exact PySem.wpAt_of_wpAny (ht.run [] _ _ _ _ J q1)
  refine PySem.ks_wpAt_mono run (fun fl s' hs => ?_) fun e s' hs => hs
  have fin : ∀ {σ' : L2.St} {H' : Hp} {v : V} {u : Value}, Inv (ncx CX0 P w K mg base N F f A outer s H E) [] σ' H' s' → L2.RelV v u → Q v H' → CE outer P w H s Q u s' :=
    fun {σ' H' v u} J rv q => ⟨v, H', J.os, J.bare, J.base, J.hok, rv, q⟩
  cases fl with
  | ret u =>
    obtain ⟨v, σ', H', J, rv, q⟩ := hs
    exact fin J rv q
  | next =>
    obtain ⟨σ', H', J, q⟩ := hs
    exact fin (v := V.non) (u := Value.none) J rfl q
  | brk =>
    obtain ⟨_, _, _, q⟩ := hs
    exact False.elim q
  | cont =>
    obtain ⟨_, _, _, q⟩ := hs
    exact False.elim q
end
end TcG
/-! Own errors with a dict: raised, caught, asked for their class; defs called while one is handled. -/
namespace TcG
open PySem PySem.Spec PyProof.Rows L2

section
variable {X : Cx}
/-- C(e, ..): what is made has no context -/
theorem pmk_fresh {x : Str} {C fI : Addr} {k : Nat} {fd : FuncData} {ps : List Str} {sp : Sp} {e : Expr} {es : List Expr} {ta : TA} {p pos : Pos} (T : OexC X.K C)
    (hi : PySem.W.findIn X.K (.ref C) "__init__" = some (some (.ref fI))) (ht : PySem.W.typeIn X.K (.ref fI) = some (.type "function"))
    (F : FnOk X.prog X.w X.K X.mg X.base L2.CX0 k fI fd ps sp) (room : Room (k + 1) X.A) (binds : Binds X.K fd ps []) (glob : Gl X x) (there : X.mg x = some (.ref C)) (ha : PA X (e :: es) ta)
    (hdb : (x == ("__debug__" : Str)) = false := by decide) (he : starEach (e :: es) X.env = (false, eval e X.env) :: starEach es X.env := by rfl) (hpl : (backTo pos (starEach es X.env)).any (·.1) = false := by rfl) :
    L2N.PMk X (.Call (.Name x p) (e :: es) [] pos) (tMkO C sp [] ta) := by
  intro pins s σ H Q I h
  obtain ⟨c1, c2, c3, c4, mro, c6, c7, c8, c9, c10, c11, c12, c13, c14, c15, clsAt, mroOk⟩ := T.cls
  refine wpAny_Call_Name_kw (ld_glob I glob there ?_ hdb)
  refine PySem.W.callWith_K (h₀ := X.base) I.ok.mod.kin T.kC ?_ he hpl
  refine thn (ha.run pos pins s σ H _ I h) fun us s1 ⟨vs, H1, I1, r1, few, made⟩ => ⟨I1.kIn, ?_⟩
  change wpAny _ _ (call (.ref C) us) _ _ _
  obtain ⟨h0, gens, dr, tk, os⟩ := s1
  have next : h0.objs.size ≤ h0.objs.size + 1 := Nat.le_succ _
  have goal := made (h0.objs.size + 1) (I1.hok.fresh next)
  rw [List.append_nil] at goal
  let h1 := (h0.push (PySem.W.kdv_tup us)).push (PySem.HandSPX.excO C h0.objs.size)
  have old : ∀ b o, h0.get? b = some o → h1.get? b = some o := fun b o e => Heap.get?_push_of_some _ (Heap.get?_push_of_some _ e)
  have self : h1.get? (h0.objs.size + 1) = some (PySem.HandSPX.excO C h0.objs.size) := by
    show ((h0.push (PySem.W.kdv_tup us)).push (PySem.HandSPX.excO C h0.objs.size)).get? (h0.objs.size + 1) = _
    heap_get
  have I2 : Inv X pins σ (upd H1 (h0.objs.size + 1) (exo (h0.objs.size + 1) C none)) ⟨h1, gens, dr, tk, os⟩ := I1.laid (t' := tk) old next (exo_ok self)
  have vals : Vals (V.ref (h0.objs.size + 1) :: vs) (Value.ref (h0.objs.size + 1) :: us) := .cons rfl r1
  have many : (Value.ref (h0.objs.size + 1) :: us ++ []).length = ps.length := by
    rw [List.append_nil, ← vals.length]
    exact F.len _ _ _ _ goal
  have line : us.length ≤ sizeLine := by
    rw [← Paired.length r1]
    exact Nat.le_trans few (by decide)
  have bs := binds _ (Value.ref (h0.objs.size + 1) :: us) I2.kIn many
  rw [List.append_nil] at bs
  refine wpAny_call (PySem.HandSPX.call_own PySem.F.excBase_ValueError (fun Y => PySem.HandSPX.refsVE_contains Y mro mroOk) (I1.kIn _ _ clsAt) (PySem.W.looks_findIn I1.kIn hi)
    (fun y => PySem.W.bind_fn I1.kIn y ht) line (codeAny_mono (F.run _ X.stack _ _ ⟨Value.ref (h0.objs.size + 1) :: us, []⟩ (Value.ref (h0.objs.size + 1) :: us) _ _
      (fun _ _ _ => False) (room.make C us []) (I2.env0.make C us []) bs vals goal) fun r s' end' => ?_))
  match r, end' with
  | .error _, z => exact False.elim z
  | .ok (.ret u), ⟨v, H2, os2, bare2, un2, hok2, rv, ev, d, fs, ea, ed, hd1, q2⟩ =>
    subst ev
    obtain ⟨h2, g2, d2, t2, os'⟩ := s'
    obtain ⟨t0, G, J, kG, ge, oeAt, na⟩ := mk_end0 (d2 := d2) (t2 := t2) I1 next old un2 hok2 os2 bare2 ea ed hd1
    refine ⟨rv, h0.objs.size + 1, _, _, ⟨G, g2, d2, t2, os'⟩, _, .ref C, some d, rfl, J, kG, ge, oeAt, ⟨rfl, rfl, fun vs hv => ?_⟩, rfl, rfl, na, rfl, bare2, raises_own T.exC T.tyC, q2⟩
    cases hv
    rfl
  | .ok .next, z => exact False.elim z
  | .ok .brk, z => exact False.elim z
  | .ok .cont, z => exact False.elim z
/-- what is caught is what is handled, and has no context -/
theorem hot_suite {a : Addr} {oe : Obj} {cls : Value} {d : Option Addr} {pn : List (Addr × Obj)} (hz : L2N.Zn cls d oe) (hf : ∃ vs, oe.data = .fields vs) : L2H.HotC (X.suite a ((a, oe) :: pn)) := by
  obtain ⟨vs, e⟩ := hf
  exact ⟨(a, oe), ⟨rfl, vs, e, hz.2.2 vs e⟩, List.mem_cons_self⟩
/-- around a body nothing is let out -/
theorem takesN : L2N.Takes X (fun _ _ _ _ => False) := fun _ _ x => by
  obtain ⟨_, _, _, _, _, _, _, _, _, _, _, _, _, _, _, _, z⟩ := x
  exact z.elim
theorem passH (E : L2.St → XK) : ∀ σ, PassesAt L2.CX0 X σ (E σ) := fun _ _ _ _ _ _ _ h => h.elim
/-- isinstance(e, c), e what is caught, with its dict -/
def rIsD (K : PySem.W.Frag) (D a : Addr) (cls : Value) (d : Option Addr) : List V → Hp → VK → Prop := fun xs H Q =>
  ∃ (c : V) (cv : Value) (b : Bool) (dd : Addr) (fs : List (Str × V)), xs = [.ref a, c] ∧ cls = .ref D ∧ d = some dd ∧ (∀ u, RelV c u → u = cv) ∧ PySem.W.kitOne K (.ref D) cv = some b ∧ H dd = some (.xd fs) ∧ Q (.bl b) H
theorem call_isD {a D : Addr} {cls : Value} {d : Option Addr} {oe : Obj} {pn : List (Addr × Obj)} (C : ExcC X.K D) (hz : Zc cls d oe) (hf : ∃ vs, oe.data = .fields vs) : CallR (X.suite a ((a, oe) :: pn)) (.builtin "isinstance") (rIsD X.K D a cls d) := by
  intro pins s σ H xs us Q I r h
  obtain ⟨c, cv, b, dd, fs, rfl, rfl, rfl, hcv, e, ed, q⟩ := h
  obtain ⟨u1, u2, rfl, r1, r2⟩ := vals2 r
  obtain rfl : u1 = Value.ref a := r1
  have ec := hcv _ r2
  subst ec
  obtain ⟨hget, _⟩ := I.pin (a, oe) (List.mem_append.mpr (.inl List.mem_cons_self))
  obtain ⟨vs, hv⟩ := hf
  have hx : ObjOk X.prog X.w H s.heap dd (.xd fs) := I.hok dd _ ed
  obtain ⟨mA, hns, _⟩ := hx
  obtain ⟨od, ho, _⟩ := lookIn_ns hns
  have J : PySem.W.InstAt s.heap a oe D (some od) := ⟨hget, hz.1, by unfold PySem.W.notCls; rw [hv] <;> rfl, by rw [hz.2]; exact ho⟩
  have hcl : (PySem.W.clsIn X.K D).isSome = true := by
    obtain ⟨cd, hc, _⟩ := PySem.W.any_some C.hd
    rw [hc]
    rfl
  exact PySem.W.kia_one (PySem.W.kitx_exc (od := some od) hcl C.hg C.hk C.hs C.ha C.hn C.ht C.hm) I.kIn J e (fun z => nomatch z) fun tk => ⟨.bl b, H, I.kept (t' := tk) fun _ _ z => z, rfl, q⟩
end
section
variable {P : Program} {w : World} {K : PySem.W.Frag} {mg : Str → Option Value} {base : Heap}
/-- a def that raises what has no context -/
theorem fun_okN {x qual : Str} {st : Stmt} {f : Addr} {fd : FuncData} {N ps : List Str} {k : Nat} {sp : Sp} (F : Fun K x qual st f fd) (S : FnScope N ps (defScope st)) (len : ∀ vs H Q E, sp vs H Q E → vs.length = ps.length)
    (walk : ∀ (cdv : Value) (A : Around) (outer : List Env) (s : Shared) (H : Hp) (vs : List V) (Q : VK) (E : XK), Room k (A.deeper (envOfC qual (defScope st) s.heap.objs.size f cdv)) → sp vs H Q E →
      ∃ t, PSs (cxOf (L2N.CX P w) P w K mg base N qual (defScope st) f cdv A outer s H E) (defBody st) t ∧ t { nx := fun _ H' => Q .non H', rt := Q } (start N vs) H) : FnOk P w K mg base (L2N.CX P w) (k + 1) f fd ps sp := by
  obtain ⟨oc, od, kV, doc, pm, an, cdv, ct, osl, rfl, lk, code⟩ := F.ex
  exact fn_of lk code S len (walk cdv)
/-- a def that is called while something is handled -/
theorem fun_hot {x qual : Str} {st : Stmt} {f : Addr} {fd : FuncData} {N ps : List Str} {k : Nat} {sp : Sp} (F : Fun K x qual st f fd) (S : FnScope N ps (defScope st)) (len : ∀ vs H Q E, sp vs H Q E → vs.length = ps.length)
    (walk : ∀ (cdv : Value) (A : Around) (outer : List Env) (s : Shared) (H : Hp) (vs : List V) (Q : VK) (E : XK) (p : Addr × Obj), L2H.Hot1 A p → L2H.RoomH k (A.deeper (envOfC qual (defScope st) s.heap.objs.size f cdv)) → sp vs H Q E →
      ∃ t, PSs (L2H.cxH L2.CX0 P w K mg base N qual (defScope st) f cdv A outer s H E p) (defBody st) t ∧ t { nx := fun _ H' => Q .non H', rt := Q } (start N vs) H) : L2H.FnH P w K mg base L2.CX0 (k + 1) f fd ps sp := by
  obtain ⟨oc, od, kV, doc, pm, an, cdv, ct, osl, rfl, lk, code⟩ := F.ex
  exact L2H.fn_ofH lk code S len (walk cdv)
end
/-- isinstance of a class of the text that is none of its own, and of ValueError -/
theorem kit_other {K : PySem.W.Frag} {D C : Addr} (h1 : PySem.W.isClsIn K C = true) (h2 : PySem.W.typeIn K (.ref C) = some (.type "type")) (own : PySem.W.subIn K (.ref D) (.ref D) = some true) (h3 : PySem.W.subIn K (.ref D) (.ref C) = some false) : PySem.W.kitOne K (.ref D) (.ref C) = some false := by
  have ne : D ≠ C := fun z => by
    rw [← z, own] at h3
    cases h3
  have e1 : (Value.ref D == Value.ref C) = false := by simpa using ne
  have e2 : ((PySem.W.clsIn K C).isSome && PySem.W.typeIn K (.ref C) == some (.type "type")) = true := by
    have h1' : (PySem.W.clsIn K C).isSome = true := h1
    rw [h1', h2]
    rfl
  unfold PySem.W.kitOne PySem.W.kitCls
  rw [e1, if_neg Bool.false_ne_true]
  show (if ((PySem.W.clsIn K C).isSome && PySem.W.typeIn K (.ref C) == some (.type "type")) = true then PySem.W.subIn K (.ref D) (.ref C) else none) = some false
  rw [if_pos e2]
  exact h3
theorem kit_value {K : PySem.W.Frag} {D : Addr} (h : PySem.W.subIn K (.ref D) (.type "ValueError") = some true) : PySem.W.kitOne K (.ref D) (.type "ValueError") = some true := by
  have e1 : (Value.ref D == Value.type "ValueError") = false := rfl
  have e2 : PySem.W.kitMeta "ValueError" = true := by decide +kernel
  unfold PySem.W.kitOne PySem.W.kitCls
  rw [e1, if_neg Bool.false_ne_true]
  show (if PySem.W.kitMeta "ValueError" = true then PySem.W.subIn K (.ref D) (.type "ValueError") else none) = some true
  rw [if_pos e2]
  exact h
end TcG
/-! for i, x in enumerate(..), over a text and over a tuple. -/
namespace TcG
open PySem PySem.Spec PyProof.Rows L2

theorem meets_enum1 {v : Value} {o : Obj} {H : Heap → Prop} (B : Begins v o H) :
    Meets (Builtin.«enumerate.__new__» ⟨[.type "enumerate", v], []⟩) (fun _ R s => H s.heap ∧ R (.ok (.ret (.ref (s.heap.push o).objs.size)))
      { s with heap := (s.heap.push o).push { cls := .type "enumerate", data := .fields #[.none, .bool false, .ref s.heap.objs.size, rawInt 0, .none, .none] } }) :=
  .of_wp fun prog w A R s both => by
    obtain ⟨h0, gens, dr, tk, os⟩ := s
    obtain ⟨stands, goal⟩ := both
    have sub := sub_enumerate
    have start : ∀ {A' : Around} {E : Value → Shared → Prop} {Q : Value → Shared → Prop}, Q (.ref h0.objs.size) ⟨h0.push o, gens, dr, tk, os⟩ → wpAny (model prog w) A' (pyIter v) Q E ⟨h0, gens, dr, tk, os⟩ :=
      fun q => B.iter prog w _ _ _ _ stands q
    wp_walk using start
    refine wpAny_stack_any fun _ => wpAny_pure ?_
    split
    · rename_i c _ _ _ _ _
      cases (c == Value.type "enumerate") <;> (wp_walk using start) <;> exact ⟨_, rfl, goal⟩
    · wp_walk using start
      exact ⟨_, rfl, goal⟩
theorem enum1 {prog : Program} {w : World} {A : Around} {E : Value → Shared → Prop} {s : Shared} {v : Value} {o : Obj} {H : Heap → Prop} {Q : Value → Shared → Prop} (B : Begins v o H) (stands : H s.heap)
    (h : ∀ h', IsEnum h' (s.heap.objs.size + 1) s.heap.objs.size 0 .none → h'.get? s.heap.objs.size = some o → (∀ b u, s.heap.get? b = some u → h'.get? b = some u) → Q (.ref (s.heap.objs.size + 1)) { s with heap := h' }) :
    wpAny (model prog w) A (call (.type "enumerate") [v]) Q E s := by
  refine callType_new PySem.F.called_enumerate (by decide) (PySem.F.typeCall_enumerate_1 _) (PySem.F.newCall_enumerate_1 _) (fun obj => PySem.F.args_object_init_2 obj _) PySem.F.entry_enumerate_new (meets_enum1 B) ⟨stands, ?_⟩
  have size : (s.heap.push o).objs.size = s.heap.objs.size + 1 := Heap.size_push ..
  show _ ∧ _
  rw [size]
  have last := Heap.get?_push_size (s.heap.push o) (o := { cls := .type "enumerate", data := .fields #[.none, .bool false, .ref s.heap.objs.size, rawInt 0, .none, .none] }) rfl
  rw [size] at last
  exact ⟨⟨_, last, rfl⟩, h _ last (Heap.get?_push_of_some _ (Heap.get?_push_size _ B.free)) fun b u x => Heap.get?_push_of_some _ (Heap.get?_push_of_some _ x)⟩

/-- the numbered items of the tuple at a -/
def IteT (K : PySem.W.Frag) (a : Addr) (xs : List V) : It :=
  ⟨fun i H => i < xs.length ∧ SqT K H a xs, fun i H v H' => ∃ T x, xs[i]? = some x ∧ v = .ref T ∧ H T = none ∧ H' = upd H T (.tup [.int (i : Nat), x]), fun i H => xs.length ≤ i ∧ SqT K H a xs⟩
/-- the numbered signs of a text -/
def IteS (z : Str) : It :=
  ⟨fun i _ => i < z.cps.size, fun i H v H' => ∃ T c, z.cps[i]? = some c ∧ v = .ref T ∧ H T = none ∧ H' = upd H T (.tup [.int (i : Nat), .str ⟨#[c]⟩]), fun i _ => z.cps.size ≤ i⟩

end TcG
namespace TcG
open PySem PySem.Spec PyProof.Rows L2
section
variable {P : Program} {w : World} {K : PySem.W.Frag} {elts : List Expr} {kk : Nat} {tpos : Pos}
/-- one turn, told by what the inner iterator draws -/
theorem enum_step {X : Cx} {pins : List (Addr × Obj)} {σ : L2.St} {H : Hp} {s : Shared} {E : Value → Shared → Prop} {e it : Addr} {fp : List Addr} {n i : Nat} {Pv : Nat → Value → Prop} {St : Nat → Heap → Prop} {old : Value} {J : It} {tn : Nat → Heap → Prop}
    (I : Inv X pins σ H s) (D : Draws X.prog X.w X.A.in1 it fp n Pv St) (he : IsEnum s.heap e it ((i : Nat) : Int) old) (st : St i s.heap) (lt : i < n) (ne : e ≠ it) (ef : e ∉ fp) (hf : ∀ b ∈ [e, it], FpOk X pins H b)
    (item : ∀ u, Pv i u → ∃ x, RelV x u ∧ ∀ T, H T = none → J.yld i H (.ref T) (upd H T (.tup [.int (i : Nat), x])))
    (next : ∀ h' u, IsEnum h' e it ((i : Nat) + 1 : Int) u → St (i + 1) h' → tn (i + 1) h') :
    wpAny (model X.prog X.w) X.A (pyNext (.ref e)) (fun r s1 => ∃ u, r = some u ∧ wpAny (model X.prog X.w) X.A (letOwnedTupleGo (.Tuple elts kk tpos) (.ref e) u)
      (fun _ s2 => ∃ x H', Inv X pins σ H' s2 ∧ RelV x u ∧ J.yld i H x H' ∧ tn (i + 1) s2.heap ∧ ∀ b ∈ [e, it], H' b = none) E s1) E s := by
  have le : e < s.heap.objs.size := Heap.lt_size he
  have li : it < s.heap.objs.size := by
    obtain ⟨_, q⟩ := D.live _ _ st
    exact Heap.lt_size q
  refine wpAny_pyNext_enum_itemD D he st lt ne ef fun u h' tk hu out st' hT size keep => ?_
  obtain ⟨x, rx, yl⟩ := item u hu
  refine ⟨_, rfl, wpAny_letOwnedTupleGo_enum (s := { s with heap := h', toks := tk + 1 }) out fun h2 he2 same => ?_⟩
  have hT2 : h2.get? s.heap.objs.size = some { cls := .type "tuple", data := .seq #[.int i tk, u] } := (same.2 _ (Nat.ne_of_gt le)).trans hT
  have new : ObjOk X.prog X.w (upd H s.heap.objs.size (.tup [.int (i : Nat), x])) h2 s.heap.objs.size (.tup [.int (i : Nat), x]) :=
    ⟨by show 2 ≤ sizeLine; decide, [.int i tk, u], .cons ⟨_, rfl⟩ (.cons rx .nil), ⟨_, hT2, rfl, _, rfl⟩⟩
  have I1 : Inv X pins σ (upd H s.heap.objs.size (.tup [.int (i : Nat), x])) { s with heap := h2, toks := tk + 1 } :=
    I.turnedNew (ch := [e, it]) (fun b ob hb q => (same.2 b fun z => hb (by simp [z])).trans (keep b ob (fun z => hb (by simp [z])) (fun z => hb (by simp [z])) q)) hf (Nat.le_refl _) new
  have st2 : St (i + 1) h2 := D.frame _ _ _ st' fun b hb o q => (same.2 b fun z => ef (z ▸ hb)).trans q
  refine ⟨.ref s.heap.objs.size, _, I1, rfl, yl _ (I.hok.fresh (Nat.le_refl _)), next _ _ he2 st2, fun b hb => ?_⟩
  have lb : b < s.heap.objs.size := by
    rcases List.mem_cons.mp hb with z | z
    · rw [z]
      exact le
    · rw [List.mem_singleton.mp z]
      exact li
  rw [upd_ne (Nat.ne_of_lt lb)]
  exact (hf b hb).1
theorem enum_over {X : Cx} {pins : List (Addr × Obj)} {σ : L2.St} {H : Hp} {s : Shared} {E : Value → Shared → Prop} {e it : Addr} {fp : List Addr} {n : Nat} {i : Int} {Pv : Nat → Value → Prop} {St : Nat → Heap → Prop} {old : Value}
    (I : Inv X pins σ H s) (D : Draws X.prog X.w X.A.in1 it fp n Pv St) (he : IsEnum s.heap e it i old) (st : St n s.heap) (hf : ∀ b ∈ [e, it], FpOk X pins H b) :
    wpAny (model X.prog X.w) X.A (pyNext (.ref e)) (fun r s1 => r = none ∧ Inv X pins σ H s1) E s := by
  obtain ⟨f0, f1, f2, f3, f4, f5⟩ := hf it (by simp)
  exact wpAny_pyNext_enum_endD D he st fun h' eb => ⟨rfl, I.turned (t' := s.toks) (fun b o hb q => eb b o hb q) f0 f1 f3 f4 f5⟩
theorem turn_enumS (z : Str) (t : Tok) (e it : Addr) :
    Turn P w K (.Tuple elts kk tpos) (IteS z) [e, it] e (fun i h => (∃ old, IsEnum h e it ((i : Nat) : Int) old) ∧ h.IsStrIter it (strIterType z) z t i ∧ e ≠ it ∧ i ≤ z.cps.size) where
  mem := by simp
  obj := fun i h st b hb => by
    obtain ⟨⟨old, he⟩, ⟨o, ho, hc, hd⟩, _⟩ := st
    rcases List.mem_cons.mp hb with y | y
    · exact ⟨_, by rw [y]; exact he, fun v q => by cases q⟩
    · exact ⟨o, by rw [List.mem_singleton.mp y]; exact ho, fun v q => by rw [hd] at q; cases q⟩
  keep := fun i h h' st k => by
    obtain ⟨⟨old, he⟩, ⟨o, ho, r⟩, ne, le⟩ := st
    exact ⟨⟨old, k e (by simp) _ he⟩, ⟨o, k it (by simp) o ho, r⟩, ne, le⟩
  item := by
    intro X hP hw hK hc i pins s σ H E I hf st hg
    subst hP hw hK
    obtain ⟨⟨old, he⟩, hit, ne, le⟩ := st
    have hg : i < z.cps.size := hg
    have hh : X.A.in1.handled = none := I.ok.hd hc
    have D := Draws.text (prog := X.prog) (w := X.w) hh it z t
    refine enum_step (J := IteS z) (tn := fun i h => (∃ old, IsEnum h e it ((i : Nat) : Int) old) ∧ h.IsStrIter it (strIterType z) z t i ∧ e ≠ it ∧ i ≤ z.cps.size) I D he hit hg ne (fun y => ne (List.mem_singleton.mp y)) hf (fun u hu => ?_) fun h' u he' st' => ⟨⟨u, ?_⟩, st', ne, hg⟩
    · obtain ⟨c, t2, hc2, rfl⟩ := hu
      exact ⟨.str ⟨#[c]⟩, ⟨t2, rfl⟩, fun T hT => ⟨T, c, hc2, rfl, hT, rfl⟩⟩
    · rw [show ((i + 1 : Nat) : Int) = (i : Int) + 1 by omega]
      exact he'
  done := by
    intro X hP hw hK hc i pins s σ H E I hf st hg
    subst hP hw hK
    obtain ⟨⟨old, he⟩, hit, ne, le⟩ := st
    have hg : z.cps.size ≤ i := hg
    obtain rfl : i = z.cps.size := by omega
    have hh : X.A.in1.handled = none := I.ok.hd hc
    have D := Draws.text (prog := X.prog) (w := X.w) hh it z t
    exact enum_over I D he hit hf
  self := fun A i s Q E st h => by
    obtain ⟨⟨_, he⟩, _⟩ := st
    exact wpAny_pyIter_enum he h
end
end TcG
namespace TcG
open PySem PySem.Spec PyProof.Rows L2
section
variable {P : Program} {w : World} {K : PySem.W.Frag} {elts : List Expr} {kk : Nat} {tpos : Pos}
theorem turn_enumT (a : Addr) (xs : List V) (e it : Addr) :
    Turn P w K (.Tuple elts kk tpos) (IteT K a xs) [e, it] e (fun i h => (∃ old, IsEnum h e it ((i : Nat) : Int) old) ∧ h.IsTupleIter it a i ∧ e ≠ it ∧ i ≤ xs.length) where
  mem := by simp
  obj := fun i h st b hb => by
    obtain ⟨⟨old, he⟩, ⟨o, ho, hc, hd⟩, _⟩ := st
    rcases List.mem_cons.mp hb with y | y
    · exact ⟨_, by rw [y]; exact he, fun v q => by cases q⟩
    · exact ⟨o, by rw [List.mem_singleton.mp y]; exact ho, fun v q => by rw [hd] at q; cases q⟩
  keep := fun i h h' st k => by
    obtain ⟨⟨old, he⟩, ⟨o, ho, r⟩, ne, le⟩ := st
    exact ⟨⟨old, k e (by simp) _ he⟩, ⟨o, k it (by simp) o ho, r⟩, ne, le⟩
  item := by
    intro X hP hw hK hc i pins s σ H E I hf st hg
    subst hP hw hK
    obtain ⟨⟨old, he⟩, hit, ne, le⟩ := st
    obtain ⟨lt, ht⟩ := hg
    obtain ⟨its, rv, p, _⟩ := I.tuple ht
    have hp : s.heap.IsTuple a its.toArray := p
    have ae : a ≠ e := fun z => by
      obtain ⟨o, ho, hc2, _⟩ := hp
      rw [z, he] at ho
      cases ho
      have hc2 : Value.type "enumerate" = .type "tuple" := hc2
      exact absurd (Value.type.inj hc2) (by decide)
    have ai : a ≠ it := fun z => by
      obtain ⟨o, ho, hc2, _⟩ := hp
      obtain ⟨o2, ho2, hc3, _⟩ := hit
      rw [z, ho2] at ho
      cases ho
      have hc2 : Value.type "tuple_iterator" = .type "tuple" := hc3.symm.trans hc2
      exact absurd (Value.type.inj hc2) (by decide)
    have hh : X.A.in1.handled = none := I.ok.hd hc
    have D := Draws.tuple (prog := X.prog) (w := X.w) hh it a ai its.toArray
    have len : its.toArray.size = xs.length := by
      rw [List.size_toArray]
      exact rv.length.symm
    refine enum_step (J := IteT X.K a xs) (tn := fun i h => (∃ old, IsEnum h e it ((i : Nat) : Int) old) ∧ h.IsTupleIter it a i ∧ e ≠ it ∧ i ≤ xs.length) I D he ⟨hit, hp⟩ (by rw [len]; exact lt) ne (fun y => ?_) hf (fun u hu => ?_) fun h' u he' st' => ⟨⟨u, ?_⟩, st'.1, ne, lt⟩
    · rcases List.mem_cons.mp y with y | y
      · exact ne y
      · exact ae (List.mem_singleton.mp y).symm
    · have hx : xs[i]? = some xs[i] := List.getElem?_eq_getElem lt
      obtain ⟨u2, hu2, ru⟩ := rv.get hx
      have e2 : its[i]? = some u := by simpa using hu
      rw [hu2] at e2
      cases e2
      exact ⟨xs[i], ru, fun T hT => ⟨T, xs[i], hx, rfl, hT, rfl⟩⟩
    · rw [show ((i + 1 : Nat) : Int) = (i : Int) + 1 by omega]
      exact he'
  done := by
    intro X hP hw hK hc i pins s σ H E I hf st hg
    subst hP hw hK
    obtain ⟨⟨old, he⟩, hit, ne, le⟩ := st
    obtain ⟨ge, ht⟩ := hg
    obtain rfl : i = xs.length := by omega
    obtain ⟨its, rv, p, _⟩ := I.tuple ht
    have hp : s.heap.IsTuple a its.toArray := p
    have ai : a ≠ it := fun z => by
      obtain ⟨o, ho, hc2, _⟩ := hp
      obtain ⟨o2, ho2, hc3, _⟩ := hit
      rw [z, ho2] at ho
      cases ho
      have hc2 : Value.type "tuple_iterator" = .type "tuple" := hc3.symm.trans hc2
      exact absurd (Value.type.inj hc2) (by decide)
    have hh : X.A.in1.handled = none := I.ok.hd hc
    have D := Draws.tuple (prog := X.prog) (w := X.w) hh it a ai its.toArray
    have len : its.toArray.size = xs.length := by
      rw [List.size_toArray]
      exact rv.length.symm
    refine enum_over I D he ⟨?_, hp⟩ hf
    rw [len]
    exact hit
  self := fun A i s Q E st h => by
    obtain ⟨⟨_, he⟩, _⟩ := st
    exact wpAny_pyIter_enum he h
end
end TcG
namespace TcG
open PySem PySem.Spec PyProof.Rows L2
section
variable {X : Cx} {e : Expr} {ta : TA} {p pos tpos : Pos} {elts : List Expr} {kk : Nat}
def iEnumT (K : PySem.W.Frag) (ta : TA) : TI := fun σ H R => ta σ H fun vs H1 => ∃ a xs, vs = [.ref a] ∧ SqT K H1 a xs ∧ R (IteT K a xs) H1
def iEnumS (ta : TA) : TI := fun σ H R => ta σ H fun vs H1 => ∃ z : Str, vs = [.str z] ∧ R (IteS z) H1
theorem pi_enumT (hg : Gl X "enumerate") (hm : X.mg "enumerate" = none) (ha : PA X [e] ta) (hs : starEach [e] X.env = [(false, eval e X.env)] := by rfl) :
    PI X (.Tuple elts kk tpos) (.Call (.Name "enumerate" p) [e] [] pos) (iEnumT X.K ta) := by
  refine ⟨fun pins s σ H R I h => ?_⟩
  refine Call_ (ld_blt I hg hm boot_enumerate (PyProof.Rows.callWith_type1 (thn (ha.run pos pins s σ H _ I h) fun us s1 ⟨vs, H1, I1, r1, q1⟩ => ?_) hs rfl))
  obtain ⟨a, xs, rfl, ht, q⟩ := q1
  obtain ⟨u, rfl, r⟩ := vals1 r1
  obtain rfl : u = Value.ref a := r
  obtain ⟨its, rv, pt, _⟩ := I1.tuple ht
  refine enum1 (begins_tuple a its.toArray) pt fun h' hen hit keep => wpAny_pyIter_enum hen ?_
  have I2 : Inv X pins σ H1 { s1 with heap := h' } := I1.kept (t' := s1.toks) keep
  refine ⟨s1.heap.objs.size + 1, [s1.heap.objs.size + 1, s1.heap.objs.size], _, _, H1, rfl, I2, turn_enumT a xs (s1.heap.objs.size + 1) s1.heap.objs.size, ⟨⟨.none, hen⟩, ⟨_, hit, rfl, rfl⟩, Nat.succ_ne_self _, Nat.zero_le _⟩, fun b hb => ?_, q⟩
  have le : s1.heap.objs.size ≤ b := by
    rcases List.mem_cons.mp hb with z | z
    · rw [z]
      exact Nat.le_succ _
    · rw [List.mem_singleton.mp z]
      exact Nat.le_refl _
  exact I1.fpOk le (I1.hok.fresh le)
theorem pi_enumS (hg : Gl X "enumerate") (hm : X.mg "enumerate" = none) (ha : PA X [e] ta) (hs : starEach [e] X.env = [(false, eval e X.env)] := by rfl) :
    PI X (.Tuple elts kk tpos) (.Call (.Name "enumerate" p) [e] [] pos) (iEnumS ta) := by
  refine ⟨fun pins s σ H R I h => ?_⟩
  refine Call_ (ld_blt I hg hm boot_enumerate (PyProof.Rows.callWith_type1 (thn (ha.run pos pins s σ H _ I h) fun us s1 ⟨vs, H1, I1, r1, q1⟩ => ?_) hs rfl))
  obtain ⟨z, rfl, q⟩ := q1
  obtain ⟨u, rfl, r⟩ := vals1 r1
  obtain ⟨t, rfl⟩ := (show ∃ t, u = Value.str z t from r)
  refine enum1 (begins_text z t) trivial fun h' hen hit keep => wpAny_pyIter_enum hen ?_
  have I2 : Inv X pins σ H1 { s1 with heap := h' } := I1.kept (t' := s1.toks) keep
  refine ⟨s1.heap.objs.size + 1, [s1.heap.objs.size + 1, s1.heap.objs.size], _, _, H1, rfl, I2, turn_enumS z t (s1.heap.objs.size + 1) s1.heap.objs.size, ⟨⟨.none, hen⟩, ⟨_, hit, rfl, rfl⟩, Nat.succ_ne_self _, Nat.zero_le _⟩, fun b hb => ?_, q⟩
  have le : s1.heap.objs.size ≤ b := by
    rcases List.mem_cons.mp hb with z | z
    · rw [z]
      exact Nat.le_succ _
    · rw [List.mem_singleton.mp z]
      exact Nat.le_refl _
  exact I1.fpOk le (I1.hok.fresh le)
end
end TcG
namespace TcG
open PySem PySem.Spec PyProof.Rows L2
/-- the turns over the numbered items of a tuple -/
theorem for_enumT {K : PySem.W.Frag} {a : Addr} {xs : List V} {g : TG} {tb : TS} {D : Ends} {σ : L2.St} {H : Hp} (Pv : Nat → L2.St → Hp → Prop) (h0 : Pv 0 σ H) (stays : ∀ i σ H, Pv i σ H → SqT K H a xs)
    (turn : ∀ i x σ H T, xs[i]? = some x → Pv i σ H → H T = none → g (.ref T) σ (upd H T (.tup [.int (i : Nat), x])) fun σ2 H2 => tb { D with nx := Pv (i + 1), ct := Pv (i + 1), bk := D.nx } σ2 H2) (out : ∀ σ H, Pv xs.length σ H → D.nx σ H) :
    ∃ W : Nat → Nat → L2.St → Hp → Prop, (∃ m, W 0 m σ H) ∧ ∀ i m σ H, W i m σ H →
      ((IteT K a xs).stop i H ∧ D.nx σ H) ∨ ((IteT K a xs).go i H ∧ ∃ N : L2.St → Hp → Prop, (∀ σ' H', N σ' H' → ∃ m', m' < m ∧ W (i + 1) m' σ' H') ∧ ∀ x H', (IteT K a xs).yld i H x H' → g x σ H' fun σ2 H2 => tb { D with nx := N, ct := N, bk := D.nx } σ2 H2) := by
  refine ⟨fun i m σ H => m = xs.length - i ∧ i ≤ xs.length ∧ Pv i σ H, ⟨xs.length, by simp, Nat.zero_le _, h0⟩, ?_⟩
  rintro i m σ H ⟨rfl, hi, p⟩
  by_cases lt : i < xs.length
  · refine .inr ⟨⟨lt, stays i σ H p⟩, Pv (i + 1), fun σ' H' p' => ⟨xs.length - (i + 1), by omega, rfl, lt, p'⟩, fun x H' y => ?_⟩
    obtain ⟨T, x', hx, rfl, hT, rfl⟩ := y
    exact turn i x' σ H T hx p hT
  · obtain rfl : i = xs.length := by omega
    exact .inl ⟨⟨Nat.le_refl _, stays _ σ H p⟩, out σ H p⟩
/-- the turns over the numbered signs of a text -/
theorem for_enumS {l : List Nat} {g : TG} {tb : TS} {D : Ends} {σ : L2.St} {H : Hp} (Pv : Nat → L2.St → Hp → Prop) (h0 : Pv 0 σ H)
    (turn : ∀ i c σ H T, l[i]? = some c → Pv i σ H → H T = none → g (.ref T) σ (upd H T (.tup [.int (i : Nat), .str (tx [c])])) fun σ2 H2 => tb { D with nx := Pv (i + 1), ct := Pv (i + 1), bk := D.nx } σ2 H2) (out : ∀ σ H, Pv l.length σ H → D.nx σ H) :
    ∃ W : Nat → Nat → L2.St → Hp → Prop, (∃ m, W 0 m σ H) ∧ ∀ i m σ H, W i m σ H →
      ((IteS (tx l)).stop i H ∧ D.nx σ H) ∨ ((IteS (tx l)).go i H ∧ ∃ N : L2.St → Hp → Prop, (∀ σ' H', N σ' H' → ∃ m', m' < m ∧ W (i + 1) m' σ' H') ∧ ∀ x H', (IteS (tx l)).yld i H x H' → g x σ H' fun σ2 H2 => tb { D with nx := N, ct := N, bk := D.nx } σ2 H2) := by
  have size : (tx l).cps.size = l.length := tx_length l
  refine ⟨fun i m σ H => m = l.length - i ∧ i ≤ l.length ∧ Pv i σ H, ⟨l.length, by simp, Nat.zero_le _, h0⟩, ?_⟩
  rintro i m σ H ⟨rfl, hi, p⟩
  by_cases lt : i < l.length
  · refine .inr ⟨by show i < (tx l).cps.size; rw [size]; exact lt, Pv (i + 1), fun σ' H' p' => ⟨l.length - (i + 1), by omega, rfl, lt, p'⟩, fun x H' y => ?_⟩
    obtain ⟨T, c, hc, rfl, hT, rfl⟩ := y
    exact turn i c σ H T (by simpa [tx] using hc) p hT
  · obtain rfl : i = l.length := by omega
    exact .inl ⟨by show (tx l).cps.size ≤ l.length; rw [size]; exact Nat.le_refl _, out σ H p⟩
end TcG
/-! s.index(c, i); list(s). -/
namespace TcG
open PySem PySem.Spec PyProof.Rows L2
open Builtin.Str StrLaws
theorem occ_full (s sub : Str) (hi : Nat) : ∀ (l : List Nat) (st : Array Nat × Nat), 1 ≤ st.fst.size → (forIn (m := Id) l st (occBody s sub hi 1)).run = st
  | [], _, _ => rfl
  | a :: l, st, h => by
    have no : ¬ (((st.fst.size < 1 ∧ st.snd ≤ a) ∧ a + sub.length ≤ hi) ∧ subAt s sub a = true) := fun z => by have := z.1.1.1; omega
    rw [List.forIn_cons]
    unfold occBody
    rw [if_neg no]
    exact occ_full s sub hi l st h
theorem occ_until (s sub : Str) (hi i free : Nat) (B : List Nat) (here : i + sub.length ≤ hi ∧ subAt s sub i = true) (le : free ≤ i) : ∀ A : List Nat, (∀ a ∈ A, ¬ (a + sub.length ≤ hi ∧ subAt s sub a = true)) →
    (forIn (m := Id) (A ++ i :: B) ((#[] : Array Nat), free) (occBody s sub hi 1)).run.fst = #[i]
  | [], _ => by
    rw [List.nil_append, List.forIn_cons]
    have yes : (((#[] : Array Nat).size < 1 ∧ free ≤ i) ∧ i + sub.length ≤ hi) ∧ subAt s sub i = true := ⟨⟨⟨by decide, le⟩, here.1⟩, here.2⟩
    have e : occBody s sub hi 1 i ((#[] : Array Nat), free) = pure (ForInStep.yield (#[i], i + sub.length)) := by
      unfold occBody
      rw [if_pos yes]
      rfl
    rw [e]
    show (forIn (m := Id) B ((#[i] : Array Nat), i + sub.length) (occBody s sub hi 1)).run.fst = #[i]
    rw [occ_full s sub hi B _ (by show 1 ≤ (#[i] : Array Nat).size; simp)]
  | a :: A, h => by
    have no : ¬ ((((#[] : Array Nat).size < 1 ∧ free ≤ a) ∧ a + sub.length ≤ hi) ∧ subAt s sub a = true) := fun z => h a List.mem_cons_self ⟨z.1.2, z.2⟩
    rw [List.cons_append, List.forIn_cons]
    have e : occBody s sub hi 1 a ((#[] : Array Nat), free) = pure (ForInStep.yield (#[], free)) := by
      unfold occBody
      rw [if_neg no]
    rw [e]
    exact occ_until s sub hi i free B here le A fun b hb => h b (List.mem_cons_of_mem _ hb)
theorem index_from {pre p q : List Nat} {c : Nat} (nc : c ∉ p) : Txt.indexFrom (tx (pre ++ (p ++ c :: q))) (tx [c]) (pre.length : Int) = some (pre.length + p.length) := by
  unfold Txt.indexFrom
  have len : (tx (pre ++ (p ++ c :: q))).length = pre.length + p.length + 1 + q.length := by
    rw [tx_length]
    simp
    omega
  have lo : fromIndex (tx (pre ++ (p ++ c :: q))).length (pre.length : Int) = pre.length := by
    first
      | rfl
      | (rw [len]; unfold fromIndex; split <;> omega)
      | (rw [len]; unfold fromIndex; simp; omega)
  rw [lo, occ_eq]
  have one : ∀ i, (i + (tx [c]).length ≤ (tx (pre ++ (p ++ c :: q))).length ∧ subAt (tx (pre ++ (p ++ c :: q))) (tx [c]) i = true) ↔ (pre ++ (p ++ c :: q))[i]? = some c := fun i => subAt_one (tx (pre ++ (p ++ c :: q))) c i
  have split : List.range' pre.length ((tx (pre ++ (p ++ c :: q))).length + 1 - pre.length) = List.range' pre.length p.length ++ (pre.length + p.length) :: List.range' (pre.length + p.length + 1) (q.length + 1) := by
    rw [len, show pre.length + p.length + 1 + q.length + 1 - pre.length = p.length + (1 + (q.length + 1)) by omega, ← List.range'_append_1, ← List.range'_append_1]
    rfl
  rw [split, occ_until _ _ _ _ _ _ ((one _).mpr ?_) (by omega) _ fun a ha => ?_]
  · rfl
  · rw [List.getElem?_append_right (by omega), List.getElem?_append_right (by omega)]
    rw [show pre.length + p.length - pre.length - p.length = 0 by omega]
    rfl
  · rw [one]
    obtain ⟨j, hj, rfl⟩ := List.mem_range'.mp ha
    intro z
    rw [List.getElem?_append_right (by omega), show pre.length + 1 * j - pre.length = j by omega, List.getElem?_append_left hj] at z
    exact nc (List.mem_of_getElem? z)
section
variable {X : Cx}
/-- list(s) -/
theorem call_listT (hc : X.calm = true) : CallR X (.type "list") (fun xs H Q => ∃ l : List Nat, xs = [.str (tx l)] ∧ l.length ≤ 1000 ∧ ∀ p, H p = none → Q (.ref p) (upd H p (.lst (l.map fun c => .str (tx [c]))))) := by
  intro pins s σ H xs us Q I r h
  obtain ⟨l, rfl, few, q⟩ := h
  obtain ⟨u, rfl, rx⟩ := vals1 r
  obtain ⟨t, rfl⟩ := (show ∃ t, u = Value.str (tx l) t from rx)
  have size : (tx l).cps.size = l.length := tx_length l
  refine PySem.call_list_str (I.ok.hd hc) (tx l) t (fun h' tk acc c' keep at' items => ?_) (by rw [size]; exact Nat.le_trans few (by decide))
  have vals : ∀ (l : List Nat) (vs : List Value), vs.length = l.length → (∀ (j : Nat) v, vs[j]? = some v → ∃ c u, l[j]? = some c ∧ v = .str ⟨#[c]⟩ u) → Vals (l.map fun c => V.str (tx [c])) vs := by
    intro l
    induction l with
    | nil =>
      intro vs e _
      cases vs with
      | nil => exact .nil
      | cons _ _ => cases e
    | cons c r ih =>
      intro vs e h
      cases vs with
      | nil => cases e
      | cons v vs =>
        obtain ⟨c', u, e1, rfl⟩ := h 0 v rfl
        cases e1
        exact .cons ⟨u, rfl⟩ (ih vs (Nat.succ.inj e) fun j v hj => h (j + 1) v hj)
  have V1 : Vals (l.map fun c => V.str (tx [c])) acc.toList := vals l acc.toList (by
      have e := items.1
      rw [size] at e
      simpa using e) fun j v hj => by
    have hj2 : acc[j]? = some v := by simpa using hj
    obtain ⟨c, u, e1, e2⟩ := items.2 j v hj2
    exact ⟨c, u, by simpa [tx] using e1, e2⟩
  have J := I.laid (t' := tk) (a := s.heap.objs.size) (o := .lst (l.map fun c => V.str (tx [c]))) keep (Nat.le_refl _)
    (show ObjOk X.prog X.w _ h' _ (.lst _) from ⟨by rw [List.length_map]; exact Nat.le_trans few (by decide), acc.toList, c', V1, by simpa using at'⟩)
  exact ⟨.ref s.heap.objs.size, _, J, rfl, q _ (I.hok.fresh (Nat.le_refl _))⟩
end
end TcG
/-! s[::-1], t[::-1]: a text, a tuple, backwards. -/
namespace TcG
open PySem PySem.Spec PyProof.Rows L2
theorem rev_pick {α : Type} (xs : Array α) : (sliceRange ((xs.size : Int) - 1) (-1) (-1)).filterMap (xs[·]?) = xs.toList.reverse := by
  rw [PySem.W.krv_sliceRange, PySem.W.krv_range, List.filterMap_reverse, PySem.W.krv_all]
theorem rev_text (l : List Nat) (t t2 : Tok) : sliceMade (tx l) t none none (some (-1, t2)) = .str (tx l.reverse) := by
  unfold sliceMade slicePicked
  have e1 : ((((some ((-1 : Int), t2)).map (·.1)).getD 1 == 1)) = false := by rfl
  have e2 : Builtin.Str.strSliceIndices none none (-1) (tx l).length = sliceRange (((tx l).cps.size : Int) - 1) (-1) (-1) := by
    unfold Builtin.Str.strSliceIndices
    rfl
  show (if ((((some ((-1 : Int), t2)).map (·.1)).getD 1 == 1) && _) = true then _ else Made.str ⟨((Builtin.Str.strSliceIndices none none (-1) (tx l).length).filterMap ((tx l).cps[·]?)).toArray⟩) = _
  rw [e1, Bool.false_and, if_neg Bool.false_ne_true, e2, rev_pick]
  rfl
section
variable {X : Cx} {e : Expr} {te : TE} {k : Nat} {p1 p2 p3 pos : Pos}
def tRevS (te : TE) : TE := fun σ H Q => te σ H fun x H1 => ∃ l : List Nat, x = .str (tx l) ∧ l.length ≤ 1000 ∧ Q (.str (tx l.reverse)) H1
theorem pe_revS (he : PE X e te) : PE X (.Subscript e (.Slice none none (some (.UnaryOp .USub (.Constant (.int 1) k p1) p2)) p3) pos) (tRevS te) := by
  refine ⟨fun pins s σ H Q I h => ?_⟩
  refine Subscript_ (thn (he.run pins s σ H _ I h) fun v s1 ⟨x, H1, I1, r1, q1⟩ => ?_)
  obtain ⟨l, rfl, few, q⟩ := q1
  obtain ⟨t, rfl⟩ := (show ∃ t, v = Value.str (tx l) t from r1)
  have step : PO X (some (.UnaryOp .USub (.Constant (.int 1) k p1) p2)) (tPart (tUn (rU fun i => .int (-i)) (tC (.int 1)))) := po_some (pe_un un_neg pe_int)
  refine wpAny_Slice (thn (po_none.run pins s1 σ H1 (fun o H2 => o = none ∧ H2 = H1) I1 ⟨rfl, rfl⟩) fun vl s2 ⟨_, H2, I2, pl, el, e2⟩ => ?_)
  subst el e2
  refine thn (po_none.run pins s2 σ H2 (fun o H3 => o = none ∧ H3 = H2) I2 ⟨rfl, rfl⟩) fun vu s3 ⟨_, H3, I3, pu, eu, e3⟩ => ?_
  subst eu e3
  refine thn (step.run pins s3 σ H3 (fun o H4 => o = some (-1) ∧ H4 = H3) I3 ⟨1, rfl, -1, rfl, rfl, rfl⟩) fun vs s4 ⟨_, H4, I4, ps, eo, e4⟩ => ?_
  subst eo e4
  have I5 : Inv X pins σ H4 { s4 with heap := s4.heap.push { cls := .type "slice", data := .fields #[vl, vu, vs] } } := I4.kept (t' := s4.toks) fun b ob q => Heap.get?_push_of_some _ q
  cases pl
  cases pu
  cases ps with
  | int _ t2 =>
    refine tail_any (ops := [.str (tx l) t, .ref s4.heap.objs.size]) (typeIs_str _ _ _) PySem.F.slot_str_getitem.lookup ?_ (by with_unfolding_all rfl)
    refine wpAny_getItem_str_slice (l := none) (u := none) (st := some (-1, t2)) ⟨_, Heap.get?_push_size _ rfl, rfl, rfl⟩ (by rfl) ?_
    rw [rev_text]
    refine ⟨?_, .str (tx l.reverse), H4, I5.tok _, ⟨_, rfl⟩, q⟩
    rw [tx_length, List.length_reverse]
    exact Nat.le_trans few (by decide)
end
theorem rev_places (n : Nat) : Builtin.Slice.slicePlaces ((n : Int) - 1) (-1) (-1) = n := by
  unfold Builtin.Slice.slicePlaces
  have h1 : ¬ ((-1 : Int) > 0) := by decide
  have h2 : (- (-1 : Int)) = 1 := by decide
  simp only [h1, h2, if_false, Int.ediv_one]
  split <;> omega
theorem rev_adjust (n : Nat) : Builtin.Slice.sliceAdjust none none (-1) (n : Int) = ((n : Int) - 1, -1) := by
  unfold Builtin.Slice.sliceAdjust
  have h1 : (-1 : Int) < 0 := by decide
  simp only [h1, if_true]
theorem filterMap_same {α β : Type} {f g : α → Option β} : ∀ l : List α, (∀ m ∈ l, f m = g m) → l.filterMap f = l.filterMap g
  | [], _ => rfl
  | x :: l, h => by
    rw [List.filterMap_cons, List.filterMap_cons, h x List.mem_cons_self, filterMap_same l fun m hm => h m (List.mem_cons_of_mem _ hm)]
theorem rev_items (xs : Array Value) : ((List.range xs.size).filterMap fun (m : Nat) => xs[((xs.size : Int) - 1 + (m : Int) * -1).toNat]?) = xs.toList.reverse := by
  rw [← rev_pick, PySem.W.krv_sliceRange, List.filterMap_map]
  refine filterMap_same _ fun m hm => ?_
  have := List.mem_range.mp hm
  show xs[((xs.size : Int) - 1 + (m : Int) * -1).toNat]? = xs[xs.size - 1 - m]?
  congr 1
  omega
theorem tuple_back {prog : Program} {w : World} {A : Around} {E : Value → Shared → Prop} {s : Shared} {a sl : Addr} {items : Array Value} {t : Tok} {Q : Value → Shared → Prop} (ht : IsTup s.heap a items) (hs : s.heap.IsSliceOf sl .none .none (.int (-1) t))
    (few : items.size ≤ sizeLine) (h : Q (.ref s.heap.objs.size) { s with heap := s.heap.push { cls := .type "tuple", data := .seq items.toList.reverse.toArray } }) : wpAny (model prog w) A (getItem (.ref a) (.ref sl)) Q E s := by
  have ok : sizeOk (.seq items.toList.reverse.toArray) := by
    show items.toList.reverse.toArray.size ≤ sizeLine
    rw [List.size_toArray, List.length_reverse, Array.length_toList]
    exact few
  obtain ⟨os, at', cls', fields⟩ := id hs
  have isSlice : s.TypeIs (.ref sl) "slice" := ⟨os, at', cls'⟩
  unfold getItem
  try with_reducible refine wpAny_holding ?_
  first | refine wpAny_bind (wpAny_pure ?_) | skip
  refine wpAny_bind (wpAny_sequenceKey ht.typeIs (by decide) ?_)
  refine wpAny_bind (wpAny_callSpecial?_slot (name := Str.ofString "__getitem__") ht.typeIs PyProof.Rows.slot_tuple_getitem
    (wpAny_call_entry PyProof.Rows.slot_tuple_getitem ht.typeIs entry_tuple_getitem ?_ (args_tuple_getitem _ _)))
  change wpAny _ _ (Builtin.Tuple.tupleItemsOf (.ref a) >>= _) _ _ s
  refine wpAny_bind (PyProof.Rows.tupleItemsOf_ ht ?_)
  refine wpAny_bind (wpAny_typeOf isSlice ?_)
  rw [if_pos (by decide)]
  have applied : ∀ {Q' : Int × Int × Nat → Shared → Prop} {E' : Value → Shared → Prop} {A' : Around}, Q' ((items.size : Int) - 1, -1, items.size) s → wpAny (model prog w) A' (Builtin.Slice.sliceApplied (.ref sl) (pure (items.size : Int))) Q' E' s := fun {Q' E' A'} q => by
    unfold Builtin.Slice.sliceApplied Builtin.Slice.sliceFields
    refine wpAny_bind (wpAny_bind (wpAny_field at' fields (x := .none) rfl (wpAny_bind (wpAny_field at' fields (x := .none) rfl (wpAny_bind (wpAny_field at' fields (x := .int (-1) t) rfl (wpAny_pure ?_)))))))
    refine wpAny_bind (slicePart_int ?_)
    change wpAny _ _ (if ((-1 : Int) == 0) = true then _ else _) _ _ s
    rw [if_neg (by decide)]
    refine wpAny_bind (slicePart_none (wpAny_bind (slicePart_none (wpAny_bind (wpAny_pure ?_)))))
    change wpAny _ _ (match Builtin.Slice.sliceAdjust none none (-1) (items.size : Int) with | (lo, hi) => pure (lo, (-1 : Int), Builtin.Slice.slicePlaces lo hi (-1))) _ _ s
    rw [rev_adjust]
    change wpAny _ _ (pure ((items.size : Int) - 1, (-1 : Int), Builtin.Slice.slicePlaces ((items.size : Int) - 1) (-1) (-1))) _ _ s
    rw [rev_places]
    exact wpAny_pure q
  refine wpAny_bind (applied ?_)
  have other : ¬ ((((items.size : Int) - 1 == 0) && (-1 : Int) == 1 && items.size == items.size) = true) := by simp
  change wpAny _ _ (if (((items.size : Int) - 1 == 0) && (-1 : Int) == 1 && items.size == items.size) = true then _ else _) _ _ s
  rw [if_neg other, rev_items]
  first
    | exact wpAny_bind (m := Builtin.Tuple.tupleExact _) (wpAny_newObj_type (wpAny_pure ⟨_, rfl, wpAny_pure h⟩) ok)
    | exact wpAny_bind (m := Builtin.Tuple.tupleExact _) (wpAny_newObj_type (wpAny_bind (wpAny_pure (wpAny_pure ⟨_, rfl, wpAny_pure h⟩))) ok)
    | exact wpAny_bind (wpAny_bind (m := Builtin.Tuple.tupleExact _) (wpAny_newObj_type (wpAny_pure (wpAny_pure ⟨_, rfl, wpAny_pure h⟩)) ok))
    | exact wpAny_bind (wpAny_bind (m := Builtin.Tuple.tupleExact _) (wpAny_newObj_type (wpAny_pure ⟨_, rfl, wpAny_pure h⟩) ok))
section
variable {X : Cx} {e : Expr} {te : TE} {k : Nat} {p1 p2 p3 pos : Pos}
def tRevT (K : PySem.W.Frag) (te : TE) : TE := fun σ H Q => te σ H fun x H1 => ∃ a xs, x = .ref a ∧ SqT K H1 a xs ∧ ∀ p, H1 p = none → Q (.ref p) (upd H1 p (.tup xs.reverse))
theorem pe_revT (he : PE X e te) : PE X (.Subscript e (.Slice none none (some (.UnaryOp .USub (.Constant (.int 1) k p1) p2)) p3) pos) (tRevT X.K te) := by
  refine ⟨fun pins s σ H Q I h => ?_⟩
  refine Subscript_ (thn (he.run pins s σ H _ I h) fun v s1 ⟨x, H1, I1, r1, q1⟩ => ?_)
  obtain ⟨a, xs, rfl, hx, q⟩ := q1
  obtain rfl : v = Value.ref a := r1
  have step : PO X (some (.UnaryOp .USub (.Constant (.int 1) k p1) p2)) (tPart (tUn (rU fun i => .int (-i)) (tC (.int 1)))) := po_some (pe_un un_neg pe_int)
  refine wpAny_Slice (thn (po_none.run pins s1 σ H1 (fun o H2 => o = none ∧ H2 = H1) I1 ⟨rfl, rfl⟩) fun vl s2 ⟨_, H2, I2, pl, el, e2⟩ => ?_)
  subst el e2
  refine thn (po_none.run pins s2 σ H2 (fun o H3 => o = none ∧ H3 = H2) I2 ⟨rfl, rfl⟩) fun vu s3 ⟨_, H3, I3, pu, eu, e3⟩ => ?_
  subst eu e3
  refine thn (step.run pins s3 σ H3 (fun o H4 => o = some (-1) ∧ H4 = H3) I3 ⟨1, rfl, -1, rfl, rfl, rfl⟩) fun vs s4 ⟨_, H4, I4, ps, eo, e4⟩ => ?_
  subst eo e4
  have I5 : Inv X pins σ H4 { s4 with heap := s4.heap.push { cls := .type "slice", data := .fields #[vl, vu, vs] } } := I4.kept (t' := s4.toks) fun b ob q => Heap.get?_push_of_some _ q
  obtain ⟨its, r, ht, hz⟩ := I5.tuple hx
  have hlen := r.length
  cases pl
  cases pu
  cases ps with
  | int _ t2 =>
    refine tail_any (ops := [.ref a, .ref s4.heap.objs.size]) ht.typeIs (PyProof.Rows.slot_tuple_getitem.lookup) ?_ (by with_unfolding_all rfl)
    refine tuple_back ht (Heap.IsSliceOf.new _ .none .none (.int (-1) t2)) (by rw [List.size_toArray]; omega) ?_
    refine ⟨.ref _, _, I5.laid (t' := s4.toks) (o := .tup xs.reverse) (fun b ob q => Heap.get?_push_of_some _ q) (Nat.le_refl _) ?_, rfl, q _ (I5.hok.fresh (Nat.le_refl _))⟩
    exact ⟨by rw [List.length_reverse]; exact hz, its.reverse, r.reverse, ⟨_, Heap.get?_push_size _ rfl, rfl, _, rfl⟩⟩
end
/-! slices and sums of tuples, whatever object comes out -/
theorem slice_anyT {K : PySem.W.Frag} {H : Hp} {p : Addr} {xs : List V} {lo hi : Option Int} {Q : VK} (h : SqT K H p xs) (q : ∀ p' H', Same H H' → SqT K H' p' (cutV xs lo hi) → Q (.ref p') H') : rSlA K (.ref p) lo hi H Q := by
  refine ⟨p, xs, rfl, h, fun w => q p H (Same.refl _) ?_, fun _ p' n => q p' _ (same_new n) (SqT.of upd_same)⟩
  have e : cutV xs lo hi = xs := by
    unfold cutV
    rw [w.1, w.2, List.drop_zero, Nat.sub_zero, List.take_length]
  rw [e]
  exact h
theorem cat_anyT {K : PySem.W.Frag} {H : Hp} {p1 p2 : Addr} {xs ys : List V} {Q : VK} (h1 : SqT K H p1 xs) (h2 : SqT K H p2 ys) (z : xs.length + ys.length ≤ sizeLine) (q : ∀ p' H', Same H H' → SqT K H' p' (xs ++ ys) → Q (.ref p') H') : rCatA K (.ref p1) (.ref p2) H Q := by
  refine ⟨p1, p2, xs, ys, rfl, rfl, h1, h2, z, fun e => q p2 H (Same.refl _) (by rw [e]; exact h2), fun _ e => q p1 H (Same.refl _) (by rw [e, List.append_nil]; exact h1), fun _ _ p' n => q p' _ (same_new n) (SqT.of upd_same)⟩
theorem cutV_to (xs : List V) (j : Nat) : cutV xs none (some (j : Int)) = xs.take j := by
  unfold cutV
  rw [HT.sIx_none, HT.sIx_nat, List.drop_zero, Nat.sub_zero]
  by_cases h : j ≤ xs.length
  · rw [Nat.min_eq_left h]
  · rw [Nat.min_eq_right (by omega), List.take_length, List.take_of_length_le (by omega)]
theorem cutV_from (xs : List V) (j : Nat) : cutV xs (some (j : Int)) none = xs.drop j := by
  unfold cutV
  rw [HT.sIx_none, HT.sIx_nat]
  by_cases h : j ≤ xs.length
  · rw [Nat.min_eq_left h, List.take_of_length_le (by rw [List.length_drop]; omega)]
  · rw [Nat.min_eq_right (by omega), List.drop_length, List.drop_of_length_le (show xs.length ≤ j by omega)]
    simp
end TcG
/-! all(test for x, y in zip(a, b)), a and b texts or tuples. -/
namespace TcG
open PySem PySem.Spec PyProof.Rows L2
theorem add_ne (n a b : Nat) (h : a ≠ b) : n + a ≠ n + b := by omega
theorem add_far {n a : Nat} {m : List Nat} (h : ∀ b ∈ m, b < n) (d : Nat) (ne : a ≠ d) : n + a ∉ (n + d) :: m := fun z => by
  rcases List.mem_cons.mp z with z | z
  · exact add_ne n a d ne z
  · have := h _ z
    omega
/-- what zip draws from -/
structure Source (P : Program) (w : World) (Pt : Addr) (h : Heap) (u : Value) (n : Nat) (Pv : Nat → Value → Prop) : Prop where
  ex : ∃ (o : Obj) (Hc : Heap → Prop) (more : List Addr) (St : Addr → Nat → Heap → Prop), Begins u o Hc ∧ Hc h ∧ (∀ b ∈ more, b < h.objs.size) ∧ Pt ∉ more ∧
    (∀ (A : Around) (it : Addr), A.handled = none → h.objs.size ≤ it → Draws P w A it (it :: more) n Pv (St it)) ∧ ∀ it h', h'.get? it = some o → Hc h' → St it 0 h'
theorem source_text {P : Program} {w : World} {Pt : Addr} {h : Heap} {z : Str} {t : Tok} : Source P w Pt h (.str z t) z.cps.size (fun i v => ∃ c u, z.cps[i]? = some c ∧ v = .str ⟨#[c]⟩ u) :=
  ⟨_, _, [], fun it i h => h.IsStrIter it (strIterType z) z t i, begins_text z t, trivial, (fun b hb => absurd hb (by simp)), (by simp), fun A it hh _ => Draws.text hh it z t, fun it h' e _ => ⟨_, e, rfl, rfl⟩⟩
theorem source_tuple {P : Program} {w : World} {Pt : Addr} {h : Heap} {a : Addr} {its : Array Value} (ht : h.IsTuple a its) (ne : Pt ≠ a) : Source P w Pt h (.ref a) its.size (fun i v => its[i]? = some v) := by
  have lt : a < h.objs.size := by
    obtain ⟨o, e, _⟩ := ht
    exact Heap.lt_size e
  exact ⟨_, _, [a], fun it i h => h.IsTupleIter it a i ∧ h.IsTuple a its, begins_tuple a its, ht, fun b hb => by rw [List.mem_singleton.mp hb]; exact lt, fun z => ne (List.mem_singleton.mp z), fun A it hh le => Draws.tuple hh it a (fun z => by rw [z] at lt; exact absurd lt (Nat.not_lt.mpr le)) its, fun it h' e hc => ⟨⟨_, e, rfl, rfl⟩, hc⟩⟩
/-- the generator's own scope, with two names -/
structure GenS2 (env : Env) (scope : Scope) (x y : Str) : Prop where
  kind : scope.kind = .function
  co : scope.isCoroutine = false
  cell : ∀ z ∈ scope.names, z.2 ≠ .cell
  dot : scope.names.lookup (".0" : Str) = some NameKind.local
  locx : scope.names.lookup x = some .local
  locy : scope.names.lookup y = some .local
  ne : x ≠ y
  free : ∀ z ∈ scope.names, z.2 = .free → ∃ c, env.cells.lookup z.1 = some c
section
variable {X : Cx} {pins : List (Addr × Obj)} {σ : L2.St} {H : Hp} {s : Shared}
/-- the generator g, ready to be walked in s5: n items, told by tr -/
def ReadyN (X : Cx) (pins : List (Addr × Obj)) (σ : L2.St) (H1 : Hp) (P : Addr) (n : Nat) (tr : Nat → Bool) (g : Addr) (s5 : Shared) : Prop :=
  ∃ (fp wr : List Addr) (G : Array GenState → Array GenState → Prop) (F : Nat → Value → Prop) (St : Nat → Shared → Prop), WalksS X.prog X.w X.A.in1 g fp wr G n F St ∧ St 0 s5 ∧ (∀ i v, F i v → v = .bool (tr i)) ∧
    ∀ s', Moved wr G s5 s' → ∃ H2, GxR.Tabbed P H1 H2 ∧ Inv X pins σ H2 s'
theorem gen_zip {c P : Addr} {elt e1 e2 : Expr} {x y : Str} {px py pt gpos p pos : Pos} {kt : Nat} {scope : Scope} {ta : TA} {k : Nat} {Q' : Value → Shared → Prop} {R : List V → Hp → Prop}
    (room : Room k X.A) (TB : GxR.TabB X.base X.mg c P) (codeAt : X.env.code = .ref c) (S : GenS2 X.env scope x y) (hg : Gl X "zip") (hm : X.mg "zip" = none) (ha : PA X [e1, e2] ta)
    (plain : ∀ v, genFold (.Call (.Name "zip" p) [e1, e2] [] pos) X.env v = pure v) (I : Inv X pins σ H s) (h : ta σ H fun vs H1 => GxR.TabG H1 P ∧ R vs H1)
    (src : ∀ vs us H1 s1, Inv X pins σ H1 s1 → GxR.TabG H1 P → R vs H1 → Vals vs us → ∃ (u1 u2 : Value) (n1 n2 : Nat) (P1 P2 : Nat → Value → Prop) (tr : Nat → Bool), us = [u1, u2] ∧ Source X.prog X.w P s1.heap u1 n1 P1 ∧ Source X.prog X.w P s1.heap u2 n2 P2 ∧
      (∀ (cenv : Env) (A' : Around) E' i va vb (s2 : Shared) m2, cenv.scope = scope → A'.handled = none → P1 i va → P2 i vb → s2.heap.Ns cenv.locals m2 → m2 x = some va → m2 y = some vb → wpAny (model X.prog X.w) A' (eval elt cenv) (fun v s3 => v = .bool (tr i) ∧ Keeps s2 s3) E' s2) ∧
      ∀ g s5, ReadyN X pins σ H1 P (min n1 n2) tr g s5 → Q' (.ref g) s5)
    (hs : starEach [e1, e2] X.env = (false, eval e1 X.env) :: starEach [e2] X.env := by rfl) (hpl : (backTo pos (starEach [e2] X.env)).any (·.1) = false := by rfl) :
    wpAny (model X.prog X.w) X.A (eval (.GeneratorExp elt [⟨.Tuple [.Name x px, .Name y py] kt pt, .Call (.Name "zip" p) [e1, e2] [] pos, [], 0⟩] scope gpos) X.env) Q' X.xe s := by
  refine wpAny_GeneratorExp_walksQT room.hd S.co (closure_ok S.free) S.cell S.dot S.locx S.locy S.ne S.kind (by have := room.dp; omega) ?_ plain
  refine Call_ (ld_blt I hg hm boot_zip (PyProof.Rows.callWith_type1 (thn (ha.run pos pins s σ H _ I h) fun us s1 ⟨vs, H1, I1, r1, q1⟩ => ?_) hs hpl))
  obtain ⟨⟨ps, tabAt, tri⟩, q1⟩ := q1
  obtain ⟨u1, u2, n1, n2, P1, P2, tr, rfl, ⟨o1, C1, more1, St1, b1, c1, lt1, nP1, d1, z1⟩, ⟨o2, C2, more2, St2, b2, c2, lt2, nP2, d2, z2⟩, el, goal⟩ := src vs us H1 s1 I1 ⟨ps, tabAt, tri⟩ q1 r1
  refine zip_begins2 b1 b2 c1 c2 fun h2 hz hTI hTO g1 g2 size2 keep2 => ?_
  have sep : ZipSep2 (s1.heap.objs.size + 4) (s1.heap.objs.size + 2) (s1.heap.objs.size + 3) s1.heap.objs.size (s1.heap.objs.size + 1) (s1.heap.objs.size :: more1) ((s1.heap.objs.size + 1) :: more2) := by
    have f1 : s1.heap.objs.size + 0 = s1.heap.objs.size := Nat.add_zero _
    have n0 : ∀ k, k ≠ 0 → s1.heap.objs.size + k ≠ s1.heap.objs.size := fun k hk => add_ne s1.heap.objs.size k 0 hk
    have g0 : ∀ k, k ≠ 0 → s1.heap.objs.size + k ∉ s1.heap.objs.size :: more1 := fun k hk => add_far lt1 0 hk
    exact ⟨add_ne _ 2 4 (by decide), add_ne _ 3 4 (by decide), add_ne _ 2 3 (by decide), n0 2 (by decide), List.mem_cons_self, g0 4 (by decide), g0 3 (by decide), add_ne _ 2 1 (by decide), List.mem_cons_self, add_far lt2 1 (by decide), add_far lt2 1 (by decide), add_far (a := 0) lt2 1 (by decide), g0 1 (by decide)⟩
  refine wpAny_pyIter_zip hz ?_
  have tab1 : s1.heap.get? P = some { cls := .none, data := .fields ps } := I1.hok P _ tabAt
  have tabLt : P < s1.heap.objs.size := Heap.lt_size tab1
  have tab2 : h2.get? P = some { cls := .none, data := .fields ps } := keep2 _ _ tab1
  have cd : PySem.W.CodeHd h2 c P := TB.code.keeps fun b u e => keep2 b u (I1.bk b u e)
  have lim2 : h2.NoLimit := I1.nolimit.keeps keep2
  have walks : ∀ A' : Around, A'.handled = none → _ := fun A' hA => (WalksT.zipD2 (prog := X.prog) (w := X.w) (A := A') sep (d1 A'.in1 s1.heap.objs.size hA (Nat.le_refl _)) (d2 A'.in1 (s1.heap.objs.size + 1) hA (Nat.le_succ _))).toU
  have ge : ∀ b ∈ [s1.heap.objs.size + 4, s1.heap.objs.size + 3, s1.heap.objs.size, s1.heap.objs.size + 1], s1.heap.objs.size ≤ b := fun b hb => by
    simp only [List.mem_cons, List.not_mem_nil, or_false] at hb
    rcases hb with rfl | rfl | rfl | rfl
    · exact Nat.le_add_right _ _
    · exact Nat.le_add_right _ _
    · exact Nat.le_refl _
    · exact Nat.le_add_right _ _
  have nP : ∀ b ∈ (s1.heap.objs.size + 4) :: (s1.heap.objs.size + 2) :: (s1.heap.objs.size + 3) :: ((s1.heap.objs.size :: more1) ++ ((s1.heap.objs.size + 1) :: more2)), b ≠ P ∧ b < s1.heap.objs.size + 5 := fun b hb => by
    have big : ∀ k, k < 5 → s1.heap.objs.size + k ≠ P ∧ s1.heap.objs.size + k < s1.heap.objs.size + 5 := fun k hk => ⟨fun z => by
      have := Nat.lt_of_lt_of_le tabLt (Nat.le_add_right s1.heap.objs.size k)
      rw [z] at this
      exact Nat.lt_irrefl _ this, Nat.add_lt_add_left hk _⟩
    simp only [List.mem_cons, List.mem_append] at hb
    rcases hb with rfl | rfl | rfl | (rfl | hb) | (rfl | hb)
    · exact big 4 (by decide)
    · exact big 2 (by decide)
    · exact big 3 (by decide)
    · exact big 0 (by decide)
    · exact ⟨fun z => nP1 (z ▸ hb), Nat.lt_of_lt_of_le (lt1 b hb) (Nat.le_add_right _ _)⟩
    · exact big 1 (by decide)
    · exact ⟨fun z => nP2 (z ▸ hb), Nat.lt_of_lt_of_le (lt2 b hb) (Nat.le_add_right _ _)⟩
  have cont : ∀ (code : Value) (h3 : Heap) (tk : Nat) (ps' : Array Value), Heap.ExtBut P h2 h3 → h2.objs.size ≤ h3.objs.size → h3.get? P = some { cls := .none, data := .fields ps' } →
      (∃ more, ps' = ps ++ more) → TriplesOk ps'.toList →
      wpAny (model X.prog X.w) X.A (builtinsFor X.env.globals X.env.builtins) (fun bi s4 =>
        ∃ J fp wr n0 Pt St0 Mid pz F, Value.ref (s1.heap.objs.size + 4) = .ref J ∧ (∀ A' : Around, A'.handled = none → WalksU X.prog X.w A' J fp wr n0 Pt St0 Mid) ∧ (∀ i vals, Pt i vals → ∃ va vb, vals = #[va, vb]) ∧ St0 0 s4.heap ∧ (∀ b ∈ fp, b < s4.heap.objs.size) ∧ s4.heap.NoLimit ∧ cStatics ∉ wr ∧
          (∀ href : Heap, (∀ b o, s4.heap.get? b = some o → href.get? b = some o) →
            QuietGenT X.prog X.w (genEnv scope (cloFrom X.env.cells scope.names []) s4.heap.objs.size code bi X.env) x y [] elt (List.range s4.heap.objs.size) wr Pt pz F href) ∧
          (∀ a h5 tk gs, gs.bare = true → s4.heap.objs.size < a → h5.objs.size = a + 1 → (∀ b o, s4.heap.get? b = some o → h5.get? b = some o) →
            WalksS X.prog X.w X.A.in4 a (a :: s4.heap.objs.size :: List.range s4.heap.objs.size) (s4.heap.objs.size :: wr) (GenOnlyQ s4.gens.size) (passing pz n0 0).length
              (fun j v => ∃ i, (passing pz n0 0)[j]? = some i ∧ F i v) (GenAt X.prog X.w X.A.in4 a s4.gens.size s4.heap.objs.size (List.range s4.heap.objs.size) wr pz n0 F) →
            GenAt X.prog X.w X.A.in4 a s4.gens.size s4.heap.objs.size (List.range s4.heap.objs.size) wr pz n0 F 0 { s4 with gens := s4.gens.push gs, toks := tk, heap := h5 } →
            Q' (.ref a) { s4 with gens := s4.gens.push gs, toks := tk, heap := h5 })) X.xe { s1 with heap := h3, toks := tk } := by
    intro code h3 tk ps' ext size3 tab3 grown tri3
    obtain ⟨bm, ob, e1, e2, e3, e4, e5, e6, e7, e8⟩ := TB.bm
    have statP : cStatics ≠ P := fun e => by
      obtain ⟨_, stat, _⟩ := I1.nolimit
      obtain ⟨o', es, ep, ho, hd, _⟩ := stat
      rw [e, tab1] at ho
      cases ho
      cases hd
    have statLt : cStatics < s1.heap.objs.size := let ⟨_, stat, _⟩ := I1.nolimit; stat.lt
    have keep3 : ∀ b u, b ≠ P → s1.heap.get? b = some u → h3.get? b = some u := fun b u hb e => ext b u hb (keep2 b u e)
    have le3 : s1.heap.objs.size + 5 ≤ h3.objs.size := by rw [← size2]; exact size3
    refine wpAny_builtinsFor (m := X.mg)
      (by rw [I1.ok.glob]; exact ((I1.mod.glob.keeps I1.bk).keeps keep2).extBut ext TB.gP)
      e1 e2 (keep3 _ _ e4 (I1.bk _ _ e5)) e6 e7 e8 ?_
    refine ⟨s1.heap.objs.size + 4, _, _, _, _, _, _, (fun _ => true), (fun i v => v = .bool (tr i)), rfl, walks, ?_, ?_, ?_, lim2.extBut ext statP, ?_, ?_, ?_⟩
    · rintro i vals ⟨x1, x2, _, _, rfl⟩
      exact ⟨x1, x2, rfl⟩
    · have at2 : _ := And.intro hz (And.intro hTI (And.intro (⟨_, _, hTO⟩ : ∃ a1 a2, IsTupOf2 h2 (s1.heap.objs.size + 3) a1 a2) (And.intro (z1 s1.heap.objs.size h2 g1 (b1.keeps _ _ c1 keep2)) (z2 (s1.heap.objs.size + 1) h2 g2 (b2.keeps _ _ c2 keep2)))))
      exact (walks X.A room.hd).frame 0 h2 h3 at2 fun b hb u e => ext b u (nP b hb).1 e
    · exact fun b hb => Nat.lt_of_lt_of_le (nP b hb).2 le3
    · exact fun z => absurd (ge _ z) (Nat.not_le.mpr statLt)
    · intro href ahead
      refine ⟨fun A' E' i va vb s2 m2 hA hPv hn hx hy hk => ?_, fun A' E' i va vb s2 m2 hA hPv hp hn hx hy hk => ?_⟩
      · simp only [List.forIn_nil]
        exact wpAny_pure ⟨rfl, GxR.keeps_refl _⟩
      · obtain ⟨x1, x2, p1, p2, e⟩ := hPv
        have ea : va = x1 := by
          have := congrArg (fun v : Array Value => v[0]?) e
          simpa using this
        have eb : vb = x2 := by
          have := congrArg (fun v : Array Value => v[1]?) e
          simpa using this
        subst ea eb
        exact el _ A' E' i va vb s2 m2 rfl hA p1 p2 hn hx hy
    · intro g h5 tk5 gs bare5 above5 size5 keep5 W5 at5
      rw [GxR.passing_true, List.length_range] at W5
      refine goal g _ ⟨_, _, _, _, _, W5.in4_1, at5, fun j v hv => ?_, fun s' hm => ?_⟩
      · obtain ⟨i, hij, hF⟩ := hv
        obtain ⟨hj, ej⟩ := List.getElem?_eq_some_iff.mp hij
        rw [List.getElem_range] at ej
        rw [hF, ej]
      · obtain ⟨more, em⟩ := grown
        have nwr : ∀ b u, s1.heap.get? b = some u → b ∉ h3.objs.size :: [s1.heap.objs.size + 4, s1.heap.objs.size + 3, s1.heap.objs.size, s1.heap.objs.size + 1] := fun b u e hb => by
          have lt := Heap.lt_size e
          rcases List.mem_cons.mp hb with z | z
          · rw [z] at lt
            exact absurd (Nat.lt_of_lt_of_le (Nat.lt_of_lt_of_le lt (Nat.le_add_right _ 5)) le3) (Nat.lt_irrefl _)
          · exact absurd (ge b z) (Nat.not_le.mpr lt)
        have J := GxR.inv_tab (more := more) (h' := s'.heap) (g' := s'.gens) (d' := s'.drawn) (t' := s'.toks) I1 tabAt
          (fun b u hb e => hm.heap b u (nwr b u e) (keep5 b u (keep3 b u hb e)))
          (by rw [← em]; exact hm.heap P _ (nwr P _ tab1) (keep5 P _ tab3)) (AllBare.movedS (I1.bare.push bare5) hm)
        rw [GxR.sh_eta s1 s' hm.os] at J
        exact ⟨upd H1 P (.tbl (ps ++ more)), ⟨⟨ps ++ more, upd_same, by rw [← em]; exact tri3⟩, fun b hb => upd_ne hb⟩, J⟩
  refine ⟨lim2, ?_⟩
  cases hf : codeAmong gpos ps.toList with
  | none =>
    refine wpAny_genexprCodeX codeAt (cd.code tab2 tri) (cd.tab tab2) hf fun c' h' tk ext ge lt code' _ tab' _ => ?_
    obtain ⟨o1, vs, f1, tf, fl, tg, inF, tx, tt, op, _, _, _, _, _, _, _, _, _, tri', _⟩ := code'
    exact cont _ h' tk _ ext (Nat.le_trans ge (Nat.le_of_lt lt)) tab'.2 ⟨_, rfl⟩ tri'
  | some cv =>
    refine wpAny_genexprCode_hit codeAt (cd.code tab2 tri) hf ?_
    exact cont cv h2 s1.toks ps (Heap.ExtBut.refl _ _) (Nat.le_refl _) tab2 ⟨#[], by simp⟩ tri
end
end TcG
/-! all(x < y for x, y in zip(a, b)), a and b texts, or tuples of texts. -/
namespace TcG
open PySem PySem.Spec PyProof.Rows L2
def risesM (l1 l2 : List (List Nat)) : Bool := (List.range (min l1.length l2.length)).all fun i => decide (l1.getD i [] < l2.getD i [])
/-- the texts that one goes through -/
def Items (K : PySem.W.Frag) (H : Hp) (v : V) (l : List (List Nat)) : Prop := (∃ a : List Nat, v = .str (tx a) ∧ l = a.map fun c => [c]) ∨ ∃ p, v = .ref p ∧ SqT K H p (txs l)
section
variable {X : Cx} {pins : List (Addr × Obj)} {σ : L2.St} {H : Hp} {s : Shared}
theorem source_of {P : Addr} {v : V} {u : Value} {l : List (List Nat)} (I : Inv X pins σ H s) (tab : GxR.TabG H P) (h : Items X.K H v l) (r : RelV v u) :
    ∃ (n : Nat) (Pv : Nat → Value → Prop), Source X.prog X.w P s.heap u n Pv ∧ n = l.length ∧ ∀ i va, Pv i va → ∃ (z : List Nat) (t : Tok), l[i]? = some z ∧ va = .str (tx z) t := by
  rcases h with ⟨a, rfl, rfl⟩ | ⟨p, rfl, hp⟩
  · obtain ⟨t, rfl⟩ := (show ∃ t, u = Value.str (tx a) t from r)
    refine ⟨_, _, source_text, by rw [List.length_map]; exact tx_length a, fun i va hv => ?_⟩
    obtain ⟨c, t2, hc, rfl⟩ := hv
    have hc2 : a[i]? = some c := by simpa [tx] using hc
    exact ⟨[c], t2, by rw [List.getElem?_map, hc2]; rfl, rfl⟩
  · obtain rfl : u = Value.ref p := r
    obtain ⟨its, rv, pt, _⟩ := I.tuple hp
    obtain ⟨ps, tabAt, _⟩ := tab
    have tab1 : s.heap.get? P = some { cls := .none, data := .fields ps } := I.hok P _ tabAt
    have ne : P ≠ p := fun z => by
      obtain ⟨o, e, hc, _⟩ := pt
      rw [← z, tab1] at e
      cases e
      have hc : Value.none = .type "tuple" := hc
      cases hc
    have len : its.toArray.size = l.length := by
      rw [List.size_toArray]
      have := rv.length
      unfold txs at this
      rw [List.length_map] at this
      exact this.symm
    refine ⟨_, _, source_tuple (show s.heap.IsTuple p its.toArray from pt) ne, len, fun i va hv => ?_⟩
    have hv2 : its[i]? = some va := by simpa using hv
    have lt : i < l.length := by
      have := (List.getElem?_eq_some_iff.mp hv2).1
      rw [List.size_toArray] at len
      omega
    have hz : l[i]? = some l[i] := List.getElem?_eq_getElem lt
    have hzV : (txs l)[i]? = some (.str (tx l[i])) := by
      unfold txs
      rw [List.getElem?_map, hz]
      rfl
    obtain ⟨w', hw, rw'⟩ := rv.get hzV
    rw [hv2] at hw
    cases hw
    obtain ⟨t, e⟩ := (show ∃ t, va = Value.str (tx l[i]) t from rw')
    exact ⟨l[i], t, hz, e⟩
def tAllZ (K : PySem.W.Frag) (P : Addr) (ta : TA) : TE := fun σ H Q => ta σ H fun vs H1 => GxR.TabG H1 P ∧ ∃ (v1 v2 : V) (l1 l2 : List (List Nat)), vs = [v1, v2] ∧ Items K H1 v1 l1 ∧ Items K H1 v2 l2 ∧ ∀ H2, GxR.Tabbed P H1 H2 → Q (.bl (risesM l1 l2)) H2
theorem pe_allZ {c P : Addr} {e1 e2 : Expr} {x y : Str} {q1 q2 q3 px py pt gpos p pz pa pos : Pos} {kt : Nat} {scope : Scope} {ta : TA} {k : Nat}
    (room : Room k X.A) (ga : Gl X "all") (ma : X.mg "all" = none) (ba : bootBuiltins "all" = some (.builtin "all")) (TB : GxR.TabB X.base X.mg c P) (codeAt : X.env.code = .ref c) (S : GenS2 X.env scope x y) (hg : Gl X "zip") (hm : X.mg "zip" = none) (ha : PA X [e1, e2] ta)
    (plain : ∀ v, genFold (.Call (.Name "zip" p) [e1, e2] [] pz) X.env v = pure v) (dx : (x == ("__debug__" : Str)) = false) (dy : (y == ("__debug__" : Str)) = false)
    (he : starEach [.GeneratorExp (.Compare (.Name x q1) [.Lt] [.Name y q2] q3) [⟨.Tuple [.Name x px, .Name y py] kt pt, .Call (.Name "zip" p) [e1, e2] [] pz, [], 0⟩] scope gpos] X.env =
      (false, eval (.GeneratorExp (.Compare (.Name x q1) [.Lt] [.Name y q2] q3) [⟨.Tuple [.Name x px, .Name y py] kt pt, .Call (.Name "zip" p) [e1, e2] [] pz, [], 0⟩] scope gpos) X.env) :: starEach [] X.env := by rfl)
    (hs : starEach [e1, e2] X.env = (false, eval e1 X.env) :: starEach [e2] X.env := by rfl) (hpl : (backTo pz (starEach [e2] X.env)).any (·.1) = false := by rfl) :
    PE X (.Call (.Name "all" pa) [.GeneratorExp (.Compare (.Name x q1) [.Lt] [.Name y q2] q3) [⟨.Tuple [.Name x px, .Name y py] kt pt, .Call (.Name "zip" p) [e1, e2] [] pz, [], 0⟩] scope gpos] [] pos) (tAllZ X.K P ta) := by
  refine ⟨fun pins s σ H Q I h => ?_⟩
  refine wpAny_Call_Name_kw (ld_blt I ga ma ba ?_)
  refine PyProof.Rows.callWith_builtin1 ?_ he (by rfl)
  rw [he]
  refine Calls.spliced_cons (gen_zip (R := fun vs H1 => ∃ (v1 v2 : V) (l1 l2 : List (List Nat)), vs = [v1, v2] ∧ Items X.K H1 v1 l1 ∧ Items X.K H1 v2 l2 ∧ ∀ H2, GxR.Tabbed P H1 H2 → Q (.bl (risesM l1 l2)) H2)
    room TB codeAt S hg hm ha plain I h (fun vs us H1 s1 I1 tab1 q1 r1 => ?_) hs hpl)
  obtain ⟨v1, v2, l1, l2, rfl, i1, i2, goal⟩ := q1
  obtain ⟨u1, u2, rfl, ru1, ru2⟩ := vals2 r1
  obtain ⟨n1, P1, s1', e1', t1⟩ := source_of I1 tab1 i1 ru1
  obtain ⟨n2, P2, s2', e2', t2⟩ := source_of I1 tab1 i2 ru2
  refine ⟨u1, u2, n1, n2, P1, P2, fun i => decide (l1.getD i [] < l2.getD i []), rfl, s1', s2', fun cenv A' E' i va vb s2 m2 hsc hA p1 p2 hn hx hy => ?_, fun g s5 ready => ?_⟩
  · obtain ⟨z1, k1, g1, rfl⟩ := t1 i va p1
    obtain ⟨z2, k2, g2, rfl⟩ := t2 i vb p2
    refine wpAny_Compare1 ?_
    refine wpAny_Name (wpAny_loadName_local (by rw [hsc]; exact S.kind) (show cenv.scope.names.lookup x = some .local by rw [hsc]; exact S.locx) hn hx ?_) dx
    refine wpAny_Name (wpAny_loadName_local (by rw [hsc]; exact S.kind) (show cenv.scope.names.lookup y = some .local by rw [hsc]; exact S.locy) hn hy ?_) dy
    refine PyProof.Rows.lt_str ⟨?_, GxR.keeps_refl _⟩
    have e1 : l1.getD i [] = z1 := by simp [List.getD, g1]
    have e2 : l2.getD i [] = z2 := by simp [List.getD, g2]
    show _ = Value.bool (decide (l1.getD i [] < l2.getD i []))
    rw [e1, e2]
    rfl
  · obtain ⟨fp, wr, G, F, St, W, st, tells, back⟩ := ready
    refine Calls.spliced_nil ?_
    refine call_all_walkS (W.self 0 _ _ _ st ⟨g, fp, wr, G, _, F, St, fun i => decide (l1.getD i [] < l2.getD i []), rfl, W, st, fun i v s' Qj Ej hv hq => ?_, fun s' hmv => ?_⟩)
    · rw [tells i v hv]
      exact wpAny_truthy_bool hq
    · obtain ⟨H2, ht, J⟩ := back s' hmv
      refine ⟨.bl _, H2, J, rfl, ?_⟩
      rw [e1', e2']
      exact goal H2 ht
end
end TcG
/-! A generator over a tuple; all(x in xs for x in t). -/
namespace TcG
open PySem PySem.Spec PyProof.Rows L2
section
variable {X : Cx} {pins : List (Addr × Obj)} {σ : L2.St} {H : Hp} {s : Shared}
theorem gen_row {c P : Addr} {elt iter : Expr} {x : Str} {px gpos : Pos} {scope : Scope} {te : TE} {k : Nat} {Q' : Value → Shared → Prop} {R : V → Hp → Prop}
    (room : Room k X.A) (TB : GxR.TabB X.base X.mg c P) (codeAt : X.env.code = .ref c) (S : GxR.GenS X.env scope x) (hi : PE X iter te)
    (plain : ∀ v, genFold iter X.env v = pure v) (I : Inv X pins σ H s) (h : te σ H fun v H1 => GxR.TabG H1 P ∧ R v H1)
    (src : ∀ v u H1 s1, Inv X pins σ H1 s1 → GxR.TabG H1 P → R v H1 → RelV v u → ∃ (a : Addr) (its : Array Value) (tr : Nat → Bool), u = .ref a ∧ s1.heap.IsTuple a its ∧ a ≠ P ∧
      (∀ (C : Addr) (code : Value) (bi : Addr) (A' : Around) E' i va (s2 : Shared) m2, A'.handled = none → its[i]? = some va → s2.heap.Ns C m2 → m2 x = some va → Kept P s1 s2 → wpAny (model X.prog X.w) A' (eval elt (genEnv scope (cloFrom X.env.cells scope.names []) C code bi X.env)) (fun v s3 => v = .bool (tr i) ∧ Keeps s2 s3) E' s2) ∧
      ∀ g s5, ReadyN X pins σ H1 P its.size tr g s5 → Q' (.ref g) s5) :
    wpAny (model X.prog X.w) X.A (eval (.GeneratorExp elt [⟨.Name x px, iter, [], 0⟩] scope gpos) X.env) Q' X.xe s := by
  refine wpAny_GeneratorExp_walksQ room.hd S.co (closure_ok S.free) S.cell S.dot S.loc S.kind (by have := room.dp; omega) ?_ plain
  refine thn (hi.run pins s σ H _ I h) fun xv s1 ⟨v, H1, I1, r1, q1⟩ => ?_
  obtain ⟨⟨ps, tabAt, tri⟩, q1⟩ := q1
  obtain ⟨a, its, tr, rfl, tupAt, aP, el, goal⟩ := src v xv H1 s1 I1 ⟨ps, tabAt, tri⟩ q1 r1
  refine wpAny_pyIter_tuple tupAt ?_
  generalize eo : ({ cls := .type "tuple_iterator", data := .fields #[.ref a, .int 0 0] } : Obj) = o
  have free : o.isFreed = false := by rw [← eo]; rfl
  have aLt : a < s1.heap.objs.size := by
    obtain ⟨_, e, _⟩ := tupAt
    exact Heap.lt_size e
  have tab1 : s1.heap.get? P = some { cls := .none, data := .fields ps } := I1.hok P _ tabAt
  have tabLt : P < s1.heap.objs.size := Heap.lt_size tab1
  have tab2 : (s1.heap.push o).get? P = some { cls := .none, data := .fields ps } := Heap.get?_push_of_some _ tab1
  have cd : PySem.W.CodeHd (s1.heap.push o) c P := TB.code.keeps fun b u e => Heap.get?_push_of_some _ (I1.bk b u e)
  have lim2 : (s1.heap.push o).NoLimit := I1.nolimit.push o
  have walks : ∀ A' : Around, A'.handled = none → _ := fun A' hA => Walks.tuple (prog := X.prog) (w := X.w) (A := A') hA s1.heap.objs.size a (Nat.ne_of_lt aLt) its
  have cont : ∀ (code : Value) (h3 : Heap) (tk : Nat) (ps' : Array Value), Heap.ExtBut P (s1.heap.push o) h3 → (s1.heap.push o).objs.size ≤ h3.objs.size → h3.get? P = some { cls := .none, data := .fields ps' } →
      (∃ more, ps' = ps ++ more) → TriplesOk ps'.toList →
      wpAny (model X.prog X.w) X.A (builtinsFor X.env.globals X.env.builtins) (fun bi s4 =>
        ∃ J fp wr n0 Pf St0 pz F, Value.ref s1.heap.objs.size = .ref J ∧ (∀ A' : Around, A'.handled = none → Walks X.prog X.w A' J fp wr n0 Pf St0) ∧ St0 0 s4.heap ∧ (∀ b ∈ fp, b < s4.heap.objs.size) ∧ s4.heap.NoLimit ∧ cStatics ∉ wr ∧
          (∀ href : Heap, (∀ b o, s4.heap.get? b = some o → href.get? b = some o) →
            QuietGen X.prog X.w (genEnv scope (cloFrom X.env.cells scope.names []) s4.heap.objs.size code bi X.env) x [] elt (List.range s4.heap.objs.size) wr Pf pz F href) ∧
          (∀ a h5 tk gs, gs.bare = true → s4.heap.objs.size < a → h5.objs.size = a + 1 → (∀ b o, s4.heap.get? b = some o → h5.get? b = some o) →
            WalksS X.prog X.w X.A.in4 a (a :: s4.heap.objs.size :: List.range s4.heap.objs.size) (s4.heap.objs.size :: wr) (GenOnlyQ s4.gens.size) (passing pz n0 0).length
              (fun j y => ∃ i, (passing pz n0 0)[j]? = some i ∧ F i y) (GenAt X.prog X.w X.A.in4 a s4.gens.size s4.heap.objs.size (List.range s4.heap.objs.size) wr pz n0 F) →
            GenAt X.prog X.w X.A.in4 a s4.gens.size s4.heap.objs.size (List.range s4.heap.objs.size) wr pz n0 F 0 { s4 with gens := s4.gens.push gs, toks := tk, heap := h5 } →
            Q' (.ref a) { s4 with gens := s4.gens.push gs, toks := tk, heap := h5 })) X.xe { s1 with heap := h3, toks := tk } := by
    intro code h3 tk ps' ext size3 tab3 grown tri3
    obtain ⟨bm, ob, e1, e2, e3, e4, e5, e6, e7, e8⟩ := TB.bm
    have statP : cStatics ≠ P := fun e => by
      obtain ⟨_, stat, _⟩ := I1.nolimit
      obtain ⟨o', es, ep, ho, hd, _⟩ := stat
      rw [e, tab1] at ho
      cases ho
      cases hd
    have statLt : cStatics < s1.heap.objs.size := let ⟨_, stat, _⟩ := I1.nolimit; stat.lt
    have sz2 : (s1.heap.push o).objs.size = s1.heap.objs.size + 1 := Heap.size_push ..
    have keep3 : ∀ b u, b ≠ P → s1.heap.get? b = some u → h3.get? b = some u := fun b u hb e => ext b u hb (Heap.get?_push_of_some _ e)
    have lt3 : s1.heap.objs.size < h3.objs.size := by
      have q : (s1.heap.push o).objs.size ≤ h3.objs.size := size3
      rw [sz2] at q
      exact q
    refine wpAny_builtinsFor (m := X.mg)
      (by rw [I1.ok.glob]; exact ((I1.mod.glob.keeps I1.bk).push o).extBut ext TB.gP)
      e1 e2 (keep3 _ _ e4 (I1.bk _ _ e5)) e6 e7 e8 ?_
    refine ⟨s1.heap.objs.size, _, _, _, _, _, (fun _ => true), (fun i y => y = .bool (tr i)), rfl, walks, ?_, ?_, lim2.extBut ext statP, ?_, ?_, ?_⟩
    · have at2 := And.intro (⟨o, Heap.get?_push_size _ free, by cases eo; rfl, by cases eo; rfl⟩ : (s1.heap.push o).IsTupleIter s1.heap.objs.size a 0) (tupAt.push o)
      refine (walks X.A room.hd).frame 0 (s1.heap.push o) h3 at2 fun b hb u e => ext b u (fun z => ?_) e
      rcases List.mem_cons.mp hb with y | y
      · exact Nat.ne_of_lt tabLt (z.symm.trans y)
      · exact aP ((List.mem_singleton.mp y).symm.trans z)
    · intro b hb
      rcases List.mem_cons.mp hb with y | y
      · rw [y]
        exact lt3
      · rw [List.mem_singleton.mp y]
        exact Nat.lt_trans aLt lt3
    · intro z
      exact Nat.ne_of_lt statLt (List.mem_singleton.mp z)
    · intro href ahead
      refine ⟨fun A' E' i va s2 m2 hA hPv hn hx hk => ?_, fun A' E' i va s2 m2 hA hPv hp hn hx hk => ?_⟩
      · simp only [List.forIn_nil]
        exact wpAny_pure ⟨rfl, GxR.keeps_refl _⟩
      · refine el _ _ _ A' E' i va s2 m2 hA hPv hn hx fun b u hb e => ?_
        have lt := Heap.lt_size e
        refine hk b (List.mem_range.mpr (Nat.lt_trans lt lt3)) (fun z => ?_) u (ahead b u (keep3 b u hb e))
        exact Nat.ne_of_lt lt (List.mem_singleton.mp z)
    · intro g h5 tk5 gs bare5 above5 size5 keep5 W5 at5
      rw [GxR.passing_true, List.length_range] at W5
      refine goal g _ ⟨_, _, _, _, _, W5.in4_1, at5, fun j v hv => ?_, fun s' hm => ?_⟩
      · obtain ⟨i, hij, hF⟩ := hv
        obtain ⟨hj, ej⟩ := List.getElem?_eq_some_iff.mp hij
        rw [List.getElem_range] at ej
        rw [hF, ej]
      · obtain ⟨more, em⟩ := grown
        have nwr : ∀ b u, s1.heap.get? b = some u → b ∉ h3.objs.size :: [s1.heap.objs.size] := fun b u e hb => by
          have lt := Heap.lt_size e
          rcases List.mem_cons.mp hb with z | z
          · exact Nat.ne_of_lt (Nat.lt_trans lt lt3) z
          · exact Nat.ne_of_lt lt (List.mem_singleton.mp z)
        have J := GxR.inv_tab (more := more) (h' := s'.heap) (g' := s'.gens) (d' := s'.drawn) (t' := s'.toks) I1 tabAt
          (fun b u hb e => hm.heap b u (nwr b u e) (keep5 b u (keep3 b u hb e)))
          (by rw [← em]; exact hm.heap P _ (nwr P _ tab1) (keep5 P _ tab3)) (AllBare.movedS (I1.bare.push bare5) hm)
        rw [GxR.sh_eta s1 s' hm.os] at J
        exact ⟨upd H1 P (.tbl (ps ++ more)), ⟨⟨ps ++ more, upd_same, by rw [← em]; exact tri3⟩, fun b hb => upd_ne hb⟩, J⟩
  refine ⟨lim2, ?_⟩
  cases hf : codeAmong gpos ps.toList with
  | none =>
    refine wpAny_genexprCodeX codeAt (cd.code tab2 tri) (cd.tab tab2) hf fun c' h' tk ext ge lt code' _ tab' _ => ?_
    obtain ⟨o1, vs, f1, tf, fl, tg, inF, tx, tt, op, _, _, _, _, _, _, _, _, _, tri', _⟩ := code'
    exact cont _ h' tk _ ext (Nat.le_trans ge (Nat.le_of_lt lt)) tab'.2 ⟨_, rfl⟩ tri'
  | some cv =>
    refine wpAny_genexprCode_hit codeAt (cd.code tab2 tri) hf ?_
    exact cont cv (s1.heap.push o) s1.toks ps (Heap.ExtBut.refl _ _) (Nat.le_refl _) tab2 ⟨#[], by simp⟩ tri
end
end TcG
/-! all(x in xs for x in t), xs a list of texts, a name of the def around. -/
namespace TcG
open PySem PySem.Spec PyProof.Rows L2
section
variable {X : Cx} {pins : List (Addr × Obj)} {σ : L2.St} {H : Hp} {s : Shared}
def tAllIn (K : PySem.W.Frag) (P : Addr) (iy : Nat) (te : TE) : TE := fun σ H Q => te σ H fun v H1 => GxR.TabG H1 P ∧ ∃ (p q : Addr) (zs qs : List (List Nat)), v = .ref p ∧ SqT K H1 p (txs zs) ∧ σ[iy]? = some (some (.ref q)) ∧ SqL K H1 q (txs qs) ∧
  ∀ H2, GxR.Tabbed P H1 H2 → Q (.bl (zs.all fun z => decide (z ∈ qs))) H2
theorem pe_allIn {c P : Addr} {iter : Expr} {x y : Str} {iy : Nat} {q1 q2 q3 px gpos pa pos : Pos} {scope : Scope} {te : TE} {k : Nat}
    (room : Room k X.A) (ga : Gl X "all") (ma : X.mg "all" = none) (ba : bootBuiltins "all" = some (.builtin "all")) (TB : GxR.TabB X.base X.mg c P) (codeAt : X.env.code = .ref c) (ok : genOk X.env.scope.names scope x = true) (hi : PE X iter te)
    (hN : X.N[iy]? = some y) (hk : X.env.kindOf y = some .cell) (hl : scope.names.lookup y = some .free) (plain : ∀ v, genFold iter X.env v = pure v) (dx : (x == ("__debug__" : Str)) = false) (dy : (y == ("__debug__" : Str)) = false) (cy : (y == ("__classdict__" : Str)) = false)
    (he : starEach [.GeneratorExp (.Compare (.Name x q1) [.In] [.Name y q2] q3) [⟨.Name x px, iter, [], 0⟩] scope gpos] X.env = (false, eval (.GeneratorExp (.Compare (.Name x q1) [.In] [.Name y q2] q3) [⟨.Name x px, iter, [], 0⟩] scope gpos) X.env) :: starEach [] X.env := by rfl) :
    PE X (.Call (.Name "all" pa) [.GeneratorExp (.Compare (.Name x q1) [.In] [.Name y q2] q3) [⟨.Name x px, iter, [], 0⟩] scope gpos] [] pos) (tAllIn X.K P iy te) := by
  refine ⟨fun pins s σ H Q I h => ?_⟩
  have S : GxR.GenS X.env scope x := gens_of I.ok ok
  refine wpAny_Call_Name_kw (ld_blt I ga ma ba ?_)
  refine PyProof.Rows.callWith_builtin1 ?_ he (by rfl)
  rw [he]
  refine Calls.spliced_cons (gen_row (R := fun v H1 => ∃ (p q : Addr) (zs qs : List (List Nat)), v = .ref p ∧ SqT X.K H1 p (txs zs) ∧ σ[iy]? = some (some (.ref q)) ∧ SqL X.K H1 q (txs qs) ∧ ∀ H2, GxR.Tabbed P H1 H2 → Q (.bl (zs.all fun z => decide (z ∈ qs))) H2)
    room TB codeAt S hi plain I h fun v u H1 s1 I1 tab1 q1 r1 => ?_)
  obtain ⟨p, q, zs, qs, rfl, hp, hq, hl2, goal⟩ := q1
  obtain rfl : u = Value.ref p := r1
  obtain ⟨its, rv, pt, _⟩ := I1.tuple hp
  obtain ⟨qits, qrv, qpl, _⟩ := I1.list hl2
  obtain ⟨ps, tabAt, tri⟩ := tab1
  have tabObj : s1.heap.get? P = some { cls := .none, data := .fields ps } := I1.hok P _ tabAt
  have pP : p ≠ P := fun z => by
    obtain ⟨o, e, hc, _⟩ := pt
    rw [z, tabObj] at e
    cases e
    have hc : Value.none = .type "tuple" := hc
    cases hc
  have qP : q ≠ P := fun z => by
    obtain ⟨o, e, hc, _⟩ := qpl.isList
    rw [z, tabObj] at e
    cases e
    have hc : Value.none = .type "list" := hc
    cases hc
  have len : its.toArray.size = zs.length := by
    rw [List.size_toArray]
    have := rv.length
    unfold txs at this
    rw [List.length_map] at this
    exact this.symm
  refine ⟨p, its.toArray, fun i => decide (zs.getD i [] ∈ qs), rfl, pt, pP, fun C code bi A' E' i va s2 m2 hA hv hn hx kept => ?_, fun g s5 ready => ?_⟩
  · have hv2 : its[i]? = some va := by simpa using hv
    have lt : i < zs.length := by
      have := (List.getElem?_eq_some_iff.mp hv2).1
      rw [List.size_toArray] at len
      omega
    have hz : zs[i]? = some zs[i] := List.getElem?_eq_getElem lt
    have hzV : (txs zs)[i]? = some (.str (tx zs[i])) := by
      unfold txs
      rw [List.getElem?_map, hz]
      rfl
    obtain ⟨w', hw, rw'⟩ := rv.get hzV
    rw [hv2] at hw
    cases hw
    have e1 : zs.getD i [] = zs[i] := by simp [List.getD, hz]
    refine wpAny_Compare1 ?_
    refine wpAny_Name (wpAny_loadName_local S.kind S.loc hn hx ?_) dx
    refine ld_free (s1 := s1) I1 tabAt hN hq hk S.kind hl kept dy cy fun u ru => ?_
    obtain rfl : u = Value.ref q := ru
    have there : s2.heap.IsList q qits.toArray := by
      obtain ⟨o, e, r⟩ := qpl.isList
      exact ⟨o, kept q o qP e, r⟩
    refine SeqAt.in_listAt (eqU (.str (tx zs[i]))) there (fun w hw => mem_eqAt (x := .str (tx zs[i])) rw' rfl qrv (txs_flat qs) w (by simpa using hw)) ⟨?_, GxR.keeps_refl _⟩
    rw [show qits.toArray.any (eqU (.str (tx zs[i]))) = qits.any (eqU (.str (tx zs[i]))) by simp, any_eqU qrv (txs_flat qs)]
    show Value.bool (inV (.str (tx zs[i])) (txs qs)) = Value.bool (decide (zs.getD i [] ∈ qs))
    rw [inV_txs, e1]
  · obtain ⟨fp, wr, G, F, St, W, st, tells, back⟩ := ready
    refine Calls.spliced_nil ?_
    refine call_all_walkS (W.self 0 _ _ _ st ⟨g, fp, wr, G, _, F, St, fun i => decide (zs.getD i [] ∈ qs), rfl, W, st, fun i v s' Qj Ej hv hq => ?_, fun s' hmv => ?_⟩)
    · rw [tells i v hv]
      exact wpAny_truthy_bool hq
    · obtain ⟨H2, ht, J⟩ := back s' hmv
      refine ⟨.bl _, H2, J, rfl, ?_⟩
      have e : (List.range its.toArray.size).all (fun i => decide (zs.getD i [] ∈ qs)) = zs.all fun z => decide (z ∈ qs) := by
        rw [len, Bool.eq_iff_iff, List.all_eq_true, List.all_eq_true]
        constructor
        · intro h z hz
          obtain ⟨i, hi, e⟩ := List.getElem_of_mem hz
          have := h i (List.mem_range.mpr hi)
          rw [← e]
          simpa [List.getD, List.getElem?_eq_getElem hi] using this
        · intro h i hi
          have hi := List.mem_range.mp hi
          have := h zs[i] (List.getElem_mem hi)
          simpa [List.getD, List.getElem?_eq_getElem hi] using this
      rw [e]
      exact goal H2 ht
end
end TcG
/-! The text of the law by its places. -/
namespace Tc
open PySem PySem.Spec PyProof.Rows L2 TcG
def topS (i : Nat) : Stmt := PySem.Challenge.pw_traceclasses_k00_alphabets.main.body.getD i (.Pass ⟨0, 0, 0, 0⟩)
-- topS 0: (PySem.Stmt.Assign
-- class TraceFault: topS 1
-- class AlphabetFault: topS 2
abbrev s_AlphabetFault_init : Stmt := inClass (topS 2) 0
-- AlphabetFault_init: 0 self, 1 reason
-- class ExchangeFault: topS 3
abbrev s_ExchangeFault_init : Stmt := inClass (topS 3) 0
-- ExchangeFault_init: 0 self, 1 number
-- topS 4: (PySem.Stmt.Assign
-- topS 5: (PySem.Stmt.Assign
abbrev s_check : Stmt := topS 6
theorem sc_check : FnScope ["alphabet", "_", "letters", "pairs", "possible"] ["alphabet"] (defScope s_check) :=
  ⟨rfl, rfl, rfl, by decide +kernel, rfl, by decide +kernel, by decide +kernel⟩
-- check: 0 alphabet, 1 _, 2 letters, 3 pairs, 4 possible [possible is a cell]
abbrev s_rising : Stmt := topS 7
theorem sc_rising : FnScope ["row"] ["row"] (defScope s_rising) :=
  ⟨rfl, rfl, rfl, by decide +kernel, rfl, by decide +kernel, by decide +kernel⟩
-- rising: 0 row
abbrev s_letter_pairs : Stmt := topS 8
theorem sc_letter_pairs : FnScope ["letters"] ["letters"] (defScope s_letter_pairs) :=
  ⟨rfl, rfl, rfl, by decide +kernel, rfl, by decide +kernel, by decide +kernel⟩
-- letter_pairs: 0 letters [letters is a cell]
abbrev s_independent : Stmt := topS 9
theorem sc_independent : FnScope ["alphabet", "x", "y"] ["alphabet", "x", "y"] (defScope s_independent) :=
  ⟨rfl, rfl, rfl, by decide +kernel, rfl, by decide +kernel, by decide +kernel⟩
-- independent: 0 alphabet, 1 x, 2 y
abbrev s_free : Stmt := topS 10
theorem sc_free : FnScope ["alphabet", "word", "other"] ["alphabet", "word", "other"] (defScope s_free) :=
  ⟨rfl, rfl, rfl, by decide +kernel, rfl, by decide +kernel, by decide +kernel⟩
-- free: 0 alphabet, 1 word, 2 other [alphabet is a cell] [other is a cell]
abbrev s_taken_out : Stmt := topS 11
theorem sc_taken_out : FnScope ["word", "letters"] ["word", "letters"] (defScope s_taken_out) :=
  ⟨rfl, rfl, rfl, by decide +kernel, rfl, by decide +kernel, by decide +kernel⟩
-- taken_out: 0 word, 1 letters [letters is a cell]
-- topS 12: (PySem.Stmt.Assign
abbrev s_law_draw : Stmt := topS 13
theorem sc_law_draw : FnScope ["box", "many", "at"] ["box", "many"] (defScope s_law_draw) :=
  ⟨rfl, rfl, rfl, by decide +kernel, rfl, by decide +kernel, by decide +kernel⟩
-- law_draw: 0 box, 1 many, 2 at
abbrev s_law_cell : Stmt := topS 14
theorem sc_law_cell : FnScope ["script", "k"] ["script", "k"] (defScope s_law_cell) :=
  ⟨rfl, rfl, rfl, by decide +kernel, rfl, by decide +kernel, by decide +kernel⟩
-- law_cell: 0 script, 1 k
abbrev s_law_digits : Stmt := topS 15
theorem sc_law_digits : FnScope ["script", "first", "last", "digits", "k", "cell", "turn", "seed"] ["script", "first", "last"] (defScope s_law_digits) :=
  ⟨rfl, rfl, rfl, by decide +kernel, rfl, by decide +kernel, by decide +kernel⟩
-- law_digits: 0 script, 1 first, 2 last, 3 digits, 4 k, 5 cell, 6 turn, 7 seed
abbrev s_law_box : Stmt := topS 16
theorem sc_law_box : FnScope ["script", "first", "last"] ["script", "first", "last"] (defScope s_law_box) :=
  ⟨rfl, rfl, rfl, by decide +kernel, rfl, by decide +kernel, by decide +kernel⟩
-- law_box: 0 script, 1 first, 2 last
abbrev s_law_alphabet : Stmt := topS 17
theorem sc_law_alphabet : FnScope ["box", "most", "letters", "pairs", "j", "k"] ["box", "most"] (defScope s_law_alphabet) :=
  ⟨rfl, rfl, rfl, by decide +kernel, rfl, by decide +kernel, by decide +kernel⟩
-- law_alphabet: 0 box, 1 most, 2 letters, 3 pairs, 4 j, 5 k
abbrev s_law_same : Stmt := topS 18
theorem sc_law_same : FnScope ["actual", "expected", "k"] ["actual", "expected"] (defScope s_law_same) :=
  ⟨rfl, rfl, rfl, by decide +kernel, rfl, by decide +kernel, by decide +kernel⟩
-- law_same: 0 actual, 1 expected, 2 k
abbrev s_law_free : Stmt := topS 19
theorem sc_law_free : FnScope ["alphabet", "x", "y"] ["alphabet", "x", "y"] (defScope s_law_free) :=
  ⟨rfl, rfl, rfl, by decide +kernel, rfl, by decide +kernel, by decide +kernel⟩
-- law_free: 0 alphabet, 1 x, 2 y
abbrev s_law_word : Stmt := topS 20
theorem sc_law_word : FnScope ["box", "alphabet", "most", "word", "k"] ["box", "alphabet", "most"] (defScope s_law_word) :=
  ⟨rfl, rfl, rfl, by decide +kernel, rfl, by decide +kernel, by decide +kernel⟩
-- law_word: 0 box, 1 alphabet, 2 most, 3 word, 4 k
abbrev s_law_apart : Stmt := topS 21
theorem sc_law_apart : FnScope ["alphabet", "word", "other", "x", "y"] ["alphabet", "word", "other"] (defScope s_law_apart) :=
  ⟨rfl, rfl, rfl, by decide +kernel, rfl, by decide +kernel, by decide +kernel⟩
-- law_apart: 0 alphabet, 1 word, 2 other, 3 x, 4 y
abbrev s_law_only : Stmt := topS 22
theorem sc_law_only : FnScope ["word", "letters", "kept", "x"] ["word", "letters"] (defScope s_law_only) :=
  ⟨rfl, rfl, rfl, by decide +kernel, rfl, by decide +kernel, by decide +kernel⟩
-- law_only: 0 word, 1 letters, 2 kept, 3 x
abbrev s_law_spoilt_alphabet : Stmt := topS 23
theorem sc_law_spoilt_alphabet : FnScope ["box", "alphabet", "letters", "pairs", "kind"] ["box", "alphabet"] (defScope s_law_spoilt_alphabet) :=
  ⟨rfl, rfl, rfl, by decide +kernel, rfl, by decide +kernel, by decide +kernel⟩
-- law_spoilt_alphabet: 0 box, 1 alphabet, 2 letters, 3 pairs, 4 kind
abbrev s_law_alphabet_fault : Stmt := topS 24
theorem sc_law_alphabet_fault : FnScope ["alphabet", "letters", "k", "pair"] ["alphabet"] (defScope s_law_alphabet_fault) :=
  ⟨rfl, rfl, rfl, by decide +kernel, rfl, by decide +kernel, by decide +kernel⟩
-- law_alphabet_fault: 0 alphabet, 1 letters, 2 k, 3 pair
abbrev s_law : Stmt := topS 25
theorem sc_law : FnScope ["script", "box", "turn", "alphabet", "x", "y", "word", "other", "k", "due", "e"] ["script"] (defScope s_law) :=
  ⟨rfl, rfl, rfl, by decide +kernel, rfl, by decide +kernel, by decide +kernel⟩
-- law: 0 script, 1 box, 2 turn, 3 alphabet, 4 x, 5 y, 6 word, 7 other, 8 k, 9 due, 10 e
end Tc
/-! The law's own numbers: cells, digits, the box, draws. -/
namespace Tc
open PySem PySem.Spec PyProof.Rows L2 TcG
section
variable {P : Program} {w : World} {K : PySem.W.Frag} {mg : Str → Option Value} {base : Heap}

/-! _law_cell -/
def sp_cell (K : PySem.W.Frag) : Sp := fun vs H Q _ => ∃ (a : Addr) (ns : List Int) (k : Int), vs = [.ref a, .int k] ∧ SqL K H a (ns.map V.int) ∧ 0 ≤ k ∧ ∀ z : Int, Q (.int z) H
theorem ok_cell {f : Addr} {fd : FuncData} {k : Nat} (F : Fun K "_law_cell" "_law_cell" s_law_cell f fd) (ml : mg "len" = none) : FnOk P w K mg base CX0 (k + 1) f fd ["script", "k"] (sp_cell K) := by
  refine F.ok sc_law_cell (fun vs H Q E h => ?_) (fun cdv A outer s H vs Q E hr h => ?_)
  · obtain ⟨a, ns, k, rfl, _⟩ := h
    rfl
  · obtain ⟨a, ns, k, rfl, hS, hk, q⟩ := h
    refine ⟨_, pss_cons (ps_if (pt_cmpR op_lt (pv 1) (pe_callB call_len_seq (by rfl) ml PySem.boot_len (pa_cons (pv 0) pa_nil)) (nomark _))
        (pss_one (ps_ret (pe_ix ix_list (pv 0) (pv 1) (fun _ _ => rfl)))) pss_nil)
      (pss_one (ps_ret pe_int)), ?_⟩
    refine ⟨.int k, rfl, .ref a, rfl, a, _, rfl, .inl hS, _, _, rfl, rfl, _, rfl, ite2 (fun e => ?_) (fun e => ?_)⟩
    · have e0 : k < ((ns.map V.int).length : Int) := of_decide_eq_true e
      rw [List.length_map] at e0
      obtain ⟨j, rfl⟩ : ∃ j : Nat, k = (j : Int) := ⟨k.toNat, by omega⟩
      have hj : j < ns.length := by omega
      refine ⟨.ref a, rfl, .int j, rfl, a, _, _, .int ns[j], rfl, rfl, hS, atI_nat ?_, q _⟩
      rw [List.getElem?_map, List.getElem?_eq_getElem hj]
      rfl
    · exact q _

/-! _law_digits -/
def sp_digits (K : PySem.W.Frag) : Sp := fun vs H Q _ => ∃ (a : Addr) (ns : List Int), vs = [.ref a, .int 0, .int 63] ∧ SqL K H a (ns.map V.int) ∧
  ∀ (p : Addr) (ds : List Int) (H' : Hp), Same H H' → H p = none → H' p = some (.lst (ds.map V.int)) → Q (.ref p) H'
theorem ok_digits {f fC : Addr} {fd fdC : FuncData} (F : Fun K "_law_digits" "_law_digits" s_law_digits f fd) (FC : Fun K "_law_cell" "_law_cell" s_law_cell fC fdC) (gC : mg "_law_cell" = some (.ref fC))
    (ml : mg "len" = none) (mr : mg "range" = none) (mi : mg "int" = none) : FnOk P w K mg base CX0 2 f fd ["script", "first", "last"] (sp_digits K) := by
  have GC : FnOk P w K mg base CX0 1 fC fdC ["script", "k"] (sp_cell K) := ok_cell FC ml
  have bC : Binds K fdC ["script", "k"] [] := FC.binds fun _ _ _ _ _ _ us hl => match us, hl with | [_, _], _ => rfl
  refine F.ok sc_law_digits (fun vs H Q E h => ?_) (fun cdv A outer s H vs Q E hr h => ?_)
  · obtain ⟨a, ns, rfl, _⟩ := h
    rfl
  · obtain ⟨a, ns, rfl, hS, q⟩ := h
    have nd := sc_law_digits.nd
    refine ⟨_, pss_cons (ps_set (i := 3) nd rfl (.inl rfl) (pe_lst pa_nil))
      (pss_cons (ps_for PassesOwn.never rfl (pi_range2 (by rfl) mr (pa_cons (pv 1) (pa_cons (pv 2) pa_nil))) (pg_name (i := 4) nd rfl (.inl rfl))
        (pss_cons (ps_set (i := 5) nd rfl (.inl rfl) (pe_call GC hr (by rfl) gC FC.kp bC .nil pass0 (pa_cons (pv 0) (pa_cons (pv 4) pa_nil))))
        (C8.pss_cut (ps_if (pt_cmpR op_lt (pv 5) pe_int (nomark _))
            (pss_one (ps_set (i := 5) nd rfl (.inl rfl) (pe_op op_sub pe_int (pe_op op_mul pe_int (pv 5))))) pss_nil)
        (pss_one (ps_if (pt_cmpR op_ge (pv 5) (pe_op op_pow pe_int pe_int) (nomark _))
            (pss_one (ps_for PassesOwn.never rfl (pi_range1 (by rfl) mr (pa_cons pe_int pa_nil)) (pg_name (i := 6) nd rfl (.inl rfl))
              (pss_one (ps_if (pt_cmpR op_gt (pv 5) pe_int (nomark _))
                (pss_cons (ps_expr (pe_bm PySem.F.plainAttrs_list PySem.F.slot_list_append PySem.F.type_list_append mt_append (pv 3)
                    (pa_cons (pe_op op_modN (pe_callTy call_int1 (by rfl) mi (by decide +kernel) (pa_cons (pv 5) pa_nil)) pe_int) pa_nil)))
                  (pss_one (ps_set (i := 5) nd rfl (.inl rfl) (pe_op op_fdiv (pv 5) pe_int)))) pss_nil))))
            (pss_cons (ps_set (i := 7) nd rfl (.inl rfl) (pe_op op_modN (pe_callTy call_int1 (by rfl) mi (by decide +kernel)
                (pa_cons (pe_op op_add (pe_op op_add (pe_op op_mul (pv 5) pe_int) (pe_op op_mul (pv 4) pe_int)) pe_int) pa_nil)) pe_int))
              (pss_one (ps_for PassesOwn.never rfl (pi_range1 (by rfl) mr (pa_cons pe_int pa_nil)) (pg_name (i := 6) nd rfl (.inl rfl))
                (pss_cons (ps_set (i := 7) nd rfl (.inl rfl) (pe_op op_modN (pe_callTy call_int1 (by rfl) mi (by decide +kernel)
                    (pa_cons (pe_op op_add (pe_op op_add (pe_op op_mul (pv 7) pe_int) (pe_op op_mul pe_int (pv 6))) pe_int) pa_nil)) pe_int))
                  (pss_one (ps_expr (pe_bm PySem.F.plainAttrs_list PySem.F.slot_list_append PySem.F.type_list_append mt_append (pv 3)
                    (pa_cons (pe_op op_modN (pe_callTy call_int1 (by rfl) mi (by decide +kernel) (pa_cons (pe_op op_fdiv (pv 7) pe_int) pa_nil)) pe_int) pa_nil)))))))))))))
      (pss_one (ps_ret (pv 3)))), ?_⟩
    refine ⟨Nat.zero_le _, fun p np => ?_⟩
    -- the turns: at most 60 digits each
    refine ⟨.int 0, rfl, .int 63, rfl, 0, 63, rfl, ⟨by decide, by decide, by decide, by decide⟩, for_range (lo := 0) (n := 63)
      (fun i σ H' => ∃ ds y4 y5 y6 y7, σ = [some (.ref a), some (.int 0), some (.int 63), some (.ref p), y4, y5, y6, y7] ∧ Same H H' ∧ H' p = some (.lst (List.map V.int ds)) ∧ ds.length ≤ 60 * i)
      ⟨[], none, none, none, none, rfl, same_new np, upd_same, Nat.le_refl _⟩ (fun i σ H1 hi hW => ?_) (fun σ H1 hW => ?_)⟩
    · obtain ⟨ds, y4, y5, y6, y7, rfl, sm, hp, hl⟩ := hW
      refine ⟨.ref a, rfl, .int (0 + (i : Int)), rfl, a, ns, 0 + (i : Int), rfl, sm.seq hS, by omega, fun z => ?_⟩
      -- the number, no more below 0
      refine ⟨fun σ' H' => ∃ z' : Int, σ' = [some (.ref a), some (.int 0), some (.int 63), some (.ref p), some (.int (0 + (i : Int))), some (.int z'), y6, y7] ∧ H' = H1,
        ⟨.int z, rfl, z, 0, rfl, rfl, _, rfl, ite2 (fun _ => ⟨.int z, rfl, 2, z, rfl, rfl, .inl ⟨by decide, by decide⟩, 1, _, rfl, rfl, _, rfl, rfl⟩) (fun _ => ⟨z, rfl, rfl⟩)⟩, ?_⟩
      rintro σ' H' ⟨z, rfl, rfl⟩
      refine ⟨.int z, rfl, 10, 18, rfl, rfl, ⟨by decide, by decide, by decide⟩, z, _, rfl, rfl, _, rfl, ite2 (fun _ => ?_) (fun _ => ?_)⟩
      · -- a great number: its digits
        refine ⟨60, rfl, by decide, by decide, for_range (lo := 0) (n := 60)
          (fun j σ H2 => ∃ ds z y6, σ = [some (.ref a), some (.int 0), some (.int 63), some (.ref p), some (.int (0 + (i : Int))), some (.int z), y6, y7] ∧ Same H H2 ∧ H2 p = some (.lst (List.map V.int ds)) ∧ ds.length ≤ 60 * i + j)
          ⟨ds, z, y6, rfl, sm, hp, hl⟩ (fun j σ H2 hj hV => ?_) (fun σ H2 hV => ?_)⟩
        · obtain ⟨ds, z, y6, rfl, sm, hp, hl⟩ := hV
          refine ⟨.int z, rfl, z, 0, rfl, rfl, _, rfl, ite2 (fun _ => ?_) (fun _ => ?_)⟩
          · refine ⟨.ref p, rfl, .inl ⟨rfl, _, SqL.of hp⟩, .int z, rfl, .inl ⟨z, rfl, z, 1000, rfl, rfl, (by decide : (1000 : Int) ≠ 0), p, _, _, rfl, rfl, hp, ?_, ?_⟩⟩
            · rw [List.length_map]
              exact Nat.lt_of_le_of_lt (show ds.length ≤ 10000 by omega) (by decide)
            · refine ⟨.int z, rfl, z, 1000, rfl, rfl, ⟨by decide, by decide⟩, ds ++ [z.fmod 1000], z / 1000, some (.int (0 + (j : Int))), rfl, fun b o e => ?_, ?_, ?_⟩
              · rw [upd_ne (ne_of_none e np)]
                exact sm b o e
              · rw [upd_same, List.map_append]
                rfl
              · rw [List.length_append, List.length_singleton]
                omega
          · exact ⟨ds, z, some (.int (0 + (j : Int))), rfl, sm, hp, by omega⟩
        · obtain ⟨ds, z, y6, rfl, sm, hp, hl⟩ := hV
          exact ⟨ds, _, _, _, _, rfl, sm, hp, by omega⟩
      · -- another one: drawn on from it
        refine ⟨.int z, rfl, z, 48271, rfl, rfl, .inr ⟨by decide, by decide⟩, .int (0 + (i : Int)), rfl, 0 + (i : Int), 69621, rfl, rfl, .inr ⟨by decide, by decide⟩, _, _, rfl, rfl, _, 11, rfl, rfl, .inl ⟨_, rfl, ?_⟩⟩
        refine ⟨_, 2147483647, rfl, rfl, (by decide : (2147483647 : Int) ≠ 0), 12, rfl, by decide, by decide, for_range (lo := 0) (n := 12)
          (fun j σ H2 => ∃ (ds : List Int) (z x : Int) (y6 : Option V), σ = [some (.ref a), some (.int 0), some (.int 63), some (.ref p), some (.int (0 + (i : Int))), some (.int z), y6, some (.int x)] ∧ Same H H2 ∧ H2 p = some (.lst (List.map V.int ds)) ∧ ds.length ≤ 60 * i + j)
          ⟨ds, z, _, y6, rfl, sm, hp, hl⟩ (fun j σ H2 hj hV => ?_) (fun σ H2 hV => ?_)⟩
        · obtain ⟨ds, z, x, y6, rfl, sm, hp, hl⟩ := hV
          refine ⟨.int x, rfl, x, 16807, rfl, rfl, .inr ⟨by decide, by decide⟩, .int (0 + (j : Int)), rfl, 7, _, rfl, rfl, .inl ⟨by decide, by decide⟩, _, _, rfl, rfl, _, 1, rfl, rfl, .inl ⟨_, rfl, _, 2147483647, rfl, rfl, (by decide : (2147483647 : Int) ≠ 0), ?_⟩⟩
          refine ⟨.ref p, rfl, .inl ⟨rfl, _, SqL.of hp⟩, .int _, rfl, _, 997, rfl, rfl, ⟨by decide, by decide⟩, .inl ⟨_, rfl, _, 1000, rfl, rfl, (by decide : (1000 : Int) ≠ 0), p, _, _, rfl, rfl, hp, ?_, ?_⟩⟩
          · rw [List.length_map]
            exact Nat.lt_of_le_of_lt (show ds.length ≤ 10000 by omega) (by decide)
          · refine ⟨ds ++ [((x * 16807 + 7 * (0 + (j : Int)) + 1).fmod 2147483647 / 997).fmod 1000], z, _, some (.int (0 + (j : Int))), rfl, fun b o e => ?_, ?_, ?_⟩
            · rw [upd_ne (ne_of_none e np)]
              exact sm b o e
            · rw [upd_same, List.map_append]
              rfl
            · rw [List.length_append, List.length_singleton]
              omega
        · obtain ⟨ds, z, x, y6, rfl, sm, hp, hl⟩ := hV
          exact ⟨ds, _, _, _, _, rfl, sm, hp, by omega⟩
    · obtain ⟨ds, y4, y5, y6, y7, rfl, sm, hp, hl⟩ := hW
      exact ⟨.ref p, rfl, q p ds H1 sm np hp⟩

/-! _law_box -/
def sp_box (K : PySem.W.Frag) : Sp := fun vs H Q _ => ∃ (a : Addr) (ns : List Int), vs = [.ref a, .int 0, .int 63] ∧ SqL K H a (ns.map V.int) ∧
  ∀ (b dl : Addr) (H' : Hp), Same H H' → H b = none → Box K b dl H' → Q (.ref b) H'
theorem ok_box {f fC fD : Addr} {fd fdC fdD : FuncData} (F : Fun K "_law_box" "_law_box" s_law_box f fd) (FC : Fun K "_law_cell" "_law_cell" s_law_cell fC fdC) (gC : mg "_law_cell" = some (.ref fC))
    (FD : Fun K "_law_digits" "_law_digits" s_law_digits fD fdD) (gD : mg "_law_digits" = some (.ref fD))
    (ml : mg "len" = none) (mr : mg "range" = none) (mi : mg "int" = none) : FnOk P w K mg base CX0 3 f fd ["script", "first", "last"] (sp_box K) := by
  have GD : FnOk P w K mg base CX0 2 fD fdD ["script", "first", "last"] (sp_digits K) := ok_digits FD FC gC ml mr mi
  have bD : Binds K fdD ["script", "first", "last"] [] := FD.binds fun _ _ _ _ _ _ us hl => match us, hl with | [_, _, _], _ => rfl
  refine F.ok sc_law_box (fun vs H Q E h => ?_) (fun cdv A outer s H vs Q E hr h => ?_)
  · obtain ⟨a, ns, rfl, _⟩ := h
    rfl
  · obtain ⟨a, ns, rfl, hS, q⟩ := h
    refine ⟨_, pss_one (ps_ret (pe_lst (pa_cons (pe_call GD hr (by rfl) gD FD.kp bD .nil pass0 (pa_cons (pv 0) (pa_cons (pv 1) (pa_cons (pv 2) pa_nil)))) (pa_cons pe_int pa_nil)))), ?_⟩
    refine ⟨.ref a, rfl, .int 0, rfl, .int 63, rfl, a, ns, rfl, hS, fun p ds H1 sm np hp => ⟨by show 2 ≤ sizeLine; decide, fun b nb => ?_⟩⟩
    exact q b p _ (sm.trans (same_new nb)) (sm.free nb) ⟨ds, 0, upd_same, Int.le_refl _, (same_new nb).seq (SqL.of hp)⟩

/-! _law_draw -/
def sp_draw (K : PySem.W.Frag) : Sp := fun vs H Q _ => ∃ (b dl : Addr) (m : Int), vs = [.ref b, .int m] ∧ Box K b dl H ∧ 0 < m ∧
  ∀ (r : Int) (H' : Hp), 0 ≤ r → r < m → Mv [b] H H' → Box K b dl H' → Q (.int r) H'
theorem ok_draw {f : Addr} {fd : FuncData} {k : Nat} (F : Fun K "_law_draw" "_law_draw" s_law_draw f fd) (ml : mg "len" = none) (mi : mg "int" = none) : FnOk P w K mg base CX0 (k + 1) f fd ["box", "many"] (sp_draw K) := by
  refine F.ok sc_law_draw (fun vs H Q E h => ?_) (fun cdv A outer s H vs Q E hr h => ?_)
  · obtain ⟨b, dl, m, rfl, _⟩ := h
    rfl
  · obtain ⟨b, dl, m, rfl, ⟨ds, n, hb, hn, hd⟩, hm, q⟩ := h
    have nd := sc_law_draw.nd
    refine ⟨_, pss_cons (ps_set (i := 2) nd rfl (.inl rfl) (pe_ix ix_list (pv 0) pe_int (fun _ _ => rfl)))
      (pss_cons (ps_asg (pe_op op_add (pv 2) pe_int) (pg_sub (pv 0) pe_int set_list))
      (pss_cons (ps_if (pt_cmpR op_lt (pv 2) (pe_callB call_len_seq (by rfl) ml PySem.boot_len (pa_cons (pe_ix ix_list (pv 0) pe_int (fun _ _ => rfl)) pa_nil)) (nomark _))
        (pss_one (ps_ret (pe_op op_modN (pe_callTy call_int1 (by rfl) mi (by decide +kernel) (pa_cons (pe_ix ix_list (pe_ix ix_list (pv 0) pe_int (fun _ _ => rfl)) (pv 2) (fun _ _ => rfl)) pa_nil)) (pv 1)))) pss_nil)
      (pss_one (ps_ret pe_int)))), ?_⟩
    -- at = box[1]; box[1] = at + 1
    refine ⟨.ref b, rfl, b, _, 1, .int n, rfl, rfl, SqL.of hb, atI_nat (j := 1) rfl, ?_⟩
    refine ⟨.int n, rfl, n, 1, rfl, rfl, .ref b, rfl, b, _, 1, 1, rfl, rfl, hb, rfl, ?_⟩
    have h1 : (upd H b (.lst [.ref dl, .int (n + 1)])) b = some (.lst [.ref dl, .int (n + 1)]) := upd_same
    have m1 : Mv [b] H (upd H b (.lst [.ref dl, .int (n + 1)])) := Mv.put
    have hd1 : SqL K (upd H b (.lst [.ref dl, .int (n + 1)])) dl (ds.map V.int) := m1.seqL hd fun p hp u r => by
      rw [List.mem_singleton.mp hp] at r
      rw [rd_of hb (fun _ _ z => by cases z) r]
      exact box_list_ne ds
    have box1 : Box K b dl (upd H b (.lst [.ref dl, .int (n + 1)])) := ⟨ds, n + 1, h1, by omega, hd1⟩
    -- if at < len(box[0])
    refine ⟨.int n, rfl, .ref b, rfl, b, _, 0, .ref dl, rfl, rfl, SqL.of h1, atI_nat (j := 0) rfl, dl, _, rfl, .inl hd1, n, _, rfl, rfl, _, rfl, ite2 (fun e => ?_) (fun e => ?_)⟩
    · have e0 : n < ((ds.map V.int).length : Int) := of_decide_eq_true e
      rw [List.length_map] at e0
      obtain ⟨j, rfl⟩ : ∃ j : Nat, n = (j : Int) := ⟨n.toNat, by omega⟩
      have hj : j < ds.length := by omega
      have g : (ds.map V.int)[j]? = some (.int ds[j]) := by
        rw [List.getElem?_map, List.getElem?_eq_getElem hj]
        rfl
      have rg := fmod_range (x := ds[j]) hm
      exact ⟨.ref b, rfl, b, _, 0, .ref dl, rfl, rfl, SqL.of h1, atI_nat (j := 0) rfl, .int j, rfl, dl, _, j, .int ds[j], rfl, rfl, hd1, atI_nat g, .inl ⟨_, rfl, .int m, rfl, _, m, rfl, rfl, by omega, q _ _ rg.1 rg.2 m1 box1⟩⟩
    · exact q 0 _ (Int.le_refl _) hm m1 box1
end
end Tc
/-! Independent letters, what is taken out of a word, pairs of letters. -/
namespace Tc
open PySem PySem.Spec PyProof.Rows L2 TcG
section
variable {P : Program} {w : World} {K : PySem.W.Frag} {mg : Str → Option Value} {base : Heap}

theorem small_line {n : Nat} (h : n ≤ 100000) : n ≤ sizeLine := Nat.le_trans h (by decide)

/-! independent -/
def sp_independent (K : PySem.W.Frag) : Sp := fun vs H Q _ => ∃ (a : Addr) (x y : Nat) (ls : List Nat) (ps : List (List Nat)), vs = [.ref a, .str (tx [x]), .str (tx [y])] ∧ Alpha K H a ls ps ∧ Q (.bl (ind ps x y)) H
theorem ok_independent {f : Addr} {fd : FuncData} {k : Nat} (F : Fun K "independent" "independent" s_independent f fd) (mn : mg "min" = none) (mx : mg "max" = none) : FnOk P w K mg base CX0 (k + 1) f fd ["alphabet", "x", "y"] (sp_independent K) := by
  refine F.ok sc_independent (fun vs H Q E h => ?_) (fun cdv A outer s H vs Q E hr h => ?_)
  · obtain ⟨a, x, y, ls, ps, rfl, _⟩ := h
    rfl
  · obtain ⟨a, x, y, ls, ps, rfl, ⟨pt, h1, h2⟩, q⟩ := h
    refine ⟨_, pss_one (ps_ret (pe_cmpR op_in_seq (pe_op op_add_str
        (pe_callB (call_minT rfl) (by rfl) mn (by decide +kernel) (pa_cons (pv 1) (pa_cons (pv 2) pa_nil)))
        (pe_callB (call_maxT rfl) (by rfl) mx (by decide +kernel) (pa_cons (pv 1) (pa_cons (pv 2) pa_nil))))
      (pe_ix ix_tup (pv 0) pe_int (fun _ _ => rfl)) (by rfl))), ?_⟩
    refine ⟨.str (tx [x]), rfl, .str (tx [y]), rfl, _, _, rfl, .str (tx [x]), rfl, .str (tx [y]), rfl, _, _, rfl, ?_⟩
    rw [min_tx, max_tx]
    refine ⟨_, _, rfl, rfl, by show (1 + 1 : Nat) ≤ sizeLine; decide, .ref a, rfl, a, _, 2, .ref pt, rfl, rfl, h1, atI_nat (j := 2) rfl, pt, _, rfl, .inr h2, rfl, txs_flat ps, ?_⟩
    rw [tx_append, inV_txs]
    exact q

/-! taken_out -/
def sp_taken (Pt : Addr) : Sp := fun vs H Q _ => ∃ (a l : List Nat), vs = [.str (tx a), .str (tx l)] ∧ a.length ≤ 1000 ∧ GxR.TabG H Pt ∧ ∀ H', GxR.Tabbed Pt H H' → Q (.str (tx (a.filter fun c => decide (c ∈ l)))) H'
theorem ok_taken {f c Pt : Addr} {fd : FuncData} {k : Nat} (F : FunC K "taken_out" "taken_out" s_taken_out f fd c) (TB : GxR.TabB base mg c Pt) : FnOk P w K mg base CX0 (k + 1) f fd ["word", "letters"] (sp_taken Pt) := by
  refine F.ok sc_taken_out (fun vs H Q E h => ?_) (fun A outer s H vs Q E hr h => ?_)
  · obtain ⟨a, l, rfl, _⟩ := h
    rfl
  · obtain ⟨a, l, rfl, small, tab, q⟩ := h
    refine ⟨_, pss_one (ps_ret (pe_kept hr TB rfl (by show genOk (defScope s_taken_out).names _ _ = true; decide +kernel) (pv 0) (iy := 1) rfl (by rfl) (by rfl) (fun _ => rfl))), ?_⟩
    exact ⟨.str (tx a), rfl, tx a, rfl, tab, tx l, rfl, small, q⟩

/-! _law_free -/
def sp_free (K : PySem.W.Frag) : Sp := fun vs H Q _ => ∃ (a : Addr) (x y : Nat) (ls : List Nat) (ps : List (List Nat)), vs = [.ref a, .str (tx [x]), .str (tx [y])] ∧ Alpha K H a ls ps ∧ Pairs ls ps ∧ Q (.bl (ind ps x y)) H
theorem ok_free {f : Addr} {fd : FuncData} {k : Nat} (F : Fun K "_law_free" "_law_free" s_law_free f fd) : FnOk P w K mg base CX0 (k + 1) f fd ["alphabet", "x", "y"] (sp_free K) := by
  refine F.ok sc_law_free (fun vs H Q E h => ?_) (fun cdv A outer s H vs Q E hr h => ?_)
  · obtain ⟨a, x, y, ls, ps, rfl, _⟩ := h
    rfl
  · obtain ⟨a, x, y, ls, ps, rfl, ⟨pt, h1, h2⟩, pr, q⟩ := h
    refine ⟨_, pss_one (ps_ret (pe_or (pe_cmpR op_in_seq (pe_op op_add_str (pv 1) (pv 2)) (pe_ix ix_tup (pv 0) pe_int (fun _ _ => rfl)) (by rfl))
      (pe_one (pe_cmpR op_in_seq (pe_op op_add_str (pv 2) (pv 1)) (pe_ix ix_tup (pv 0) pe_int (fun _ _ => rfl)) (by rfl))))), ?_⟩
    rw [← ind_either pr] at q
    refine ⟨.str (tx [x]), rfl, .str (tx [y]), rfl, _, _, rfl, rfl, by show (1 + 1 : Nat) ≤ sizeLine; decide, .ref a, rfl, a, _, 2, .ref pt, rfl, rfl, h1, atI_nat (j := 2) rfl, pt, _, rfl, .inr h2, rfl, txs_flat ps, _, rfl, ?_⟩
    rw [tx_append]
    have e1 : inV (.str (tx ([x] ++ [y]))) (txs ps) = decide ([x, y] ∈ ps) := inV_txs _ _
    have e2 : inV (.str (tx ([y] ++ [x]))) (txs ps) = decide ([y, x] ∈ ps) := inV_txs _ _
    show if inV (.str (tx ([x] ++ [y]))) (txs ps) = true then _ else _
    rw [e1]
    by_cases h : [x, y] ∈ ps
    · rw [decide_eq_true h] at q ⊢
      exact q
    · rw [decide_eq_false h] at q ⊢
      refine iteF ⟨.str (tx [y]), rfl, .str (tx [x]), rfl, _, _, rfl, rfl, by show (1 + 1 : Nat) ≤ sizeLine; decide, .ref a, rfl, a, _, 2, .ref pt, rfl, rfl, h1, atI_nat (j := 2) rfl, pt, _, rfl, .inr h2, rfl, txs_flat ps, ?_⟩
      rw [tx_append]
      show Q (.bl (inV (.str (tx ([y] ++ [x]))) (txs ps))) H
      rw [e2]
      exact q

/-! _law_only -/
def sp_only (K : PySem.W.Frag) : Sp := fun vs H Q _ => ∃ (a l : List Nat) (p : Addr), vs = [.str (tx a), .ref p] ∧ SqL K H p (l.map fun c => .str (tx [c])) ∧ a.length ≤ 1000 ∧ Q (.str (tx (a.filter fun c => decide (c ∈ l)))) H
theorem ok_only {f : Addr} {fd : FuncData} {k : Nat} (F : Fun K "_law_only" "_law_only" s_law_only f fd) : FnOk P w K mg base CX0 (k + 1) f fd ["word", "letters"] (sp_only K) := by
  refine F.ok sc_law_only (fun vs H Q E h => ?_) (fun cdv A outer s H vs Q E hr h => ?_)
  · obtain ⟨a, l, p, rfl, _⟩ := h
    rfl
  · obtain ⟨a, l, p, rfl, hS, small, q⟩ := h
    have nd := sc_law_only.nd
    refine ⟨_, pss_cons (ps_set (i := 2) nd rfl (.inl rfl) pe_str)
      (pss_cons (ps_for PassesOwn.never rfl (pi_str (pv 0)) (pg_name (i := 3) nd rfl (.inl rfl))
        (pss_one (ps_if (pt_cmpR op_in_seq (pv 3) (pv 1) (by rfl)) (pss_one (ps_set (i := 2) nd rfl (.inl rfl) (pe_op op_add_str (pv 2) (pv 3)))) pss_nil)))
      (pss_one (ps_ret (pv 2)))), ?_⟩
    refine ⟨.str (tx a), rfl, tx a, rfl, for_text (fun i σ H' => ∃ y3, σ = [some (.str (tx a)), some (.ref p), some (.str (tx ((a.take i).filter fun c => decide (c ∈ l)))), y3] ∧ H' = H) ⟨none, rfl, rfl⟩ (fun i c σ H1 hc hW => ?_) (fun σ H1 hW => ?_)⟩
    · obtain ⟨y3, rfl, rfl⟩ := hW
      have e : (l.map fun c => V.str (tx [c])) = txs (l.map fun c => [c]) := by
        unfold txs
        rw [List.map_map]
        rfl
      rw [e] at hS
      have mem : inV (.str (tx [c])) (txs (l.map fun c => [c])) = decide (c ∈ l) := by
        rw [inV_txs, Bool.eq_iff_iff, decide_eq_true_eq, decide_eq_true_eq, List.mem_map]
        constructor
        · rintro ⟨d, hd, e⟩
          cases e
          exact hd
        · intro h
          exact ⟨c, h, rfl⟩
      refine ⟨.str (tx [c]), rfl, .ref p, rfl, p, _, rfl, .inl hS, rfl, txs_flat _, _, rfl, ?_⟩
      show if inV (.str (tx [c])) (txs (l.map fun c => [c])) = true then _ else _
      rw [mem]
      by_cases h : c ∈ l
      · rw [decide_eq_true h]
        refine iteT ⟨.str _, rfl, .str _, rfl, _, _, rfl, rfl, ?_, some (.str (tx [c])), ?_, rfl⟩
        · rw [tx_length, tx_length]
          have := List.length_filter_le (fun c => decide (c ∈ l)) (a.take i)
          have h2 : (a.take i).length ≤ 1000 := by
            rw [List.length_take]
            omega
          exact small_line (by simp; omega)
        · rw [take_next hc, List.filter_append, List.filter_cons, if_pos (decide_eq_true h), tx_append]
          rfl
      · rw [decide_eq_false h]
        refine iteF ⟨some (.str (tx [c])), ?_, rfl⟩
        rw [take_next hc, List.filter_append, List.filter_cons, if_neg (by rw [decide_eq_false h]; exact Bool.false_ne_true), List.filter_nil, List.append_nil]
        rfl
    · obtain ⟨y3, rfl, rfl⟩ := hW
      rw [List.take_length]
      exact ⟨_, rfl, q⟩
end
end Tc
/-! The pairs of letters. -/
namespace Tc
open PySem PySem.Spec PyProof.Rows L2 TcG
theorem scx_letter_pairs : FnScope ["letters", "low", "high"] ["letters"] (defScope s_letter_pairs) :=
  ⟨rfl, rfl, rfl, by decide +kernel, rfl, by decide +kernel, by decide +kernel⟩
theorem pairsWith_len (ls : List Nat) (x : Nat) : (pairsWith ls x).length ≤ ls.length := by
  unfold pairsWith
  rw [List.length_map]
  exact List.length_filter_le _ _
theorem flat_len (ls : List Nat) : ∀ l : List Nat, (l.flatMap (pairsWith ls)).length ≤ l.length * ls.length
  | [] => by simp
  | x :: r => by
    rw [List.flatMap_cons, List.length_append, List.length_cons]
    have h1 := pairsWith_len ls x
    have h2 := flat_len ls r
    rw [Nat.succ_mul]
    omega
section
variable {P : Program} {w : World} {K : PySem.W.Frag} {mg : Str → Option Value} {base : Heap}
def sp_letter_pairs : Sp := fun vs H Q _ => ∃ ls : List Nat, vs = [.str (tx ls)] ∧ ls.length ≤ 100 ∧ ∀ (p : Addr) (H' : Hp), Same H H' → H p = none → H' p = some (.lst (txs (pairsOf ls))) → Q (.ref p) H'
theorem ok_letter_pairs {f : Addr} {fd : FuncData} {k : Nat} (F : Fun K "letter_pairs" "letter_pairs" s_letter_pairs f fd) : FnOk P w K mg base CX0 (k + 1) f fd ["letters"] sp_letter_pairs := by
  refine F.ok scx_letter_pairs (fun vs H Q E h => ?_) (fun cdv A outer s H vs Q E hr h => ?_)
  · obtain ⟨ls, rfl, _⟩ := h
    rfl
  · obtain ⟨ls, rfl, small, q⟩ := h
    have nd := scx_letter_pairs.nd
    refine ⟨_, pss_one (ps_ret (pe_lc2 (own := [("low", 1), ("high", 2)]) (vs1 := [2]) (g := gName 1) (g1 := gName 2) (tt := tYes) rfl nd (pi_str (pv 0))
      (blkOk_by (own := [("low", 1), ("high", 2)]) (N := ["letters", "low", "high"]) (sc := defScope s_letter_pairs) (by decide +kernel)) (by decide)
      (fun _ _ _ _ _ => pg_name (i := 1) nd rfl (Or.inl rfl)) (fun _ _ _ _ _ => pts_nil) (fun _ _ _ _ _ => pi_str (pv 0)) (fun _ _ _ _ _ => pg_name (i := 2) nd rfl (Or.inl rfl))
      (fun _ _ _ _ _ => pts_one (pt_cmpR op_lt_str (pv 1) (pv 2) (nomark _))) (fun _ _ _ _ _ => pe_op op_add_str (pv 1) (pv 2)))), ?_⟩
    refine ⟨.str (tx ls), rfl, tx ls, rfl, fun D nD => lc2_first (fun i H' => Same H H' ∧ H' D = some (.lst (txs ((ls.take i).flatMap (pairsWith ls))))) ⟨same_new nD, upd_same⟩ (fun i c H1 hc hW => ?_) (fun H1 hW => ?_)⟩
    · obtain ⟨sm, hD⟩ := hW
      refine ⟨rfl, ?_⟩
      refine ⟨.str (tx ls), rfl, tx ls, rfl, lc2_text (fun j H' => Same H H' ∧ H' D = some (.lst (txs ((ls.take i).flatMap (pairsWith ls) ++ ((ls.take j).filter fun y => decide (c < y)).map fun y => [c, y])))) ⟨sm, by simpa using hD⟩ (fun j d H2 hd hV => ?_) (fun H2 hV => ?_)⟩
      · obtain ⟨sm, hD⟩ := hV
        refine ⟨rfl, .str (tx [c]), rfl, .str (tx [d]), rfl, _, _, rfl, rfl, _, rfl, ?_⟩
        rw [tx_lt, take_next hd, List.filter_append]
        by_cases lt : c < d
        · rw [decide_eq_true lt]
          refine iteT ⟨.str (tx [c]), rfl, .str (tx [d]), rfl, _, _, rfl, rfl, by show (1 + 1 : Nat) ≤ sizeLine; decide, _, hD, ?_, ?_, ?_⟩
          · unfold txs
            rw [List.length_map, List.length_append, List.length_map]
            have h1 := flat_len ls (ls.take i)
            have h2 := List.length_filter_le (fun y => decide (c < y)) (ls.take j)
            have h3 : (ls.take i).length ≤ 100 := by rw [List.length_take]; omega
            have h4 : (ls.take j).length ≤ 100 := by rw [List.length_take]; omega
            have h5 : (ls.take i).length * ls.length ≤ 100 * 100 := Nat.mul_le_mul h3 small
            refine Nat.lt_of_le_of_lt (show _ ≤ 20000 by omega) (by decide)
          · intro b o e
            rw [upd_ne (ne_of_none e nD)]
            exact sm b o e
          · rw [upd_same, List.filter_cons, if_pos (decide_eq_true lt), tx_append]
            unfold txs
            simp
        · rw [decide_eq_false lt]
          refine iteF ⟨sm, ?_⟩
          rw [List.filter_cons, if_neg (by rw [decide_eq_false lt]; exact Bool.false_ne_true), List.filter_nil, List.append_nil]
          exact hD
      · obtain ⟨sm, hD⟩ := hV
        refine ⟨sm, ?_⟩
        rw [take_next hc, List.flatMap_append, hD, List.take_length]
        unfold pairsWith
        simp
    · obtain ⟨sm, hD⟩ := hW
      refine q D H1 sm nD ?_
      rw [hD, List.take_length]
      rfl
end
end Tc
/-! Drawn alphabets and words. -/
namespace Tc
open PySem PySem.Spec PyProof.Rows L2 TcG
section
variable {P : Program} {w : World} {K : PySem.W.Frag} {mg : Str → Option Value} {base : Heap}

theorem ne_lst {H : Hp} {p q : Addr} {o : HO} {xs : List V} (hp : H p = some (.lst xs)) (hq : H q = some o) (h : ∀ ys, o = .lst ys → ys ≠ xs) : p ≠ q := fun e => by
  rw [e, hq] at hp
  cases hp
  exact h _ rfl rfl

/-! _law_alphabet -/
def sp_alphabet (K : PySem.W.Frag) : Sp := fun vs H Q _ => ∃ (b dl : Addr) (m : Int), vs = [.ref b, .int m] ∧ Box K b dl H ∧ 1 ≤ m ∧ m ≤ 6 ∧
  ∀ (a : Addr) (n : Nat) (ps : List (List Nat)) (H' : Hp), (n : Int) ≤ m → Drawn n ps → Mv [b] H H' → Box K b dl H' → Alpha K H' a (alph n) ps → Q (.ref a) H'
theorem ok_alphabet {f fD : Addr} {fd fdD : FuncData} (F : Fun K "_law_alphabet" "_law_alphabet" s_law_alphabet f fd) (FD : Fun K "_law_draw" "_law_draw" s_law_draw fD fdD) (gD : mg "_law_draw" = some (.ref fD))
    (ml : mg "len" = none) (mi : mg "int" = none) (mr : mg "range" = none) (ms : mg "sorted" = none) (mt : mg "tuple" = none) : FnOk P w K mg base CX0 2 f fd ["box", "most"] (sp_alphabet K) := by
  have GD : FnOk P w K mg base CX0 1 fD fdD ["box", "many"] (sp_draw K) := ok_draw FD ml mi
  have bD : Binds K fdD ["box", "many"] [] := FD.binds fun _ _ _ _ _ _ us hl => match us, hl with | [_, _], _ => rfl
  refine F.ok sc_law_alphabet (fun vs H Q E h => ?_) (fun cdv A outer s H vs Q E hr h => ?_)
  · obtain ⟨b, dl, m, rfl, _⟩ := h
    rfl
  · obtain ⟨b, dl, m, rfl, hB, m1, m6, q⟩ := h
    have nd := sc_law_alphabet.nd
    refine ⟨_, pss_cons (ps_set (i := 2) nd rfl (.inl rfl) (pe_slice sl_str pe_str po_none (po_some (pe_op op_add pe_int (pe_call GD hr (by rfl) gD FD.kp bD .nil pass0 (pa_cons (pv 0) (pa_cons (pv 1) pa_nil)))))))
      (pss_cons (ps_set (i := 3) nd rfl (.inl rfl) (pe_lst pa_nil))
      (pss_cons (ps_for PassesOwn.never rfl (pi_range1 (by rfl) mr (pa_cons (pe_callB call_len_str (by rfl) ml PySem.boot_len (pa_cons (pv 2) pa_nil)) pa_nil)) (pg_name (i := 4) nd rfl (.inl rfl))
        (pss_one (ps_for PassesOwn.never rfl (pi_range2 (by rfl) mr (pa_cons (pe_op op_add (pv 4) pe_int) (pa_cons (pe_callB call_len_str (by rfl) ml PySem.boot_len (pa_cons (pv 2) pa_nil)) pa_nil))) (pg_name (i := 5) nd rfl (.inl rfl))
          (pss_one (ps_if (pt_cmpR op_lt (pe_call GD hr (by rfl) gD FD.kp bD .nil pass0 (pa_cons (pv 0) (pa_cons pe_int pa_nil))) pe_int (nomark _))
            (pss_one (ps_expr (pe_bm PySem.F.plainAttrs_list PySem.F.slot_list_append PySem.F.type_list_append mt_append (pv 3)
              (pa_cons (pe_op op_add_str (pe_ix ix_str (pv 2) (pv 4) (fun _ _ => rfl)) (pe_ix ix_str (pv 2) (pv 5) (fun _ _ => rfl))) pa_nil)))) pss_nil)))))
      (pss_one (ps_ret (pe_tup (pa_cons pe_str (pa_cons (pv 2) (pa_cons (pe_callTy call_tuple_of (by rfl) mt (by decide +kernel)
        (pa_cons (pe_callB cr_sortedS (by rfl) ms (by decide +kernel) (pa_cons (pv 3) pa_nil)) pa_nil)) pa_nil)))))))), ?_⟩
    -- letters = 'abcdef'[:1 + r]
    refine ⟨.ref b, rfl, .int m, rfl, b, dl, m, rfl, hB, by omega, fun r H1 r0 rm mv1 hB1 => ⟨1, r, rfl, rfl, 1 + r, rfl, ?_⟩⟩
    obtain ⟨n, en⟩ : ∃ n : Nat, 1 + r = (n : Int) := ⟨(1 + r).toNat, by omega⟩
    have n1 : 1 ≤ n := by omega
    have n6 : n ≤ 6 := by omega
    have nm : (n : Int) ≤ m := by omega
    refine ⟨tx [97, 98, 99, 100, 101, 102], rfl, by show (6 : Nat) ≤ sizeLine; decide, ?_⟩
    rw [en, cut_to]
    -- pairs = []
    refine ⟨Nat.zero_le _, fun p np => ?_⟩
    have len : (tx (alph n)).length = n := by rw [tx_length, alph_len n6]
    have zl : (tx (alph n)).length ≤ sizeLine := by
      rw [len]
      exact small_line (by omega)
    have hp1 : (upd H1 p (.lst [])) p = some (.lst (txs [])) := upd_same
    -- all pairs of places
    refine ⟨.str (tx (alph n)), rfl, tx (alph n), rfl, zl, ((tx (alph n)).length : Int), rfl, by rw [len]; omega, by rw [len]; omega, ?_⟩
    have e1 : (((tx (alph n)).length : Int)).toNat = n := by rw [len]; omega
    rw [e1]
    have step : ∀ i, i < n → (alph n)[i]? = some (97 + i) := fun i hi => alph_at n6 hi
    refine for_range (lo := 0) (n := n) (fun i σ H' => ∃ prs y4 y5, σ = [some (.ref b), some (.int m), some (.str (tx (alph n))), some (.ref p), y4, y5] ∧ Mv [b] H H' ∧ Box K b dl H' ∧ H' p = some (.lst (txs prs)) ∧ prs.Sublist (((alph n).take i).flatMap (pairsWith (alph n))))
      ⟨[], none, none, rfl, mv1.trans (Mv.new np), hB1.same (same_new np), hp1, List.Sublist.refl _⟩ (fun i σ H2 hi hW => ?_) (fun σ H2 hW => ?_)
    · obtain ⟨prs, y4, y5, rfl, mv2, hB2, hp2, sub⟩ := hW
      refine ⟨.int (0 + (i : Int)), rfl, _, 1, rfl, rfl, .str (tx (alph n)), rfl, tx (alph n), rfl, zl, 0 + (i : Int) + 1, ((tx (alph n)).length : Int), rfl, by rw [len]; omega, ?_⟩
      have e2 : (((tx (alph n)).length : Int) - (0 + (i : Int) + 1)).toNat = n - (i + 1) := by rw [len]; omega
      rw [e2]
      refine for_range (lo := 0 + (i : Int) + 1) (n := n - (i + 1)) (fun t σ H' => ∃ prs y5, σ = [some (.ref b), some (.int m), some (.str (tx (alph n))), some (.ref p), some (.int (0 + (i : Int))), y5] ∧ Mv [b] H H' ∧ Box K b dl H' ∧ H' p = some (.lst (txs prs)) ∧
          prs.Sublist (((alph n).take i).flatMap (pairsWith (alph n)) ++ (((alph n).drop (i + 1)).take t).map fun y => [97 + i, y]))
        ⟨prs, y5, rfl, mv2, hB2, hp2, by simpa using sub⟩ (fun t σ H3 ht hV => ?_) (fun σ H3 hV => ?_)
      · obtain ⟨prs, y5, rfl, mv3, hB3, hp3, sub⟩ := hV
        have hd : ((alph n).drop (i + 1))[t]? = some (97 + (i + 1 + t)) := by
          rw [List.getElem?_drop]
          exact step _ (by omega)
        have nx : (((alph n).drop (i + 1)).take (t + 1)).map (fun y => [97 + i, y]) = (((alph n).drop (i + 1)).take t).map (fun y => [97 + i, y]) ++ [[97 + i, 97 + (i + 1 + t)]] := by
          rw [take_next hd, List.map_append]
          rfl
        refine ⟨.ref b, rfl, b, dl, 5, rfl, hB3, by decide, fun r H4 r0 r5 mv4 hB4 => ⟨r, 2, rfl, rfl, _, rfl, ?_⟩⟩
        have hpb : p ≠ b := by
          obtain ⟨ds, nn, hb, _⟩ := hB3
          refine ne_lst hp3 hb fun ys e z => ?_
          cases e
          unfold txs at z
          cases prs with
          | nil => cases z
          | cons x l => cases z
        have hp4 : H4 p = some (.lst (txs prs)) := mv4 p _ (fun z => hpb (List.mem_singleton.mp z)) hp3
        refine ite2 (fun _ => ?_) (fun _ => ?_)
        · refine ⟨.ref p, rfl, .inl ⟨rfl, _, SqL.of hp4⟩, .str (tx (alph n)), rfl, .int (0 + (i : Int)), rfl, tx (alph n), 0 + (i : Int), 97 + i, rfl, rfl, zl, at_eq (z := 0 + (i : Int)) (j := i) (by omega) (step i hi), ?_⟩
          refine ⟨.str (tx (alph n)), rfl, .int (0 + (i : Int) + 1 + (t : Int)), rfl, tx (alph n), 0 + (i : Int) + 1 + (t : Int), 97 + (i + 1 + t), rfl, rfl, zl, at_eq (z := 0 + (i : Int) + 1 + (t : Int)) (j := i + 1 + t) (by omega) (step (i + 1 + t) (by omega)), ?_⟩
          refine ⟨_, _, rfl, rfl, by show (1 + 1 : Nat) ≤ sizeLine; decide, p, _, _, rfl, rfl, hp4, ?_, ?_⟩
          · unfold txs
            rw [List.length_map]
            have h1 := sub.length_le
            rw [List.length_append, List.length_map, List.length_take] at h1
            have h2 := flat_len (alph n) ((alph n).take i)
            rw [alph_len n6, List.length_take, alph_len n6] at h2
            have h3 : min i n * n ≤ 6 * 6 := Nat.mul_le_mul (by omega) n6
            refine Nat.lt_of_le_of_lt (show prs.length ≤ 100 by omega) (by decide)
          · have e3 : (⟨#[97 + i]⟩ : Str) ++ ⟨#[97 + (i + 1 + t)]⟩ = tx [97 + i, 97 + (i + 1 + t)] := tx_append [97 + i] [97 + (i + 1 + t)]
            rw [e3]
            refine ⟨prs ++ [[97 + i, 97 + (i + 1 + t)]], some (.int (0 + (i : Int) + 1 + (t : Int))), rfl, fun a o na e => ?_, ?_, ?_, ?_⟩
            · have e5 := (mv3.trans mv4) a o na e
              have nap : a ≠ p := fun z => by
                rw [z] at e
                have := mv1 p _ (fun y => hpb (List.mem_singleton.mp y)) e
                rw [np] at this
                cases this
              rw [upd_ne nap]
              exact e5
            · exact hB1.put np hB4
            · rw [upd_same]
              unfold txs
              rw [List.map_append]
              rfl
            · rw [nx, ← List.append_assoc]
              exact List.Sublist.append sub (List.Sublist.refl _)
        · refine ⟨prs, some (.int (0 + (i : Int) + 1 + (t : Int))), rfl, mv3.trans mv4, hB4, hp4, ?_⟩
          rw [nx, ← List.append_assoc]
          exact List.Sublist.trans sub (List.sublist_append_left _ _)
      · obtain ⟨prs, y5, rfl, mv3, hB3, hp3, sub⟩ := hV
        refine ⟨prs, _, _, rfl, mv3, hB3, hp3, ?_⟩
        rw [take_next (step i hi), List.flatMap_append]
        have e4 : ((alph n).drop (i + 1)).take (n - (i + 1)) = (alph n).drop (i + 1) := List.take_of_length_le (by rw [List.length_drop, alph_len n6]; exact Nat.le_refl _)
        rw [e4, ← alph_pairs n6 hi] at sub
        simpa using sub
    · obtain ⟨prs, y4, y5, rfl, mv2, hB2, hp2, sub⟩ := hW
      have e5 : (alph n).take n = alph n := List.take_of_length_le (by rw [alph_len n6]; exact Nat.le_refl _)
      rw [e5] at sub
      rw [txs_map] at hp2
      refine ⟨.str (tx (alph n)), rfl, .ref p, rfl, p, prs.map tx, rfl, SqL.of hp2, ?_, fun ys c pm so nc => ?_⟩
      · rw [List.length_map]
        have h1 := sub.length_le
        have h2 := alph_count n6
        exact Nat.lt_of_le_of_lt (Nat.le_trans h1 h2) (by decide)
      · obtain ⟨ps, rfl, dr⟩ := drawn_of n6 n1 sub pm so
        refine ⟨c, _, rfl, .inl ⟨SqL.of upd_same, fun t nt => ⟨by show 3 ≤ sizeLine; decide, fun a na => ?_⟩⟩⟩
        have sm : Same H2 (upd (upd (upd H2 c (.lst ((ps.map tx).map V.str))) t (.tup ((ps.map tx).map V.str))) a (.tup [.str "alphabet", .str (tx (alph n)), .ref t])) := (same_new nc).trans ((same_new nt).trans (same_new na))
        refine q a n ps _ nm dr (mv2.trans (Mv.of_same sm)) (hB2.same sm) ⟨t, SqT.of upd_same, SqT.of ?_⟩
        rw [upd_ne (fun z => by rw [← z, upd_same] at na; cases na), upd_same, txs_map]
end
end Tc
/-! Drawn words, words in another order. -/
namespace Tc
open PySem PySem.Spec PyProof.Rows L2 TcG
section
variable {P : Program} {w : World} {K : PySem.W.Frag} {mg : Str → Option Value} {base : Heap}

/-! _law_word -/
def sp_word (K : PySem.W.Frag) : Sp := fun vs H Q _ => ∃ (b dl al : Addr) (m : Int) (ls : List Nat) (ps : List (List Nat)), vs = [.ref b, .ref al, .int m] ∧ Box K b dl H ∧ Alpha K H al ls ps ∧ 0 < ls.length ∧ ls.length ≤ 100 ∧ 0 ≤ m ∧ m ≤ 100 ∧
  ∀ (a : List Nat) (H' : Hp), (a.length : Int) ≤ m → (∀ c ∈ a, c ∈ ls) → Mv [b] H H' → Box K b dl H' → Q (.str (tx a)) H'
theorem ok_word {f fD : Addr} {fd fdD : FuncData} (F : Fun K "_law_word" "_law_word" s_law_word f fd) (FD : Fun K "_law_draw" "_law_draw" s_law_draw fD fdD) (gD : mg "_law_draw" = some (.ref fD))
    (ml : mg "len" = none) (mi : mg "int" = none) (mr : mg "range" = none) : FnOk P w K mg base CX0 2 f fd ["box", "alphabet", "most"] (sp_word K) := by
  have GD : FnOk P w K mg base CX0 1 fD fdD ["box", "many"] (sp_draw K) := ok_draw FD ml mi
  have bD : Binds K fdD ["box", "many"] [] := FD.binds fun _ _ _ _ _ _ us hl => match us, hl with | [_, _], _ => rfl
  refine F.ok sc_law_word (fun vs H Q E h => ?_) (fun cdv A outer s H vs Q E hr h => ?_)
  · obtain ⟨b, dl, al, m, ls, ps, rfl, _⟩ := h
    rfl
  · obtain ⟨b, dl, al, m, ls, ps, rfl, hB, hA, l0, l100, m0, m100, q⟩ := h
    have nd := sc_law_word.nd
    refine ⟨_, pss_cons (ps_set (i := 3) nd rfl (.inl rfl) pe_str)
      (pss_cons (ps_for PassesOwn.never rfl (pi_range1 (by rfl) mr (pa_cons (pe_call GD hr (by rfl) gD FD.kp bD .nil pass0 (pa_cons (pv 0) (pa_cons (pe_op op_add (pv 2) pe_int) pa_nil))) pa_nil)) (pg_name (i := 4) nd rfl (.inl rfl))
        (pss_one (ps_set (i := 3) nd rfl (.inl rfl) (pe_op op_add_str (pv 3) (pe_ix ix_str (pe_ix ix_tup (pv 1) pe_int (fun _ _ => rfl))
          (pe_call GD hr (by rfl) gD FD.kp bD .nil pass0 (pa_cons (pv 0) (pa_cons (pe_callB call_len_str (by rfl) ml PySem.boot_len (pa_cons (pe_ix ix_tup (pv 1) pe_int (fun _ _ => rfl)) pa_nil)) pa_nil))) (fun _ _ => rfl))))))
      (pss_one (ps_ret (pv 3)))), ?_⟩
    refine ⟨.ref b, rfl, .int m, rfl, m, 1, rfl, rfl, b, dl, m + 1, rfl, hB, by omega, fun r H1 r0 rm mv1 hB1 => ⟨r, rfl, by omega, by omega, ?_⟩⟩
    have len : (tx ls).length = ls.length := tx_length ls
    have zl : (tx ls).length ≤ sizeLine := by
      rw [len]
      exact small_line (by omega)
    refine for_range (lo := 0) (n := r.toNat) (fun i σ H' => ∃ a y4, σ = [some (.ref b), some (.ref al), some (.int m), some (.str (tx a)), y4] ∧ a.length = i ∧ (∀ c ∈ a, c ∈ ls) ∧ Mv [b] H H' ∧ Box K b dl H')
      ⟨[], none, rfl, rfl, fun c hc => (nomatch hc), mv1, hB1⟩ (fun i σ H2 hi hW => ?_) (fun σ H2 hW => ?_)
    · obtain ⟨a, y4, rfl, la, ia, mv2, hB2⟩ := hW
      obtain ⟨pt, h1, h2⟩ := hA.mvB hB mv2
      refine ⟨.str (tx a), rfl, .ref al, rfl, al, _, 1, .str (tx ls), rfl, rfl, h1, atI_nat (j := 1) rfl, ?_⟩
      refine ⟨.ref b, rfl, .ref al, rfl, al, _, 1, .str (tx ls), rfl, rfl, h1, atI_nat (j := 1) rfl, tx ls, rfl, zl, b, dl, ((tx ls).length : Int), rfl, hB2, by rw [len]; omega, fun k H3 k0 kl mv3 hB3 => ?_⟩
      rw [len] at kl
      obtain ⟨j, rfl⟩ : ∃ j : Nat, k = (j : Int) := ⟨k.toNat, by omega⟩
      have hj : j < ls.length := by omega
      refine ⟨tx ls, (j : Int), ls[j], rfl, rfl, zl, atI_nat (List.getElem?_eq_getElem hj), tx a, tx [ls[j]], rfl, rfl, ?_, ?_⟩
      · rw [tx_length, tx_length, la]
        exact small_line (by simp; omega)
      · rw [tx_append]
        refine ⟨a ++ [ls[j]], some (.int (0 + (i : Int))), rfl, by rw [List.length_append, la]; rfl, fun c hc => ?_, mv2.trans mv3, hB3⟩
        rcases List.mem_append.mp hc with hc | hc
        · exact ia c hc
        · rw [List.mem_singleton.mp hc]
          exact List.getElem_mem hj
    · obtain ⟨a, y4, rfl, la, ia, mv2, hB2⟩ := hW
      exact ⟨_, rfl, q a H2 (by omega) ia mv2 hB2⟩

end
end Tc
/-! _law_same. -/
namespace Tc
open PySem PySem.Spec PyProof.Rows L2 TcG
section
variable {P : Program} {w : World} {K : PySem.W.Frag} {mg : Str → Option Value} {base : Heap}

theorem kitF {a b : String} (h : kitB a b = some false := by decide +kernel) : PySem.W.kitOne K (.type a) (.type b) = some false := kit_ty h
theorem kitT {a b : String} (h : kitB a b = some true := by decide +kernel) : PySem.W.kitOne K (.type a) (.type b) = some true := kit_ty h

/-- isinstance(x, T), T a built-in type that is named -/
theorem pe_isi {X : Cx} {T : String} {i : Nat} {x n : Str} {p1 p2 p3 p4 : Pos} (mi : X.mg "isinstance" = none) (gi : Gl X "isinstance") (gT : Gl X n) (mT : X.mg n = none) (bT : bootBuiltins n = some (.type T)) (hv : PE X (.Name x p1) (tVar i))
    (hn : n ≠ "__name__" := by decide) (hd : (n == ("__debug__" : Str)) = false := by decide)
    (he : starEach [.Name x p1, .Name n p2] X.env = (false, eval (.Name x p1) X.env) :: starEach [.Name n p2] X.env := by rfl) (hpl : (backTo p4 (starEach [.Name n p2] X.env)).any (·.1) = false := by rfl)
    (he2 : starEach [.Name n p2] X.env = (false, eval (.Name n p2) X.env) :: starEach [] X.env := by rfl) :
    PE X (.Call (.Name "isinstance" p3) [.Name x p1, .Name n p2] [] p4) (tCB (rIsi X.K) (tCons (tVar i) (tCons (tC (.ty T)) tNil))) :=
  pe_callB call_isi gi mi (by decide +kernel) (pa_cons hv (pa_cons (pe_bltn gT mT bT rfl hn hd) pa_nil)) (by decide) (by decide) he hpl

def sp_same (K : PySem.W.Frag) (n : Nat) : Sp := fun vs H Q _ => ∃ x y : V, vs = [x, y] ∧ SameR K H n x y ∧ Q (.bl true) H
structure SameM (mg : Str → Option Value) : Prop where
  isi : mg "isinstance" = none
  tup : mg "tuple" = none
  bool : mg "bool" = none
  int : mg "int" = none
  str : mg "str" = none
  len : mg "len" = none
  range : mg "range" = none
theorem ok_same {f : Addr} {fd : FuncData} (F : Fun K "_law_same" "_law_same" s_law_same f fd) (gS : mg "_law_same" = some (.ref f)) (M : SameM mg) : ∀ n, FnOk P w K mg base CX0 n f fd ["actual", "expected"] (sp_same K n)
  | 0 => ⟨fun vs H Q E h => by obtain ⟨x, y, _, z, _⟩ := h; exact z.elim, fun A outer s H args us vs Q E hr e0 hb r h => by obtain ⟨x, y, _, z, _⟩ := h; exact z.elim⟩
  | n + 1 => by
    have GS : FnOk P w K mg base CX0 n f fd ["actual", "expected"] (sp_same K n) := ok_same F gS M n
    have bS : Binds K fd ["actual", "expected"] [] := F.binds fun _ _ _ _ _ _ us hl => match us, hl with | [_, _], _ => rfl
    refine F.ok sc_law_same (fun vs H Q E h => ?_) (fun cdv A outer s H vs Q E hr h => ?_)
    · obtain ⟨x, y, rfl, _⟩ := h
      rfl
    · obtain ⟨x, y, rfl, hs, q⟩ := h
      have nd := sc_law_same.nd
      refine ⟨_, pss_cons (ps_if (pt_val (pe_isi (T := "tuple") M.isi (by rfl) (by rfl) M.tup (by decide +kernel) (pv 1)))
          (pss_cons (ps_if (PW.pt (pw_or (pt_not (pt_val (pe_isi (T := "tuple") M.isi (by rfl) (by rfl) M.tup (by decide +kernel) (pv 0))))
              (pw_or1 (pt_cmpR op_ne (pe_callB call_len_seq (by rfl) M.len PySem.boot_len (pa_cons (pv 0) pa_nil)) (pe_callB call_len_seq (by rfl) M.len PySem.boot_len (pa_cons (pv 1) pa_nil)) (nomark _)))))
            (pss_one (ps_ret pe_bl)) pss_nil)
          (pss_cons (ps_for PassesOwn.never rfl (pi_range1 (by rfl) M.range (pa_cons (pe_callB call_len_seq (by rfl) M.len PySem.boot_len (pa_cons (pv 1) pa_nil)) pa_nil)) (pg_name (i := 2) nd rfl (.inl rfl))
            (pss_one (ps_if (pt_not (pt_val (pe_call GS hr (by rfl) gS F.kp bS .nil pass0 (pa_cons (pe_ix ix_tup (pv 0) (pv 2) (fun _ _ => rfl)) (pa_cons (pe_ix ix_tup (pv 1) (pv 2) (fun _ _ => rfl)) pa_nil))))) (pss_one (ps_ret pe_bl)) pss_nil)))
          (pss_one (ps_ret pe_bl)))) pss_nil)
        (pss_cons (ps_if (pt_cmpR op_isN (pv 1) pe_non (nomark _)) (pss_one (ps_ret (pe_cmpR op_isN (pv 0) pe_non (nomark _)))) pss_nil)
        (pss_cons (ps_if (pt_val (pe_isi (T := "bool") M.isi (by rfl) (by rfl) M.bool (by decide +kernel) (pv 1))) (pss_one (ps_ret (pe_and (pe_isi (T := "bool") M.isi (by rfl) (by rfl) M.bool (by decide +kernel) (pv 0)) (pe_one (pe_cmpR op_eq (pv 0) (pv 1) (nomark _)))))) pss_nil)
        (pss_cons (ps_if (pt_val (pe_isi (T := "int") M.isi (by rfl) (by rfl) M.int (by decide +kernel) (pv 1))) (pss_one (ps_ret (pe_and (pe_isi (T := "int") M.isi (by rfl) (by rfl) M.int (by decide +kernel) (pv 0))
            (pe_and (pe_not (pe_isi (T := "bool") M.isi (by rfl) (by rfl) M.bool (by decide +kernel) (pv 0))) (pe_one (pe_cmpR op_eq (pv 0) (pv 1) (nomark _))))))) pss_nil)
        (pss_one (ps_ret (pe_and (pe_isi (T := "str") M.isi (by rfl) (by rfl) M.str (by decide +kernel) (pv 0)) (pe_one (pe_cmpR op_eq (pv 0) (pv 1) (nomark _))))))))), ?_⟩
      rcases hs with ⟨rfl, fl⟩ | ⟨a, b, xs, ys, rfl, rfl, hx, hy, el, small, all⟩
      · cases x with
        | non =>
          exact ⟨.non, rfl, .non, .ty "tuple", .type "NoneType", _, false, rfl, .ty _, .base .non, kitF, false, rfl, iteF ⟨.non, rfl, rfl, true, rfl, iteT ⟨.non, rfl, rfl, q⟩⟩⟩
        | bl b =>
          refine ⟨.bl b, rfl, .bl b, .ty "tuple", .type "bool", _, false, rfl, .ty _, .base (.bl b), kitF, false, rfl, iteF ⟨.bl b, rfl, rfl, false, rfl, iteF ⟨.bl b, rfl, .bl b, .ty "bool", .type "bool", _, true, rfl, .ty _, .base (.bl b), kitT, true, rfl, iteT
            ⟨.bl b, rfl, .bl b, .ty "bool", .type "bool", _, true, rfl, .ty _, .base (.bl b), kitT, true, rfl, iteT ⟨.bl b, rfl, .bl b, rfl, rfl, ?_⟩⟩⟩⟩⟩
          rw [decide_eq_true rfl]
          exact q
        | int i =>
          refine ⟨.int i, rfl, .int i, .ty "tuple", .type "int", _, false, rfl, .ty _, .base (.int i), kitF, false, rfl, iteF ⟨.int i, rfl, rfl, false, rfl, iteF ⟨.int i, rfl, .int i, .ty "bool", .type "int", _, false, rfl, .ty _, .base (.int i), kitF, false, rfl, iteF
            ⟨.int i, rfl, .int i, .ty "int", .type "int", _, true, rfl, .ty _, .base (.int i), kitT, true, rfl, iteT ⟨.int i, rfl, .int i, .ty "int", .type "int", _, true, rfl, .ty _, .base (.int i), kitT, true, rfl, iteT
              ⟨.int i, rfl, .int i, .ty "bool", .type "int", _, false, rfl, .ty _, .base (.int i), kitF, false, rfl, true, rfl, iteT ⟨.int i, rfl, .int i, rfl, rfl, ?_⟩⟩⟩⟩⟩⟩⟩
          rw [decide_eq_true rfl]
          exact q
        | str z =>
          refine ⟨.str z, rfl, .str z, .ty "tuple", .type "str", _, false, rfl, .ty _, .base (.str z), kitF, false, rfl, iteF ⟨.str z, rfl, rfl, false, rfl, iteF ⟨.str z, rfl, .str z, .ty "bool", .type "str", _, false, rfl, .ty _, .base (.str z), kitF, false, rfl, iteF
            ⟨.str z, rfl, .str z, .ty "int", .type "str", _, false, rfl, .ty _, .base (.str z), kitF, false, rfl, iteF ⟨.str z, rfl, .str z, .ty "str", .type "str", _, true, rfl, .ty _, .base (.str z), kitT, true, rfl, iteT ⟨.str z, rfl, .str z, rfl, rfl, ?_⟩⟩⟩⟩⟩⟩
          rw [decide_eq_true rfl]
          exact q
        | _ => cases fl
      · refine ⟨.ref b, rfl, .ref b, .ty "tuple", .type "tuple", _, true, rfl, .ty _, tyx_tup hy, kitT, true, rfl, iteT ?_⟩
        refine ⟨.ref a, rfl, .ref a, .ty "tuple", .type "tuple", _, true, rfl, .ty _, tyx_tup hx, kitT, true, rfl, iteF ?_⟩
        refine ⟨.ref a, rfl, a, xs, rfl, .inr hx, .ref b, rfl, b, ys, rfl, .inr hy, rfl, _, rfl, ?_⟩
        rw [el, decide_eq_true rfl]
        refine iteF ⟨.ref b, rfl, b, ys, rfl, .inr hy, (ys.length : Int), rfl, by omega, by omega, ?_⟩
        refine for_range (lo := 0) (n := ((ys.length : Int)).toNat) (fun i σ H' => ∃ y2, σ = [some (.ref a), some (.ref b), y2] ∧ H' = H) ⟨none, rfl, rfl⟩ (fun i σ H1 hi hW => ?_) (fun σ H1 hW => ?_)
        · obtain ⟨y2, rfl, rfl⟩ := hW
          have hi2 : i < ys.length := by omega
          have hi1 : i < xs.length := by omega
          refine ⟨.ref a, rfl, .int (0 + (i : Int)), rfl, a, xs, 0 + (i : Int), xs[i], rfl, rfl, hx, at_eq (by omega) (List.getElem?_eq_getElem hi1), .ref b, rfl, .int (0 + (i : Int)), rfl, b, ys, 0 + (i : Int), ys[i], rfl, rfl, hy, at_eq (by omega) (List.getElem?_eq_getElem hi2), ?_⟩
          exact ⟨xs[i], ys[i], rfl, all i _ _ (List.getElem?_eq_getElem hi1) (List.getElem?_eq_getElem hi2), true, rfl, iteF ⟨some (.int (0 + (i : Int))), rfl, rfl⟩⟩
        · obtain ⟨y2, rfl, rfl⟩ := hW
          exact q
end
end Tc
/-! _law_apart; AlphabetFault. -/
namespace Tc
open PySem PySem.Spec PyProof.Rows L2 TcG
/-- each letter of the one is independent of each one of the other -/
def apartM (ps : List (List Nat)) (a b : List Nat) : Bool := a.all fun x => b.all fun y => ind ps x y
section
variable {P : Program} {w : World} {K : PySem.W.Frag} {mg : Str → Option Value} {base : Heap}
def sp_apart (K : PySem.W.Frag) : Sp := fun vs H Q _ => ∃ (al : Addr) (a b ls : List Nat) (ps : List (List Nat)), vs = [.ref al, .str (tx a), .str (tx b)] ∧ Alpha K H al ls ps ∧ Pairs ls ps ∧ Q (.bl (apartM ps a b)) H
theorem ok_apart {f fF : Addr} {fd fdF : FuncData} (F : Fun K "_law_apart" "_law_apart" s_law_apart f fd) (FF : Fun K "_law_free" "_law_free" s_law_free fF fdF) (gF : mg "_law_free" = some (.ref fF)) : FnOk P w K mg base CX0 2 f fd ["alphabet", "word", "other"] (sp_apart K) := by
  have GF : FnOk P w K mg base CX0 1 fF fdF ["alphabet", "x", "y"] (sp_free K) := ok_free FF
  have bF : Binds K fdF ["alphabet", "x", "y"] [] := FF.binds fun _ _ _ _ _ _ us hl => match us, hl with | [_, _, _], _ => rfl
  refine F.ok sc_law_apart (fun vs H Q E h => ?_) (fun cdv A outer s H vs Q E hr h => ?_)
  · obtain ⟨al, a, b, ls, ps, rfl, _⟩ := h
    rfl
  · obtain ⟨al, a, b, ls, ps, rfl, hA, pr, q⟩ := h
    have nd := sc_law_apart.nd
    refine ⟨_, pss_cons (ps_for PassesOwn.never rfl (pi_str (pv 1)) (pg_name (i := 3) nd rfl (.inl rfl))
        (pss_one (ps_for PassesOwn.never rfl (pi_str (pv 2)) (pg_name (i := 4) nd rfl (.inl rfl))
          (pss_one (ps_if (pt_not (pt_val (pe_call GF hr (by rfl) gF FF.kp bF .nil pass0 (pa_cons (pv 0) (pa_cons (pv 3) (pa_cons (pv 4) pa_nil)))))) (pss_one (ps_ret pe_bl)) pss_nil)))))
      (pss_one (ps_ret pe_bl)), ?_⟩
    refine ⟨.str (tx a), rfl, tx a, rfl, for_text (fun i σ H' => ∃ y3 y4, σ = [some (.ref al), some (.str (tx a)), some (.str (tx b)), y3, y4] ∧ H' = H ∧ ∀ x ∈ a.take i, ∀ y ∈ b, ind ps x y = true)
      ⟨none, none, rfl, rfl, fun x hx => by simp at hx⟩ (fun i x σ H1 hx hW => ?_) (fun σ H1 hW => ?_)⟩
    · obtain ⟨y3, y4, rfl, rfl, before⟩ := hW
      refine ⟨.str (tx b), rfl, tx b, rfl, for_text (fun j σ H' => ∃ y4, σ = [some (.ref al), some (.str (tx a)), some (.str (tx b)), some (.str (tx [x])), y4] ∧ H' = H1 ∧ ∀ y ∈ b.take j, ind ps x y = true)
        ⟨y4, rfl, rfl, fun y hy => by simp at hy⟩ (fun j y σ H2 hy hV => ?_) (fun σ H2 hV => ?_)⟩
      · obtain ⟨y4, rfl, rfl, before2⟩ := hV
        refine ⟨.ref al, rfl, .str (tx [x]), rfl, .str (tx [y]), rfl, al, x, y, ls, ps, rfl, hA, pr, _, rfl, ?_⟩
        cases fr : ind ps x y with
        | true =>
          refine iteF ⟨_, rfl, rfl, fun z hz => ?_⟩
          rw [take_next hy] at hz
          rcases List.mem_append.mp hz with hz | hz
          · exact before2 z hz
          · rw [List.mem_singleton.mp hz]
            exact fr
        | false =>
          have e : apartM ps a b = false := by
            cases e : apartM ps a b with
            | false => rfl
            | true =>
              have := List.all_eq_true.mp (List.all_eq_true.mp e x (List.mem_of_getElem? hx)) y (List.mem_of_getElem? hy)
              rw [fr] at this
              cases this
          rw [e] at q
          exact iteT q
      · obtain ⟨y4, rfl, rfl, before2⟩ := hV
        rw [List.take_length] at before2
        refine ⟨_, _, rfl, rfl, fun z hz => ?_⟩
        rw [take_next hx] at hz
        rcases List.mem_append.mp hz with hz | hz
        · exact before z hz
        · rw [List.mem_singleton.mp hz]
          exact before2
    · obtain ⟨y3, y4, rfl, rfl, before⟩ := hW
      rw [List.take_length] at before
      have e : apartM ps a b = true := List.all_eq_true.mpr fun x hx => List.all_eq_true.mpr fun y hy => before x hx y hy
      rw [e] at q
      exact q

theorem str_app (a b : Str) : (a ++ b).length = a.length + b.length := by
  rw [tx_of a, tx_of b, tx_append, tx_length, tx_length, tx_length, List.length_append]
/-! AlphabetFault(reason) -/
def faultF (cc c : Addr) : NdefX.NF := ⟨"__init__", "AlphabetFault.__init__", defArgs s_AlphabetFault_init, defBody s_AlphabetFault_init, defScope s_AlphabetFault_init, [("__class__", cc)], c⟩
theorem nsc_fault : NdefX.NScope ["self", "reason", "__class__"] ["self", "reason"] ["__class__"] (defScope s_AlphabetFault_init) := NdefX.nscope_by (by decide +kernel)
def sp_fault (D : Addr) : Sp := fun vs H Q _ => ∃ (a : Addr) (z : Str), vs = [.ref a, .str z] ∧ z.length ≤ 100 ∧ H a = some (exo a D none) ∧ ∀ d, H d = none → d ≠ a → Q .non (upd (upd H d (exd d [("reason", .str z)])) a (exo a D (some d)))
theorem ok_fault {D f cc c : Addr} {oc kV doc pm ct : Value} {od an : Option Addr} {osl : Array (Option Value)} (lk : K.lookup f = some ⟨oc, od, .func (PySem.W.fnX "__init__" "AlphabetFault.__init__" (defArgs s_AlphabetFault_init) (defBody s_AlphabetFault_init) (defScope s_AlphabetFault_init) [("__class__", cc)] .none kV doc pm an (.ref c) ct), osl⟩)
    (C : InitC P K mg D (faultF cc c) cc) (nn : PySem.W.findIn K (.ref D) "reason" = some none) :
    FnOk P w K mg base CX0 1 f (PySem.W.fnX "__init__" "AlphabetFault.__init__" (defArgs s_AlphabetFault_init) (defBody s_AlphabetFault_init) (defScope s_AlphabetFault_init) [("__class__", cc)] .none kV doc pm an (.ref c) ct) ["self", "reason"] (sp_fault D) := by
  refine fn_super (F := faultF cc c) (cc := cc) (k := 0) (N := ["self", "reason", "__class__"]) (self := "self") (ps := ["reason"]) (pl := fun _ => pure false) lk C nsc_fault rfl rfl rfl rfl (fun vs H Q E h => ?_) (fun _ => rfl) (fun _ => rfl) (fun _ => rfl) (fun _ h => ?_) (fun A outer s H vs Q E hr h => ?_)
  · obtain ⟨a, z, rfl, _⟩ := h
    rfl
  · unfold interactive
    rw [h]
    rfl
  · obtain ⟨a, z, rfl, few, ha, q⟩ := h
    refine ⟨a, _, _, pe_joined (PJ.cons pe_str (PJ.cons (pe_fmt (pv 1)) (PJ.cons pe_str PJ.nil))), pss_one (ps_ost (pv 0) (pv 1)), rfl, ?_, ha⟩
    refine ⟨"wrong ", rfl, by decide, .str z, rfl, .inl ⟨z, rfl, Nat.le_trans few (by decide), _, rfl, ?_, " in an alphabet", rfl, ?_, ha, ?_⟩⟩
    · rw [str_app, str_app]
      exact Nat.le_trans (Nat.add_le_add (show (Str.empty ++ Str.ofString "wrong ").length ≤ 100 by decide) few) (by decide)
    · rw [str_app, str_app, str_app]
      exact Nat.le_trans (Nat.add_le_add (Nat.add_le_add (show (Str.empty).length + (Str.ofString "wrong ").length ≤ 100 by decide) few) (show (Str.ofString " in an alphabet").length ≤ 100 by decide)) (by decide)
    · exact ⟨.str z, rfl, .ref a, rfl, a, D, rfl, C.oex, nn, .inl ⟨ha, fun dx nd ne => q dx nd ne⟩⟩
end
end Tc
/-! _law_alphabet_fault. -/
namespace Tc
open PySem PySem.Spec PyProof.Rows L2 TcG
def abc : List Nat := [97, 98, 99, 100, 101, 102]
def badL (ls : List Nat) (k : Nat) : Bool := match ls[k]? with
  | some c => !decide (c ∈ abc) || (decide (0 < k) && (match ls[k - 1]? with | some d => !decide (d < c) | none => false))
  | none => false
def notPair (ls p : List Nat) : Bool := match p with
  | [x, y] => !decide (x ∈ ls) || (!decide (y ∈ ls) || !decide (x < y))
  | _ => true
def badP (ls : List Nat) (ps : List (List Nat)) (k : Nat) : Bool := match ps[k]? with
  | some p => notPair ls p || (decide (0 < k) && (match ps[k - 1]? with | some d => !decide (d < p) | none => false))
  | none => false
def faultM (ls : List Nat) (ps : List (List Nat)) : Option Str :=
  if (List.range ls.length).any (badL ls) = true then some (Str.ofString "letters") else if ls = [] then some (Str.ofString "letters") else if (List.range ps.length).any (badP ls ps) = true then some (Str.ofString "pairs") else none
def faultV : Option Str → V
  | none => .non
  | some z => .str z
theorem notPair_len {ls p : List Nat} (h : p.length ≠ 2) : notPair ls p = true := by
  match p, h with
  | [], _ => rfl
  | [_], _ => rfl
  | [_, _], h => exact absurd rfl h
  | _ :: _ :: _ :: _, _ => rfl
theorem any_at {n k : Nat} {f : Nat → Bool} (h : k < n) (e : f k = true) : (List.range n).any f = true := List.any_eq_true.mpr ⟨k, List.mem_range.mpr h, e⟩
theorem any_no {n : Nat} {f : Nat → Bool} (h : ∀ k, k < n → f k = false) : (List.range n).any f = false := by
  rw [Bool.eq_false_iff]
  intro z
  obtain ⟨k, hk, e⟩ := List.any_eq_true.mp z
  rw [h k (List.mem_range.mp hk)] at e
  cases e
section
variable {P : Program} {w : World} {K : PySem.W.Frag} {mg : Str → Option Value} {base : Heap}
def sp_afault (K : PySem.W.Frag) : Sp := fun vs H Q _ => ∃ (al : Addr) (ls : List Nat) (ps : List (List Nat)), vs = [.ref al] ∧ Alpha K H al ls ps ∧ ls.length ≤ 100 ∧ ps.length ≤ 1000 ∧ (∀ p ∈ ps, p.length ≤ 100) ∧ Q (faultV (faultM ls ps)) H
theorem ok_afault {f : Addr} {fd : FuncData} {k : Nat} (F : Fun K "_law_alphabet_fault" "_law_alphabet_fault" s_law_alphabet_fault f fd) (ml : mg "len" = none) (mr : mg "range" = none) : FnOk P w K mg base CX0 (k + 1) f fd ["alphabet"] (sp_afault K) := by
  refine F.ok sc_law_alphabet_fault (fun vs H Q E h => ?_) (fun cdv A outer s H vs Q E hr h => ?_)
  · obtain ⟨al, ls, ps, rfl, _⟩ := h
    rfl
  · obtain ⟨al, ls, ps, rfl, ⟨pt, h1, h2⟩, ll, lp, short, q⟩ := h
    have nd := sc_law_alphabet_fault.nd
    refine ⟨_, pss_cons (ps_set (i := 1) nd rfl (.inl rfl) (pe_ix ix_tup (pv 0) pe_int (fun _ _ => rfl)))
      (pss_cons (ps_for PassesOwn.never rfl (pi_range1 (by rfl) mr (pa_cons (pe_callB call_len_str (by rfl) ml PySem.boot_len (pa_cons (pv 1) pa_nil)) pa_nil)) (pg_name (i := 2) nd rfl (.inl rfl))
        (pss_one (ps_if (PW.pt (pw_or (pt_cmpR op_notIn_sign (pe_ix ix_str (pv 1) (pv 2) (fun _ _ => rfl)) pe_str (by rfl))
            (pw_or1 (PW.pt (pw_and (pt_cmpR op_gt (pv 2) pe_int (nomark _)) (pw_and1 (pt_cmpR op_le_str (pe_ix ix_str (pv 1) (pv 2) (fun _ _ => rfl)) (pe_ix ix_str (pv 1) (pe_op op_sub (pv 2) pe_int) (fun _ _ => rfl)) (nomark _))))))))
          (pss_one (ps_ret pe_str)) pss_nil)))
      (pss_cons (ps_if (pt_cmpR op_eq (pe_callB call_len_str (by rfl) ml PySem.boot_len (pa_cons (pv 1) pa_nil)) pe_int (nomark _)) (pss_one (ps_ret pe_str)) pss_nil)
      (pss_cons (ps_for PassesOwn.never rfl (pi_range1 (by rfl) mr (pa_cons (pe_callB call_len_seq (by rfl) ml PySem.boot_len (pa_cons (pe_ix ix_tup (pv 0) pe_int (fun _ _ => rfl)) pa_nil)) pa_nil)) (pg_name (i := 2) nd rfl (.inl rfl))
        (pss_cons (ps_set (i := 3) nd rfl (.inl rfl) (pe_ix ix_tup (pe_ix ix_tup (pv 0) pe_int (fun _ _ => rfl)) (pv 2) (fun _ _ => rfl)))
        (pss_cons (ps_if (PW.pt (pw_or (pt_cmpR op_ne (pe_callB call_len_str (by rfl) ml PySem.boot_len (pa_cons (pv 3) pa_nil)) pe_int (nomark _))
            (pw_or (pt_cmpR op_notIn_sign (pe_ix ix_str (pv 3) pe_int (fun _ _ => rfl)) (pv 1) (by rfl))
            (pw_or (pt_cmpR op_notIn_sign (pe_ix ix_str (pv 3) pe_int (fun _ _ => rfl)) (pv 1) (by rfl))
            (pw_or1 (pt_cmpR op_ge_str (pe_ix ix_str (pv 3) pe_int (fun _ _ => rfl)) (pe_ix ix_str (pv 3) pe_int (fun _ _ => rfl)) (nomark _)))))))
          (pss_one (ps_ret pe_str)) pss_nil)
        (pss_one (ps_if (PW.pt (pw_and (pt_cmpR op_gt (pv 2) pe_int (nomark _)) (pw_and1 (pt_cmpR op_le_str (pv 3) (pe_ix ix_tup (pe_ix ix_tup (pv 0) pe_int (fun _ _ => rfl)) (pe_op op_sub (pv 2) pe_int) (fun _ _ => rfl)) (nomark _)))))
          (pss_one (ps_ret pe_str)) pss_nil)))))
      (pss_one (ps_ret pe_non))))), ?_⟩
    have zl : (tx ls).length ≤ sizeLine := by
      rw [tx_length]
      exact small_line (by omega)
    have lenl : (tx ls).length = ls.length := tx_length ls
    have sign : ∀ (l : List Nat) (c : Nat), (c ∈ (tx l).cps.toList) = (c ∈ l) := fun l c => rfl
    refine ⟨.ref al, rfl, al, _, 1, .str (tx ls), rfl, rfl, h1, atI_nat (j := 1) rfl, ?_⟩
    refine ⟨.str (tx ls), rfl, tx ls, rfl, zl, ((tx ls).length : Int), rfl, by omega, by omega, ?_⟩
    have en : (((tx ls).length : Int)).toNat = ls.length := by omega
    rw [en]
    refine for_range (lo := 0) (n := ls.length) (fun i σ H' => ∃ y2 y3, σ = [some (.ref al), some (.str (tx ls)), y2, y3] ∧ H' = H ∧ ∀ k, k < i → badL ls k = false)
      ⟨none, none, rfl, rfl, fun k hk => absurd hk (Nat.not_lt_zero k)⟩ (fun i σ H1 hi hW => ?_) (fun σ H1 hW => ?_)
    · obtain ⟨y2, y3, rfl, rfl, before⟩ := hW
      have hc : ls[i]? = some ls[i] := List.getElem?_eq_getElem hi
      have stop : badL ls i = true → Q (.str "letters") H1 := fun e => by
        have : faultM ls ps = some (Str.ofString "letters") := by
          unfold faultM
          rw [if_pos (any_at hi e)]
        rw [this] at q
        exact q
      have go : badL ls i = false → ∃ y2' y3', [some (V.ref al), some (.str (tx ls)), some (.int (0 + (i : Int))), y3] = [some (.ref al), some (.str (tx ls)), y2', y3'] ∧ H1 = H1 ∧ ∀ k, k < i + 1 → badL ls k = false := fun e =>
        ⟨_, _, rfl, rfl, fun k hk => by
          rcases Nat.lt_succ_iff_lt_or_eq.mp hk with z | z
          · exact before k z
          · rw [z]
            exact e⟩
      have ev : badL ls i = (!decide (ls[i] ∈ abc) || (decide (0 < i) && (match ls[i - 1]? with | some d => !decide (d < ls[i]) | none => false))) := by
        unfold badL
        rw [hc]
      refine ⟨.str (tx ls), rfl, .int (0 + (i : Int)), rfl, tx ls, 0 + (i : Int), ls[i], rfl, rfl, zl, at_eq (by omega) hc, ls[i], "abcdef", rfl, rfl, _, rfl, ?_⟩
      have e0 : decide (ls[i] ∈ ("abcdef" : Str).cps.toList) = decide (ls[i] ∈ abc) := rfl
      rw [e0]
      by_cases inA : ls[i] ∈ abc
      · rw [decide_eq_true inA] at ev ⊢
        refine iteF ⟨.int (0 + (i : Int)), rfl, _, _, rfl, rfl, _, rfl, ?_⟩
        by_cases pos : 0 < i
        · have hd : ls[i - 1]? = some ls[i - 1] := List.getElem?_eq_getElem (by omega)
          rw [decide_eq_true pos, hd] at ev
          rw [decide_eq_true (show (0 : Int) < 0 + (i : Int) by omega)]
          refine iteT ⟨.str (tx ls), rfl, .int (0 + (i : Int)), rfl, tx ls, 0 + (i : Int), ls[i], rfl, rfl, zl, at_eq (by omega) hc, .str (tx ls), rfl, .int (0 + (i : Int)), rfl, 0 + (i : Int), 1, rfl, rfl, tx ls, 0 + (i : Int) - 1, ls[i - 1], rfl, rfl, zl, at_eq (by omega) hd, _, _, rfl, rfl, _, rfl, ?_⟩
          have e2 : (!decide ((tx [ls[i - 1]]).cps.toList < (tx [ls[i]]).cps.toList)) = badL ls i := by
            rw [tx_lt, ev]
            rfl
          show if (!decide ((tx [ls[i - 1]]).cps.toList < (tx [ls[i]]).cps.toList)) = true then _ else _
          rw [e2]
          cases e3 : badL ls i with
          | true => exact iteT (stop e3)
          | false => exact iteF (go e3)
        · rw [decide_eq_false pos] at ev
          rw [decide_eq_false (show ¬ (0 : Int) < 0 + (i : Int) by omega)]
          exact iteF (iteF (go ev))
      · rw [decide_eq_false inA] at ev ⊢
        exact iteT (stop ev)
    · obtain ⟨y2, y3, rfl, rfl, before⟩ := hW
      have noL := any_no before
      refine ⟨.str (tx ls), rfl, tx ls, rfl, zl, rfl, _, rfl, ?_⟩
      by_cases em : ls = []
      · have e : decide (V.int ((tx ls).length : Int) = V.int 0) = true := decide_eq_true (by rw [em]; rfl)
        rw [e]
        have : faultM ls ps = some (Str.ofString "letters") := by
          unfold faultM
          rw [if_neg (by rw [noL]; exact Bool.false_ne_true), if_pos em]
        rw [this] at q
        exact iteT q
      have e : decide (V.int ((tx ls).length : Int) = V.int 0) = false := decide_eq_false fun z => em (List.eq_nil_of_length_eq_zero (by have := V.int.inj z; omega))
      rw [e]
      have lenP : (txs ps).length = ps.length := List.length_map _
      refine iteF ⟨.ref al, rfl, al, _, 2, .ref pt, rfl, rfl, h1, atI_nat (j := 2) rfl, pt, _, rfl, .inr h2, ((txs ps).length : Int), rfl, by omega, by omega, ?_⟩
      have enP : (((txs ps).length : Int)).toNat = ps.length := by omega
      rw [enP]
      have fm : faultM ls ps = if (List.range ps.length).any (badP ls ps) = true then some (Str.ofString "pairs") else none := by
        unfold faultM
        rw [if_neg (by rw [noL]; exact Bool.false_ne_true), if_neg em]
      refine for_range (lo := 0) (n := ps.length) (fun i σ H' => ∃ y2 y3, σ = [some (.ref al), some (.str (tx ls)), y2, y3] ∧ H' = H1 ∧ ∀ k, k < i → badP ls ps k = false)
        ⟨y2, y3, rfl, rfl, fun k hk => absurd hk (Nat.not_lt_zero k)⟩ (fun i σ H2 hi hV => ?_) (fun σ H2 hV => ?_)
      · obtain ⟨y2, y3, rfl, rfl, before2⟩ := hV
        have hp : ps[i]? = some ps[i] := List.getElem?_eq_getElem hi
        have hpV : (txs ps)[i]? = some (.str (tx ps[i])) := by
          unfold txs
          rw [List.getElem?_map, hp]
          rfl
        have stop : badP ls ps i = true → Q (.str "pairs") H2 := fun e => by
          rw [fm, if_pos (any_at hi e)] at q
          exact q
        have go : badP ls ps i = false → ∃ y2' y3', [some (V.ref al), some (.str (tx ls)), some (.int (0 + (i : Int))), some (.str (tx ps[i]))] = [some (.ref al), some (.str (tx ls)), y2', y3'] ∧ H2 = H2 ∧ ∀ k, k < i + 1 → badP ls ps k = false := fun e =>
          ⟨_, _, rfl, rfl, fun k hk => by
            rcases Nat.lt_succ_iff_lt_or_eq.mp hk with z | z
            · exact before2 k z
            · rw [z]
              exact e⟩
        have ev : badP ls ps i = (notPair ls ps[i] || (decide (0 < i) && (match ps[i - 1]? with | some d => !decide (d < ps[i]) | none => false))) := by
          unfold badP
          rw [hp]
        have sh : ps[i].length ≤ 100 := short _ (List.getElem_mem hi)
        generalize ps[i] = p at hp hpV stop go ev sh
        have zp : (tx p).length ≤ sizeLine := by
          rw [tx_length]
          exact small_line (by omega)
        refine ⟨.ref al, rfl, al, _, 2, .ref pt, rfl, rfl, h1, atI_nat (j := 2) rfl, .int (0 + (i : Int)), rfl, pt, _, 0 + (i : Int), .str (tx p), rfl, rfl, h2, at_eq (by omega) hpV, ?_⟩
        refine ⟨.str (tx p), rfl, tx p, rfl, zp, rfl, _, rfl, ?_⟩
        rw [tx_length]
        by_cases two : p.length = 2
        case neg =>
          rw [decide_eq_false (show ¬ V.int (p.length : Int) = V.int 2 from fun z => two (by have := V.int.inj z; omega))]
          exact iteT (stop (by rw [ev, notPair_len two]; rfl))
        rw [decide_eq_true (show V.int (p.length : Int) = V.int 2 by rw [two]; rfl)]
        obtain ⟨x, y, rfl⟩ : ∃ x y, p = [x, y] := match p, two with | [x, y], _ => ⟨x, y, rfl⟩
        have evN : notPair ls [x, y] = (!decide (x ∈ ls) || (!decide (y ∈ ls) || !decide (x < y))) := rfl
        refine iteF ⟨.str (tx [x, y]), rfl, tx [x, y], 0, x, rfl, rfl, zp, atI_nat (j := 0) rfl, .str (tx ls), rfl, x, tx ls, rfl, rfl, _, rfl, ?_⟩
        show if (!decide (x ∈ ls)) = true then _ else _
        by_cases hx : x ∈ ls
        case neg =>
          rw [decide_eq_false hx] at evN ⊢
          exact iteT (stop (by rw [ev, evN]; rfl))
        rw [decide_eq_true hx] at evN ⊢
        refine iteF ⟨.str (tx [x, y]), rfl, tx [x, y], 1, y, rfl, rfl, zp, atI_nat (j := 1) rfl, .str (tx ls), rfl, y, tx ls, rfl, rfl, _, rfl, ?_⟩
        show if (!decide (y ∈ ls)) = true then _ else _
        by_cases hy : y ∈ ls
        case neg =>
          rw [decide_eq_false hy] at evN ⊢
          exact iteT (stop (by rw [ev, evN]; rfl))
        rw [decide_eq_true hy] at evN ⊢
        refine iteF ⟨.str (tx [x, y]), rfl, tx [x, y], 0, x, rfl, rfl, zp, atI_nat (j := 0) rfl, .str (tx [x, y]), rfl, tx [x, y], 1, y, rfl, rfl, zp, atI_nat (j := 1) rfl, tx [x], tx [y], rfl, rfl, _, rfl, ?_⟩
        rw [tx_lt]
        by_cases lt : x < y
        case neg =>
          rw [decide_eq_false lt] at evN ⊢
          exact iteT (stop (by rw [ev, evN]; rfl))
        rw [decide_eq_true lt] at evN ⊢
        rw [evN] at ev
        have ev : badP ls ps i = (decide (0 < i) && (match ps[i - 1]? with | some d => !decide (d < [x, y]) | none => false)) := ev
        refine iteF ⟨.int (0 + (i : Int)), rfl, _, _, rfl, rfl, _, rfl, ?_⟩
        by_cases pos : 0 < i
        · have hd : ps[i - 1]? = some ps[i - 1] := List.getElem?_eq_getElem (by omega)
          have hdV : (txs ps)[i - 1]? = some (.str (tx ps[i - 1])) := by
            unfold txs
            rw [List.getElem?_map, hd]
            rfl
          rw [decide_eq_true pos, hd] at ev
          rw [decide_eq_true (show (0 : Int) < 0 + (i : Int) by omega)]
          refine iteT ⟨.str (tx [x, y]), rfl, .ref al, rfl, al, _, 2, .ref pt, rfl, rfl, h1, atI_nat (j := 2) rfl, .int (0 + (i : Int)), rfl, 0 + (i : Int), 1, rfl, rfl, pt, _, 0 + (i : Int) - 1, .str (tx ps[i - 1]), rfl, rfl, h2, at_eq (by omega) hdV, tx [x, y], tx ps[i - 1], rfl, rfl, _, rfl, ?_⟩
          show if (!decide (ps[i - 1] < [x, y])) = true then _ else _
          have e2 : (!decide (ps[i - 1] < [x, y])) = badP ls ps i := by
            rw [ev]
            rfl
          rw [e2]
          cases e3 : badP ls ps i with
          | true => exact iteT (stop e3)
          | false => exact iteF (go e3)
        · rw [decide_eq_false pos] at ev
          rw [decide_eq_false (show ¬ (0 : Int) < 0 + (i : Int) by omega)]
          exact iteF (iteF (go ev))
      · obtain ⟨y2, y3, rfl, rfl, before2⟩ := hV
        have noP := any_no before2
        rw [fm, if_neg (by rw [noP]; exact Bool.false_ne_true)] at q
        exact q
end
end Tc
/-! _law_spoilt_alphabet. -/
namespace Tc
open PySem PySem.Spec PyProof.Rows L2 TcG
section
variable {P : Program} {w : World} {K : PySem.W.Frag} {mg : Str → Option Value} {base : Heap}
def sp_spoilt (K : PySem.W.Frag) (n m : Nat) : Sp := fun vs H Q _ => ∃ (b dl al : Addr) (ls : List Nat) (ps : List (List Nat)), vs = [.ref b, .ref al] ∧ Box K b dl H ∧ Alpha K H al ls ps ∧ ls.length ≤ n ∧ ps.length ≤ m ∧ (∀ p ∈ ps, p.length ≤ 3) ∧ n ≤ 50 ∧ m ≤ 500 ∧
  ∀ (al' : Addr) (ls' : List Nat) (ps' : List (List Nat)) (H' : Hp), Mv [b] H H' → Box K b dl H' → Alpha K H' al' ls' ps' → ls'.length ≤ n + n + 1 → ps'.length ≤ m + 1 → (∀ p ∈ ps', p.length ≤ 3) → Q (.ref al') H'
theorem ok_spoilt {f fD : Addr} {fd fdD : FuncData} (F : Fun K "_law_spoilt_alphabet" "_law_spoilt_alphabet" s_law_spoilt_alphabet f fd) (FD : Fun K "_law_draw" "_law_draw" s_law_draw fD fdD) (gD : mg "_law_draw" = some (.ref fD))
    (ml : mg "len" = none) (mi : mg "int" = none) (n m : Nat) : FnOk P w K mg base CX0 2 f fd ["box", "alphabet"] (sp_spoilt K n m) := by
  have GD : FnOk P w K mg base CX0 1 fD fdD ["box", "many"] (sp_draw K) := ok_draw FD ml mi
  have bD : Binds K fdD ["box", "many"] [] := FD.binds fun _ _ _ _ _ _ us hl => match us, hl with | [_, _], _ => rfl
  refine F.ok sc_law_spoilt_alphabet (fun vs H Q E h => ?_) (fun cdv A outer s H vs Q E hr h => ?_)
  · obtain ⟨b, dl, al, ls, ps, rfl, _⟩ := h
    rfl
  · obtain ⟨b, dl, al, ls, ps, rfl, hB, ⟨pt, h1, h2⟩, ll, lp, short, nn, mm, q⟩ := h
    have nd := sc_law_spoilt_alphabet.nd
    refine ⟨_, pss_cons (ps_set (i := 2) nd rfl (.inl rfl) (pe_ix ix_tup (pv 1) pe_int (fun _ _ => rfl)))
      (pss_cons (ps_set (i := 3) nd rfl (.inl rfl) (pe_ix ix_tup (pv 1) pe_int (fun _ _ => rfl)))
      (pss_cons (ps_set (i := 4) nd rfl (.inl rfl) (pe_call GD hr (by rfl) gD FD.kp bD .nil pass0 (pa_cons (pv 0) (pa_cons pe_int pa_nil))))
      (C8.pss_cut (ps_if (pt_cmpR op_eq (pv 4) pe_int (nomark _))
          (pss_one (ps_set (i := 3) nd rfl (.inl rfl) (pe_op op_catA (pe_tup (pa_cons (pe_op op_add_str (pe_slice sl_str (pv 2) po_none (po_some pe_int)) (pe_slice sl_str (pv 2) po_none (po_some pe_int))) pa_nil)) (pv 3))))
        (pss_one (ps_if (pt_cmpR op_eq (pv 4) pe_int (nomark _))
          (pss_one (ps_set (i := 3) nd rfl (.inl rfl) (pe_op op_catA (pv 3) (pe_tup (pa_cons (pe_slice sl_str (pv 2) po_none (po_some pe_int)) pa_nil)))))
        (pss_one (ps_if (pt_cmpR op_eq (pv 4) pe_int (nomark _))
          (pss_one (ps_set (i := 2) nd rfl (.inl rfl) (pe_revS (pv 2))))
        (pss_one (ps_if (pt_cmpR op_eq (pv 4) pe_int (nomark _))
          (pss_one (ps_set (i := 2) nd rfl (.inl rfl) (pe_op op_add_str (pv 2) (pe_slice sl_str (pv 2) po_none (po_some pe_int)))))
        (pss_one (ps_if (pt_cmpR op_eq (pv 4) pe_int (nomark _))
          (pss_one (ps_set (i := 2) nd rfl (.inl rfl) (pe_op op_add_str (pv 2) pe_str)))
        (pss_one (ps_if (pt_cmpR op_eq (pv 4) pe_int (nomark _))
          (pss_one (ps_set (i := 2) nd rfl (.inl rfl) pe_str))
        (pss_one (ps_if (pt_cmpR op_eq (pv 4) pe_int (nomark _))
          (pss_one (ps_set (i := 3) nd rfl (.inl rfl) (pe_op op_catA (pv 3) (pe_tup (pa_cons (pe_slice sl_str (pv 2) po_none (po_some pe_int)) pa_nil)))))
        (pss_one (ps_if (pt_cmpR op_eq (pv 4) pe_int (nomark _))
          (pss_one (ps_set (i := 3) nd rfl (.inl rfl) (pe_revT (pv 3))))
        (pss_one (ps_if (pt_cmpR op_eq (pv 4) pe_int (nomark _))
          (pss_one (ps_set (i := 3) nd rfl (.inl rfl) (pe_op op_catA (pv 3) (pe_tup (pa_cons pe_str pa_nil)))))
        (pss_one (ps_if (PW.pt (pw_and (pt_cmpR op_eq (pv 4) pe_int (nomark _)) (pw_and1 (pt_cmpR op_gt (pe_callB call_len_seq (by rfl) ml PySem.boot_len (pa_cons (pv 3) pa_nil)) pe_int (nomark _)))))
 (pss_one (ps_set (i := 3) nd rfl (.inl rfl) (pe_op op_catA (pe_tup (pa_cons (pe_revS (pe_ix ix_tup (pv 3) pe_int (fun _ _ => rfl))) pa_nil)) (pe_slice sl_tupA (pv 3) (po_some pe_int) po_none))))
 (pss_one (ps_set (i := 3) nd rfl (.inl rfl) (pe_op op_catA (pv 3) (pe_slice sl_tupA (pv 3) po_none (po_some pe_int))))))))))))))))))))))))
      (pss_one (ps_ret (pe_tup (pa_cons pe_str (pa_cons (pv 2) (pa_cons (pv 3) pa_nil))))))))), ?_⟩
    have zl : (tx ls).length ≤ sizeLine := by
      rw [tx_length]
      exact small_line (by omega)
    refine ⟨.ref al, rfl, al, _, 1, .str (tx ls), rfl, rfl, h1, atI_nat (j := 1) rfl, .ref al, rfl, al, _, 2, .ref pt, rfl, rfl, h1, atI_nat (j := 2) rfl, ?_⟩
    refine ⟨.ref b, rfl, b, dl, 11, rfl, hB, by decide, fun r H1 r0 r11 mv1 hB1 => ?_⟩
    have hP1 := hB.seqT mv1 h2
    have c1 : cutS (tx ls) none (some 1) = tx (ls.take 1) := cut_to ls 1
    have c3 : cutS (tx ls) none (some 3) = tx (ls.take 3) := cut_to ls 3
    have t1 : (ls.take 1).length ≤ 1 := by
      rw [List.length_take]
      omega
    have t3 : (ls.take 3).length ≤ 3 := by
      rw [List.length_take]
      omega
    have lenV : (txs ps).length = ps.length := List.length_map _
    refine ⟨fun σ' H' => ∃ (ls' : List Nat) (pt' : Addr) (ps' : List (List Nat)), σ' = [some (.ref b), some (.ref al), some (.str (tx ls')), some (.ref pt'), some (.int r)] ∧ Mv [b] H H' ∧ Box K b dl H' ∧ SqT K H' pt' (txs ps') ∧ ls'.length ≤ n + n + 1 ∧ ps'.length ≤ m + 1 ∧ ∀ p ∈ ps', p.length ≤ 3, ?_, ?_⟩
    · have keep : ∀ (ls' : List Nat), ls'.length ≤ n + n + 1 → ∃ (ls2 : List Nat) (pt' : Addr) (ps' : List (List Nat)), [some (V.ref b), some (.ref al), some (.str (tx ls')), some (.ref pt), some (.int r)] = [some (.ref b), some (.ref al), some (.str (tx ls2)), some (.ref pt'), some (.int r)] ∧ Mv [b] H H1 ∧ Box K b dl H1 ∧ SqT K H1 pt' (txs ps') ∧ ls2.length ≤ n + n + 1 ∧ ps'.length ≤ m + 1 ∧ ∀ p ∈ ps', p.length ≤ 3 :=
        fun ls' h => ⟨ls', pt, ps, rfl, mv1, hB1, hP1, h, by omega, short⟩
      have done : ∀ (pt' : Addr) (ps' : List (List Nat)) (H' : Hp), Same H1 H' → SqT K H' pt' (txs ps') → ps'.length ≤ m + 1 → (∀ p ∈ ps', p.length ≤ 3) → ∃ (ls2 : List Nat) (pt2 : Addr) (ps2 : List (List Nat)), [some (V.ref b), some (.ref al), some (.str (tx ls)), some (.ref pt'), some (.int r)] = [some (.ref b), some (.ref al), some (.str (tx ls2)), some (.ref pt2), some (.int r)] ∧ Mv [b] H H' ∧ Box K b dl H' ∧ SqT K H' pt2 (txs ps2) ∧ ls2.length ≤ n + n + 1 ∧ ps2.length ≤ m + 1 ∧ ∀ p ∈ ps2, p.length ≤ 3 :=
        fun pt' ps' H' sm h l3 sh => ⟨ls, pt', ps', rfl, mv1.trans (.of_same sm), hB1.same sm, h, by omega, l3, sh⟩
      have add : ∀ (z : List Nat), z.length ≤ 3 → ∀ p, H1 p = none → rCatA K (.ref pt) (.ref p) (upd H1 p (.tup [.str (tx z)])) (fun v H' => ∃ (ls2 : List Nat) (pt2 : Addr) (ps2 : List (List Nat)), [some (V.ref b), some (.ref al), some (.str (tx ls)), some v, some (.int r)] = [some (.ref b), some (.ref al), some (.str (tx ls2)), some (.ref pt2), some (.int r)] ∧ Mv [b] H H' ∧ Box K b dl H' ∧ SqT K H' pt2 (txs ps2) ∧ ls2.length ≤ n + n + 1 ∧ ps2.length ≤ m + 1 ∧ ∀ p ∈ ps2, p.length ≤ 3) := fun z hz p np => by
        refine cat_anyT (Same.seqT (same_new np) hP1) (SqT.of upd_same) (by rw [lenV]; exact small_line (by simp; omega)) fun p' H' sm hp' => ?_
        have e : txs ps ++ [V.str (tx z)] = txs (ps ++ [z]) := by
          unfold txs
          rw [List.map_append]
          rfl
        rw [e] at hp'
        refine done p' _ H' ((same_new np).trans sm) hp' (by rw [List.length_append, List.length_singleton]; omega) fun x hx => ?_
        rcases List.mem_append.mp hx with hx | hx
        · exact short x hx
        · rw [List.mem_singleton.mp hx]
          exact hz
      have ahead : ∀ (z : List Nat) (zs : List (List Nat)) (q2 : Addr) (H2 : Hp), z.length ≤ 3 → zs.length ≤ m → (∀ x ∈ zs, x.length ≤ 3) → Same H1 H2 → SqT K H2 q2 (txs zs) → ∀ p, SqT K H2 p [V.str (tx z)] → rCatA K (.ref p) (.ref q2) H2 (fun v H' => ∃ (ls2 : List Nat) (pt2 : Addr) (ps2 : List (List Nat)), [some (V.ref b), some (.ref al), some (.str (tx ls)), some v, some (.int r)] = [some (.ref b), some (.ref al), some (.str (tx ls2)), some (.ref pt2), some (.int r)] ∧ Mv [b] H H' ∧ Box K b dl H' ∧ SqT K H' pt2 (txs ps2) ∧ ls2.length ≤ n + n + 1 ∧ ps2.length ≤ m + 1 ∧ ∀ p ∈ ps2, p.length ≤ 3) := fun z zs q2 H2 hz lz sz sm2 hq p hp => by
        have lz2 : (txs zs).length = zs.length := List.length_map _
        refine cat_anyT hp hq (by rw [lz2]; exact small_line (by simp; omega)) fun p' H' sm hp' => ?_
        refine done p' (z :: zs) H' (sm2.trans sm) hp' (by rw [List.length_cons]; omega) fun x hx => ?_
        rcases List.mem_cons.mp hx with hx | hx
        · rw [hx]
          exact hz
        · exact sz x hx
      refine ⟨.int r, rfl, rfl, _, rfl, ?_⟩
      by_cases k9 : r = 9
      case pos =>
        rw [decide_eq_true (show V.int r = V.int 9 by rw [k9])]
        refine iteT ⟨.str (tx ls), rfl, 1, rfl, tx ls, rfl, zl, .str (tx ls), rfl, 1, rfl, tx ls, rfl, zl, ?_⟩
        rw [c1]
        refine ⟨tx (ls.take 1), tx (ls.take 1), rfl, rfl, small_line (by rw [tx_length]; omega), ?_⟩
        rw [tx_append]
        refine ⟨by show 1 ≤ sizeLine; decide, fun p np => ⟨.ref pt, rfl, ahead _ ps pt _ (by rw [List.length_append]; omega) lp short (same_new np) (Same.seqT (same_new np) hP1) p (SqT.of upd_same)⟩⟩
      rw [decide_eq_false (show ¬ V.int r = V.int 9 from fun z => k9 (V.int.inj z))]
      refine iteF ?_
      refine ⟨.int r, rfl, rfl, _, rfl, ?_⟩
      by_cases k10 : r = 10
      case pos =>
        rw [decide_eq_true (show V.int r = V.int 10 by rw [k10])]
        refine iteT ⟨.ref pt, rfl, .str (tx ls), rfl, 3, rfl, tx ls, rfl, zl, ?_⟩
        rw [c3]
        exact ⟨by show 1 ≤ sizeLine; decide, fun p np => add _ t3 p np⟩
      rw [decide_eq_false (show ¬ V.int r = V.int 10 from fun z => k10 (V.int.inj z))]
      refine iteF ?_
      refine ⟨.int r, rfl, rfl, _, rfl, ?_⟩
      by_cases k0 : r = 0
      case pos =>
        rw [decide_eq_true (show V.int r = V.int 0 by rw [k0])]
        exact iteT ⟨.str (tx ls), rfl, ls, rfl, by omega, keep _ (by rw [List.length_reverse]; omega)⟩
      rw [decide_eq_false (show ¬ V.int r = V.int 0 from fun z => k0 (V.int.inj z))]
      refine iteF ?_
      refine ⟨.int r, rfl, rfl, _, rfl, ?_⟩
      by_cases k1 : r = 1
      case pos =>
        rw [decide_eq_true (show V.int r = V.int 1 by rw [k1])]
        refine iteT ⟨.str (tx ls), rfl, .str (tx ls), rfl, 1, rfl, tx ls, rfl, zl, ?_⟩
        rw [c1]
        refine ⟨tx ls, tx (ls.take 1), rfl, rfl, small_line (by rw [tx_length, tx_length]; omega), ?_⟩
        rw [tx_append]
        exact keep _ (by rw [List.length_append]; omega)
      rw [decide_eq_false (show ¬ V.int r = V.int 1 from fun z => k1 (V.int.inj z))]
      refine iteF ?_
      refine ⟨.int r, rfl, rfl, _, rfl, ?_⟩
      by_cases k2 : r = 2
      case pos =>
        rw [decide_eq_true (show V.int r = V.int 2 by rw [k2])]
        refine iteT ⟨.str (tx ls), rfl, tx ls, tx [103], rfl, rfl, small_line (by rw [tx_length, tx_length]; simp; omega), ?_⟩
        rw [tx_append]
        exact keep _ (by rw [List.length_append, List.length_singleton]; omega)
      rw [decide_eq_false (show ¬ V.int r = V.int 2 from fun z => k2 (V.int.inj z))]
      refine iteF ?_
      refine ⟨.int r, rfl, rfl, _, rfl, ?_⟩
      by_cases k3 : r = 3
      case pos =>
        rw [decide_eq_true (show V.int r = V.int 3 by rw [k3])]
        exact iteT (keep [] (Nat.zero_le _))
      rw [decide_eq_false (show ¬ V.int r = V.int 3 from fun z => k3 (V.int.inj z))]
      refine iteF ?_
      refine ⟨.int r, rfl, rfl, _, rfl, ?_⟩
      by_cases k4 : r = 4
      case pos =>
        rw [decide_eq_true (show V.int r = V.int 4 by rw [k4])]
        refine iteT ⟨.ref pt, rfl, .str (tx ls), rfl, 1, rfl, tx ls, rfl, zl, ?_⟩
        rw [c1]
        exact ⟨by show 1 ≤ sizeLine; decide, fun p np => add _ (by omega) p np⟩
      rw [decide_eq_false (show ¬ V.int r = V.int 4 from fun z => k4 (V.int.inj z))]
      refine iteF ?_
      refine ⟨.int r, rfl, rfl, _, rfl, ?_⟩
      by_cases k5 : r = 5
      case pos =>
        rw [decide_eq_true (show V.int r = V.int 5 by rw [k5])]
        refine iteT ⟨.ref pt, rfl, pt, _, rfl, hP1, fun p np => ?_⟩
        have e : (txs ps).reverse = txs ps.reverse := by
          unfold txs
          rw [List.map_reverse]
        rw [e]
        exact done p ps.reverse _ (same_new np) (SqT.of upd_same) (by rw [List.length_reverse]; omega) fun x hx => short x (List.mem_reverse.mp hx)
      rw [decide_eq_false (show ¬ V.int r = V.int 5 from fun z => k5 (V.int.inj z))]
      refine iteF ?_
      refine ⟨.int r, rfl, rfl, _, rfl, ?_⟩
      by_cases k6 : r = 6
      case pos =>
        rw [decide_eq_true (show V.int r = V.int 6 by rw [k6])]
        exact iteT ⟨.ref pt, rfl, by show 1 ≤ sizeLine; decide, fun p np => add [102, 103] (by decide) p np⟩
      rw [decide_eq_false (show ¬ V.int r = V.int 6 from fun z => k6 (V.int.inj z))]
      refine iteF ?_
      have d1 : cutV (txs ps) none (some 1) = (txs ps).take 1 := cutV_to _ 1
      have d2 : cutV (txs ps) (some 1) none = (txs ps).drop 1 := cutV_from _ 1
      refine ⟨.int r, rfl, rfl, _, rfl, ?_⟩
      by_cases k7 : r = 7
      · rw [decide_eq_true (show V.int r = V.int 7 by rw [k7])]
        refine iteT ⟨.ref pt, rfl, pt, _, rfl, .inr hP1, _, _, rfl, rfl, _, rfl, ?_⟩
        by_cases pos : 0 < ps.length
        · rw [decide_eq_true (show (0 : Int) < ((txs ps).length : Int) by omega)]
          have h0 : ps[0]? = some ps[0] := List.getElem?_eq_getElem pos
          have h0V : (txs ps)[0]? = some (.str (tx ps[0])) := by
            unfold txs
            rw [List.getElem?_map, h0]
            rfl
          have s0 : ps[0].length ≤ 3 := short _ (List.getElem_mem pos)
          generalize ps[0] = p0 at h0 h0V s0
          refine iteT ⟨.ref pt, rfl, pt, _, 0, .str (tx p0), rfl, rfl, hP1, atI_nat (j := 0) h0V, p0, rfl, by omega, by show 1 ≤ sizeLine; decide, fun p np => ?_⟩
          refine ⟨.ref pt, rfl, 1, rfl, ?_⟩
          unfold tNoPart
          refine slice_anyT (lo := some 1) (hi := none) (Same.seqT (same_new np) hP1) fun q2 H2 sm2 hq2 => ?_
          have e : (txs ps).drop 1 = txs (ps.drop 1) := by
            unfold txs
            rw [List.map_drop]
          rw [d2, e] at hq2
          exact ahead p0.reverse (ps.drop 1) q2 H2 (by rw [List.length_reverse]; exact s0) (by rw [List.length_drop]; omega) (fun x hx => short x (List.mem_of_mem_drop hx)) ((same_new np).trans sm2) hq2 p (Same.seqT sm2 (SqT.of upd_same))
        · rw [decide_eq_false (show ¬ (0 : Int) < ((txs ps).length : Int) by omega)]
          refine iteF ⟨.ref pt, rfl, .ref pt, rfl, 1, rfl, slice_anyT hP1 fun q2 H2 sm2 hq2 => ?_⟩
          rw [d1] at hq2
          refine cat_anyT (Same.seqT sm2 hP1) hq2 (by rw [List.length_take, lenV]; exact small_line (by omega)) fun p' H' sm hp' => ?_
          have e : txs ps ++ (txs ps).take 1 = txs (ps ++ ps.take 1) := by
            unfold txs
            rw [List.map_append, List.map_take]
          rw [e] at hp'
          refine done p' _ H' (sm2.trans sm) hp' (by rw [List.length_append, List.length_take]; omega) fun x hx => ?_
          rcases List.mem_append.mp hx with hx | hx
          · exact short x hx
          · exact short x (List.mem_of_mem_take hx)
      · rw [decide_eq_false (show ¬ V.int r = V.int 7 from fun z => k7 (V.int.inj z))]
        refine iteF ?_
        refine iteF ⟨.ref pt, rfl, .ref pt, rfl, 1, rfl, slice_anyT hP1 fun q2 H2 sm2 hq2 => ?_⟩
        rw [d1] at hq2
        refine cat_anyT (Same.seqT sm2 hP1) hq2 (by rw [List.length_take, lenV]; exact small_line (by omega)) fun p' H' sm hp' => ?_
        have e : txs ps ++ (txs ps).take 1 = txs (ps ++ ps.take 1) := by
          unfold txs
          rw [List.map_append, List.map_take]
        rw [e] at hp'
        refine done p' _ H' (sm2.trans sm) hp' (by rw [List.length_append, List.length_take]; omega) fun x hx => ?_
        rcases List.mem_append.mp hx with hx | hx
        · exact short x hx
        · exact short x (List.mem_of_mem_take hx)
    · rintro σ' H' ⟨ls', pt', ps', rfl, mv, hB', hT, b1, b2, b3⟩
      exact ⟨.str (tx ls'), rfl, .ref pt', rfl, by show 3 ≤ sizeLine; decide, fun p np => q p ls' ps' _ (mv.trans (Mv.new np)) (hB'.same (same_new np)) ⟨pt', SqT.of upd_same, Same.seqT (same_new np) hT⟩ b1 b2 b3⟩
end
end Tc
/-! rising. -/
namespace Tc
open PySem PySem.Spec PyProof.Rows L2 TcG
section
variable {P : Program} {w : World} {K : PySem.W.Frag} {mg : Str → Option Value} {base : Heap}
def sp_rising (K : PySem.W.Frag) (Pt : Addr) : Sp := fun vs H Q _ => GxR.TabG H Pt ∧ ∃ (v : V) (l : List (List Nat)), vs = [v] ∧ Items K H v l ∧ l.length ≤ 1000 ∧ ∀ H', Mv [Pt] H H' → GxR.TabG H' Pt → Q (.bl (risesM l (l.drop 1))) H'
theorem ok_rising {f c Pt : Addr} {fd : FuncData} {k : Nat} (F : FunC K "rising" "rising" s_rising f fd c) (TB : GxR.TabB base mg c Pt) (ma : mg "all" = none) (mz : mg "zip" = none) : FnOk P w K mg base CX0 (k + 1) f fd ["row"] (sp_rising K Pt) := by
  refine F.ok sc_rising (fun vs H Q E h => ?_) (fun A outer s H vs Q E hr h => ?_)
  · obtain ⟨_, v, l, rfl, _⟩ := h
    rfl
  · obtain ⟨tab, v, l, rfl, items, few, q⟩ := h
    rcases items with ⟨a, rfl, rfl⟩ | ⟨p, rfl, hp⟩
    · refine ⟨_, pss_one (ps_ret (pe_allZ hr (by rfl) ma (by decide +kernel) TB rfl ⟨by decide +kernel, by decide +kernel, by decide +kernel, by decide +kernel, by decide +kernel, by decide +kernel, by decide, fun z hz hf => ?_⟩ (by rfl) mz
        (pa_cons (pv 0) (pa_cons (pe_slice sl_str (pv 0) (po_some pe_int) po_none) pa_nil)) (fun _ => rfl) (by decide) (by decide))), ?_⟩
      · exact absurd hf ((by decide +kernel : ∀ z ∈ _, z.2 ≠ NameKind.free) z hz)
      · have zl : (tx a).length ≤ sizeLine := by
          rw [tx_length]
          rw [List.length_map] at few
          exact Nat.le_trans few (by decide)
        have c1 : cutS (tx a) (some 1) none = tx (a.drop 1) := cut_from a 1
        refine ⟨.str (tx a), rfl, .str (tx a), rfl, 1, rfl, ?_⟩
        unfold tNoPart
        refine ⟨tx a, rfl, zl, ?_⟩
        rw [c1]
        refine ⟨tab, .str (tx a), .str (tx (a.drop 1)), _, _, rfl, .inl ⟨a, rfl, rfl⟩, .inl ⟨a.drop 1, rfl, ?_⟩, fun H2 ht => q H2 (Mv.tabbed ht) ht.1⟩
        rw [List.map_drop]
    · refine ⟨_, pss_one (ps_ret (pe_allZ hr (by rfl) ma (by decide +kernel) TB rfl ⟨by decide +kernel, by decide +kernel, by decide +kernel, by decide +kernel, by decide +kernel, by decide +kernel, by decide, fun z hz hf => ?_⟩ (by rfl) mz
        (pa_cons (pv 0) (pa_cons (pe_slice sl_tupA (pv 0) (po_some pe_int) po_none) pa_nil)) (fun _ => rfl) (by decide) (by decide))), ?_⟩
      · exact absurd hf ((by decide +kernel : ∀ z ∈ _, z.2 ≠ NameKind.free) z hz)
      · refine ⟨.ref p, rfl, .ref p, rfl, 1, rfl, ?_⟩
        unfold tNoPart
        refine slice_anyT (lo := some 1) (hi := none) hp fun p' H' sm hp' => ?_
        have e : cutV (txs l) (some 1) none = txs (l.drop 1) := by
          rw [show cutV (txs l) (some 1) none = (txs l).drop 1 from cutV_from _ 1]
          unfold txs
          rw [List.map_drop]
        rw [e] at hp'
        obtain ⟨rows, t1, t2⟩ := tab
        exact ⟨⟨rows, sm _ _ t1, t2⟩, .ref p, .ref p', l, l.drop 1, rfl, .inr ⟨p, rfl, Same.seqT sm hp⟩, .inr ⟨p', rfl, hp'⟩, fun H2 ht => q H2 ((Mv.of_same sm).trans (Mv.tabbed ht)) ht.1⟩
end
end Tc
/-! check. -/
namespace Tc
open PySem PySem.Spec PyProof.Rows L2 TcG
/-- a def with generator expressions that raises what has no context -/
theorem funC_okN {P : Program} {w : World} {K : PySem.W.Frag} {mg : Str → Option Value} {base : Heap} {x qual : Str} {st : Stmt} {f : Addr} {fd : FuncData} {c : Addr} {N ps : List Str} {k : Nat} {sp : Sp} (F : FunC K x qual st f fd c) (S : FnScope N ps (defScope st)) (len : ∀ vs H Q E, sp vs H Q E → vs.length = ps.length)
    (walk : ∀ (A : Around) (outer : List Env) (s : Shared) (H : Hp) (vs : List V) (Q : VK) (E : XK), Room k (A.deeper (envOfC qual (defScope st) s.heap.objs.size f (.ref c))) → sp vs H Q E →
      ∃ t, PSs (cxOf (L2N.CX P w) P w K mg base N qual (defScope st) f (.ref c) A outer s H E) (defBody st) t ∧ t { nx := fun _ H' => Q .non H', rt := Q } (start N vs) H) : FnOk P w K mg base (L2N.CX P w) (k + 1) f fd ps sp := by
  obtain ⟨oc, od, kV, doc, pm, an, ct, osl, rfl, lk, code⟩ := F.ex
  exact fn_of lk code S len walk
structure Fault (K : PySem.W.Frag) (mg : Str → Option Value) (D fI : Addr) : Prop where
  g : mg "AlphabetFault" = some (.ref D)
  oex : OexC K D
  hi : PySem.W.findIn K (.ref D) "__init__" = some (some (.ref fI))
  ht : PySem.W.typeIn K (.ref fI) = some (.type "function")
def asOnes (l : List Nat) : List (List Nat) := l.map fun c => [c]
/-- what check tells -/
def checkM (ls : List Nat) (ps : List (List Nat)) : Option Str :=
  if ls = [] then some (Str.ofString "letters") else if risesM (asOnes ls) ((asOnes ls).drop 1) = false then some (Str.ofString "letters") else if keepM abc ls ≠ ls then some (Str.ofString "letters") else
    if risesM ps (ps.drop 1) = false then some (Str.ofString "pairs") else if (ps.all fun p => decide (p ∈ pairsOf ls)) = false then some (Str.ofString "pairs") else none
section
variable {P : Program} {w : World} {K : PySem.W.Frag} {mg : Str → Option Value} {base : Heap}
def sp_check (K : PySem.W.Frag) (D Pr Pt Pc : Addr) : Sp := fun vs H Q E => ∃ (al : Addr) (ls : List Nat) (ps : List (List Nat)), vs = [.ref al] ∧ Alpha K H al ls ps ∧ GxR.TabG H Pr ∧ GxR.TabG H Pt ∧ GxR.TabG H Pc ∧ ls.length ≤ 100 ∧ ps.length ≤ 1000 ∧
  (checkM ls ps = none → ∀ H', Mv [Pr, Pt, Pc] H H' → GxR.TabG H' Pr → GxR.TabG H' Pt → GxR.TabG H' Pc → Q .non H') ∧
  ∀ z, checkM ls ps = some z → ∀ d H', Mv [Pr, Pt, Pc] H H' → GxR.TabG H' Pr → GxR.TabG H' Pt → GxR.TabG H' Pc → H' d = some (.xd [("reason", .str z)]) → E (.ref D) (some d) H'
theorem ok_check {f c fR cR fT cT fL fI D Pr Pt Pc : Addr} {fd fdR fdT fdL fdI : FuncData} {lt : Tok} (F : FunC K "check" "check" s_check f fd c) (TB : GxR.TabB base mg c Pc) (FR : FunC K "rising" "rising" s_rising fR fdR cR) (gR : mg "rising" = some (.ref fR)) (TR : GxR.TabB base mg cR Pr)
    (FT : FunC K "taken_out" "taken_out" s_taken_out fT fdT cT) (gT : mg "taken_out" = some (.ref fT)) (TT : GxR.TabB base mg cT Pt) (FL : Fun K "letter_pairs" "letter_pairs" s_letter_pairs fL fdL) (gL : mg "letter_pairs" = some (.ref fL))
    (T : Fault K mg D fI) (GI : FnOk P w K mg base CX0 1 fI fdI ["self", "reason"] (sp_fault D)) (bI : Binds K fdI ["self", "reason"] []) (mL : mg "LETTERS" = some (.str "abcdef" lt)) (ma : mg "all" = none) (mz : mg "zip" = none) :
    FnOk P w K mg base (L2N.CX P w) 3 f fd ["alphabet"] (sp_check K D Pr Pt Pc) := by
  have GR : FnOk P w K mg base CX0 1 fR fdR ["row"] (sp_rising K Pr) := ok_rising FR TR ma mz
  have bR : Binds K fdR ["row"] [] := FR.fun.binds fun _ _ _ _ _ _ us hl => match us, hl with | [_], _ => rfl
  have GT : FnOk P w K mg base CX0 1 fT fdT ["word", "letters"] (sp_taken Pt) := ok_taken FT TT
  have bT : Binds K fdT ["word", "letters"] [] := FT.fun.binds fun _ _ _ _ _ _ us hl => match us, hl with | [_, _], _ => rfl
  have GL : FnOk P w K mg base CX0 1 fL fdL ["letters"] sp_letter_pairs := ok_letter_pairs FL
  have bL : Binds K fdL ["letters"] [] := FL.binds fun _ _ _ _ _ _ us hl => match us, hl with | [_], _ => rfl
  refine funC_okN F sc_check (fun vs H Q E h => ?_) (fun A outer s H vs Q E hr h => ?_)
  · obtain ⟨al, ls, ps, rfl, _⟩ := h
    rfl
  · obtain ⟨al, ls, ps, rfl, hA, tabR, tabT, tabC, ll, lp, qn, qe⟩ := h
    have nd := sc_check.nd
    have hr1 : Room 1 _ := hr.mono (by decide)
    refine ⟨_, pss_cons (ps_asg (pv 0) (pg_tup (by rfl) (pgs_cons (pg_name (i := 1) nd rfl (.inl rfl)) (pgs_cons (pg_name (i := 2) nd rfl (.inl rfl)) (pgs_cons (pg_name (i := 3) nd rfl (.inl rfl)) pgs_nil)))))
      (pss_cons (ps_if (PW.pt (pw_or (pt_not (pt_truth (pv 2) (fun _ => rfl)))
          (pw_or (pt_not (pt_val (pe_call GR hr1 (by rfl) gR FR.kp bR .nil pass0 (pa_cons (pv 2) pa_nil))))
          (pw_or1 (pt_cmpR op_ne (pe_call GT hr1 (by rfl) gT FT.kp bT .nil pass0 (pa_cons (pv 2) (pa_cons (pe_glob (v := .str "abcdef") (by rfl) mL ⟨_, rfl⟩) pa_nil))) (pv 2) (nomark _))))))
        (pss_one (L2N.ps_raise (by rfl) (L2N.takes_of rfl rfl rfl rfl) (pmk_fresh T.oex T.hi T.ht GI hr bI (by rfl) T.g (pa_cons pe_str pa_nil)))) pss_nil)
      (pss_cons (ps_set (i := 4) nd rfl (.inr rfl) (pe_call GL hr1 (by rfl) gL FL.kp bL .nil pass0 (pa_cons (pv 2) pa_nil)))
      (pss_one (ps_if (PW.pt (pw_or (pt_not (pt_val (pe_call GR hr1 (by rfl) gR FR.kp bR .nil pass0 (pa_cons (pv 3) pa_nil))))
          (pw_or1 (pt_not (pt_val (pe_allIn (iy := 4) hr (by rfl) ma (by decide +kernel) TB rfl (by show genOk (defScope s_check).names _ _ = true; decide +kernel) (pv 3) rfl (by rfl) (by rfl) (fun _ => rfl) (by decide) (by decide) (by decide)))))))
        (pss_one (L2N.ps_raise (by rfl) (L2N.takes_of rfl rfl rfl rfl) (pmk_fresh T.oex T.hi T.ht GI hr bI (by rfl) T.g (pa_cons pe_str pa_nil)))) pss_nil)))), ?_⟩
    obtain ⟨pt, h1, h2⟩ := hA
    refine ⟨.ref al, rfl, al, _, rfl, h1, rfl, _, _, rfl, _, _, rfl, _, _, rfl, rfl, ?_⟩
    have keep : ∀ {P Q : Addr} {H H' : Hp}, GxR.TabG H P → Mv [Q] H H' → GxR.TabG H' Q → GxR.TabG H' P := fun {P Q H H'} h m h' => by
      by_cases e : P = Q
      · rw [e]
        exact h'
      · obtain ⟨rows, t1, t2⟩ := h
        exact ⟨rows, m P _ (fun z => e (List.mem_singleton.mp z)) t1, t2⟩
    have raise : ∀ (z : Str), z.length ≤ 100 → checkM ls ps = some z → ∀ (σ : L2.St) (H1 : Hp), Mv [Pr, Pt, Pc] H H1 → GxR.TabG H1 Pr → GxR.TabG H1 Pt → GxR.TabG H1 Pc → tMkO D (sp_fault D) [] (tCons (tC (V.str z)) tNil) σ H1 fun cls d H' => E cls d H' := fun z hz e σ H1 m t1 t2 t3 => by
      refine ⟨by show 1 ≤ 1000; decide, fun a na => ⟨a, z, rfl, hz, upd_same, fun d nd' de => ?_⟩⟩
      refine ⟨rfl, d, [("reason", .str z)], upd_same, ?_, ?_, ?_⟩
      · rw [upd_ne de, upd_same]
      · rw [upd_ne de] at nd'
        exact nd'
      · rw [upd_ne de] at nd'
        have sm : Same H1 (upd (del (upd (upd (upd H1 a (exo a D none)) d (exd d [("reason", .str z)])) a (exo a D (some d))) a) d (HO.xd [("reason", .str z)])) := fun y o g => by
          have ya : y ≠ a := ne_of_none g na
          have yd : y ≠ d := ne_of_none g nd'
          rw [upd_ne yd, del_ne ya, upd_ne ya, upd_ne yd, upd_ne ya]
          exact g
        have tb : ∀ {P : Addr}, GxR.TabG H1 P → GxR.TabG _ P := fun {P} ⟨rows, x1, x2⟩ => ⟨rows, sm _ _ x1, x2⟩
        exact qe z e d _ (m.trans (.of_same sm)) (tb t1) (tb t2) (tb t3) upd_same
    have zl : (tx ls).length ≤ sizeLine := by
      rw [tx_length]
      exact Nat.le_trans ll (by decide)
    refine ⟨.str (tx ls), rfl, decide (ls ≠ []), ⟨zl, ?_⟩, ?_⟩
    · by_cases le : ls = []
      · rw [decide_eq_false (show ¬ ls ≠ [] from fun z => z le), le]
        rfl
      · rw [decide_eq_true (show ls ≠ [] from le), tx_length]
        have : ls.length ≠ 0 := fun z => le (List.eq_nil_of_length_eq_zero z)
        exact (bne_iff_ne.mpr (show ((ls.length : Nat) : Int) ≠ 0 by omega)).symm
    by_cases le : ls = []
    · rw [decide_eq_false (show ¬ ls ≠ [] from fun z => z le)]
      refine iteT (iteT ?_)
      exact raise _ (by decide) (by unfold checkM; rw [if_pos le]) _ _ (Mv.refl _ _) tabR tabT tabC
    rw [decide_eq_true le]
    refine iteF ⟨.str (tx ls), rfl, tabR, .str (tx ls), asOnes ls, rfl, .inl ⟨ls, rfl, rfl⟩, by unfold asOnes; rw [List.length_map]; omega, fun H1 mR tR => ⟨_, rfl, ?_⟩⟩
    have m1 : Mv [Pr, Pt, Pc] H H1 := mR.wide fun x hx => by
      rw [List.mem_singleton.mp hx]
      exact List.mem_cons_self
    have tT1 := keep tabT mR tR
    have tC1 := keep tabC mR tR
    have hp1 := tab_seqT tabR mR h2
    by_cases r1 : risesM (asOnes ls) ((asOnes ls).drop 1) = false
    · rw [r1]
      exact iteT (iteT (raise _ (by decide) (by unfold checkM; rw [if_neg le, if_pos r1]) _ _ m1 tR tT1 tC1))
    rw [Bool.not_eq_false _ |>.mp r1]
    refine iteF ⟨.str (tx ls), rfl, ls, abc, rfl, by omega, tT1, fun H2 ht => ?_⟩
    have mT := Mv.tabbed ht
    have m2 : Mv [Pr, Pt, Pc] H H2 := m1.trans (mT.wide fun x hx => by
      rw [List.mem_singleton.mp hx]
      exact List.mem_cons_of_mem _ List.mem_cons_self)
    have tR2 := keep tR mT ht.1
    have tC2 := keep tC1 mT ht.1
    have hp2 := tab_seqT tT1 mT hp1
    refine ⟨.str (tx ls), rfl, rfl, _, rfl, ?_⟩
    by_cases ke : keepM abc ls ≠ ls
    · rw [decide_eq_false (show ¬ V.str (tx (ls.filter fun c => decide (c ∈ abc))) = .str (tx ls) from fun z => ke (tx_inj (V.str.inj z)))]
      exact iteT (raise _ (by decide) (by unfold checkM; rw [if_neg le, if_neg r1, if_pos ke]) _ _ m2 tR2 ht.1 tC2)
    rw [decide_eq_true (show V.str (tx (ls.filter fun c => decide (c ∈ abc))) = .str (tx ls) by rw [show (ls.filter fun c => decide (c ∈ abc)) = ls from Decidable.not_not.mp ke])]
    refine iteF ?_
    refine ⟨.str (tx ls), rfl, ls, rfl, ll, fun q H3 sm3 nq hq => ?_⟩
    have tb3 : ∀ {P : Addr}, GxR.TabG H2 P → GxR.TabG H3 P := fun {P} ⟨rows, x1, x2⟩ => ⟨rows, sm3 _ _ x1, x2⟩
    have hp3 := Same.seqT sm3 hp2
    refine ⟨.ref pt, rfl, tb3 tR2, .ref pt, ps, rfl, .inr ⟨pt, rfl, hp3⟩, lp, fun H4 mR4 tR4 => ⟨_, rfl, ?_⟩⟩
    have m4 : Mv [Pr, Pt, Pc] H H4 := (m2.trans (.of_same sm3)).trans (mR4.wide fun x hx => by
      rw [List.mem_singleton.mp hx]
      exact List.mem_cons_self)
    have tT4 := keep (tb3 ht.1) mR4 tR4
    have tC4 := keep (tb3 tC2) mR4 tR4
    have hp4 := tab_seqT (tb3 tR2) mR4 hp3
    have hq4 : H4 q = some (.lst (txs (pairsOf ls))) := mR4 q _ (fun z => by
      obtain ⟨rows, x1, _⟩ := tb3 tR2
      rw [List.mem_singleton.mp z, x1] at hq
      cases hq) hq
    by_cases r2 : risesM ps (ps.drop 1) = false
    · rw [r2]
      exact iteT (iteT (raise _ (by decide) (by unfold checkM; rw [if_neg le, if_neg r1, if_neg ke, if_pos r2]) _ _ m4 tR4 tT4 tC4))
    rw [Bool.not_eq_false _ |>.mp r2]
    refine iteF ⟨.ref pt, rfl, tC4, pt, q, ps, pairsOf ls, rfl, hp4, rfl, .inl (.inl hq4), fun H5 ht5 => ⟨_, rfl, ?_⟩⟩
    have mT5 := Mv.tabbed ht5
    have m5 : Mv [Pr, Pt, Pc] H H5 := m4.trans (mT5.wide fun x hx => by
      rw [List.mem_singleton.mp hx]
      exact List.mem_cons_of_mem _ (List.mem_cons_of_mem _ List.mem_cons_self))
    have tR5 := keep tR4 mT5 ht5.1
    have tT5 := keep tT4 mT5 ht5.1
    by_cases al5 : (ps.all fun p => decide (p ∈ pairsOf ls)) = false
    · rw [al5]
      exact iteT (raise _ (by decide) (by unfold checkM; rw [if_neg le, if_neg r1, if_neg ke, if_neg r2, if_pos al5]) _ _ m5 tR5 tT5 ht5.1)
    · rw [Bool.not_eq_false _ |>.mp al5]
      exact iteF (qn (by unfold checkM; rw [if_neg le, if_neg r1, if_neg ke, if_neg r2, if_neg al5]) _ m5 tR5 tT5 ht5.1)
end
end Tc
/-! What check tells is what the law tells. -/
namespace Tc
open PySem PySem.Spec PyProof.Rows L2 TcG
theorem rises_iff (l : List (List Nat)) : risesM l (l.drop 1) = true ↔ ∀ k, 0 < k → k < l.length → l.getD (k - 1) [] < l.getD k [] := by
  unfold risesM
  rw [List.all_eq_true]
  have e : ∀ i, (l.drop 1).getD i [] = l.getD (i + 1) [] := fun i => by
    simp [List.getD, Nat.add_comm]
  constructor
  · intro h k k0 kl
    have := of_decide_eq_true (h (k - 1) (List.mem_range.mpr (by rw [List.length_drop]; omega)))
    rw [e, show k - 1 + 1 = k by omega] at this
    exact this
  · intro h i hi
    have hi := List.mem_range.mp hi
    rw [List.length_drop] at hi
    have := h (i + 1) (by omega) (by omega)
    rw [e]
    exact decide_eq_true this
theorem one_lt {a b : Nat} : ([a] < [b]) ↔ a < b := by
  constructor
  · intro h
    cases h with
    | rel h => exact h
    | cons h => cases h
  · exact fun h => .rel h
theorem badL_at {ls : List Nat} {k : Nat} {c : Nat} (h : ls[k]? = some c) : badL ls k = false ↔ c ∈ abc ∧ (0 < k → ls.getD (k - 1) 0 < c) := by
  have lt := (List.getElem?_eq_some_iff.mp h).1
  have h1 : ls[k - 1]? = some (ls.getD (k - 1) 0) := by
    rw [List.getD, List.getElem?_eq_getElem (show k - 1 < ls.length by omega)]
    rfl
  unfold badL
  rw [h, h1]
  by_cases m : c ∈ abc <;> by_cases p : 0 < k <;> by_cases q : ls.getD (k - 1) 0 < c <;> simp [m, p, q]
theorem lettersM (ls : List Nat) : (List.range ls.length).any (badL ls) = false ↔ keepM abc ls = ls ∧ risesM (asOnes ls) ((asOnes ls).drop 1) = true := by
  have ea : ∀ k, k < ls.length → (asOnes ls).getD k [] = [ls.getD k 0] := fun k hk => by
    unfold asOnes
    simp [List.getD, hk]
  have el : (asOnes ls).length = ls.length := by
    unfold asOnes
    exact List.length_map _
  rw [rises_iff, List.any_eq_false]
  unfold keepM
  rw [List.filter_eq_self]
  constructor
  · intro h
    have hb : ∀ k (hk : k < ls.length), badL ls k = false := fun k hk => by
      have := h k (List.mem_range.mpr hk)
      simpa using this
    refine ⟨fun c hc => ?_, fun k k0 kl => ?_⟩
    · obtain ⟨k, hk, e⟩ := List.getElem_of_mem hc
      exact decide_eq_true ((badL_at (by rw [List.getElem?_eq_getElem hk, e])).mp (hb k hk)).1
    · rw [el] at kl
      rw [ea _ (by omega), ea _ kl, one_lt]
      have := ((badL_at (List.getElem?_eq_getElem kl)).mp (hb k kl)).2 k0
      rw [show ls.getD k 0 = ls[k] by simp [List.getD, kl]]
      exact this
  · rintro ⟨h1, h2⟩ k hk
    have kl := List.mem_range.mp hk
    have : badL ls k = false := (badL_at (List.getElem?_eq_getElem kl)).mpr ⟨of_decide_eq_true (h1 _ (List.getElem_mem kl)), fun k0 => by
      have := h2 k k0 (by rw [el]; exact kl)
      rw [ea _ (by omega), ea _ kl, one_lt, show ls.getD k 0 = ls[k] by simp [List.getD, kl]] at this
      exact this⟩
    rw [this]
    decide
theorem pair_iff (ls p : List Nat) : notPair ls p = false ↔ p ∈ pairsOf ls := by
  constructor
  · intro h
    match p, h with
    | [x, y], h =>
      unfold notPair at h
      by_cases m : x ∈ ls <;> by_cases n : y ∈ ls <;> by_cases l : x < y <;> simp [m, n, l] at h
      unfold TcG.pairsOf
      refine List.mem_flatMap.mpr ⟨x, m, ?_⟩
      unfold TcG.pairsWith
      exact List.mem_map.mpr ⟨y, List.mem_filter.mpr ⟨n, decide_eq_true l⟩, rfl⟩
    | [], h => cases h
    | [_], h => cases h
    | _ :: _ :: _ :: _, h => cases h
  · intro h
    obtain ⟨x, y, rfl, hx, hy, lt⟩ := pairsOf_mem h
    unfold notPair
    simp [hx, hy, lt]
theorem badP_at {ls : List Nat} {ps : List (List Nat)} {k : Nat} {p : List Nat} (h : ps[k]? = some p) : badP ls ps k = false ↔ p ∈ pairsOf ls ∧ (0 < k → ps.getD (k - 1) [] < p) := by
  have lt := (List.getElem?_eq_some_iff.mp h).1
  have h1 : ps[k - 1]? = some (ps.getD (k - 1) []) := by
    rw [List.getD, List.getElem?_eq_getElem (show k - 1 < ps.length by omega)]
    rfl
  rw [← pair_iff]
  unfold badP
  rw [h, h1]
  generalize ps.getD (k - 1) [] = d
  dsimp only
  generalize notPair ls p = n
  by_cases p1 : 0 < k <;> by_cases q : d < p <;> cases n <;> simp only [p1, q, decide_true, decide_false, Bool.not_true, Bool.not_false, Bool.and_true, Bool.and_false, Bool.true_and, Bool.false_and, Bool.or_true, Bool.or_false, Bool.true_or, Bool.false_or, true_and, false_and, and_true, forall_const, false_implies, Bool.false_eq_true, Bool.true_eq_false, and_false] <;> decide
theorem pairsM (ls : List Nat) (ps : List (List Nat)) : (List.range ps.length).any (badP ls ps) = false ↔ (ps.all fun p => decide (p ∈ pairsOf ls)) = true ∧ risesM ps (ps.drop 1) = true := by
  rw [rises_iff, List.any_eq_false, List.all_eq_true]
  constructor
  · intro h
    have hb : ∀ k (hk : k < ps.length), badP ls ps k = false := fun k hk => by
      have := h k (List.mem_range.mpr hk)
      simpa using this
    refine ⟨fun c hc => ?_, fun k k0 kl => ?_⟩
    · obtain ⟨k, hk, e⟩ := List.getElem_of_mem hc
      exact decide_eq_true ((badP_at (by rw [List.getElem?_eq_getElem hk, e])).mp (hb k hk)).1
    · have := ((badP_at (List.getElem?_eq_getElem kl)).mp (hb k kl)).2 k0
      rw [show ps.getD k [] = ps[k] by simp [List.getD, kl]]
      exact this
  · rintro ⟨h1, h2⟩ k hk
    have kl := List.mem_range.mp hk
    have : badP ls ps k = false := (badP_at (List.getElem?_eq_getElem kl)).mpr ⟨of_decide_eq_true (h1 _ (List.getElem_mem kl)), fun k0 => by
      have := h2 k k0 kl
      rw [show ps.getD k [] = ps[k] by simp [List.getD, kl]] at this
      exact this⟩
    rw [this]
    decide
/-- what check tells is the fault that the law finds -/
theorem check_fault (ls : List Nat) (ps : List (List Nat)) : checkM ls ps = faultM ls ps := by
  unfold checkM faultM
  by_cases le : ls = []
  · rw [if_pos le, le]
    rfl
  rw [if_neg le, if_neg le]
  cases e : (List.range ls.length).any (badL ls) with
  | true =>
    rw [if_pos rfl]
    by_cases r : risesM (asOnes ls) ((asOnes ls).drop 1) = false
    · rw [if_pos r]
    · rw [if_neg r]
      by_cases k : keepM abc ls ≠ ls
      · rw [if_pos k]
      · have := (lettersM ls).mpr ⟨Decidable.not_not.mp k, (Bool.not_eq_false _).mp r⟩
        rw [e] at this
        cases this
  | false =>
    obtain ⟨h1, h2⟩ := (lettersM ls).mp e
    rw [if_neg Bool.false_ne_true, if_neg (by rw [h2]; decide), if_neg (fun z => z h1)]
    cases e2 : (List.range ps.length).any (badP ls ps) with
    | true =>
      rw [if_pos rfl]
      by_cases r : risesM ps (ps.drop 1) = false
      · rw [if_pos r]
      · rw [if_neg r]
        by_cases k : (ps.all fun p => decide (p ∈ pairsOf ls)) = false
        · rw [if_pos k]
        · have := (pairsM ls ps).mpr ⟨(Bool.not_eq_false _).mp k, (Bool.not_eq_false _).mp r⟩
          rw [e2] at this
          cases this
    | false =>
      obtain ⟨g1, g2⟩ := (pairsM ls ps).mp e2
      rw [if_neg (by rw [g2]; decide), if_neg (by rw [g1]; decide), if_neg Bool.false_ne_true]
end Tc
/-! free. -/
namespace Tc
open PySem PySem.Spec PyProof.Rows L2 TcG
section
variable {P : Program} {w : World} {K : PySem.W.Frag} {mg : Str → Option Value} {base : Heap}
def sp_freeT (K : PySem.W.Frag) (Pf : Addr) : Sp := fun vs H Q _ => ∃ (al : Addr) (a b ls : List Nat) (ps : List (List Nat)), vs = [.ref al, .str (tx a), .str (tx b)] ∧ Alpha K H al ls ps ∧ GxR.TabG H Pf ∧ ∀ H', GxR.Tabbed Pf H H' → Q (.bl (apartM ps a b)) H'
theorem ok_freeT {f c Pf fI : Addr} {fd fdI : FuncData} (F : FunC K "free" "free" s_free f fd c) (TB : GxR.TabB base mg c Pf) (ma : mg "all" = none) (FI : Fun K "independent" "independent" s_independent fI fdI) (gI : mg "independent" = some (.ref fI)) (mn : mg "min" = none) (mx : mg "max" = none) :
    FnOk P w K mg base CX0 3 f fd ["alphabet", "word", "other"] (sp_freeT K Pf) := by
  have GI : FnOk P w K mg base CX0 1 fI fdI ["alphabet", "x", "y"] (sp_independent K) := ok_independent FI mn mx
  have bI : Binds K fdI ["alphabet", "x", "y"] [] := FI.binds fun _ _ _ _ _ _ us hl => match us, hl with | [_, _, _], _ => rfl
  refine F.ok sc_free (fun vs H Q E h => ?_) (fun A outer s H vs Q E hr h => ?_)
  · obtain ⟨al, a, b, ls, ps, rfl, _⟩ := h
    rfl
  · obtain ⟨al, a, b, ls, ps, rfl, ah, tab, q⟩ := h
    refine ⟨_, pss_one (ps_ret (pe_allG (own := ["x", "y"]) (k := 1) hr (by rfl) ma (by decide +kernel) TB rfl (by show genFit ["alphabet", "word", "other"] (defScope s_free).names _ = true; decide +kernel) (pi_str (pv 1)) (fun _ => rfl)
      (run2 rfl (fun _ _ _ _ _ _ => pg_name (i := 3) (by show (["alphabet", "word", "other", "x", "y"] : List Str).Nodup; decide) rfl (.inl rfl)) (fun _ _ _ _ _ _ _ => pi_str (pv 2)) (fun _ _ => rfl) (fun _ _ _ _ _ _ => pg_name (i := 4) (by show (["alphabet", "word", "other", "x", "y"] : List Str).Nodup; decide) rfl (.inl rfl))
        (fun _ _ _ _ _ _ rk => pe_call GI rk (by rfl) gI FI.kp bI .nil pass0 (pa_cons (pv 0) (pa_cons (pv 3) (pa_cons (pv 4) pa_nil))))))), ?_⟩
    refine ⟨.str (tx a), rfl, tx a, rfl, tab, fun H2 tb => ⟨a.length, b.length, fun i H => H = H2 ∧ ∀ x ∈ a.take i, ∀ y ∈ b, ind ps x y = true, ⟨rfl, by simp⟩, fun i H hi _ => its_go.mpr hi, fun H h => ?_, fun i H x H' hi h y => ?_⟩⟩
    · obtain ⟨rfl, h⟩ := h
      refine ⟨its_stop.mpr (Nat.le_refl _), ?_⟩
      rw [List.take_length] at h
      have e : apartM ps a b = true := List.all_eq_true.mpr fun x hx => List.all_eq_true.mpr fun y hy => h x hx y hy
      rw [← e]
      exact q _ tb
    · obtain ⟨rfl, h⟩ := h
      obtain ⟨rfl, c, hc, rfl⟩ := its_yld y
      have ah2 : Alpha K H' al ls ps := ah.mvT tab (Mv.tabbed tb)
      refine ⟨Keep.set rfl, .str (tx b), rfl, tx b, rfl, fun j H => H = H' ∧ ∀ y ∈ b.take j, ind ps c y = true, ⟨rfl, by simp⟩, fun j H hj _ => its_go.mpr hj, fun H hh => ?_, fun j H y H'' hj hh yy => ?_⟩
      · obtain ⟨rfl, hh⟩ := hh
        refine ⟨its_stop.mpr (Nat.le_refl _), rfl, fun x hx => ?_⟩
        rw [take_next hc] at hx
        rw [List.take_length] at hh
        rcases List.mem_append.mp hx with hx | hx
        · exact h x hx
        · rw [List.mem_singleton.mp hx]
          exact hh
      · obtain ⟨rfl, hh⟩ := hh
        obtain ⟨rfl, d, hd, rfl⟩ := its_yld yy
        refine ⟨Keep.set rfl, .ref al, rfl, .str (tx [c]), rfl, .str (tx [d]), rfl, al, c, d, ls, ps, rfl, ah2, ind ps c d, rfl, fun e => ⟨rfl, fun y hy => ?_⟩, fun e => ?_⟩
        · rw [take_next hd] at hy
          rcases List.mem_append.mp hy with hy | hy
          · exact hh y hy
          · rw [List.mem_singleton.mp hy]
            exact e
        · have e2 : apartM ps a b = false := by
            rw [← Bool.not_eq_true]
            intro z
            have := List.all_eq_true.mp (List.all_eq_true.mp z c (List.mem_of_getElem? hc)) d (List.mem_of_getElem? hd)
            rw [e] at this
            cases this
          rw [← e2]
          exact q _ tb
end
end Tc
/-! _law_same, called while an error is handled. -/
namespace Tc
open PySem PySem.Spec PyProof.Rows L2 TcG
section
variable {P : Program} {w : World} {K : PySem.W.Frag} {mg : Str → Option Value} {base : Heap}
def sp_sameS : Sp := fun vs H Q _ => ∃ z : Str, vs = [.str z, .str z] ∧ Q (.bl true) H
theorem ok_sameH {f : Addr} {fd : FuncData} (F : Fun K "_law_same" "_law_same" s_law_same f fd) (M : SameM mg) : L2H.FnH P w K mg base CX0 1 f fd ["actual", "expected"] sp_sameS := by
  refine fun_hot F sc_law_same (fun vs H Q E h => ?_) (fun cdv A outer s H vs Q E p hot hr h => ?_)
  · obtain ⟨i, rfl, _⟩ := h
    rfl
  · obtain ⟨i, rfl, q⟩ := h
    refine ⟨_, pss_cons (ps_if (pt_val (pe_isi (T := "tuple") M.isi (by rfl) (by rfl) M.tup (by decide +kernel) (pv 1))) pss_never pss_nil)
      (pss_cons (ps_if (pt_cmpR op_isN (pv 1) pe_non (nomark _)) pss_never pss_nil)
      (pss_cons (ps_if (pt_val (pe_isi (T := "bool") M.isi (by rfl) (by rfl) M.bool (by decide +kernel) (pv 1))) pss_never pss_nil)
      (pss_cons (ps_if (pt_val (pe_isi (T := "int") M.isi (by rfl) (by rfl) M.int (by decide +kernel) (pv 1))) pss_never pss_nil)
      (pss_one (ps_ret (pe_and (pe_isi (T := "str") M.isi (by rfl) (by rfl) M.str (by decide +kernel) (pv 0))
          (pe_one (pe_cmpR op_eq (pv 0) (pv 1) (nomark _))))))))), ?_⟩
    refine ⟨.str i, rfl, .str i, .ty "tuple", .type "str", _, false, rfl, .ty _, .base (.str i), kitF, false, rfl, iteF ⟨.str i, rfl, rfl, false, rfl, iteF ⟨.str i, rfl, .str i, .ty "bool", .type "str", _, false, rfl, .ty _, .base (.str i), kitF, false, rfl, iteF
      ⟨.str i, rfl, .str i, .ty "int", .type "str", _, false, rfl, .ty _, .base (.str i), kitF, false, rfl, iteF ⟨.str i, rfl, .str i, .ty "str", .type "str", _, true, rfl, .ty _, .base (.str i), kitT, true, rfl, iteT
        ⟨.str i, rfl, .str i, rfl, rfl, ?_⟩⟩⟩⟩⟩⟩
    rw [decide_eq_true rfl]
    exact q
end
end Tc
/-! The law. -/
namespace Tc
open PySem PySem.Spec PyProof.Rows L2 TcG
/-- where the defs of the text stand -/
structure Text (P : Program) (w : World) (K : PySem.W.Frag) (mg : Str → Option Value) (base : Heap) (PTaken PRising PCheck PFree : Addr) where
  fCell : Addr
  dCell : FuncData
  cell : Fun K "_law_cell" "_law_cell" s_law_cell fCell dCell
  gCell : mg "_law_cell" = some (.ref fCell)
  fDigits : Addr
  dDigits : FuncData
  digits : Fun K "_law_digits" "_law_digits" s_law_digits fDigits dDigits
  gDigits : mg "_law_digits" = some (.ref fDigits)
  fBox : Addr
  dBox : FuncData
  box : Fun K "_law_box" "_law_box" s_law_box fBox dBox
  gBox : mg "_law_box" = some (.ref fBox)
  fDraw : Addr
  dDraw : FuncData
  draw : Fun K "_law_draw" "_law_draw" s_law_draw fDraw dDraw
  gDraw : mg "_law_draw" = some (.ref fDraw)
  fAlpha : Addr
  dAlpha : FuncData
  alpha : Fun K "_law_alphabet" "_law_alphabet" s_law_alphabet fAlpha dAlpha
  gAlpha : mg "_law_alphabet" = some (.ref fAlpha)
  fWord : Addr
  dWord : FuncData
  word : Fun K "_law_word" "_law_word" s_law_word fWord dWord
  gWord : mg "_law_word" = some (.ref fWord)
  fLFree : Addr
  dLFree : FuncData
  lfree : Fun K "_law_free" "_law_free" s_law_free fLFree dLFree
  gLFree : mg "_law_free" = some (.ref fLFree)
  fApart : Addr
  dApart : FuncData
  apart : Fun K "_law_apart" "_law_apart" s_law_apart fApart dApart
  gApart : mg "_law_apart" = some (.ref fApart)
  fOnly : Addr
  dOnly : FuncData
  only : Fun K "_law_only" "_law_only" s_law_only fOnly dOnly
  gOnly : mg "_law_only" = some (.ref fOnly)
  fSpoilt : Addr
  dSpoilt : FuncData
  spoilt : Fun K "_law_spoilt_alphabet" "_law_spoilt_alphabet" s_law_spoilt_alphabet fSpoilt dSpoilt
  gSpoilt : mg "_law_spoilt_alphabet" = some (.ref fSpoilt)
  fAFault : Addr
  dAFault : FuncData
  afault : Fun K "_law_alphabet_fault" "_law_alphabet_fault" s_law_alphabet_fault fAFault dAFault
  gAFault : mg "_law_alphabet_fault" = some (.ref fAFault)
  fSame : Addr
  dSame : FuncData
  same : Fun K "_law_same" "_law_same" s_law_same fSame dSame
  gSame : mg "_law_same" = some (.ref fSame)
  fPairs : Addr
  dPairs : FuncData
  pairs : Fun K "letter_pairs" "letter_pairs" s_letter_pairs fPairs dPairs
  gPairs : mg "letter_pairs" = some (.ref fPairs)
  fInd : Addr
  dInd : FuncData
  ind : Fun K "independent" "independent" s_independent fInd dInd
  gInd : mg "independent" = some (.ref fInd)
  fTaken : Addr
  dTaken : FuncData
  cTaken : Addr
  taken : FunC K "taken_out" "taken_out" s_taken_out fTaken dTaken cTaken
  gTaken : mg "taken_out" = some (.ref fTaken)
  tTaken : GxR.TabB base mg cTaken PTaken
  fRising : Addr
  dRising : FuncData
  cRising : Addr
  rising : FunC K "rising" "rising" s_rising fRising dRising cRising
  gRising : mg "rising" = some (.ref fRising)
  tRising : GxR.TabB base mg cRising PRising
  fCheck : Addr
  dCheck : FuncData
  cCheck : Addr
  check : FunC K "check" "check" s_check fCheck dCheck cCheck
  gCheck : mg "check" = some (.ref fCheck)
  tCheck : GxR.TabB base mg cCheck PCheck
  fFree : Addr
  dFree : FuncData
  cFree : Addr
  free : FunC K "free" "free" s_free fFree dFree cFree
  gFree : mg "free" = some (.ref fFree)
  tFree : GxR.TabB base mg cFree PFree
  D : Addr
  fInit : Addr
  dInit : FuncData
  fault : Fault K mg D fInit
  init : FnOk P w K mg base CX0 1 fInit dInit ["self", "reason"] (sp_fault D)
  bInit : Binds K dInit ["self", "reason"] []
  excC : ExcC K D
  noR : PySem.W.findIn K (.ref D) "reason" = some none
  te : PySem.W.exmOne K (.ref D) (.ref D) = some true
  DX : Addr
  gX : mg "ExchangeFault" = some (.ref DX)
  notX : PySem.W.kitOne K (.ref D) (.ref DX) = some false
  isV : PySem.W.kitOne K (.ref D) (.type "ValueError") = some true
  lt : Tok
  mL : mg "LETTERS" = some (.str "abcdef" lt)
  mlen : mg "len" = none
  mrange : mg "range" = none
  mint : mg "int" = none
  mmin : mg "min" = none
  mmax : mg "max" = none
  msorted : mg "sorted" = none
  mtuple : mg "tuple" = none
  mbool : mg "bool" = none
  mstr : mg "str" = none
  misi : mg "isinstance" = none
  mlist : mg "list" = none
  mall : mg "all" = none
  mzip : mg "zip" = none
  mVE : mg "ValueError" = none
section
variable {P : Program} {w : World} {K : PySem.W.Frag} {mg : Str → Option Value} {base : Heap}
/-- an alphabet that is spoilt, whatever its bounds are -/
def sp_spoiltA (K : PySem.W.Frag) : Sp := fun vs H Q E => ∃ n m, sp_spoilt K n m vs H Q E
theorem ok_spoiltA {f fD : Addr} {fd fdD : FuncData} (F : Fun K "_law_spoilt_alphabet" "_law_spoilt_alphabet" s_law_spoilt_alphabet f fd) (FD : Fun K "_law_draw" "_law_draw" s_law_draw fD fdD) (gD : mg "_law_draw" = some (.ref fD))
    (ml : mg "len" = none) (mi : mg "int" = none) : FnOk P w K mg base CX0 2 f fd ["box", "alphabet"] (sp_spoiltA K) :=
  ⟨fun vs H Q E h => h.elim fun n h => h.elim fun m h => (ok_spoilt (P := P) (w := w) (base := base) F FD gD ml mi n m).len vs H Q E h, fun A outer s H args us vs Q E hr he hb hv h => h.elim fun n h => h.elim fun m h => (ok_spoilt F FD gD ml mi n m).run A outer s H args us vs Q E hr he hb hv h⟩
theorem box_many {K : PySem.W.Frag} {b dl : Addr} {S : List Addr} {H H' : Hp} (h : Box K b dl H) (m : Mv S H H') (t : ∀ P ∈ S, GxR.TabG H P) : Box K b dl H' := by
  obtain ⟨ds, n, hb, hn, hd⟩ := h
  refine ⟨ds, n, m b _ (fun z => ?_) hb, hn, m.seqL hd fun p hp u r => ?_⟩
  · obtain ⟨ps, tab, _⟩ := t b z
    rw [tab] at hb
    cases hb
  · obtain ⟨ps, tab, _⟩ := t p hp
    rw [rd_of tab (fun _ _ z => by cases z) r]
    intro z
    cases z
theorem tab_many {S : List Addr} {H H' : Hp} {P : Addr} (h : GxR.TabG H P) (m : Mv S H H') (t : ∀ P ∈ S, GxR.TabG H' P) : GxR.TabG H' P := by
  by_cases e : P ∈ S
  · exact t P e
  · obtain ⟨rows, t1, t2⟩ := h
    exact ⟨rows, m P _ e t1, t2⟩
theorem nodup_len {α : Type} [DecidableEq α] : ∀ (l m : List α), l.Nodup → (∀ x ∈ l, x ∈ m) → l.length ≤ m.length
  | [], _, _, _ => Nat.zero_le _
  | x :: r, m, nd, h => by
    have hx : x ∈ m := h x List.mem_cons_self
    obtain ⟨nx, nr⟩ := List.nodup_cons.mp nd
    have := nodup_len r (m.erase x) nr fun y hy => (List.mem_erase_of_ne (show y ≠ x from fun e => nx (by rw [← e]; exact hy))).mpr (h y (List.mem_cons_of_mem _ hy))
    rw [List.length_erase_of_mem hx] at this
    have pos : 0 < m.length := List.length_pos_of_mem hx
    rw [List.length_cons]
    omega
theorem drawn_len {n : Nat} {ps : List (List Nat)} (d : Drawn n ps) : ps.length ≤ 36 := by
  refine Nat.le_trans (nodup_len ps _ d.nodup d.sub) (Nat.le_trans (flat_len (alph n) (alph n)) ?_)
  rw [alph_len d.big]
  exact Nat.mul_le_mul d.big d.big
/-- free -/
def sp_freeA (K : PySem.W.Frag) (Pf : Addr) : Sp := fun vs H Q _ => ∃ (al : Addr) (a b ls : List Nat) (ps : List (List Nat)), vs = [.ref al, .str (tx a), .str (tx b)] ∧ Alpha K H al ls ps ∧ a.length ≤ 100 ∧ b.length ≤ 100 ∧ GxR.TabG H Pf ∧ ∀ H', Mv [Pf] H H' → GxR.TabG H' Pf → Q (.bl (apartM ps a b)) H'
def sp_law (K : PySem.W.Frag) (Pt Pr Pc Pf : Addr) : Sp := fun vs H Q _ => ∃ (a : Addr) (ns : List Int), vs = [.ref a] ∧ SqL K H a (ns.map V.int) ∧ GxR.TabG H Pt ∧ GxR.TabG H Pr ∧ GxR.TabG H Pc ∧ GxR.TabG H Pf ∧ ∀ H', Q (.bl true) H'
theorem ok_law {f Pt Pr Pc Pf : Addr} {fd : FuncData} (F : Fun K "law" "law" s_law f fd) (T : Text P w K mg base Pt Pr Pc Pf) (GF : FnOk P w K mg base CX0 3 T.fFree T.dFree ["alphabet", "word", "other"] (sp_freeA K Pf)) :
    FnOk P w K mg base CX0 5 f fd ["script"] (sp_law K Pt Pr Pc Pf) := by
  have M : SameM mg := ⟨T.misi, T.mtuple, T.mbool, T.mint, T.mstr, T.mlen, T.mrange⟩
  have GB : FnOk P w K mg base CX0 3 T.fBox T.dBox ["script", "first", "last"] (sp_box K) := ok_box T.box T.cell T.gCell T.digits T.gDigits T.mlen T.mrange T.mint
  have bB : Binds K T.dBox ["script", "first", "last"] [] := T.box.binds fun _ _ _ _ _ _ us hl => match us, hl with | [_, _, _], _ => rfl
  have GA : FnOk P w K mg base CX0 2 T.fAlpha T.dAlpha ["box", "most"] (sp_alphabet K) := ok_alphabet T.alpha T.draw T.gDraw T.mlen T.mint T.mrange T.msorted T.mtuple
  have bA : Binds K T.dAlpha ["box", "most"] [] := T.alpha.binds fun _ _ _ _ _ _ us hl => match us, hl with | [_, _], _ => rfl
  have GW : FnOk P w K mg base CX0 2 T.fWord T.dWord ["box", "alphabet", "most"] (sp_word K) := ok_word T.word T.draw T.gDraw T.mlen T.mint T.mrange
  have bW : Binds K T.dWord ["box", "alphabet", "most"] [] := T.word.binds fun _ _ _ _ _ _ us hl => match us, hl with | [_, _, _], _ => rfl
  have GD : FnOk P w K mg base CX0 1 T.fDraw T.dDraw ["box", "many"] (sp_draw K) := ok_draw T.draw T.mlen T.mint
  have bD : Binds K T.dDraw ["box", "many"] [] := T.draw.binds fun _ _ _ _ _ _ us hl => match us, hl with | [_, _], _ => rfl
  have GI : FnOk P w K mg base CX0 1 T.fInd T.dInd ["alphabet", "x", "y"] (sp_independent K) := ok_independent T.ind T.mmin T.mmax
  have bI : Binds K T.dInd ["alphabet", "x", "y"] [] := T.ind.binds fun _ _ _ _ _ _ us hl => match us, hl with | [_, _, _], _ => rfl
  have GL : FnOk P w K mg base CX0 1 T.fLFree T.dLFree ["alphabet", "x", "y"] (sp_free K) := ok_free T.lfree
  have bL : Binds K T.dLFree ["alphabet", "x", "y"] [] := T.lfree.binds fun _ _ _ _ _ _ us hl => match us, hl with | [_, _, _], _ => rfl
  have bF : Binds K T.dFree ["alphabet", "word", "other"] [] := T.free.fun.binds fun _ _ _ _ _ _ us hl => match us, hl with | [_, _, _], _ => rfl
  have GP : FnOk P w K mg base CX0 2 T.fApart T.dApart ["alphabet", "word", "other"] (sp_apart K) := ok_apart T.apart T.lfree T.gLFree
  have bP : Binds K T.dApart ["alphabet", "word", "other"] [] := T.apart.binds fun _ _ _ _ _ _ us hl => match us, hl with | [_, _, _], _ => rfl
  have GT : FnOk P w K mg base CX0 1 T.fTaken T.dTaken ["word", "letters"] (sp_taken Pt) := ok_taken T.taken T.tTaken
  have bT : Binds K T.dTaken ["word", "letters"] [] := T.taken.fun.binds fun _ _ _ _ _ _ us hl => match us, hl with | [_, _], _ => rfl
  have GO : FnOk P w K mg base CX0 1 T.fOnly T.dOnly ["word", "letters"] (sp_only K) := ok_only T.only
  have bO : Binds K T.dOnly ["word", "letters"] [] := T.only.binds fun _ _ _ _ _ _ us hl => match us, hl with | [_, _], _ => rfl
  have GQ : ∀ n m, FnOk P w K mg base CX0 2 T.fSpoilt T.dSpoilt ["box", "alphabet"] (sp_spoilt K n m) := fun n m => ok_spoilt T.spoilt T.draw T.gDraw T.mlen T.mint n m
  have bQ : Binds K T.dSpoilt ["box", "alphabet"] [] := T.spoilt.binds fun _ _ _ _ _ _ us hl => match us, hl with | [_, _], _ => rfl
  have GU : FnOk P w K mg base CX0 1 T.fAFault T.dAFault ["alphabet"] (sp_afault K) := ok_afault T.afault T.mlen T.mrange
  have bU : Binds K T.dAFault ["alphabet"] [] := T.afault.binds fun _ _ _ _ _ _ us hl => match us, hl with | [_], _ => rfl
  have GS : FnOk P w K mg base CX0 2 T.fSame T.dSame ["actual", "expected"] (sp_same K 2) := ok_same T.same T.gSame M 2
  have bS : Binds K T.dSame ["actual", "expected"] [] := T.same.binds fun _ _ _ _ _ _ us hl => match us, hl with | [_, _], _ => rfl
  have GH : L2H.FnH P w K mg base CX0 1 T.fSame T.dSame ["actual", "expected"] sp_sameS := ok_sameH T.same M
  have GK : FnOk P w K mg base (L2N.CX P w) 3 T.fCheck T.dCheck ["alphabet"] (sp_check K T.D Pr Pt Pc) := ok_check T.check T.tCheck T.rising T.gRising T.tRising T.taken T.gTaken T.tTaken T.pairs T.gPairs T.fault T.init T.bInit T.mL T.mall T.mzip
  have bK : Binds K T.dCheck ["alphabet"] [] := T.check.fun.binds fun _ _ _ _ _ _ us hl => match us, hl with | [_], _ => rfl
  have xf : XfC K T.D := ⟨T.excC.hg, T.excC.hk, T.excC.hs, T.excC.hd⟩
  refine F.ok sc_law (fun vs H Q E h => ?_) (fun cdv A outer s H vs Q E hr h => ?_)
  · obtain ⟨a, ns, rfl, _⟩ := h
    rfl
  · obtain ⟨sc, ns, rfl, hS, tabT, tabR, tabC, tabF, q⟩ := h
    have nd := sc_law.nd
    have hr3 : Room 3 _ := hr.mono (by decide)
    have hr2 : Room 2 _ := hr.mono (by decide)
    have hr1 : Room 1 _ := hr.mono (by decide)
    refine ⟨_, pss_cons (ps_set (i := 1) nd rfl (.inl rfl) (pe_call GB hr3 (by rfl) T.gBox T.box.kp bB .nil pass0 (pa_cons (pv 0) (pa_cons pe_int (pa_cons pe_int pa_nil)))))
      (pss_cons (ps_for PassesOwn.never rfl (pi_range1 (by rfl) T.mrange (pa_cons pe_int pa_nil)) (pg_name (i := 2) nd rfl (.inl rfl))
        (pss_cons (ps_set (i := 3) nd rfl (.inl rfl) (pe_call GA hr2 (by rfl) T.gAlpha T.alpha.kp bA .nil pass0 (pa_cons (pv 1) (pa_cons pe_int pa_nil))))
        (pss_cons (ps_for PassesOwn.never rfl (pi_str (pe_ix ix_tup (pv 3) pe_int (fun _ _ => rfl))) (pg_name (i := 4) nd rfl (.inl rfl))
          (pss_one (ps_for PassesOwn.never rfl (pi_str (pe_ix ix_tup (pv 3) pe_int (fun _ _ => rfl))) (pg_name (i := 5) nd rfl (.inl rfl))
            (pss_one (ps_if (pt_not (pt_val (pe_call GS hr2 (by rfl) T.gSame T.same.kp bS .nil pass0 (pa_cons (pe_call GI hr1 (by rfl) T.gInd T.ind.kp bI .nil pass0 (pa_cons (pv 3) (pa_cons (pv 4) (pa_cons (pv 5) pa_nil))))
                (pa_cons (pe_call GL hr1 (by rfl) T.gLFree T.lfree.kp bL .nil pass0 (pa_cons (pv 3) (pa_cons (pv 4) (pa_cons (pv 5) pa_nil)))) pa_nil)))))
              (pss_one (ps_ret pe_bl)) pss_nil)))))
        (pss_cons (ps_set (i := 6) nd rfl (.inl rfl) (pe_call GW hr2 (by rfl) T.gWord T.word.kp bW .nil pass0 (pa_cons (pv 1) (pa_cons (pv 3) (pa_cons pe_int pa_nil)))))
        (pss_cons (ps_set (i := 7) nd rfl (.inl rfl) (pe_call GW hr2 (by rfl) T.gWord T.word.kp bW .nil pass0 (pa_cons (pv 1) (pa_cons (pv 3) (pa_cons pe_int pa_nil)))))
        (pss_cons (ps_if (pt_not (pt_val (pe_call GS hr2 (by rfl) T.gSame T.same.kp bS .nil pass0 (pa_cons (pe_call GF hr3 (by rfl) T.gFree T.free.kp bF .nil pass0 (pa_cons (pv 3) (pa_cons (pv 6) (pa_cons (pv 7) pa_nil))))
            (pa_cons (pe_call GP hr2 (by rfl) T.gApart T.apart.kp bP .nil pass0 (pa_cons (pv 3) (pa_cons (pv 6) (pa_cons (pv 7) pa_nil)))) pa_nil)))))
          (pss_one (ps_ret pe_bl)) pss_nil)
        (pss_cons (ps_if (pt_not (pt_val (pe_call GS hr2 (by rfl) T.gSame T.same.kp bS .nil pass0 (pa_cons (pe_call GT hr1 (by rfl) T.gTaken T.taken.kp bT .nil pass0 (pa_cons (pv 6) (pa_cons (pv 7) pa_nil)))
            (pa_cons (pe_call GO hr1 (by rfl) T.gOnly T.only.kp bO .nil pass0 (pa_cons (pv 6) (pa_cons (pe_callTy (call_listT (by rfl)) (by rfl) T.mlist (by decide +kernel) (pa_cons (pv 7) pa_nil)) pa_nil))) pa_nil)))))
          (pss_one (ps_ret pe_bl)) pss_nil)
        (pss_cons (ps_for PassesOwn.never rfl (pi_range1 (by rfl) T.mrange (pa_cons (pe_call GD hr1 (by rfl) T.gDraw T.draw.kp bD .nil pass0 (pa_cons (pv 1) (pa_cons pe_int pa_nil))) pa_nil)) (pg_name (i := 8) nd rfl (.inl rfl))
          (pss_one (ps_set (i := 3) nd rfl (.inl rfl) (pe_call (ok_spoiltA T.spoilt T.draw T.gDraw T.mlen T.mint) hr2 (by rfl) T.gSpoilt T.spoilt.kp bQ .nil pass0 (pa_cons (pv 1) (pa_cons (pv 3) pa_nil))))))
        (pss_cons (ps_set (i := 9) nd rfl (.inl rfl) (pe_call GU hr1 (by rfl) T.gAFault T.afault.kp bU .nil pass0 (pa_cons (pv 3) pa_nil)))
        (pss_one (L2N.ps_try_as (i := 10) rfl rfl nd rfl rfl ⟨rfl, by decide, .inl T.fault.g⟩ takesN (fun W pn xe tk _ =>
            pss_one (ps_if (PW.pt (pw_or (pt_cmpR op_notN (pe_callS GK hr3 (by rfl) T.gCheck T.check.kp bK (fun σ => L2N.passAt tk σ) (pa_cons (pv 3) pa_nil)) pe_non (nomark _))
              (pw_or1 (pt_cmpR op_notN (pv 9) pe_non (nomark _)))))
              (pss_one (ps_ret pe_bl)) pss_nil))
          (fun a oe cls d pn hz hf =>
            pss_one (ps_if (PW.pt (pw_or (pt_val (pe_callB (call_isD T.excC hz.zc hf) (by rfl) T.misi (by decide +kernel) (pa_cons (pv 10) (pa_cons (pe_glob (v := .ref T.DX) (by rfl) T.gX rfl) pa_nil))))
                (pw_or (pt_not (pt_val (pe_callB (call_isD T.excC hz.zc hf) (by rfl) T.misi (by decide +kernel) (pa_cons (pv 10) (pa_cons (pe_bltn (v := .ty "ValueError") (by rfl) T.mVE PyProof.Rows.Boot.«ValueError» rfl) pa_nil)))))
                (pw_or1 (pt_not (pt_val (L2H.pe_callH GH (L2H.roomH_mark hr1 _) (hot_suite hz hf) (by rfl) T.gSame T.same.kp bS (passH (fun _ => E0)) (pa_cons (pe_xf xf T.noR hz.zc hf (pv 10)) (pa_cons (pv 9) pa_nil)))))))))
              (pss_one (ps_ret pe_bl)) pss_nil)))))))))))))
      (pss_one (ps_ret pe_bl))), ?_⟩
    refine ⟨.ref sc, rfl, sc, ns, rfl, hS, fun b dl H1 sm1 nb hB1 => ?_⟩
    have tb : ∀ {Px : Addr} {Ha Hb : Hp}, GxR.TabG Ha Px → Same Ha Hb → GxR.TabG Hb Px := fun ⟨rows, x1, x2⟩ sm => ⟨rows, sm _ _ x1, x2⟩
    have keep : ∀ {P Q : Addr} {H H' : Hp}, GxR.TabG H P → Mv [Q] H H' → GxR.TabG H' Q → GxR.TabG H' P := fun {P Q H H'} h m h' => by
      by_cases e : P = Q
      · rw [e]
        exact h'
      · obtain ⟨rows, t1, t2⟩ := h
        exact ⟨rows, m P _ (fun z => e (List.mem_singleton.mp z)) t1, t2⟩
    refine ⟨6, rfl, by decide, by decide, for_range (lo := 0) (n := 6) (fun i σ H' => ∃ y2 y3 y4 y5 y6 y7 y8 y9 y10, σ = [some (.ref sc), some (.ref b), y2, y3, y4, y5, y6, y7, y8, y9, y10] ∧ Box K b dl H' ∧ GxR.TabG H' Pt ∧ GxR.TabG H' Pr ∧ GxR.TabG H' Pc ∧ GxR.TabG H' Pf)
      ⟨none, none, none, none, none, none, none, none, none, rfl, hB1, tb tabT sm1, tb tabR sm1, tb tabC sm1, tb tabF sm1⟩ (fun i σ H2 hi hW => ?_) (fun σ H2 hW => ?_)⟩
    · obtain ⟨y2, y3, y4, y5, y6, y7, y8, y9, y10, rfl, hB2, tT2, tR2, tC2, tF2⟩ := hW
      refine ⟨.ref b, rfl, b, dl, 6, rfl, hB2, by decide, by decide, fun al n ps H3 nle dr mv3 hB3 hA3 => ?_⟩
      have n6 : n ≤ 6 := by omega
      have l6 : (alph n).length = n := alph_len n6
      have pr := dr.pairs
      have tT3 := hB2.tabG mv3 tT2
      have tR3 := hB2.tabG mv3 tR2
      have tC3 := hB2.tabG mv3 tC2
      have tF3 := hB2.tabG mv3 tF2
      have hA3' := hA3
      obtain ⟨pt, h1, h2⟩ := hA3'
      -- independent
      refine ⟨.ref al, rfl, al, _, 1, .str (tx (alph n)), rfl, rfl, h1, atI_nat (j := 1) rfl, tx (alph n), rfl, for_text (fun j σ' H' => ∃ y4 y5, σ' = [some (.ref sc), some (.ref b), some (.int (0 + (i : Int))), some (.ref al), y4, y5, y6, y7, y8, y9, y10] ∧ H' = H3)
        ⟨y4, y5, rfl, rfl⟩ (fun j x σ' H' hx hV => ?_) (fun σ' H' hV => ?_)⟩
      · obtain ⟨y4, y5, rfl, rfl⟩ := hV
        refine ⟨.ref al, rfl, al, _, 1, .str (tx (alph n)), rfl, rfl, h1, atI_nat (j := 1) rfl, tx (alph n), rfl, for_text (fun l σ' H'' => ∃ y5, σ' = [some (.ref sc), some (.ref b), some (.int (0 + (i : Int))), some (.ref al), some (.str (tx [x])), y5, y6, y7, y8, y9, y10] ∧ H'' = H')
          ⟨y5, rfl, rfl⟩ (fun l y σ' H'' hy hU => ?_) (fun σ' H'' hU => ?_)⟩
        · obtain ⟨y5, rfl, rfl⟩ := hU
          refine ⟨.ref al, rfl, .str (tx [x]), rfl, .str (tx [y]), rfl, al, x, y, alph n, ps, rfl, hA3, .ref al, rfl, .str (tx [x]), rfl, .str (tx [y]), rfl, al, x, y, alph n, ps, rfl, hA3, pr, ?_⟩
          exact ⟨.bl (ind ps x y), .bl (ind ps x y), rfl, .inl ⟨rfl, rfl⟩, true, rfl, iteF ⟨_, rfl, rfl⟩⟩
        · obtain ⟨y5, rfl, rfl⟩ := hU
          exact ⟨_, _, rfl, rfl⟩
      · obtain ⟨y4, y5, rfl, rfl⟩ := hV
        refine ⟨.ref b, rfl, .ref al, rfl, b, dl, al, 8, alph n, ps, rfl, hB3, hA3, by rw [l6]; exact dr.some, by rw [l6]; omega, by decide, by decide, fun a H4 la ia mv4 hB4 => ?_⟩
        have hA4 := hA3.mvB hB3 mv4
        refine ⟨.ref b, rfl, .ref al, rfl, b, dl, al, 3, alph n, ps, rfl, hB4, hA4, by rw [l6]; exact dr.some, by rw [l6]; omega, by decide, by decide, fun o H5 lo io mv5 hB5 => ?_⟩
        have hA5 := hA4.mvB hB4 mv5
        have tT5 := hB4.tabG mv5 (hB3.tabG mv4 tT3)
        have tR5 := hB4.tabG mv5 (hB3.tabG mv4 tR3)
        have tC5 := hB4.tabG mv5 (hB3.tabG mv4 tC3)
        have tF5 := hB4.tabG mv5 (hB3.tabG mv4 tF3)
        clear hA3 hA4 h1 h2
        -- free
        refine ⟨.ref al, rfl, .str (tx a), rfl, .str (tx o), rfl, al, a, o, alph n, ps, rfl, hA5, by omega, by omega, tF5, fun H6 mv6 tF6 => ?_⟩
        have hA6 := hA5.mvT tF5 mv6
        have hB6 := hB5.mvT mv6 tF5
        have tT6 := keep tT5 mv6 tF6
        have tR6 := keep tR5 mv6 tF6
        have tC6 := keep tC5 mv6 tF6
        refine ⟨.ref al, rfl, .str (tx a), rfl, .str (tx o), rfl, al, a, o, alph n, ps, rfl, hA6, pr, .bl (apartM ps a o), .bl (apartM ps a o), rfl, .inl ⟨rfl, rfl⟩, true, rfl, iteF ?_⟩
        -- taken_out
        refine ⟨.str (tx a), rfl, .str (tx o), rfl, a, o, rfl, by omega, tT6, fun H7 ht7 => ?_⟩
        have mv7 := Mv.tabbed ht7
        have hA7 := hA6.mvT tT6 mv7
        have hB7 := hB6.mvT mv7 tT6
        have tR7 := keep tR6 mv7 ht7.1
        have tC7 := keep tC6 mv7 ht7.1
        have tF7 := keep tF6 mv7 ht7.1
        have tT7 := ht7.1
        refine ⟨.str (tx a), rfl, .str (tx o), rfl, o, rfl, by omega, fun p np => ⟨a, o, p, rfl, SqL.of upd_same, by omega, .str _, .str _, rfl, .inl ⟨rfl, rfl⟩, true, rfl, iteF ?_⟩⟩
        have hA8 := hA7.same (same_new (o := .lst (o.map fun c => .str (tx [c]))) np)
        have hB8 := hB7.same (same_new (o := .lst (o.map fun c => .str (tx [c]))) np)
        have tT8 := tb tT7 (same_new (o := .lst (o.map fun c => .str (tx [c]))) np)
        have tR8 := tb tR7 (same_new (o := .lst (o.map fun c => .str (tx [c]))) np)
        have tC8 := tb tC7 (same_new (o := .lst (o.map fun c => .str (tx [c]))) np)
        have tF8 := tb tF7 (same_new (o := .lst (o.map fun c => .str (tx [c]))) np)
        generalize upd H7 p (.lst (o.map fun c => .str (tx [c]))) = H8 at hA8 hB8 tT8 tR8 tC8 tF8
        -- the alphabet is spoilt
        refine ⟨.ref b, rfl, b, dl, 3, rfl, hB8, by decide, fun r H9 r0 r3 mv9 hB9 => ?_⟩
        obtain ⟨rn, rfl⟩ : ∃ rn : Nat, r = (rn : Int) := ⟨r.toNat, by omega⟩
        have rn2 : rn ≤ 2 := by omega
        have hA9 := hA8.mvB hB8 mv9
        have tT9 := hB8.tabG mv9 tT8
        have tR9 := hB8.tabG mv9 tR8
        have tC9 := hB8.tabG mv9 tC8
        have tF9 := hB8.tabG mv9 tF8
        have short0 : ∀ p ∈ ps, p.length ≤ 3 := fun p hp => by
          obtain ⟨x, y, rfl, _⟩ := pr p hp
          show 2 ≤ 3
          decide
        refine ⟨(rn : Int), rfl, by omega, by omega, ?_⟩
        rw [show ((rn : Int)).toNat = rn from rfl]
        refine for_range (lo := 0) (n := rn) (fun j σ' H' => ∃ (al' : Addr) (ls' : List Nat) (ps' : List (List Nat)) (y4 y5 y8 : Option V), σ' = [some (.ref sc), some (.ref b), some (.int (0 + (i : Int))), some (.ref al'), y4, y5, some (.str (tx a)), some (.str (tx o)), y8, y9, y10] ∧ Box K b dl H' ∧ Alpha K H' al' ls' ps' ∧
            ls'.length + 1 ≤ 7 * 2 ^ j ∧ ps'.length ≤ 36 + j ∧ (∀ p ∈ ps', p.length ≤ 3) ∧ GxR.TabG H' Pt ∧ GxR.TabG H' Pr ∧ GxR.TabG H' Pc ∧ GxR.TabG H' Pf)
          ⟨al, alph n, ps, y4, y5, y8, rfl, hB9, hA9, by rw [l6]; omega, drawn_len dr, short0, tT9, tR9, tC9, tF9⟩ (fun j σ' H' hj hV => ?_) (fun σ' H' hV => ?_)
        · obtain ⟨al', ls', ps', y4, y5, y8, rfl, hB', hA', ll', lp', sh', tT', tR', tC', tF'⟩ := hV
          have pw : 7 * 2 ^ j ≤ 14 := by
            have : j = 0 ∨ j = 1 := by omega
            rcases this with rfl | rfl <;> decide
          refine ⟨.ref b, rfl, .ref al', rfl, ls'.length, ps'.length, b, dl, al', ls', ps', rfl, hB', hA', Nat.le_refl _, Nat.le_refl _, sh', by omega, by omega, fun al2 ls2 ps2 H2' mv2 hB2' hA2' l2 p2 s2 => ?_⟩
          refine ⟨al2, ls2, ps2, y4, y5, _, rfl, hB2', hA2', by rw [Nat.pow_succ]; omega, by omega, s2, hB'.tabG mv2 tT', hB'.tabG mv2 tR', hB'.tabG mv2 tC', hB'.tabG mv2 tF'⟩
        · obtain ⟨al', ls', ps', y4, y5, y8, rfl, hB', hA', ll', lp', sh', tT', tR', tC', tF'⟩ := hV
          have pw : 7 * 2 ^ rn ≤ 28 := by
            have : rn = 0 ∨ rn = 1 ∨ rn = 2 := by omega
            rcases this with rfl | rfl | rfl <;> decide
          -- what is due
          refine ⟨.ref al', rfl, al', ls', ps', rfl, hA', by omega, by omega, fun p hp => Nat.le_trans (sh' p hp) (by decide), ?_⟩
          have each : ∀ {Hx : Hp}, GxR.TabG Hx Pr → GxR.TabG Hx Pt → GxR.TabG Hx Pc → ∀ P ∈ [Pr, Pt, Pc], GxR.TabG Hx P := fun a1 a2 a3 P hP => by
            rcases List.mem_cons.mp hP with rfl | hP
            · exact a1
            rcases List.mem_cons.mp hP with rfl | hP
            · exact a2
            rw [List.mem_singleton.mp hP]
            exact a3
          refine ⟨.ref al', rfl, al', ls', ps', rfl, hA', tR', tT', tC', by omega, by omega, fun non H14 mv14 t1 t2 t3 => ?_, fun z hz d H14 mv14 t1 t2 t3 hd => ?_⟩
          · have hB14 := box_many hB' mv14 (each tR' tT' tC')
            have tF14 := tab_many tF' mv14 (each t1 t2 t3)
            rw [check_fault] at non
            refine ⟨rfl, false, rfl, iteF ⟨faultV (faultM ls' ps'), rfl, ?_⟩⟩
            rw [non]
            refine ⟨rfl, false, rfl, iteF ?_⟩
            exact ⟨_, _, _, _, _, _, _, _, _, rfl, hB14, t2, t1, t3, tF14⟩
          · have hB14 := box_many hB' mv14 (each tR' tT' tC')
            have tF14 := tab_many tF' mv14 (each t1 t2 t3)
            rw [check_fault] at hz
            refine ⟨true, T.te, fun _ e ne => ?_, fun z => nomatch z⟩
            refine ⟨.ref e, rfl, .ref T.DX, .ref T.DX, false, d, [("reason", .str z)], rfl, rfl, rfl, fun u r => r, T.notX, hd, false, rfl, iteF ?_⟩
            refine ⟨.ref e, rfl, .ty "ValueError", .type "ValueError", true, d, [("reason", .str z)], rfl, rfl, rfl, fun u r => r, T.isV, hd, true, rfl, iteF ?_⟩
            refine ⟨.ref e, rfl, rfl, rfl, d, [("reason", .str z)], .str z, rfl, hd, rfl, faultV (faultM ls' ps'), rfl, ?_⟩
            rw [hz]
            refine ⟨z, rfl, true, rfl, iteF ?_⟩
            exact ⟨_, _, _, _, _, _, _, _, _, rfl, hB14, t2, t1, t3, tF14⟩
    · obtain ⟨y2, y3, y4, y5, y6, y7, y8, y9, y10, rfl, _⟩ := hW
      exact q H2
end
end Tc
namespace Tc
open PySem PySem.Spec PyProof.Rows L2 TcG
section
variable {P : Program} {w : World} {K : PySem.W.Frag} {mg : Str → Option Value} {base : Heap}
theorem ok_law2 {f Pt Pr Pc Pf : Addr} {fd : FuncData} (F : Fun K "law" "law" s_law f fd) (T : Text P w K mg base Pt Pr Pc Pf) :
    FnOk P w K mg base CX0 5 f fd ["script"] (sp_law K Pt Pr Pc Pf) :=
  ok_law F T ((ok_freeT T.free T.tFree T.mall T.ind T.gInd T.mmin T.mmax).imp fun vs H Q E h => by
    obtain ⟨al, a, b, ls, ps, e, ah, _, _, tab, q⟩ := h
    exact ⟨al, a, b, ls, ps, e, ah, tab, fun H' tb => q H' (Mv.tabbed tb) tb.1⟩)
end
end Tc
/-! The end: where each def stands. -/
namespace Tc
open PySem PySem.Spec PyProof.Rows L2 TcG
open LamX in
theorem all_mk {l : PySem.W.OpenLaw} {w : World} {K : PySem.W.Frag} {h : Heap} {mg : Str → Option Value} {fa : Addr} (X : K.In h) (G : h.Ns mainGlobals mg) (hfa : mg "law" = some (.ref fa))
    {f0 : Addr} {od0 an0 : Option Addr} {sl0 : Array (Option Value)} {oc0 kV0 dc0 pm0 cd0 ct0 : Value}
    {f1 : Addr} {od1 an1 : Option Addr} {sl1 : Array (Option Value)} {oc1 kV1 dc1 pm1 cd1 ct1 : Value}
    {f2 : Addr} {od2 an2 : Option Addr} {sl2 : Array (Option Value)} {oc2 kV2 dc2 pm2 cd2 ct2 : Value}
    {f3 : Addr} {od3 an3 : Option Addr} {sl3 : Array (Option Value)} {oc3 kV3 dc3 pm3 cd3 ct3 : Value}
    {f4 : Addr} {od4 an4 : Option Addr} {sl4 : Array (Option Value)} {oc4 kV4 dc4 pm4 cd4 ct4 : Value}
    {f5 : Addr} {od5 an5 : Option Addr} {sl5 : Array (Option Value)} {oc5 kV5 dc5 pm5 cd5 ct5 : Value}
    {f6 : Addr} {od6 an6 : Option Addr} {sl6 : Array (Option Value)} {oc6 kV6 dc6 pm6 cd6 ct6 : Value}
    {f7 : Addr} {od7 an7 : Option Addr} {sl7 : Array (Option Value)} {oc7 kV7 dc7 pm7 cd7 ct7 : Value}
    {f8 : Addr} {od8 an8 : Option Addr} {sl8 : Array (Option Value)} {oc8 kV8 dc8 pm8 cd8 ct8 : Value}
    {f9 : Addr} {od9 an9 : Option Addr} {sl9 : Array (Option Value)} {oc9 kV9 dc9 pm9 cd9 ct9 : Value}
    {f10 : Addr} {od10 an10 : Option Addr} {sl10 : Array (Option Value)} {oc10 kV10 dc10 pm10 cd10 ct10 : Value}
    {f11 : Addr} {od11 an11 : Option Addr} {sl11 : Array (Option Value)} {oc11 kV11 dc11 pm11 cd11 ct11 : Value}
    {f12 : Addr} {od12 an12 : Option Addr} {sl12 : Array (Option Value)} {oc12 kV12 dc12 pm12 cd12 ct12 : Value}
    {f13 : Addr} {od13 an13 : Option Addr} {sl13 : Array (Option Value)} {oc13 kV13 dc13 pm13 cd13 ct13 : Value}
    {f14 : Addr} {od14 an14 : Option Addr} {sl14 : Array (Option Value)} {oc14 kV14 dc14 pm14 cd14 ct14 : Value}
    {F0 C0 P0 : Addr} {OD0 AN0 DD0 : Option Addr} {SL0 TL0 : Array (Option Value)} {OC0 KV0 DC0 PM0 CT0 E0 : Value} {VS0 : Array Value}
    {F1 C1 P1 : Addr} {OD1 AN1 DD1 : Option Addr} {SL1 TL1 : Array (Option Value)} {OC1 KV1 DC1 PM1 CT1 E1 : Value} {VS1 : Array Value}
    {F2 C2 P2 : Addr} {OD2 AN2 DD2 : Option Addr} {SL2 TL2 : Array (Option Value)} {OC2 KV2 DC2 PM2 CT2 E2 : Value} {VS2 : Array Value}
    {F3 C3 P3 : Addr} {OD3 AN3 DD3 : Option Addr} {SL3 TL3 : Array (Option Value)} {OC3 KV3 DC3 PM3 CT3 E3 : Value} {VS3 : Array Value}
    {lt : Tok}
    {D fI cc cI DA N0c : Addr} {nmD qD : Str} {bsD bmD : List Value} {snD : List Str} {subD : List Value} {abD : Bool} {colD : Option Bool} {ddD : Option Addr} {m0 m1 m2 m3 m5 : Option Value}
    {ocI kVI docI pmI ctI : Value} {odI anI : Option Addr} {oslI : Array (Option Value)} {cclI : Value} {cddI : Option Addr} {vsI : Array Value} {ccsI : Array (Option Value)} {flI : Str} {tfI : Tok} {clI : Value} {cldI : Option Addr} {cslI : Array (Option Value)} {cdD : ClassData}
    (a0 : PySem.W.nsIn K mainGlobals "_law_cell" = some (some (.ref f0))) (l0 : K.lookup f0 = some ⟨oc0, od0, .func (PySem.W.fnOf "_law_cell" "_law_cell" (defArgs s_law_cell) (defBody s_law_cell) (defScope s_law_cell) .none kV0 dc0 pm0 an0 cd0 ct0), sl0⟩) (c0 : PySem.W.codeIn K cd0 "_law_cell" = true) (k0 : PySem.W.keepIn K (.ref f0) = true)
    (a1 : PySem.W.nsIn K mainGlobals "_law_digits" = some (some (.ref f1))) (l1 : K.lookup f1 = some ⟨oc1, od1, .func (PySem.W.fnOf "_law_digits" "_law_digits" (defArgs s_law_digits) (defBody s_law_digits) (defScope s_law_digits) .none kV1 dc1 pm1 an1 cd1 ct1), sl1⟩) (c1 : PySem.W.codeIn K cd1 "_law_digits" = true) (k1 : PySem.W.keepIn K (.ref f1) = true)
    (a2 : PySem.W.nsIn K mainGlobals "_law_box" = some (some (.ref f2))) (l2 : K.lookup f2 = some ⟨oc2, od2, .func (PySem.W.fnOf "_law_box" "_law_box" (defArgs s_law_box) (defBody s_law_box) (defScope s_law_box) .none kV2 dc2 pm2 an2 cd2 ct2), sl2⟩) (c2 : PySem.W.codeIn K cd2 "_law_box" = true) (k2 : PySem.W.keepIn K (.ref f2) = true)
    (a3 : PySem.W.nsIn K mainGlobals "_law_draw" = some (some (.ref f3))) (l3 : K.lookup f3 = some ⟨oc3, od3, .func (PySem.W.fnOf "_law_draw" "_law_draw" (defArgs s_law_draw) (defBody s_law_draw) (defScope s_law_draw) .none kV3 dc3 pm3 an3 cd3 ct3), sl3⟩) (c3 : PySem.W.codeIn K cd3 "_law_draw" = true) (k3 : PySem.W.keepIn K (.ref f3) = true)
    (a4 : PySem.W.nsIn K mainGlobals "_law_alphabet" = some (some (.ref f4))) (l4 : K.lookup f4 = some ⟨oc4, od4, .func (PySem.W.fnOf "_law_alphabet" "_law_alphabet" (defArgs s_law_alphabet) (defBody s_law_alphabet) (defScope s_law_alphabet) .none kV4 dc4 pm4 an4 cd4 ct4), sl4⟩) (c4 : PySem.W.codeIn K cd4 "_law_alphabet" = true) (k4 : PySem.W.keepIn K (.ref f4) = true)
    (a5 : PySem.W.nsIn K mainGlobals "_law_word" = some (some (.ref f5))) (l5 : K.lookup f5 = some ⟨oc5, od5, .func (PySem.W.fnOf "_law_word" "_law_word" (defArgs s_law_word) (defBody s_law_word) (defScope s_law_word) .none kV5 dc5 pm5 an5 cd5 ct5), sl5⟩) (c5 : PySem.W.codeIn K cd5 "_law_word" = true) (k5 : PySem.W.keepIn K (.ref f5) = true)
    (a6 : PySem.W.nsIn K mainGlobals "_law_free" = some (some (.ref f6))) (l6 : K.lookup f6 = some ⟨oc6, od6, .func (PySem.W.fnOf "_law_free" "_law_free" (defArgs s_law_free) (defBody s_law_free) (defScope s_law_free) .none kV6 dc6 pm6 an6 cd6 ct6), sl6⟩) (c6 : PySem.W.codeIn K cd6 "_law_free" = true) (k6 : PySem.W.keepIn K (.ref f6) = true)
    (a7 : PySem.W.nsIn K mainGlobals "_law_apart" = some (some (.ref f7))) (l7 : K.lookup f7 = some ⟨oc7, od7, .func (PySem.W.fnOf "_law_apart" "_law_apart" (defArgs s_law_apart) (defBody s_law_apart) (defScope s_law_apart) .none kV7 dc7 pm7 an7 cd7 ct7), sl7⟩) (c7 : PySem.W.codeIn K cd7 "_law_apart" = true) (k7 : PySem.W.keepIn K (.ref f7) = true)
    (a8 : PySem.W.nsIn K mainGlobals "_law_only" = some (some (.ref f8))) (l8 : K.lookup f8 = some ⟨oc8, od8, .func (PySem.W.fnOf "_law_only" "_law_only" (defArgs s_law_only) (defBody s_law_only) (defScope s_law_only) .none kV8 dc8 pm8 an8 cd8 ct8), sl8⟩) (c8 : PySem.W.codeIn K cd8 "_law_only" = true) (k8 : PySem.W.keepIn K (.ref f8) = true)
    (a9 : PySem.W.nsIn K mainGlobals "_law_spoilt_alphabet" = some (some (.ref f9))) (l9 : K.lookup f9 = some ⟨oc9, od9, .func (PySem.W.fnOf "_law_spoilt_alphabet" "_law_spoilt_alphabet" (defArgs s_law_spoilt_alphabet) (defBody s_law_spoilt_alphabet) (defScope s_law_spoilt_alphabet) .none kV9 dc9 pm9 an9 cd9 ct9), sl9⟩) (c9 : PySem.W.codeIn K cd9 "_law_spoilt_alphabet" = true) (k9 : PySem.W.keepIn K (.ref f9) = true)
    (a10 : PySem.W.nsIn K mainGlobals "_law_alphabet_fault" = some (some (.ref f10))) (l10 : K.lookup f10 = some ⟨oc10, od10, .func (PySem.W.fnOf "_law_alphabet_fault" "_law_alphabet_fault" (defArgs s_law_alphabet_fault) (defBody s_law_alphabet_fault) (defScope s_law_alphabet_fault) .none kV10 dc10 pm10 an10 cd10 ct10), sl10⟩) (c10 : PySem.W.codeIn K cd10 "_law_alphabet_fault" = true) (k10 : PySem.W.keepIn K (.ref f10) = true)
    (a11 : PySem.W.nsIn K mainGlobals "_law_same" = some (some (.ref f11))) (l11 : K.lookup f11 = some ⟨oc11, od11, .func (PySem.W.fnOf "_law_same" "_law_same" (defArgs s_law_same) (defBody s_law_same) (defScope s_law_same) .none kV11 dc11 pm11 an11 cd11 ct11), sl11⟩) (c11 : PySem.W.codeIn K cd11 "_law_same" = true) (k11 : PySem.W.keepIn K (.ref f11) = true)
    (a12 : PySem.W.nsIn K mainGlobals "letter_pairs" = some (some (.ref f12))) (l12 : K.lookup f12 = some ⟨oc12, od12, .func (PySem.W.fnOf "letter_pairs" "letter_pairs" (defArgs s_letter_pairs) (defBody s_letter_pairs) (defScope s_letter_pairs) .none kV12 dc12 pm12 an12 cd12 ct12), sl12⟩) (c12 : PySem.W.codeIn K cd12 "letter_pairs" = true) (k12 : PySem.W.keepIn K (.ref f12) = true)
    (a13 : PySem.W.nsIn K mainGlobals "independent" = some (some (.ref f13))) (l13 : K.lookup f13 = some ⟨oc13, od13, .func (PySem.W.fnOf "independent" "independent" (defArgs s_independent) (defBody s_independent) (defScope s_independent) .none kV13 dc13 pm13 an13 cd13 ct13), sl13⟩) (c13 : PySem.W.codeIn K cd13 "independent" = true) (k13 : PySem.W.keepIn K (.ref f13) = true)
    (a14 : PySem.W.nsIn K mainGlobals "law" = some (some (.ref f14))) (l14 : K.lookup f14 = some ⟨oc14, od14, .func (PySem.W.fnOf "law" "law" (defArgs s_law) (defBody s_law) (defScope s_law) .none kV14 dc14 pm14 an14 cd14 ct14), sl14⟩) (c14 : PySem.W.codeIn K cd14 "law" = true) (k14 : PySem.W.keepIn K (.ref f14) = true)
    (A0 : PySem.W.nsIn K mainGlobals "taken_out" = some (some (.ref F0))) (L0 : K.lookup F0 = some ⟨OC0, OD0, .func (PySem.W.fnOf "taken_out" "taken_out" (defArgs s_taken_out) (defBody s_taken_out) (defScope s_taken_out) .none KV0 DC0 PM0 AN0 (.ref C0) CT0), SL0⟩) (I0 : PySem.W.codeIn K (.ref C0) "taken_out" = true) (G0 : PySem.W.keepIn K (.ref F0) = true)
    (R0 : K.lookup C0 = some ⟨E0, DD0, .fields VS0, TL0⟩) (Q0 : VS0[11]? = some (.ref P0)) (N0 : K.lookup P0 = none) (Y0 : TabOf mg h "taken_out")
    (A1 : PySem.W.nsIn K mainGlobals "rising" = some (some (.ref F1))) (L1 : K.lookup F1 = some ⟨OC1, OD1, .func (PySem.W.fnOf "rising" "rising" (defArgs s_rising) (defBody s_rising) (defScope s_rising) .none KV1 DC1 PM1 AN1 (.ref C1) CT1), SL1⟩) (I1 : PySem.W.codeIn K (.ref C1) "rising" = true) (G1 : PySem.W.keepIn K (.ref F1) = true)
    (R1 : K.lookup C1 = some ⟨E1, DD1, .fields VS1, TL1⟩) (Q1 : VS1[11]? = some (.ref P1)) (N1 : K.lookup P1 = none) (Y1 : TabOf mg h "rising")
    (A2 : PySem.W.nsIn K mainGlobals "check" = some (some (.ref F2))) (L2 : K.lookup F2 = some ⟨OC2, OD2, .func (PySem.W.fnOf "check" "check" (defArgs s_check) (defBody s_check) (defScope s_check) .none KV2 DC2 PM2 AN2 (.ref C2) CT2), SL2⟩) (I2 : PySem.W.codeIn K (.ref C2) "check" = true) (G2 : PySem.W.keepIn K (.ref F2) = true)
    (R2 : K.lookup C2 = some ⟨E2, DD2, .fields VS2, TL2⟩) (Q2 : VS2[11]? = some (.ref P2)) (N2 : K.lookup P2 = none) (Y2 : TabOf mg h "check")
    (A3 : PySem.W.nsIn K mainGlobals "free" = some (some (.ref F3))) (L3 : K.lookup F3 = some ⟨OC3, OD3, .func (PySem.W.fnOf "free" "free" (defArgs s_free) (defBody s_free) (defScope s_free) .none KV3 DC3 PM3 AN3 (.ref C3) CT3), SL3⟩) (I3 : PySem.W.codeIn K (.ref C3) "free" = true) (G3 : PySem.W.keepIn K (.ref F3) = true)
    (R3 : K.lookup C3 = some ⟨E3, DD3, .fields VS3, TL3⟩) (Q3 : VS3[11]? = some (.ref P3)) (N3 : K.lookup P3 = none) (Y3 : TabOf mg h "free")
    (z0 : PySem.W.nsIn K mainGlobals "len" = some none)
    (z1 : PySem.W.nsIn K mainGlobals "range" = some none)
    (z2 : PySem.W.nsIn K mainGlobals "int" = some none)
    (z3 : PySem.W.nsIn K mainGlobals "min" = some none)
    (z4 : PySem.W.nsIn K mainGlobals "max" = some none)
    (z5 : PySem.W.nsIn K mainGlobals "sorted" = some none)
    (z6 : PySem.W.nsIn K mainGlobals "tuple" = some none)
    (z7 : PySem.W.nsIn K mainGlobals "bool" = some none)
    (z8 : PySem.W.nsIn K mainGlobals "str" = some none)
    (z9 : PySem.W.nsIn K mainGlobals "isinstance" = some none)
    (z10 : PySem.W.nsIn K mainGlobals "list" = some none)
    (z11 : PySem.W.nsIn K mainGlobals "all" = some none)
    (z12 : PySem.W.nsIn K mainGlobals "zip" = some none)
    (z13 : PySem.W.nsIn K mainGlobals "ValueError" = some none)
    (y0 : PySem.W.nsIn K mainGlobals "LETTERS" = some (some (.str "abcdef" lt)))
    (x0 : PySem.W.nsIn K mainGlobals "AlphabetFault" = some (some (.ref D))) (x1 : K.lookup D = some (excClassObj nmD qD D N0c bsD bmD true snD subD abD colD ddD m0 m1 m2 m3 m5 "ValueError.__new__")) (x2 : PySem.HandSPX.refsVE bmD = true)
    (x3 : PySem.W.findIn K (.ref D) "__setattr__" = some (some (.builtin "object.__setattr__"))) (x4 : PySem.W.subIn K (.ref D) (.type "BaseException") = some true) (x5 : PySem.W.typeIn K (.ref D) = some (.type "type")) (x6 : PySem.W.keepIn K (.ref D) = true)
    (x7 : PySem.W.findIn K (.ref D) "__init__" = some (some (.ref fI))) (x8 : PySem.W.typeIn K (.ref fI) = some (.type "function"))
    (x9 : K.lookup fI = some ⟨ocI, odI, .func (PySem.W.fnX "__init__" "AlphabetFault.__init__" (defArgs s_AlphabetFault_init) (defBody s_AlphabetFault_init) (defScope s_AlphabetFault_init) [("__class__", cc)] .none kVI docI pmI anI (.ref cI) ctI), oslI⟩)
    (x10 : PySem.W.codeIn K (.ref cI) "AlphabetFault.__init__" = true) (x11 : K.lookup cI = some ⟨cclI, cddI, .fields vsI, ccsI⟩) (x12 : vsI[2]? = some (.str flI tfI)) (x13 : ((l.prog.main.file : Str) == flI) = true) (x14 : K.lookup cc = some ⟨clI, cldI, .cell (some (.ref D)), cslI⟩)
    (x15 : PySem.W.clsIn K D = some cdD) (x16 : (l.prog.main.scope.names.lookup ("super" : Str)).isSome = false) (x17 : PySem.W.nsIn K mainGlobals "super" = some none) (x18 : PySem.W.ks_superIn K D D "__init__" = some (some (.builtin "ValueError.__init__")))
    (x19 : PySem.W.subIn K (.ref D) (.type "ValueError") = some true) (x20 : PySem.W.mroIn K D (.ref D) = some true) (x21 : PySem.W.nsIn K cStatics "thirdparty.any" = some none) (x22 : PySem.W.findIn K (.ref D) "reason" = some none)
    (x23 : PySem.W.findIn K (.ref D) "__getattribute__" = some (some (.builtin "BaseException.__getattribute__"))) (x24 : PySem.W.findIn K (.ref D) "__getattr__" = some none) (x25 : PySem.W.hasDictIn K D = true) (x26 : PySem.W.findIn K (.ref D) "__class__" = some (some (.builtin "object.__class__")))
    (x27 : PySem.W.specialIn K (.builtin "object.__class__") "__get__" = some (some (.builtin "getset_descriptor.__get__"))) (x28 : PySem.W.takesIn K (.builtin "object.__class__") = some true) (x29 : PySem.W.mroIn K D (.type "object") = some true) (x30 : PySem.W.isClsIn K D = true) (x31 : PySem.W.subIn K (.ref D) (.ref D) = some true)
    (x32 : PySem.W.nsIn K mainGlobals "ExchangeFault" = some (some (.ref DA))) (x33 : PySem.W.isClsIn K DA = true) (x34 : PySem.W.typeIn K (.ref DA) = some (.type "type")) (x35 : PySem.W.subIn K (.ref D) (.ref DA) = some false)
    : LawAtS l w K CX0 5 63 "script" mg fa h := by
  have e := hfa.symm.trans (PySem.W.mg_of X G a14)
  cases e
  have F100 := fun_mk (st := s_law_cell) l0 c0 k0
  have F101 := fun_mk (st := s_law_digits) l1 c1 k1
  have F102 := fun_mk (st := s_law_box) l2 c2 k2
  have F103 := fun_mk (st := s_law_draw) l3 c3 k3
  have F104 := fun_mk (st := s_law_alphabet) l4 c4 k4
  have F105 := fun_mk (st := s_law_word) l5 c5 k5
  have F106 := fun_mk (st := s_law_free) l6 c6 k6
  have F107 := fun_mk (st := s_law_apart) l7 c7 k7
  have F108 := fun_mk (st := s_law_only) l8 c8 k8
  have F109 := fun_mk (st := s_law_spoilt_alphabet) l9 c9 k9
  have F110 := fun_mk (st := s_law_alphabet_fault) l10 c10 k10
  have F111 := fun_mk (st := s_law_same) l11 c11 k11
  have F112 := fun_mk (st := s_letter_pairs) l12 c12 k12
  have F113 := fun_mk (st := s_independent) l13 c13 k13
  have F114 := fun_mk (st := s_law) l14 c14 k14
  have T0 := tab_at X Y0 (PySem.W.mg_of X G A0) L0 rfl R0 Q0
  have D0 := func_mk (st := s_taken_out) L0 I0 G0
  have T1 := tab_at X Y1 (PySem.W.mg_of X G A1) L1 rfl R1 Q1
  have D1 := func_mk (st := s_rising) L1 I1 G1
  have T2 := tab_at X Y2 (PySem.W.mg_of X G A2) L2 rfl R2 Q2
  have D2 := func_mk (st := s_check) L2 I2 G2
  have T3 := tab_at X Y3 (PySem.W.mg_of X G A3) L3 rfl R3 Q3
  have D3 := func_mk (st := s_free) L3 I3 G3
  refine ⟨PySem.W.fnOf "law" "law" (defArgs s_law) (defBody s_law) (defScope s_law) .none kV14 dc14 pm14 an14 cd14 ct14, [(C0, P0), (C1, P1), (C2, P2), (C3, P3)], sp_law K P0 P1 P2 P3, ?_, ?_, ?_, fun s u => .of_eq rfl, ?_, ?_⟩
  · intro p hp
    simp only [List.mem_cons, List.not_mem_nil, or_false] at hp
    rcases hp with rfl | rfl | rfl | rfl
    · exact T0.2
    · exact T1.2
    · exact T2.2
    · exact T3.2
  · intro p hp
    simp only [List.mem_cons, List.not_mem_nil, or_false] at hp
    rcases hp with rfl | rfl | rfl | rfl
    · exact N0
    · exact N1
    · exact N2
    · exact N3
  · intro p hp
    simp only [List.mem_cons, List.not_mem_nil, or_false] at hp
    rcases hp with rfl | rfl | rfl | rfl
    · exact T0.1
    · exact T1.1
    · exact T2.1
    · exact T3.1
  · intro H a ns hl _ hT hS
    exact ⟨a, ns, rfl, hS, ⟨#[], hT (C0, P0) (by simp), trivial⟩, ⟨#[], hT (C1, P1) (by simp), trivial⟩, ⟨#[], hT (C2, P2) (by simp), trivial⟩, ⟨#[], hT (C3, P3) (by simp), trivial⟩, fun _ => rfl⟩
  · intro base _ _ TB
    have z100 := TB (C0, P0) (by simp)
    have B0 : GxR.TabB base mg C0 P0 := ⟨z100.code, z100.bm, z100.gP⟩
    have z101 := TB (C1, P1) (by simp)
    have B1 : GxR.TabB base mg C1 P1 := ⟨z101.code, z101.bm, z101.gP⟩
    have z102 := TB (C2, P2) (by simp)
    have B2 : GxR.TabB base mg C2 P2 := ⟨z102.code, z102.bm, z102.gP⟩
    have z103 := TB (C3, P3) (by simp)
    have B3 : GxR.TabB base mg C3 P3 := ⟨z103.code, z103.bm, z103.gP⟩
    have oex : OexC K D := ⟨⟨nmD, qD, N0c, bsD, bmD, snD, subD, abD, colD, ddD, m0, m1, m2, m3, m5, x1, x2⟩, x3, x4, x5, x6⟩
    have inC : InitC l.prog K mg D (faultF cc cI) cc := ⟨rfl, x10, ⟨_, _, _, _, _, _, x11, x12, x13⟩, ⟨_, _, _, x14⟩, ⟨_, x15⟩, x16, PySem.W.mg_none_of X G x17, x18, x19, x20, x21, oex⟩
    exact ok_law2 F114 {
      D := D
      fInit := fI
      dInit := _
      fault := ⟨PySem.W.mg_of X G x0, oex, x7, x8⟩
      init := ok_fault x9 inC x22
      bInit := fun _ us _ hl => match us, hl with | [_, _], _ => .of_eq rfl
      excC := ⟨x23, x24, x4, x25, x26, x27, x28, x29⟩
      noR := x22
      te := PySem.W.exm_ref x4 x25 x5 x31
      DX := DA
      gX := PySem.W.mg_of X G x32
      notX := kit_other x33 x34 x31 x35
      isV := kit_value x19
      fCell := f0
      dCell := _
      cell := F100
      gCell := PySem.W.mg_of X G a0
      fDigits := f1
      dDigits := _
      digits := F101
      gDigits := PySem.W.mg_of X G a1
      fBox := f2
      dBox := _
      box := F102
      gBox := PySem.W.mg_of X G a2
      fDraw := f3
      dDraw := _
      draw := F103
      gDraw := PySem.W.mg_of X G a3
      fAlpha := f4
      dAlpha := _
      alpha := F104
      gAlpha := PySem.W.mg_of X G a4
      fWord := f5
      dWord := _
      word := F105
      gWord := PySem.W.mg_of X G a5
      fLFree := f6
      dLFree := _
      lfree := F106
      gLFree := PySem.W.mg_of X G a6
      fApart := f7
      dApart := _
      apart := F107
      gApart := PySem.W.mg_of X G a7
      fOnly := f8
      dOnly := _
      only := F108
      gOnly := PySem.W.mg_of X G a8
      fSpoilt := f9
      dSpoilt := _
      spoilt := F109
      gSpoilt := PySem.W.mg_of X G a9
      fAFault := f10
      dAFault := _
      afault := F110
      gAFault := PySem.W.mg_of X G a10
      fSame := f11
      dSame := _
      same := F111
      gSame := PySem.W.mg_of X G a11
      fPairs := f12
      dPairs := _
      pairs := F112
      gPairs := PySem.W.mg_of X G a12
      fInd := f13
      dInd := _
      ind := F113
      gInd := PySem.W.mg_of X G a13
      fTaken := F0
      dTaken := _
      cTaken := C0
      taken := D0
      gTaken := PySem.W.mg_of X G A0
      tTaken := B0
      fRising := F1
      dRising := _
      cRising := C1
      rising := D1
      gRising := PySem.W.mg_of X G A1
      tRising := B1
      fCheck := F2
      dCheck := _
      cCheck := C2
      check := D2
      gCheck := PySem.W.mg_of X G A2
      tCheck := B2
      fFree := F3
      dFree := _
      cFree := C3
      free := D3
      gFree := PySem.W.mg_of X G A3
      tFree := B3
      mlen := PySem.W.mg_none_of X G z0
      mrange := PySem.W.mg_none_of X G z1
      mint := PySem.W.mg_none_of X G z2
      mmin := PySem.W.mg_none_of X G z3
      mmax := PySem.W.mg_none_of X G z4
      msorted := PySem.W.mg_none_of X G z5
      mtuple := PySem.W.mg_none_of X G z6
      mbool := PySem.W.mg_none_of X G z7
      mstr := PySem.W.mg_none_of X G z8
      misi := PySem.W.mg_none_of X G z9
      mlist := PySem.W.mg_none_of X G z10
      mall := PySem.W.mg_none_of X G z11
      mzip := PySem.W.mg_none_of X G z12
      mVE := PySem.W.mg_none_of X G z13
      mL := PySem.W.mg_of X G y0
      lt := lt }
end Tc
open PySem PySem.W PyProof.Rows
set_option maxRecDepth 100000 in
set_option maxHeartbeats 0 in
theorem PySem.Challenge.cw_traceclasses_k00_alphabets_holds : PySem.Challenge.rw_traceclasses_k00_alphabets.Holds := by
  w_on; o_law; k_head; (case hw => w_witness2)
  k_fill
  refine TcG.walk_ofMany (l := PySem.Challenge.rw_traceclasses_k00_alphabets) (n := 63) (k := 5) (x := "script") (CX := fun _ => L2.CX0) rfl (by decide) rfl ⟨rfl, by decide, by decide⟩ (fun w h Y => PySem.W.kIn_of Y) ?F (fun _ _ _ _ _ h => h)
  case F =>
    intro w mg fa h KX G hmg tabs
    refine' Tc.all_mk KX G hmg ?a0 ?l0 ?c0 ?k0 ?a1 ?l1 ?c1 ?k1 ?a2 ?l2 ?c2 ?k2 ?a3 ?l3 ?c3 ?k3 ?a4 ?l4 ?c4 ?k4 ?a5 ?l5 ?c5 ?k5 ?a6 ?l6 ?c6 ?k6 ?a7 ?l7 ?c7 ?k7 ?a8 ?l8 ?c8 ?k8 ?a9 ?l9 ?c9 ?k9 ?a10 ?l10 ?c10 ?k10 ?a11 ?l11 ?c11 ?k11 ?a12 ?l12 ?c12 ?k12 ?a13 ?l13 ?c13 ?k13 ?a14 ?l14 ?c14 ?k14 ?A0 ?L0 ?I0 ?G0 ?R0 ?Q0 ?N0 ?Y0 ?A1 ?L1 ?I1 ?G1 ?R1 ?Q1 ?N1 ?Y1 ?A2 ?L2 ?I2 ?G2 ?R2 ?Q2 ?N2 ?Y2 ?A3 ?L3 ?I3 ?G3 ?R3 ?Q3 ?N3 ?Y3 ?z0 ?z1 ?z2 ?z3 ?z4 ?z5 ?z6 ?z7 ?z8 ?z9 ?z10 ?z11 ?z12 ?z13 ?y0 ?x0 ?x1 ?x2 ?x3 ?x4 ?x5 ?x6 ?x7 ?x8 ?x9 ?x10 ?x11 ?x12 ?x13 ?x14 ?x15 ?x16 ?x17 ?x18 ?x19 ?x20 ?x21 ?x22 ?x23 ?x24 ?x25 ?x26 ?x27 ?x28 ?x29 ?x30 ?x31 ?x32 ?x33 ?x34 ?x35
    (case a0 => k_is); (case l0 => k_is); (case c0 => k_is); (case k0 => k_is); (case a1 => k_is); (case l1 => k_is); (case c1 => k_is); (case k1 => k_is); (case a2 => k_is); (case l2 => k_is); (case c2 => k_is); (case k2 => k_is); (case a3 => k_is); (case l3 => k_is); (case c3 => k_is); (case k3 => k_is); (case a4 => k_is); (case l4 => k_is); (case c4 => k_is); (case k4 => k_is); (case a5 => k_is); (case l5 => k_is); (case c5 => k_is); (case k5 => k_is); (case a6 => k_is); (case l6 => k_is); (case c6 => k_is); (case k6 => k_is); (case a7 => k_is); (case l7 => k_is); (case c7 => k_is); (case k7 => k_is); (case a8 => k_is); (case l8 => k_is); (case c8 => k_is); (case k8 => k_is); (case a9 => k_is); (case l9 => k_is); (case c9 => k_is); (case k9 => k_is); (case a10 => k_is); (case l10 => k_is); (case c10 => k_is); (case k10 => k_is); (case a11 => k_is); (case l11 => k_is); (case c11 => k_is); (case k11 => k_is); (case a12 => k_is); (case l12 => k_is); (case c12 => k_is); (case k12 => k_is); (case a13 => k_is); (case l13 => k_is); (case c13 => k_is); (case k13 => k_is); (case a14 => k_is); (case l14 => k_is); (case c14 => k_is); (case k14 => k_is)
    (case A0 => k_is); (case L0 => k_is); (case I0 => k_is); (case G0 => k_is); (case R0 => k_is)
    (case Q0 => rfl); (case N0 => first | rfl | decide +kernel); (case Y0 => exact tabs _ (by decide +kernel))
    (case A1 => k_is); (case L1 => k_is); (case I1 => k_is); (case G1 => k_is); (case R1 => k_is)
    (case Q1 => rfl); (case N1 => first | rfl | decide +kernel); (case Y1 => exact tabs _ (by decide +kernel))
    (case A2 => k_is); (case L2 => k_is); (case I2 => k_is); (case G2 => k_is); (case R2 => k_is)
    (case Q2 => rfl); (case N2 => first | rfl | decide +kernel); (case Y2 => exact tabs _ (by decide +kernel))
    (case A3 => k_is); (case L3 => k_is); (case I3 => k_is); (case G3 => k_is); (case R3 => k_is)
    (case Q3 => rfl); (case N3 => first | rfl | decide +kernel); (case Y3 => exact tabs _ (by decide +kernel))
    (case x0 => first | k_is | rfl | decide +kernel)
    (case x1 => first | k_is | rfl | decide +kernel)
    (case x2 => first | k_is | rfl | decide +kernel)
    (case x3 => first | k_is | rfl | decide +kernel)
    (case x4 => first | k_is | rfl | decide +kernel)
    (case x5 => first | k_is | rfl | decide +kernel)
    (case x6 => first | k_is | rfl | decide +kernel)
    (case x7 => first | k_is | rfl | decide +kernel)
    (case x8 => first | k_is | rfl | decide +kernel)
    (case x9 => first | k_is | rfl | decide +kernel)
    (case x10 => first | k_is | rfl | decide +kernel)
    (case x11 => first | k_is | rfl | decide +kernel)
    (case x12 => first | k_is | rfl | decide +kernel)
    (case x13 => first | k_is | rfl | decide +kernel)
    (case x14 => first | k_is | rfl | decide +kernel)
    (case x15 => first | k_is | rfl | decide +kernel)
    (case x16 => first | k_is | rfl | decide +kernel)
    (case x17 => first | k_is | rfl | decide +kernel)
    (case x18 => first | k_is | rfl | decide +kernel)
    (case x19 => first | k_is | rfl | decide +kernel)
    (case x20 => first | k_is | rfl | decide +kernel)
    (case x21 => first | k_is | rfl | decide +kernel)
    (case x22 => first | k_is | rfl | decide +kernel)
    (case x23 => first | k_is | rfl | decide +kernel)
    (case x24 => first | k_is | rfl | decide +kernel)
    (case x25 => first | k_is | rfl | decide +kernel)
    (case x26 => first | k_is | rfl | decide +kernel)
    (case x27 => first | k_is | rfl | decide +kernel)
    (case x28 => first | k_is | rfl | decide +kernel)
    (case x29 => first | k_is | rfl | decide +kernel)
    (case x30 => first | k_is | rfl | decide +kernel)
    (case x31 => first | k_is | rfl | decide +kernel)
    (case x32 => first | k_is | rfl | decide +kernel)
    (case x33 => first | k_is | rfl | decide +kernel)
    (case x34 => first | k_is | rfl | decide +kernel)
    (case x35 => first | k_is | rfl | decide +kernel)
    (case y0 => k_is)
    (case z0 => k_is); (case z1 => k_is); (case z2 => k_is); (case z3 => k_is); (case z4 => k_is); (case z5 => k_is); (case z6 => k_is); (case z7 => k_is); (case z8 => k_is); (case z9 => k_is); (case z10 => k_is); (case z11 => k_is); (case z12 => k_is); (case z13 => k_is)
