import PyProof.Rows.All
import Wide.All
import OpenK.AllK
import Wide.FinOn
import HandS.ForMost
import HandS.IsInst
import HandS.EndTab
import HandS.Wide
import HandS.TupAny
import HandS.Conv
import HandS.Deep
import HandS.Style
import HandS.SortInts
import HandS.RaiseMore
import HandS.GenList
import HandS.AnyAll
import KE.KRevSl
import HandS.Codes
import PySem.Challenge.RW_thenbeside_k02_whole_normal_plans
import KE.DataMinMax
import PyProof.Rows.RowBridgeK
import HandS.Dict
import HandS.Small
import KE.KDictCopyH
import HandS.Strs
import PyProof.AutoSeq1
import HandS.SortKw
import HandS.Iter
import KE.KSortKey
import HandS.More
set_option Elab.async false
set_option linter.all false
set_option maxRecDepth 100000
set_option maxHeartbeats 4000000
/-! any, all of a generator expression over anything that PI serves, its element any expression that raises nothing. -/
namespace GA
open PySem PySem.Spec PyProof.Rows L2 GenW GxR

/-- the context of a generator expression's frame -/
abbrev gcx (X : Cx) (A' : Around) (s : Shared) (H : Hp) (cenv : Env) (fp : List Addr) : Cx :=
  { X with A := A', s_0 := s, H_0 := H, env := cenv, outer := X.stack, stack := cenv :: X.stack, ex := fp, fn := fun _ => false, calm := true, pn := [], xe := fun _ _ => False }
/-- its scope: its own names with their places, captured ones -/
structure GOk (N : List Str) (sc scope : Scope) (own : List (Str × Nat)) : Prop where
  kind : scope.kind = .function
  co : scope.isCoroutine = false
  cell : ∀ y ∈ scope.names, y.2 ≠ .cell
  dot : scope.names.lookup (".0" : Str) = some NameKind.local
  uniq : ∀ y ∈ scope.names, scope.names.lookup y.1 = some y.2
  ix : ∀ p ∈ own, N[p.2]? = some p.1
  free : ∀ y ∈ scope.names, y.2 = .free → sc.names.lookup y.1 = some .cell ∨ sc.names.lookup y.1 = some .free
  own : ∀ y ∈ scope.names, y.2 = .local → y.1 ∈ own.map (·.1) ∨ y.1 ∉ N
def gokC (N : List Str) (sc scope : Scope) (own : List (Str × Nat)) : Bool :=
  (match scope.kind with | .function => true | _ => false) && !scope.isCoroutine && decide (scope.names.lookup (".0" : Str) = some NameKind.local) && (scope.names.all fun y => decide (scope.names.lookup y.1 = some y.2)) && (own.all fun p => decide (N[p.2]? = some p.1)) &&
    (scope.names.all fun y => match y.2 with
      | .free => (match sc.names.lookup y.1 with | some .cell => true | some .free => true | _ => false)
      | .local => decide (y.1 ∈ own.map (·.1)) || decide (y.1 ∉ N)
      | .cell => false
      | _ => true)
theorem gok_by {N : List Str} {sc scope : Scope} {own : List (Str × Nat)} (h : gokC N sc scope own = true) : GOk N sc scope own := by
  unfold gokC at h
  simp only [Bool.and_eq_true, List.all_eq_true, decide_eq_true_eq] at h
  obtain ⟨⟨⟨⟨⟨h1, h1b⟩, h1c⟩, h2⟩, h3⟩, h4⟩ := h
  refine ⟨?_, by simpa using h1b, fun y hy e => ?_, h1c, h2, h3, fun y hy e => ?_, fun y hy e => ?_⟩
  · split at h1
    · assumption
    · cases h1
  · have q := h4 y hy
    rw [e] at q
    cases q
  · have q := h4 y hy
    rw [e] at q
    simp only at q
    split at q
    · rename_i k; exact .inl k
    · rename_i k; exact .inr k
    · cases q
  · have q := h4 y hy
    rw [e] at q
    simp only [Bool.or_eq_true, decide_eq_true_eq] at q
    exact q

section
variable {X : Cx} {pins : List (Addr × Obj)} {σ : L2.St} {H : Hp} {s : Shared}
/-- other generators, other tokens: the same heap -/
theorem inv_gens {s' : Shared} (I : Inv X pins σ H s) (hh : s'.heap = s.heap) (ho : s'.os = s.os) (hb : AllBare s'.gens) : Inv X pins σ H s' := by
  obtain ⟨h', g', d', t', o'⟩ := s'
  simp only at hh ho
  subst hh ho
  exact ⟨I.ok, I.os, hb, I.base, I.loc, I.cell, I.free, I.freeC, I.pin, I.hok, I.len⟩
theorem cl_mem {scope : Scope} (I : Inv X pins σ H s) (hfree : ∀ y ∈ scope.names, y.2 = .free → ∃ c, X.env.cells.lookup y.1 = some c) {y : Str} {c : Addr} (h : (cloFrom X.env.cells scope.names []).lookup y = some c) : X.env.cells.lookup y = some c := by
  rcases cloFrom_mem (PySem.mem_of_lookup h) with hm | ⟨h1, rfl⟩
  · cases hm
  · obtain ⟨c, hc⟩ := hfree _ h1 rfl
    rw [hc]
    rfl
/-- the generator is made: its frame and its object are laid -/
theorem gen_start {A' : Around} {scope : Scope} {own : List (Str × Nat)} {fp : List Addr} {code : Value} {h5 : Heap} {m0 : Str → Option Value} {go : Obj} {G5 : Array GenState} {t5 : Nat}
    (I : Inv X pins σ H s) (ok : GOk X.N X.env.scope scope own) (hN : X.N.Nodup) (hfp : ∀ b ∈ fp, FpOk X pins H b ∧ b < s.heap.objs.size)
    (hA : A'.handled = none) (hfr : A'.frames = some (genEnv scope (cloFrom X.env.cells scope.names []) s.heap.objs.size code builtinsNs X.env :: X.stack))
    (hk : ∀ b o, s.heap.get? b = some o → h5.get? b = some o) (hn : h5.Ns s.heap.objs.size m0) (hgo : h5.get? (s.heap.objs.size + 1) = some go) (hgd : ∀ v, go.data ≠ .cell v) (hb : AllBare G5) :
    Inv (gcx X A' s H (genEnv scope (cloFrom X.env.cells scope.names []) s.heap.objs.size code builtinsNs X.env) fp) [(s.heap.objs.size + 1, go)] (wipe σ (own.map (·.2))) H { s with heap := h5, gens := G5, toks := t5 } := by
  have hfree : ∀ y ∈ scope.names, y.2 = .free → ∃ c, X.env.cells.lookup y.1 = some c := fun y hy e => by
    rcases ok.free y hy e with k | k
    · exact I.ok.has _ (.inl k)
    · exact I.ok.has _ (.inr k)
  have cm : ∀ {y c}, (cloFrom X.env.cells scope.names []).lookup y = some c → X.env.cells.lookup y = some c := fun {y c} h => cl_mem I hfree h
  have clt : ∀ {y c}, X.env.cells.lookup y = some c → c < s.heap.objs.size := fun {y c} h => by
    obtain ⟨v, z⟩ := I.cell y c h
    exact z.lt
  have look : ∀ {y}, scope.names.lookup y = some .free → ∃ c, (cloFrom X.env.cells scope.names []).lookup y = some c ∧ X.env.cells.lookup y = some c := fun {y} hl => by
    have hy : (y, NameKind.free) ∈ scope.names := PySem.mem_of_lookup hl
    obtain ⟨c', e'⟩ := mem_lookup (cloFrom_has (cells := X.env.cells) (acc := []) hy)
    exact ⟨c', e', cm e'⟩
  have stk_lt : ∀ b ∈ frs X.stack, b < s.heap.objs.size := fun b hb => by
    obtain ⟨_, o, ho, _⟩ := I.stack.mem hb
    exact Heap.lt_size ho
  have okG : (gcx X A' s H (genEnv scope (cloFrom X.env.cells scope.names []) s.heap.objs.size code builtinsNs X.env) fp).Ok := by
    refine ⟨I.ok.mod, ok.kind, I.ok.glob, rfl, Nat.le_refl _, fun y z c e1 e2 => I.ok.inj y z c (cm e1) (cm e2), fun y hy => ?_, fun y c z e => (Bool.noConfusion z), fun _ => hA, hfr, .inr ⟨rfl, rfl⟩,
      fun b hb => ⟨Nat.ne_of_lt (hfp b hb).2, fun y c e z => (hfp b hb).1.2.2.2.2.1 y c (cm e) z⟩, I.bs, Nat.le_trans I.ok.bsz I.sz, fun b o e hb => ?_, fun b hb z => ?_, I.stack, I.stkFree⟩
    · rcases hy with hy | hy
      · exact absurd rfl (ok.cell _ (PySem.mem_of_lookup (show scope.names.lookup y = some .cell from hy)))
      · obtain ⟨c, h1, _⟩ := look (show scope.names.lookup y = some .free from hy)
        exact ⟨c, h1⟩
    · rcases (hfp b hb).1.2.2.2.1 with z | z
      · exact I.ok.noex b o e z
      · exact absurd (Nat.lt_of_lt_of_le (Heap.lt_size e) (Nat.le_trans I.ok.bsz z)) (Nat.lt_irrefl _)
    · rcases List.mem_cons.mp (I.stkSub b z) with z | z
      · exact (hfp b hb).1.2.1 z
      · exact (hfp b hb).1.2.2.1 z
  refine ⟨okG, rfl, hb, Un.kept hk, ⟨m0, hn, fun i y av e1 e2 e3 => ?_⟩, fun y c e => ?_, I.hok.fresh (Nat.le_refl _), fun y c e => I.freeC y c (cm e), fun p hp => ?_, I.hok.kept hk, by rw [wipe_length]; exact I.len⟩
  · obtain ⟨e2, hne⟩ := wipe_some e2
    have hfr : scope.names.lookup y = some .free := by
      rcases e3 with e | e | e
      · have e : scope.names.lookup y = some .local := e
        rcases ok.own _ (PySem.mem_of_lookup e) rfl with e' | e'
        · obtain ⟨p, hp, hpy⟩ := List.mem_map.mp e'
          have e3 := ok.ix p hp
          have : p.1 = y := hpy
          rw [this] at e3
          exact absurd (List.mem_map.mpr ⟨p, hp, nodup_ix hN e3 e1⟩) hne
        · exact absurd (List.mem_of_getElem? e1) e'
      · exact absurd rfl (ok.cell _ (PySem.mem_of_lookup (show scope.names.lookup y = some .cell from e)))
      · exact e
    obtain ⟨m, hn', hl⟩ := I.loc
    have hvis : Vis X.env.scope y := (ok.free _ (PySem.mem_of_lookup hfr) rfl).elim (fun k => .inr (.inl k)) (fun k => .inr (.inr k))
    obtain ⟨w, r, q⟩ := hl i y av e1 e2 hvis
    obtain ⟨c, h1, h2⟩ := look hfr
    refine ⟨w, r, .inr ⟨.inr hfr, c, h1, ?_⟩⟩
    rcases q with ⟨k, _⟩ | ⟨_, c', e', z⟩
    · have k : X.env.scope.names.lookup y = some .local := k
      rcases ok.free _ (PySem.mem_of_lookup hfr) rfl with k' | k' <;> rw [show X.env.scope.names.lookup y = _ from k'] at k <;> cases k
    · rw [h2] at e'; cases e'
      exact z.keeps hk
  · obtain ⟨v, z⟩ := I.cell y c (cm e)
    exact ⟨v, z.keeps hk⟩
  · have hp' : p = (s.heap.objs.size + 1, go) := by simpa using hp
    subst hp'
    refine ⟨hgo, I.hok.fresh (Nat.le_succ _), Nat.succ_ne_self _, fun z => ?_, hgd⟩
    exact absurd (stk_lt _ z) (Nat.not_lt.mpr (Nat.le_succ _))
end

/-! ### the generator's turns -/
/-- awake again: nothing of the heap has changed -/
def Woke (s s' : Shared) : Prop := s'.heap = s.heap ∧ s'.os = s.os ∧ AllBare s'.gens
def YA (X' : Cx) (pn : List (Addr × Obj)) (σw : L2.St) (stop : Bool) (Qf : Hp → Prop) : Protocol := fun _ _ v s kap =>
  ∃ (b : Bool) (H : Hp), v = .bool b ∧ Inv X' pn σw H s ∧ ((b = stop ∧ Qf H) ∨ (b = !stop ∧ ∀ s'', Woke s s'' → kap (.send .none) s''))
def PA' (X' : Cx) (pn : List (Addr × Obj)) (σw : L2.St) (Qe : Hp → Prop) : Nat → Shared → Shared → Prop := fun _ _ s => ∃ H, Inv X' pn σw H s ∧ Qe H

/-- what a turn asks -/
def TurnG (J : It) (g : TG) (te : TE) (σw : L2.St) (vs : List Nat) (stop : Bool) (Qf Qe : Hp → Prop) (W : Nat → Nat → Hp → Prop) : Prop := ∀ i m H, W i m H →
  (J.stop i H ∧ Qe H) ∨ (J.go i H ∧ ∃ Nx : Hp → Prop, (∀ H', Nx H' → ∃ m', m' < m ∧ W (i + 1) m' H') ∧ ∀ x H', J.yld i H x H' → g x σw H' fun σ2 H2 => wipe σ2 vs = σw ∧ te σ2 H2 fun y H3 => ∃ b, y = .bl b ∧ (b = stop → Qf H3) ∧ (b = !stop → Nx H3))

section
variable {X' : Cx} {A : Around} {elt tg iter : Expr} {scope : Scope} {pos : Pos} {it : Addr} {fp : List Addr} {tn : Nat → Heap → Prop} {J : It} {g : TG} {te : TE} {σw : L2.St} {vs : List Nat} {stop : Bool} {Qf Qe : Hp → Prop} {W : Nat → Nat → Hp → Prop} {pn : List (Addr × Obj)}
theorem seg_turns (hA : A.over (.compLoop (.GeneratorExp elt [⟨tg, iter, [], 0⟩] scope pos) 0 (.ref it) .none X'.env) [] = X'.A) (hex : X'.ex = fp) (hpn0 : X'.pn = []) (hxe : X'.xe = fun _ _ => False) (hcalm : X'.calm = true)
    (hco : X'.env.scope.isCoroutine = false) (T : Turn X'.prog X'.w X'.K tg J fp it tn) (hpf : ∀ p ∈ pn, p.1 ∉ fp) (pg : PG X' tg g) (pe : PE X' elt te) (turn : TurnG J g te σw vs stop Qf Qe W) :
    ∀ (n : Nat) (s₀ s : Shared) (i m : Nat) (H : Hp), m < n → Inv X' pn σw H s → tn i s.heap → (∀ b ∈ fp, H b = none) → W i m H →
      Seg (model X'.prog X'.w) A (fun n s₀ r s₁ => r = .ok .next ∧ PA' X' pn σw Qe n s₀ s₁) (YA X' pn σw stop Qf) n s₀
        (.compLoop (.GeneratorExp elt [⟨tg, iter, [], 0⟩] scope pos) 0 (.ref it) .none X'.env)
        ((model X'.prog X'.w).den (.compLoop (.GeneratorExp elt [⟨tg, iter, [], 0⟩] scope pos) 0 (.ref it) .none X'.env)) [] s := by
  have stat : ∀ {σ' : L2.St} {H' : Hp} {s' : Shared}, Inv X' pn σ' H' s' → (∀ b ∈ fp, H' b = none) → ∀ b ∈ fp, FpOk X' pn H' b := fun {σ' H' s'} I' hn b hb =>
    ⟨hn b hb, (I'.ok.exf b (by rw [hex]; exact hb)).1, I'.ok.exfs b (by rw [hex]; exact hb), .inl (by rw [hex]; exact hb), fun x c e => (I'.ok.exf b (by rw [hex]; exact hb)).2 x c e, fun p hp => by
      rw [hpn0] at hp
      intro z
      exact hpf p (by simpa using hp) (by rw [z]; exact hb)⟩
  intro n
  induction n with
  | zero => intro s₀ s i m H hm; exact absurd hm (Nat.not_lt_zero _)
  | succ n ih =>
    intro s₀ s i m H hm I st nn w
    show Seg _ A _ _ _ s₀ _ ((compTurn (.GeneratorExp elt [⟨tg, iter, [], 0⟩] scope pos) 0 (.ref it) .none X'.env).onRaise (leaving X'.env)) [] s
    rw [compTurn_gen, Sem.onRaise_eq_wrap]
    refine seg_bind_wrap (wpAny_standAt ?_)
    rcases turn i m H w with ⟨hstop, qe⟩ | ⟨hgo, Nx, hNx, step⟩
    · refine seg_bind_wrap ?_
      rw [hA]
      refine thnF (T.done X' rfl rfl rfl hcalm i pn s σw H (fun _ _ => False) I (stat I nn) st hstop) fun r s1 ⟨hr, I1⟩ => ?_
      subst hr
      exact seg_end (.ok .next) ⟨rfl, H, I1, qe⟩
    · refine seg_bind_wrap ?_
      rw [hA]
      refine thnF (T.item X' rfl rfl rfl hcalm i pn s σw H (fun _ _ => False) I (stat I nn) st hgo) fun r s1 ⟨u, hr, h1⟩ => ?_
      subst hr
      refine seg_bind_wrap ?_
      rw [hA]
      refine thnF h1 fun _ s2 ⟨x, H2, I2, r2, y2, st2, n2⟩ => ?_
      have I2' := I2.pinned (stat I2 n2) (T.obj _ _ st2)
      refine seg_bind_wrap ?_
      rw [hA]
      have pgr := pg.run _ s2 _ H2 x u _ I2' r2 (step x H2 y2)
      rw [hxe] at pgr
      refine thnF pgr fun _ s3 ⟨σ3, H3, I3, hw3, q3⟩ => ?_
      simp only [List.forIn_nil]
      refine seg_bind_wrap (wpAny_pure ?_)
      simp only [if_true]
      have hy : ∀ v, yieldOut X'.env v = yieldValue v := fun v => by simp only [yieldOut, hco, Bool.false_eq_true, if_false]
      simp only [hy]
      rw [Sem.bind_eq_wrap', Sem.bind_eq_wrap', Sem.wrap_wrap, Sem.wrap_wrap]
      refine seg_wrap ?_
      rw [hA]
      have per := pe.run _ s3 σ3 H3 _ I3 q3
      rw [hxe] at per
      refine thnF per fun yv s4 ⟨yV, H4, I4, r4, b, hyb, q4⟩ => ?_
      subst hyb
      have r4' : yv = Value.bool b := r4
      subst r4'
      have pin' : ∀ b ∈ fp, ∀ o, s2.heap.get? b = some o → s4.heap.get? b = some o ∧ H4 b = none := fun b hb o e =>
        let z := I4.pin (b, o) (List.mem_append_right _ (List.mem_append_right _ (mem_pinsAt hb e)))
        ⟨z.1, z.2.1⟩
      have hl : σw.length = σ3.length := by rw [← hw3, wipe_length]
      have I5 : Inv X' pn σw H4 s4 := (I4.unpinned (pins := pn)).weak hl fun j v e => by
        rw [← hw3] at e
        exact (wipe_some e).1
      have st5 : tn (i + 1) s4.heap := T.keep _ _ _ st2 fun b hb o e => (pin' b hb o e).1
      have n5 : ∀ b ∈ fp, H4 b = none := fun b hb => by
        obtain ⟨o, e, _⟩ := T.obj _ _ st2 b hb
        exact (pin' b hb o e).2
      refine seg_at (seg_yield rfl rfl rfl ⟨b, H4, rfl, I5, ?_⟩)
      by_cases hb : b = stop
      · exact .inl ⟨hb, q4.1 hb⟩
      · have hb' : b = !stop := by
          cases b <;> cases stop <;> first | rfl | exact absurd rfl hb
        obtain ⟨m', hm', w'⟩ := hNx _ (q4.2 hb')
        refine .inr ⟨hb', fun s'' ⟨z1, z2, z3⟩ => ?_⟩
        refine seg_again rfl (ih s'' s'' (i + 1) m' H4 (by omega) (inv_gens I5 z1 z2 z3) (by rw [z1]; exact st5) n5 w')
theorem seg_first (hA : A.over (.compLoop (.GeneratorExp elt [⟨tg, iter, [], 0⟩] scope pos) 0 (.ref it) .none X'.env) [] = X'.A) (hex : X'.ex = fp) (hpn0 : X'.pn = []) (hxe : X'.xe = fun _ _ => False) (hcalm : X'.calm = true)
    (hco : X'.env.scope.isCoroutine = false) (T : Turn X'.prog X'.w X'.K tg J fp it tn) (hpf : ∀ p ∈ pn, p.1 ∉ fp) (pg : PG X' tg g) (pe : PE X' elt te) (turn : TurnG J g te σw vs stop Qf Qe W)
    (n : Nat) (s₀ s : Shared) (m : Nat) (H : Hp) (hm : m < n) (I : Inv X' pn σw H s) (st : tn 0 s.heap) (nn : ∀ b ∈ fp, H b = none) (w : W 0 m H) :
      Seg (model X'.prog X'.w) A (fun n s₀ r s₁ => r = .ok .next ∧ PA' X' pn σw Qe n s₀ s₁) (YA X' pn σw stop Qf) n s₀
        (.compStart (.GeneratorExp elt [⟨tg, iter, [], 0⟩] scope pos) 0 (.ref it) .none X'.env)
        ((model X'.prog X'.w).den (.compStart (.GeneratorExp elt [⟨tg, iter, [], 0⟩] scope pos) 0 (.ref it) .none X'.env)) [] s := by
  have loop := seg_turns hA hex hpn0 hxe hcalm hco T hpf pg pe turn n s₀ s 0 m H hm I st nn w
  show Seg _ A _ _ _ s₀ _ ((compStart (.GeneratorExp elt [⟨tg, iter, [], 0⟩] scope pos) 0 (.ref it) .none X'.env).onRaise (leaving X'.env)) [] s
  unfold compStart
  rw [Sem.onRaise_eq_wrap]
  show Seg _ A _ _ _ s₀ _ ((ask >>= _).wrap _ _ _ _) [] s
  refine seg_bind_wrap (wpAny_askSetting ?_)
  split
  · exact seg_again rfl loop
  · first
      | exact seg_bind_wrap (wpAny_rule (seg_bind_wrap (wpAny_standAt (seg_bind_wrap (T.self _ 0 s _ _ st (seg_again rfl loop))))))
      | (refine seg_bind_wrap (wpAny_rule ?_); show Seg _ A _ _ _ s₀ _ ((standAt iter.pos >>= _).wrap _ _ _ _) [] s; exact seg_bind_wrap (wpAny_standAt (seg_bind_wrap (T.self _ 0 s _ _ st (seg_again rfl loop)))))
end
end GA

set_option Elab.async false
set_option linter.all false
set_option maxRecDepth 100000
set_option maxHeartbeats 4000000
namespace GA
open PySem PySem.Spec PyProof.Rows L2 GenW GxR

theorem room_gen {k : Nat} {A : Around} {e : Expr} {gs : List Comprehension} {sc : Scope} {p : Pos} {it acc : Value} {env : Env} (r : Room (k + 1) A) :
    Room k (A.in1.in1.over (.compLoop (.GeneratorExp e gs sc p) 0 it acc env) []) := by
  have h1 := r.dp
  have h2 := r.un
  have e1 : (A.in1.in1.over (.compLoop (.GeneratorExp e gs sc p) 0 it acc env) []).depth = A.depth + 1 := rfl
  have e2 : (A.in1.in1.over (.compLoop (.GeneratorExp e gs sc p) 0 it acc env) []).units = A.units + 5 := rfl
  exact ⟨r.hd, by rw [e1]; omega, by rw [e2]; omega⟩
theorem frames_gen {A : Around} {l : List Env} {e : Expr} {gs : List Comprehension} {sc : Scope} {p : Pos} {it acc : Value} {env : Env} (h : A.frames = some l) :
    (A.in1.in1.over (.compLoop (.GeneratorExp e gs sc p) 0 it acc env) []).frames = some (env :: l) := by
  have e1 : (A.in1.in1.over (.compLoop (.GeneratorExp e gs sc p) 0 it acc env) []).frames = A.frames.map ([env] ++ ·) := rfl
  rw [e1, h]
  rfl

section
variable {X' : Cx} {A : Around} {σw : L2.St} {Qf Qe : Hp → Prop} {pn : List (Addr × Obj)} {a : Addr} {g : Nat} {go : Obj} {R' : Result → Shared → Prop}
theorem all_loop (hh : A.handled = none) (hd : A.depth < recursionLimit) (hpn : (a, go) ∈ pn) (hgen : ∀ h : Heap, h.get? a = some go → h.IsGen a g)
    (hR : ∀ (b : Bool) (H : Hp) (s' : Shared), Inv X' pn σw H s' → (b = true → Qe H) → (b = false → Qf H) → R' (.ok (.ret (.bool b))) s') :
    ∀ (n : Nat) (s : Shared) (gs : GenState), s.heap.IsGen a g → s.heap.NoLimit → s.gens[g]? = some gs →
      gs.Goes (model X'.prog X'.w) A.in1.in1 (fun n s₀ r s₁ => r = .ok .next ∧ PA' X' pn σw Qe n s₀ s₁) (YA X' pn σw false Qf) n (.send .none) (s.setGen g .running) →
      codeAny (model X'.prog X'.w) A (.builtin "all.loop" ⟨[.ref a], []⟩) R' s := by
  intro n
  induction n using Nat.strongRecOn with
  | ind n ih =>
    intro s gs hg hl hgs hgo
    have hgl : g < s.gens.size := (Array.getElem?_eq_some_iff.mp hgs).1
    refine codeAny_builtin F.entry_all_loop ?_
    rw [Around.under_plainId F.plain_all_loop _]
    show wpAny _ A.in1 (pyNext (.ref a) >>= _) _ _ s
    refine wpAny_bind (wpAny_gsz (n := g + 1) hgl (wpAny_pyNext_genexpQ (A := A.in1) hh hl hd hg hgs hgo (fun v s₁ gs' hbare hv => ?_) (fun s₁ hp h' hk => ?_)))
    · intro hsz
      obtain ⟨b, H1, rfl, I1, q⟩ := hv
      have I2 : Inv X' pn σw H1 (s₁.setGen g gs') := inv_gens I1 rfl rfl (allBare_setGen I1.bare hbare)
      have hsz1 : g < s₁.gens.size := by
        have q : (s₁.setGen g gs').gens.size = s₁.gens.size := setGen_size _ _ _
        have hsz' : g + 1 ≤ (s₁.setGen g gs').gens.size := hsz
        omega
      have hg2 : (s₁.setGen g gs').heap.IsGen a g := hgen _ (I2.pin (a, go) (List.mem_append_right _ hpn)).1
      refine wpAny_bind (wpAny_holding (wpAny_truthy_bool ?_))
      refine wpAny_bind (wpAny_letGo ?_)
      cases b with
      | true =>
        simp only [if_true]
        rcases q with ⟨hb, _⟩ | ⟨_, hk⟩
        · cases hb
        cases n with
        | zero => exact False.elim (hk _ ⟨rfl, rfl, I1.bare⟩)
        | succ m =>
          refine wpAny_pure ⟨plainId_quiet F.plain_all_loop _, ih m (Nat.lt_succ_self m) _ gs' hg2 I2.nolimit (setGen_at hsz1) ?_⟩
          exact hk _ ⟨rfl, rfl, allBare_setGen (s := s₁.setGen g gs') I2.bare rfl⟩
      | false =>
        simp only [Bool.false_eq_true, if_false]
        rcases q with ⟨_, qf⟩ | ⟨hb, _⟩
        · exact wpAny_bind (wpAny_rule (wpAny_pure (hR false H1 _ I2 (fun z => by cases z) fun _ => qf)))
        · cases hb
    · intro _
      obtain ⟨H1, I1, qe⟩ := hp
      have I2 : Inv X' pn σw H1 { s₁.setGen g .finished with heap := h' } := inv_gens (s := { s₁ with heap := h' }) (I1.kept (t' := s₁.toks) hk) rfl rfl (allBare_setGen I1.bare rfl)
      exact wpAny_bind (wpAny_rule (wpAny_pure (hR true H1 _ I2 (fun _ => qe) fun z => by cases z)))
theorem any_loop (hh : A.handled = none) (hd : A.depth < recursionLimit) (hpn : (a, go) ∈ pn) (hgen : ∀ h : Heap, h.get? a = some go → h.IsGen a g)
    (hR : ∀ (b : Bool) (H : Hp) (s' : Shared), Inv X' pn σw H s' → (b = false → Qe H) → (b = true → Qf H) → R' (.ok (.ret (.bool b))) s') :
    ∀ (n : Nat) (s : Shared) (gs : GenState), s.heap.IsGen a g → s.heap.NoLimit → s.gens[g]? = some gs →
      gs.Goes (model X'.prog X'.w) A.in1.in1 (fun n s₀ r s₁ => r = .ok .next ∧ PA' X' pn σw Qe n s₀ s₁) (YA X' pn σw true Qf) n (.send .none) (s.setGen g .running) →
      codeAny (model X'.prog X'.w) A (.builtin "any.loop" ⟨[.ref a], []⟩) R' s := by
  intro n
  induction n using Nat.strongRecOn with
  | ind n ih =>
    intro s gs hg hl hgs hgo
    have hgl : g < s.gens.size := (Array.getElem?_eq_some_iff.mp hgs).1
    refine codeAny_builtin F.entry_any_loop ?_
    rw [Around.under_plainId F.plain_any_loop _]
    show wpAny _ A.in1 (pyNext (.ref a) >>= _) _ _ s
    refine wpAny_bind (wpAny_gsz (n := g + 1) hgl (wpAny_pyNext_genexpQ (A := A.in1) hh hl hd hg hgs hgo (fun v s₁ gs' hbare hv => ?_) (fun s₁ hp h' hk => ?_)))
    · intro hsz
      obtain ⟨b, H1, rfl, I1, q⟩ := hv
      have I2 : Inv X' pn σw H1 (s₁.setGen g gs') := inv_gens I1 rfl rfl (allBare_setGen I1.bare hbare)
      have hsz1 : g < s₁.gens.size := by
        have q : (s₁.setGen g gs').gens.size = s₁.gens.size := setGen_size _ _ _
        have hsz' : g + 1 ≤ (s₁.setGen g gs').gens.size := hsz
        omega
      have hg2 : (s₁.setGen g gs').heap.IsGen a g := hgen _ (I2.pin (a, go) (List.mem_append_right _ hpn)).1
      refine wpAny_bind (wpAny_holding (wpAny_truthy_bool ?_))
      refine wpAny_bind (wpAny_letGo ?_)
      cases b with
      | false =>
        simp only [Bool.false_eq_true, if_false]
        rcases q with ⟨hb, _⟩ | ⟨_, hk⟩
        · cases hb
        cases n with
        | zero => exact False.elim (hk _ ⟨rfl, rfl, I1.bare⟩)
        | succ m =>
          refine wpAny_pure ⟨plainId_quiet F.plain_any_loop _, ih m (Nat.lt_succ_self m) _ gs' hg2 I2.nolimit (setGen_at hsz1) ?_⟩
          exact hk _ ⟨rfl, rfl, allBare_setGen (s := s₁.setGen g gs') I2.bare rfl⟩
      | true =>
        simp only [if_true]
        rcases q with ⟨_, qf⟩ | ⟨hb, _⟩
        · exact wpAny_bind (wpAny_rule (wpAny_pure (hR true H1 _ I2 (fun z => by cases z) fun _ => qf)))
        · cases hb
    · intro _
      obtain ⟨H1, I1, qe⟩ := hp
      have I2 : Inv X' pn σw H1 { s₁.setGen g .finished with heap := h' } := inv_gens (s := { s₁ with heap := h' }) (I1.kept (t' := s₁.toks) hk) rfl rfl (allBare_setGen I1.bare rfl)
      exact wpAny_bind (wpAny_rule (wpAny_pure (hR false H1 _ I2 (fun _ => qe) fun z => by cases z)))
end

/-- the generator has been made; stop: what ends its consumer ahead of the end -/
def MadeG (X : Cx) (pins : List (Addr × Obj)) (σ : L2.St) (stop : Bool) (Qf Qe : Hp → Prop) (u : Value) (s5 : Shared) : Prop :=
  ∃ (a : Addr) (g n : Nat) (gs : GenState) (go : Obj) (X' : Cx) (pn : List (Addr × Obj)) (σw : L2.St), u = .ref a ∧ X'.prog = X.prog ∧ X'.w = X.w ∧ (a, go) ∈ pn ∧ (∀ h : Heap, h.get? a = some go → h.IsGen a g) ∧ s5.heap.IsGen a g ∧ s5.heap.NoLimit ∧ s5.gens[g]? = some gs ∧
    gs.Goes (model X.prog X.w) X.A.in1.in1 (fun n s₀ r s₁ => r = .ok .next ∧ PA' X' pn σw Qe n s₀ s₁) (YA X' pn σw stop Qf) n (.send .none) (s5.setGen g .running) ∧
    ∀ H' s', Inv X' pn σw H' s' → Inv X pins σ H' s'

section
variable {X : Cx} {pins : List (Addr × Obj)} {σ : L2.St} {H : Hp} {s : Shared}
theorem gen_make {c P : Addr} {elt tg iter : Expr} {gpos : Pos} {scope : Scope} {own : List (Str × Nat)} {wi : TI} {g : TG} {te : TE} {k : Nat} {stop : Bool} {Qf Qe : Hp → Prop} {Q' : Value → Shared → Prop}
    (hr : Room (k + 1) X.A) (TB : TabB X.base X.mg c P) (hcode : X.env.code = .ref c) (hN : X.N.Nodup) (ok : GOk X.N X.env.scope scope own) (hi : PI X tg iter wi)
    (hg : ∀ (A' : Around) (s : Shared) (H : Hp) (C : Addr) (code : Value) (fp : List Addr), PG (gcx X A' s H (genEnv scope (cloFrom X.env.cells scope.names []) C code builtinsNs X.env) fp) tg g)
    (he : ∀ (A' : Around) (s : Shared) (H : Hp) (C : Addr) (code : Value) (fp : List Addr), Room k A' → PE (gcx X A' s H (genEnv scope (cloFrom X.env.cells scope.names []) C code builtinsNs X.env) fp) elt te)
    (hs : ∀ v, genFold iter X.env v = pure v) (I : Inv X pins σ H s)
    (h : wi σ H fun J H1 => TabG H1 P ∧ ∀ H2, Tabbed P H1 H2 → ∃ W : Nat → Nat → Hp → Prop, (∃ m, W 0 m H2) ∧ TurnG J g te (wipe σ (own.map (·.2))) (own.map (·.2)) stop Qf Qe W)
    (hQ : ∀ u s5, MadeG X pins σ stop Qf Qe u s5 → Q' u s5) :
    wpAny (model X.prog X.w) X.A (eval (.GeneratorExp elt [⟨tg, iter, [], 0⟩] scope gpos) X.env) Q' X.xe s := by
  have hfree : ∀ y ∈ scope.names, y.2 = .free → ∃ c, X.env.cells.lookup y.1 = some c := fun y hy e => by
    rcases ok.free y hy e with k | k
    · exact I.ok.has _ (.inl k)
    · exact I.ok.has _ (.inr k)
  refine wpAny_GeneratorExp_make ok.co (closure_ok hfree) ok.cell ok.dot ok.kind (by have := hr.dp; omega) ?_ hs
  refine thn (hi.run pins s σ H _ I h) fun xv s1 hx => thn hx fun itv s2 h2 => ?_
  obtain ⟨it, fp, tn, J, H2, e, I2, T, st2, f2, ⟨ps, hP, ht⟩, q⟩ := h2
  subst e
  refine ⟨I2.nolimit, ?_⟩
  have hPs : s2.heap.get? P = some { cls := .none, data := .fields ps } := I2.hok P _ hP
  have cd : PySem.W.CodeHd s2.heap c P := TB.code.keeps I2.bk
  have fpP : ∀ b ∈ fp, b ≠ P := fun b hb z => by
    have := (f2 b hb).1
    rw [z, hP] at this
    cases this
  have cont : ∀ (code : Value) (h3 : Heap) (tk : Nat) (ps' : Array Value), Heap.ExtBut P s2.heap h3 → h3.get? P = some { cls := .none, data := .fields ps' } → (∃ more, ps' = ps ++ more) → TriplesOk ps'.toList →
      wpAny (model X.prog X.w) X.A (builtinsFor X.env.globals X.env.builtins) (fun bi s₄ =>
        ∀ h', h'.Ns s₄.heap.objs.size (fun y => if y = ".0" then some (Value.ref it) else none) → Heap.SameBut s₄.heap.objs.size (s₄.heap.push { cls := .type "frame", data := .dict #[] }) h' →
          Q' (.ref h'.objs.size) { s₄ with
            gens := s₄.gens.push (.fresh (.compStart (.GeneratorExp elt [⟨tg, iter, [], 0⟩] scope gpos) 0 (.ref it) .none (genEnv scope (cloFrom X.env.cells scope.names []) s₄.heap.objs.size code bi X.env))),
            toks := s₄.toks + 1 + 1 + 1,
            heap := h'.push { cls := .type "generator", data := .fields #[.int s₄.gens.size 0, .str "<genexpr>" (s₄.toks + 1), .str (X.env.qual ++ "<genexpr>") (s₄.toks + 1 + 1)] } }) X.xe { s2 with heap := h3, toks := tk } := by
    intro code h3 tk ps' hx hP3 hmore ht3
    obtain ⟨bm, ob, e1, e2, e3, e4, e5, e6, e7, e8⟩ := TB.bm
    have keep3 : ∀ b u, b ≠ P → s2.heap.get? b = some u → h3.get? b = some u := fun b u hb e => hx b u hb e
    refine wpAny_builtinsFor (m := X.mg) (by rw [I2.ok.glob]; exact (I2.mod.glob.keeps I2.bk).extBut hx TB.gP) e1 e2 (keep3 _ _ e4 (I2.bk _ _ e5)) e6 e7 e8 ?_
    obtain ⟨more, em⟩ := hmore
    have J3 := inv_tab (more := more) (h' := h3) (g' := s2.gens) (d' := s2.drawn) (t' := tk) I2 hP (fun b u hb e => keep3 b u hb e) (by rw [← em]; exact hP3) I2.bare
    obtain ⟨W, ⟨m, w⟩, turn⟩ := q (upd H2 P (.tbl (ps ++ more))) ⟨⟨ps ++ more, upd_same, by rw [← em]; exact ht3⟩, fun b hb => upd_ne hb⟩
    intro h' hn' hs'
    generalize hs4 : ({ s2 with heap := h3, gens := s2.gens, drawn := s2.drawn, toks := tk } : Shared) = s4 at J3
    have hs4' : ({ s2 with heap := h3, toks := tk } : Shared) = s4 := hs4
    try rw [hs4'] at hn'
    try rw [hs4'] at hs'
    try rw [hs4']
    have eh : s4.heap = h3 := by rw [← hs4]
    have szh : h'.objs.size = s4.heap.objs.size + 1 := by rw [hs'.1, Heap.size_push]
    have keep' : ∀ b o, s4.heap.get? b = some o → h'.get? b = some o := fun b o e => hs'.extBut b o (Nat.ne_of_lt (Heap.lt_size e)) (Heap.get?_push_of_some _ e)
    have st4 : tn 0 s4.heap := T.keep _ _ _ st2 fun b hb o e => by rw [eh]; exact keep3 b o (fpP b hb) e
    have f4 : ∀ b ∈ fp, FpOk X pins (upd H2 P (.tbl (ps ++ more))) b ∧ b < s4.heap.objs.size := fun b hb => by
      obtain ⟨o, e, _⟩ := T.obj _ _ st4 b hb
      exact ⟨⟨by rw [upd_ne (fpP b hb)]; exact (f2 b hb).1, (f2 b hb).2⟩, Heap.lt_size e⟩
    have keep5 : ∀ b o, s4.heap.get? b = some o → (h'.push { cls := .type "generator", data := .fields #[.int s4.gens.size 0, .str "<genexpr>" (s4.toks + 1), .str (X.env.qual ++ "<genexpr>") (s4.toks + 1 + 1)] }).get? b = some o :=
      fun b o e => Heap.get?_push_of_some _ (keep' b o e)
    have hgo : (h'.push { cls := .type "generator", data := .fields #[.int s4.gens.size 0, .str "<genexpr>" (s4.toks + 1), .str (X.env.qual ++ "<genexpr>") (s4.toks + 1 + 1)] }).get? (s4.heap.objs.size + 1) =
        some { cls := .type "generator", data := .fields #[.int s4.gens.size 0, .str "<genexpr>" (s4.toks + 1), .str (X.env.qual ++ "<genexpr>") (s4.toks + 1 + 1)] } := by
      rw [← szh]
      exact Heap.get?_push_size _ rfl
    generalize hA' : X.A.in1.in1.over (.compLoop (.GeneratorExp elt [⟨tg, iter, [], 0⟩] scope gpos) 0 (.ref it) .none (genEnv scope (cloFrom X.env.cells scope.names []) s4.heap.objs.size code builtinsNs X.env)) [] = A'
    have rA : Room k A' := by rw [← hA']; exact room_gen hr
    have fA : A'.frames = some (genEnv scope (cloFrom X.env.cells scope.names []) s4.heap.objs.size code builtinsNs X.env :: X.stack) := by rw [← hA']; exact frames_gen I2.ok.frames
    have I5 := gen_start (A' := A') (code := code) (go := { cls := .type "generator", data := .fields #[.int s4.gens.size 0, .str "<genexpr>" (s4.toks + 1), .str (X.env.qual ++ "<genexpr>") (s4.toks + 1 + 1)] })
      (G5 := s4.gens.push (.fresh (.compStart (.GeneratorExp elt [⟨tg, iter, [], 0⟩] scope gpos) 0 (.ref it) .none (genEnv scope (cloFrom X.env.cells scope.names []) s4.heap.objs.size code builtinsNs X.env)))) (t5 := s4.toks + 1 + 1 + 1)
      J3 ok hN f4 rA.hd fA keep5 (hn'.push _) hgo (fun v z => by cases z) (J3.bare.push rfl)
    have nfp : ∀ b ∈ fp, (upd H2 P (.tbl (ps ++ more))) b = none := fun b hb => (f4 b hb).1.1
    refine hQ _ _ ⟨h'.objs.size, s4.gens.size, m + 1, _, { cls := .type "generator", data := .fields #[.int s4.gens.size 0, .str "<genexpr>" (s4.toks + 1), .str (X.env.qual ++ "<genexpr>") (s4.toks + 1 + 1)] },
      gcx X A' s4 (upd H2 P (.tbl (ps ++ more))) (genEnv scope (cloFrom X.env.cells scope.names []) s4.heap.objs.size code builtinsNs X.env) fp,
      [(s4.heap.objs.size + 1, { cls := .type "generator", data := .fields #[.int s4.gens.size 0, .str "<genexpr>" (s4.toks + 1), .str (X.env.qual ++ "<genexpr>") (s4.toks + 1 + 1)] })], wipe σ (own.map (·.2)), rfl, rfl, rfl, ?_, ?_, ?_, I5.nolimit, Array.getElem?_push_size .., ?_, ?_⟩
    · rw [szh]; exact List.mem_singleton.mpr rfl
    · exact fun h hh => ⟨_, _, _, hh, rfl, rfl, rfl⟩
    · rw [szh]; exact ⟨_, _, _, hgo, rfl, rfl, rfl⟩
    · refine ⟨rfl, ?_⟩
      have I6 := inv_gens (s' := ({ s4 with
            gens := s4.gens.push (.fresh (.compStart (.GeneratorExp elt [⟨tg, iter, [], 0⟩] scope gpos) 0 (.ref it) .none (genEnv scope (cloFrom X.env.cells scope.names []) s4.heap.objs.size code builtinsNs X.env))),
            toks := s4.toks + 1 + 1 + 1,
            heap := h'.push { cls := .type "generator", data := .fields #[.int s4.gens.size 0, .str "<genexpr>" (s4.toks + 1), .str (X.env.qual ++ "<genexpr>") (s4.toks + 1 + 1)] } } : Shared).setGen s4.gens.size .running) I5 rfl rfl (allBare_setGen I5.bare rfl)
      exact seg_first (X' := gcx X A' s4 (upd H2 P (.tbl (ps ++ more))) (genEnv scope (cloFrom X.env.cells scope.names []) s4.heap.objs.size code builtinsNs X.env) fp) (A := X.A.in1.in1) hA' rfl rfl rfl rfl ok.co T
        (fun p hp z => by
          have e : p = _ := List.mem_singleton.mp hp
          rw [e] at z
          exact absurd (f4 _ z).2 (Nat.not_lt.mpr (Nat.le_succ _))) (hg A' s4 _ _ code fp) (he A' s4 _ _ code fp rA) turn (m + 1) _ _ m _ (Nat.lt_succ_self m) I6
        (T.keep _ _ _ st4 fun b _ o e => keep5 b o e) nfp w
    · intro H' s' J
      exact J3.call' (ch := fp) J.os J.base J.hok J.bare fun b hb => ⟨(f4 b hb).1.2.2.2.1, (f4 b hb).1.2.1, (f4 b hb).1.2.2.2.2.1, (f4 b hb).1.2.2.2.2.2⟩
  cases hf : codeAmong gpos ps.toList with
  | none =>
    refine wpAny_genexprCodeX hcode (cd.code hPs ht) (cd.tab hPs) hf fun c' h' tk hx hge hlt hco' _ htab' _ => ?_
    obtain ⟨o1, vs, f1, tf, fl, tg, inF, tx, tt, op, _, _, _, _, _, _, _, _, _, htr, _⟩ := hco'
    exact cont _ h' tk _ hx htab'.2 ⟨_, rfl⟩ htr
  | some cv =>
    refine wpAny_genexprCode_hit hcode (cd.code hPs ht) hf ?_
    exact cont cv s2.heap s2.toks ps (Heap.ExtBut.refl _ _) hPs ⟨#[], by simp⟩ ht
end

/-! ### any, all -/
/-- the reading: the walked thing, then the table may have grown; W by the turn and a measure -/
def tGen (stop : Bool) (P : Addr) (wi : TI) (g : TG) (te : TE) (vs : List Nat) : TE := fun σ H Q => wi σ H fun J H1 => TabG H1 P ∧ ∀ H2, Tabbed P H1 H2 → ∃ W : Nat → Nat → Hp → Prop, (∃ m, W 0 m H2) ∧
  TurnG J g te (wipe σ vs) vs stop (fun H' => Q (.bl stop) H') (fun H' => Q (.bl (!stop)) H') W
section
variable {X : Cx} {c P : Addr} {elt tg iter : Expr} {p pos gpos : Pos} {scope : Scope} {own : List (Str × Nat)} {wi : TI} {g : TG} {te : TE} {k : Nat}
theorem pe_all (hr : Room (k + 1) X.A) (hgl : Gl X "all") (hm : X.mg "all" = none) (TB : TabB X.base X.mg c P) (hcode : X.env.code = .ref c) (hN : X.N.Nodup) (ok : GOk X.N X.env.scope scope own) (hi : PI X tg iter wi)
    (hg : ∀ (A' : Around) (s : Shared) (H : Hp) (C : Addr) (code : Value) (fp : List Addr), PG (gcx X A' s H (genEnv scope (cloFrom X.env.cells scope.names []) C code builtinsNs X.env) fp) tg g)
    (he : ∀ (A' : Around) (s : Shared) (H : Hp) (C : Addr) (code : Value) (fp : List Addr), Room k A' → PE (gcx X A' s H (genEnv scope (cloFrom X.env.cells scope.names []) C code builtinsNs X.env) fp) elt te)
    (hs : ∀ v, genFold iter X.env v = pure v := by intro _; rfl)
    (hst : starEach [.GeneratorExp elt [⟨tg, iter, [], 0⟩] scope gpos] X.env = (false, eval (.GeneratorExp elt [⟨tg, iter, [], 0⟩] scope gpos) X.env) :: starEach [] X.env := by rfl) :
    PE X (.Call (.Name "all" p) [.GeneratorExp elt [⟨tg, iter, [], 0⟩] scope gpos] [] pos) (tGen false P wi g te (own.map (·.2))) := by
  refine ⟨fun pins s σ H Q I h => ?_⟩
  refine wpAny_Call_Name_kw (ld_blt I hgl hm (show bootBuiltins "all" = some (.builtin "all") by decide +kernel) ?_)
  refine PyProof.Rows.callWith_builtin1 ?_ hst (by rfl)
  rw [hst]
  show wpAny _ _ (spliced ((false, eval (.GeneratorExp elt [⟨tg, iter, [], 0⟩] scope gpos) X.env) :: backTo pos (starEach [] X.env))) _ _ s
  refine Calls.spliced_cons (gen_make hr TB hcode hN ok hi hg he hs I h fun u s5 hG => ?_)
  obtain ⟨a, gn, n, gs, go, X', pn, σw, rfl, e1, e2, hpn, hgen, hig, hl, hgs, hgo, back⟩ := hG
  refine Calls.spliced_nil ?_
  refine call_function_tree F.kind_all F.plain_all F.entry_all (F.args_all1 _) ?_
  unfold Builtin.«all»
  refine wpAny_bind (m := oneArg "all" _) (wpAny_pure ?_)
  refine wpAny_bind (wpAny_pyIter_gen hig ?_)
  refine wpAny_pure ⟨plainId_quiet F.plain_all_loop _, ?_⟩
  rw [← e1, ← e2] at hgo ⊢
  refine all_loop (X' := X') (A := X.A) hr.hd (by have := hr.dp; omega) hpn hgen (fun b H' s' J q1 q2 => ?_) n s5 gs hig hl hgs hgo
  refine ⟨.bl b, H', back H' s' J, rfl, ?_⟩
  cases b with
  | true => exact q1 rfl
  | false => exact q2 rfl
theorem pe_any (hr : Room (k + 1) X.A) (hgl : Gl X "any") (hm : X.mg "any" = none) (TB : TabB X.base X.mg c P) (hcode : X.env.code = .ref c) (hN : X.N.Nodup) (ok : GOk X.N X.env.scope scope own) (hi : PI X tg iter wi)
    (hg : ∀ (A' : Around) (s : Shared) (H : Hp) (C : Addr) (code : Value) (fp : List Addr), PG (gcx X A' s H (genEnv scope (cloFrom X.env.cells scope.names []) C code builtinsNs X.env) fp) tg g)
    (he : ∀ (A' : Around) (s : Shared) (H : Hp) (C : Addr) (code : Value) (fp : List Addr), Room k A' → PE (gcx X A' s H (genEnv scope (cloFrom X.env.cells scope.names []) C code builtinsNs X.env) fp) elt te)
    (hs : ∀ v, genFold iter X.env v = pure v := by intro _; rfl)
    (hst : starEach [.GeneratorExp elt [⟨tg, iter, [], 0⟩] scope gpos] X.env = (false, eval (.GeneratorExp elt [⟨tg, iter, [], 0⟩] scope gpos) X.env) :: starEach [] X.env := by rfl) :
    PE X (.Call (.Name "any" p) [.GeneratorExp elt [⟨tg, iter, [], 0⟩] scope gpos] [] pos) (tGen true P wi g te (own.map (·.2))) := by
  refine ⟨fun pins s σ H Q I h => ?_⟩
  refine wpAny_Call_Name_kw (ld_blt I hgl hm boot_any ?_)
  refine PyProof.Rows.callWith_builtin1 ?_ hst (by rfl)
  rw [hst]
  show wpAny _ _ (spliced ((false, eval (.GeneratorExp elt [⟨tg, iter, [], 0⟩] scope gpos) X.env) :: backTo pos (starEach [] X.env))) _ _ s
  refine Calls.spliced_cons (gen_make hr TB hcode hN ok hi hg he hs I h fun u s5 hG => ?_)
  obtain ⟨a, gn, n, gs, go, X', pn, σw, rfl, e1, e2, hpn, hgen, hig, hl, hgs, hgo, back⟩ := hG
  refine Calls.spliced_nil ?_
  refine call_function_tree F.kind_any F.plain_any F.entry_any (F.args_any1 _) ?_
  unfold Builtin.«any»
  refine wpAny_bind (m := oneArg "any" _) (wpAny_pure ?_)
  refine wpAny_bind (wpAny_pyIter_gen hig ?_)
  refine wpAny_pure ⟨plainId_quiet F.plain_any_loop _, ?_⟩
  rw [← e1, ← e2] at hgo ⊢
  refine any_loop (X' := X') (A := X.A) hr.hd (by have := hr.dp; omega) hpn hgen (fun b H' s' J q1 q2 => ?_) n s5 gs hig hl hgs hgo
  refine ⟨.bl b, H', back H' s' J, rfl, ?_⟩
  cases b with
  | false => exact q1 rfl
  | true => exact q2 rfl
end

/-! ### the forms one uses: over a tuple, a list, a range -/
section
variable {K : PySem.W.Frag} {g : TG} {te : TE} {σw : L2.St} {vs : List Nat} {stop : Bool} {Qf Qe : Hp → Prop}
theorem gen_tup {a : Addr} {xs : List V} {H2 : Hp} (Pv : Nat → Hp → Prop) (h0 : Pv 0 H2) (hl : ∀ i H, i ≤ xs.length → Pv i H → SqT K H a xs)
    (hs : ∀ i x H, xs[i]? = some x → Pv i H → g x σw H fun σ2 H2 => wipe σ2 vs = σw ∧ te σ2 H2 fun y H3 => ∃ b, y = .bl b ∧ (b = stop → Qf H3) ∧ (b = !stop → Pv (i + 1) H3))
    (hd : ∀ H, Pv xs.length H → Qe H) : ∃ W : Nat → Nat → Hp → Prop, (∃ m, W 0 m H2) ∧ TurnG (Itt K a) g te σw vs stop Qf Qe W := by
  refine ⟨fun i m H => m = xs.length - i ∧ i ≤ xs.length ∧ Pv i H, ⟨xs.length, by simp, Nat.zero_le _, h0⟩, ?_⟩
  rintro i m H ⟨rfl, hi, p⟩
  have q := hl i H hi p
  by_cases hlt : i < xs.length
  · refine .inr ⟨⟨xs, xs[i], q, by simp [hlt]⟩, Pv (i + 1), fun H' p' => ⟨xs.length - (i + 1), by omega, rfl, hlt, p'⟩, fun x H' y => ?_⟩
    obtain ⟨e, y⟩ := y
    subst e
    exact hs i x _ (y xs q) p
  · have e : i = xs.length := by omega
    subst e
    exact .inl ⟨⟨xs, q, Nat.le_refl _⟩, hd H p⟩
theorem gen_list {a : Addr} {xs : List V} {H2 : Hp} (Pv : Nat → Hp → Prop) (h0 : Pv 0 H2) (hl : ∀ i H, i ≤ xs.length → Pv i H → SqL K H a xs)
    (hs : ∀ i x H, xs[i]? = some x → Pv i H → g x σw H fun σ2 H2 => wipe σ2 vs = σw ∧ te σ2 H2 fun y H3 => ∃ b, y = .bl b ∧ (b = stop → Qf H3) ∧ (b = !stop → Pv (i + 1) H3))
    (hd : ∀ H, Pv xs.length H → Qe H) : ∃ W : Nat → Nat → Hp → Prop, (∃ m, W 0 m H2) ∧ TurnG (Itl K a) g te σw vs stop Qf Qe W := by
  refine ⟨fun i m H => m = xs.length - i ∧ i ≤ xs.length ∧ Pv i H, ⟨xs.length, by simp, Nat.zero_le _, h0⟩, ?_⟩
  rintro i m H ⟨rfl, hi, p⟩
  have q := hl i H hi p
  by_cases hlt : i < xs.length
  · refine .inr ⟨⟨xs, xs[i], q, by simp [hlt]⟩, Pv (i + 1), fun H' p' => ⟨xs.length - (i + 1), by omega, rfl, hlt, p'⟩, fun x H' y => ?_⟩
    obtain ⟨e, y⟩ := y
    subst e
    exact hs i x _ (y xs q) p
  · have e : i = xs.length := by omega
    subst e
    exact .inl ⟨⟨xs, q, Nat.le_refl _⟩, hd H p⟩
theorem gen_range {lo : Int} {n : Nat} {H2 : Hp} (Pv : Nat → Hp → Prop) (h0 : Pv 0 H2)
    (hs : ∀ i H, i < n → Pv i H → g (.int (lo + i)) σw H fun σ2 H2 => wipe σ2 vs = σw ∧ te σ2 H2 fun y H3 => ∃ b, y = .bl b ∧ (b = stop → Qf H3) ∧ (b = !stop → Pv (i + 1) H3))
    (hd : ∀ H, Pv n H → Qe H) : ∃ W : Nat → Nat → Hp → Prop, (∃ m, W 0 m H2) ∧ TurnG (Itr lo n) g te σw vs stop Qf Qe W := by
  refine ⟨fun i m H => m = n - i ∧ i ≤ n ∧ Pv i H, ⟨n, by simp, Nat.zero_le _, h0⟩, ?_⟩
  rintro i m H ⟨rfl, hi, p⟩
  by_cases hlt : i < n
  · refine .inr ⟨hlt, Pv (i + 1), fun H' p' => ⟨n - (i + 1), by omega, rfl, hlt, p'⟩, fun x H' y => ?_⟩
    obtain ⟨e, y⟩ := y
    subst e y
    exact hs i _ hlt p
  · have e : i = n := by omega
    subst e
    exact .inl ⟨Nat.le_refl _, hd H p⟩
end

/-! ### a def whose code's table is known -/
structure FunT (K : PySem.W.Frag) (x qual : Str) (st : Stmt) (f : Addr) (fd : FuncData) (c : Addr) : Prop where
  ex : ∃ (oc : Value) (od : Option Addr) (kV doc pm : Value) (an : Option Addr) (ct : Value) (osl : Array (Option Value)),
    fd = PySem.W.fnOf x qual (defArgs st) (defBody st) (defScope st) .none kV doc pm an (.ref c) ct ∧ K.lookup f = some ⟨oc, od, .func fd, osl⟩ ∧ PySem.W.codeIn K (.ref c) qual = true
  kp : PySem.W.keepIn K (.ref f) = true
section
variable {P : Program} {w : World} {K : PySem.W.Frag} {mg : Str → Option Value} {base : Heap}
theorem FunT.toFun {x qual : Str} {st : Stmt} {f : Addr} {fd : FuncData} {c : Addr} (F : FunT K x qual st f fd c) : Fun K x qual st f fd := by
  obtain ⟨oc, od, kV, doc, pm, an, ct, osl, rfl, lk, hcd⟩ := F.ex
  exact ⟨⟨oc, od, kV, doc, pm, an, _, ct, osl, rfl, lk, hcd⟩, F.kp⟩
theorem FunT.ok {x qual : Str} {st : Stmt} {f : Addr} {fd : FuncData} {c : Addr} {N ps : List Str} {k : Nat} {sp : Sp} (F : FunT K x qual st f fd c) (S : FnScope N ps (defScope st)) (len : ∀ vs H Q E, sp vs H Q E → vs.length = ps.length)
    (hbody : ∀ (A : Around) (outer : List Env) (s : Shared) (H : Hp) (vs : List V) (Q : VK) (E : XK), Room k (A.deeper (envOfC qual (defScope st) s.heap.objs.size f (.ref c))) → sp vs H Q E →
      ∃ t, PSs (cxOf CX0 P w K mg base N qual (defScope st) f (.ref c) A outer s H E).nox (defBody st) t ∧ t { nx := fun _ H' => Q .non H', rt := Q } (start N vs) H) : FnOk P w K mg base CX0 (k + 1) f fd ps sp := by
  obtain ⟨oc, od, kV, doc, pm, an, ct, osl, rfl, lk, hcd⟩ := F.ex
  refine fn_of lk hcd S len fun A outer s H vs Q E hr hsp => ?_
  obtain ⟨t, h, q⟩ := hbody A outer s H vs Q E hr hsp
  exact ⟨t, h.nox, q⟩
theorem funT_mk {x qual : Str} {st : Stmt} {f : Addr} {oc : Value} {od an : Option Addr} {osl : Array (Option Value)} {kV doc pm ct : Value} {c : Addr} (l : K.lookup f = some ⟨oc, od, .func (PySem.W.fnOf x qual (defArgs st) (defBody st) (defScope st) .none kV doc pm an (.ref c) ct), osl⟩)
    (hc : PySem.W.codeIn K (.ref c) qual = true) (k : PySem.W.keepIn K (.ref f) = true) : FunT K x qual st f (PySem.W.fnOf x qual (defArgs st) (defBody st) (defScope st) .none kV doc pm an (.ref c) ct) c := ⟨⟨oc, od, kV, doc, pm, an, ct, osl, rfl, l, hc⟩, k⟩
end
end GA

set_option Elab.async false
set_option linter.all false
set_option maxRecDepth 100000
set_option maxHeartbeats 4000000
/-! Data of any depth in the abstract heap; what a call keeps; the law's stream. -/
namespace KD
open PySem PySem.Spec PyProof.Rows L2 GxR GA

/-! ### data in the heap: lists that stand at M may change, so no datum is at one -/
mutual
inductive At (M : Addr → Prop) (H : Hp) : V → PyData → Prop
  | non : At M H .non .none
  | bl (b : Bool) : At M H (.bl b) (.bool b)
  | int (i : Int) : At M H (.int i) (.int i)
  | str (x : Str) : At M H (.str x) (.str x)
  | lst {a : Addr} {xs : List V} {ds : List PyData} : H a = some (.lst xs) → ¬ M a → AtL M H xs ds → At M H (.ref a) (.list ds)
  | tup {a : Addr} {xs : List V} {ds : List PyData} : H a = some (.tup xs) → AtL M H xs ds → At M H (.ref a) (.tuple ds)
inductive AtL (M : Addr → Prop) (H : Hp) : List V → List PyData → Prop
  | nil : AtL M H [] []
  | cons {v : V} {vs : List V} {d : PyData} {ds : List PyData} : At M H v d → AtL M H vs ds → AtL M H (v :: vs) (d :: ds)
end
/-- what a call keeps -/
structure Kp (M : Addr → Prop) (H H' : Hp) : Prop where
  tup : ∀ b xs, H b = some (.tup xs) → H' b = some (.tup xs)
  lst : ∀ b xs, ¬ M b → H b = some (.lst xs) → H' b = some (.lst xs)
  frz : ∀ b o u, H b = some (.frz o u) → H' b = some (.frz o u)
  tbl : ∀ P, TabG H P → TabG H' P
  dct : ∀ b kvs, ¬ M b → H b = some (.dT kvs) → H' b = some (.dT kvs)
abbrev MN : Addr → Prop := fun _ => False
section
variable {M M' : Addr → Prop} {H H' H2 : Hp}
theorem Kp.refl : Kp M H H := ⟨fun _ _ h => h, fun _ _ _ h => h, fun _ _ _ h => h, fun _ h => h, fun _ _ _ h => h⟩
theorem Kp.trans (a : Kp M H H') (b : Kp M H' H2) : Kp M H H2 := ⟨fun c xs h => b.tup c xs (a.tup c xs h), fun c xs n h => b.lst c xs n (a.lst c xs n h), fun c o u h => b.frz c o u (a.frz c o u h), fun P h => b.tbl P (a.tbl P h), fun c kvs n h => b.dct c kvs n (a.dct c kvs n h)⟩
theorem Kp.mono (a : Kp M H H') (h : ∀ b, M b → M' b) : Kp M' H H' := ⟨a.tup, fun b xs n => a.lst b xs fun z => n (h b z), a.frz, a.tbl, fun b xs n => a.dct b xs fun z => n (h b z)⟩
theorem Kp.any (a : Kp MN H H') : Kp M H H' := a.mono fun _ z => z.elim
theorem Kp.new {p : Addr} {o : HO} (h : H p = none) : Kp M H (upd H p o) := by
  have n : ∀ b u, H b = some u → b ≠ p := fun b u e => ne_of_none e h
  refine ⟨fun b xs e => by rw [upd_ne (n b _ e)]; exact e, fun b xs _ e => by rw [upd_ne (n b _ e)]; exact e, fun b o u e => by rw [upd_ne (n b _ e)]; exact e, fun P ⟨ps, e, t⟩ => ⟨ps, by rw [upd_ne (n P _ e)]; exact e, t⟩, fun b kvs _ e => by rw [upd_ne (n b _ e)]; exact e⟩
theorem Kp.put {a : Addr} {xs ys : List V} (hm : M a) (h : H a = some (.lst xs)) : Kp M H (upd H a (.lst ys)) := by
  refine ⟨fun b zs e => by rw [upd_ne (ne_of e h (by intro z; cases z))]; exact e, fun b zs n e => ?_, fun b o u e => by rw [upd_ne (ne_of e h (by intro z; cases z))]; exact e, fun P ⟨ps, e, t⟩ => ⟨ps, by rw [upd_ne (ne_of e h (by intro z; cases z))]; exact e, t⟩, fun b kvs _ e => by rw [upd_ne (ne_of e h (by intro z; cases z))]; exact e⟩
  rw [upd_ne (fun z => n (by rw [z]; exact hm))]
  exact e
theorem Kp.tabbed {P : Addr} (hP : TabG H P) (h : Tabbed P H H') : Kp M H H' := by
  obtain ⟨ps, e, t⟩ := hP
  have n : ∀ b u, H b = some u → (∀ q, u ≠ .tbl q) → b ≠ P := fun b u z q y => by
    rw [y, e] at z
    exact q ps (Option.some.inj z).symm
  refine ⟨fun b xs z => by rw [h.2 b (n b _ z (by intro q y; cases y))]; exact z, fun b xs _ z => by rw [h.2 b (n b _ z (by intro q y; cases y))]; exact z, fun b o u z => by rw [h.2 b (n b _ z (by intro q y; cases y))]; exact z, fun P' ⟨ps', e', t'⟩ => ?_, fun b kvs _ z => by rw [h.2 b (n b _ z (by intro q y; cases y))]; exact z⟩
  by_cases hb : P' = P
  · rw [hb]; exact h.1
  · exact ⟨ps', by rw [h.2 P' hb]; exact e', t'⟩
/-- a write to a list that stood nowhere at the beginning -/
theorem Kp.putNew {a : Addr} {xs ys : List V} (k : Kp M H H') (hn : H a = none) (h : H' a = some (.lst xs)) : Kp M H (upd H' a (.lst ys)) := by
  have n : ∀ b u, H b = some u → b ≠ a := fun b u e => ne_of_none e hn
  refine ⟨fun b zs e => by rw [upd_ne (n b _ e)]; exact k.tup b zs e, fun b zs m e => by rw [upd_ne (n b _ e)]; exact k.lst b zs m e, fun b o u e => by rw [upd_ne (n b _ e)]; exact k.frz b o u e, fun P hP => ?_, fun b kvs m e => by rw [upd_ne (n b _ e)]; exact k.dct b kvs m e⟩
  obtain ⟨ps, e, t⟩ := k.tbl P hP
  exact ⟨ps, by rw [upd_ne (ne_of e h (by intro z; cases z))]; exact e, t⟩
theorem Kp.putFresh {a : Addr} {xs ys : List V} (k : Kp M H H') (hn : ∀ zs, H a ≠ some (.lst zs)) (h : H' a = some (.lst xs)) : Kp M H (upd H' a (.lst ys)) := by
  refine ⟨fun b zs e => ?_, fun b zs m e => ?_, fun b o u e => ?_, fun P hP => ?_, fun b kvs m e => by rw [upd_ne (ne_of (k.dct b kvs m e) h (by intro z; cases z))]; exact k.dct b kvs m e⟩
  · have e' := k.tup b zs e
    rw [upd_ne (ne_of e' h (by intro z; cases z))]; exact e'
  · rw [upd_ne (fun z => hn zs (by rw [← z]; exact e))]; exact k.lst b zs m e
  · have e' := k.frz b o u e
    rw [upd_ne (ne_of e' h (by intro z; cases z))]; exact e'
  · obtain ⟨ps, e, t⟩ := k.tbl P hP
    exact ⟨ps, by rw [upd_ne (ne_of e h (by intro z; cases z))]; exact e, t⟩
/-- a dict that may change -/
theorem Kp.putD {a : Addr} {xs ys : List (List Key × V)} (hm : M a) (h : H a = some (.dT xs)) : Kp M H (upd H a (.dT ys)) :=
  ⟨fun b zs e => by rw [upd_ne (ne_of e h (by intro z; cases z))]; exact e, fun b zs _ e => by rw [upd_ne (ne_of e h (by intro z; cases z))]; exact e, fun b o u e => by rw [upd_ne (ne_of e h (by intro z; cases z))]; exact e,
    fun P ⟨ps, e, t⟩ => ⟨ps, by rw [upd_ne (ne_of e h (by intro z; cases z))]; exact e, t⟩, fun b zs n e => by rw [upd_ne (fun z => n (by rw [z]; exact hm))]; exact e⟩
/-- what changes stood nowhere at the beginning -/
theorem Kp.cut {a : Addr} (k : Kp M H H') (k2 : Kp (fun b => b = a) H' H2) (hn : H a = none) : Kp M H H2 := by
  have n : ∀ b u, H b = some u → b ≠ a := fun b u e => ne_of_none e hn
  exact ⟨fun b zs e => k2.tup b zs (k.tup b zs e), fun b zs m e => k2.lst b zs (n b _ e) (k.lst b zs m e), fun b o u e => k2.frz b o u (k.frz b o u e), fun P hP => k2.tbl P (k.tbl P hP), fun b zs m e => k2.dct b zs (n b _ e) (k.dct b zs m e)⟩
theorem Kp.noLst {a : Addr} (k : Kp M H H') (hm : ¬ M a) (h : H' a = none) : ∀ zs, H a ≠ some (.lst zs) := fun zs e => by
  rw [k.lst a zs hm e] at h
  cases h
theorem Kp.seqL {K : PySem.W.Frag} {a : Addr} {xs : List V} (k : Kp M H H') (hm : ¬ M a) (h : SqL K H a xs) : SqL K H' a xs := by
  rcases h with (h | ⟨o, h⟩) | h
  · exact .inl (.inl (k.lst _ _ hm h))
  · exact .inl (.inr ⟨o, k.frz _ _ _ h⟩)
  · exact .inr h
theorem Kp.seqT {K : PySem.W.Frag} {a : Addr} {xs : List V} (k : Kp M H H') (h : SqT K H a xs) : SqT K H' a xs := by
  rcases h with (h | ⟨o, h⟩) | h
  · exact .inl (.inl (k.tup _ _ h))
  · exact .inl (.inr ⟨o, k.frz _ _ _ h⟩)
  · exact .inr h
mutual
theorem At.kp (k : Kp M H H') : ∀ {d : PyData} {v : V}, At M H v d → At M H' v d
  | .none, _, h => by cases h; exact .non
  | .bool b, _, h => by cases h; exact .bl b
  | .int i, _, h => by cases h; exact .int i
  | .str x, _, h => by cases h; exact .str x
  | .list ds, _, h => by
    cases h with
    | lst e n r => exact .lst (k.lst _ _ n e) n (AtL.kp k r)
  | .tuple ds, _, h => by
    cases h with
    | tup e r => exact .tup (k.tup _ _ e) (AtL.kp k r)
  | .dict _, _, h => by cases h
theorem AtL.kp (k : Kp M H H') : ∀ {ds : List PyData} {vs : List V}, AtL M H vs ds → AtL M H' vs ds
  | [], _, h => by cases h; exact .nil
  | d :: ds, _, h => by
    cases h with
    | cons a r => exact .cons (At.kp k a) (AtL.kp k r)
end
mutual
theorem At.weak (w : ∀ a, M' a → M a) : ∀ {d : PyData} {v : V}, At M H v d → At M' H v d
  | .none, _, h => by cases h; exact .non
  | .bool b, _, h => by cases h; exact .bl b
  | .int i, _, h => by cases h; exact .int i
  | .str x, _, h => by cases h; exact .str x
  | .list ds, _, h => by
    cases h with
    | lst e n r => exact .lst e (fun z => n (w _ z)) (AtL.weak w r)
  | .tuple ds, _, h => by
    cases h with
    | tup e r => exact .tup e (AtL.weak w r)
  | .dict _, _, h => by cases h
theorem AtL.weak (w : ∀ a, M' a → M a) : ∀ {ds : List PyData} {vs : List V}, AtL M H vs ds → AtL M' H vs ds
  | [], _, h => by cases h; exact .nil
  | d :: ds, _, h => by
    cases h with
    | cons a r => exact .cons (At.weak w a) (AtL.weak w r)
end
theorem At.mn {d : PyData} {v : V} (h : At M H v d) : At MN H v d := h.weak fun _ z => z.elim
theorem AtL.mn {d : List PyData} {v : List V} (h : AtL M H v d) : AtL MN H v d := h.weak fun _ z => z.elim
mutual
theorem At.dp {K : PySem.W.Frag} : ∀ {d : PyData} {v : V}, At M H v d → Dp K H v d
  | .none, _, h => by cases h; exact .non
  | .bool b, _, h => by cases h; exact .bl b
  | .int i, _, h => by cases h; exact .int i
  | .str x, _, h => by cases h; exact .str x
  | .list ds, _, h => by
    cases h with
    | lst e n r => exact .lst (SqL.of e) (AtL.dp r)
  | .tuple ds, _, h => by
    cases h with
    | tup e r => exact .tup (SqT.of e) (AtL.dp r)
  | .dict _, _, h => by cases h
theorem AtL.dp {K : PySem.W.Frag} : ∀ {ds : List PyData} {vs : List V}, AtL M H vs ds → DpAll K H vs ds
  | [], _, h => by cases h; exact .nil
  | d :: ds, _, h => by
    cases h with
    | cons a r => exact .cons (At.dp a) (AtL.dp r)
end
theorem AtL.length : ∀ {ds : List PyData} {vs : List V}, AtL M H vs ds → vs.length = ds.length
  | [], _, h => by cases h; rfl
  | d :: ds, _, h => by
    cases h with
    | cons a r => exact congrArg (· + 1) (AtL.length r)
theorem AtL.get : ∀ {ds : List PyData} {vs : List V} {i : Nat} {v : V}, AtL M H vs ds → vs[i]? = some v → ∃ d, ds[i]? = some d ∧ At M H v d
  | [], _, i, v, h, e => by cases h; simp at e
  | d :: ds, _, 0, v, h, e => by
    cases h with
    | cons a r => simp at e; subst e; exact ⟨d, rfl, a⟩
  | d :: ds, _, i + 1, v, h, e => by
    cases h with
    | cons a r =>
      obtain ⟨d', h1, h2⟩ := AtL.get (i := i) r (by simpa using e)
      exact ⟨d', by simpa using h1, h2⟩
theorem AtL.get' {ds : List PyData} {vs : List V} {i : Nat} {d : PyData} (h : AtL M H vs ds) (e : ds[i]? = some d) : ∃ v, vs[i]? = some v ∧ At M H v d := by
  have hl := h.length
  obtain ⟨h1, _⟩ := List.getElem?_eq_some_iff.mp e
  have hv : vs[i]? = some (vs[i]'(by omega)) := List.getElem?_eq_getElem (by omega)
  obtain ⟨d', h2, h3⟩ := h.get hv
  rw [e] at h2; cases h2
  exact ⟨_, hv, h3⟩
theorem AtL.append : ∀ {ds es : List PyData} {vs us : List V}, AtL M H vs ds → AtL M H us es → AtL M H (vs ++ us) (ds ++ es)
  | [], _, _, _, h, g => by cases h; exact g
  | d :: ds, _, _, _, h, g => by
    cases h with
    | cons a r => exact .cons a (AtL.append r g)
theorem AtL.one {d : PyData} {v : V} (h : At M H v d) : AtL M H [v] [d] := .cons h .nil
theorem AtL.drop : ∀ {ds : List PyData} {vs : List V} (n : Nat), AtL M H vs ds → AtL M H (vs.drop n) (ds.drop n)
  | _, _, 0, h => h
  | [], _, n + 1, h => by cases h; exact .nil
  | d :: ds, _, n + 1, h => by
    cases h with
    | cons a r => exact AtL.drop n r
theorem AtL.take : ∀ {ds : List PyData} {vs : List V} (n : Nat), AtL M H vs ds → AtL M H (vs.take n) (ds.take n)
  | _, _, 0, h => .nil
  | [], _, n + 1, h => by cases h; exact .nil
  | d :: ds, _, n + 1, h => by
    cases h with
    | cons a r => exact .cons a (AtL.take n r)
theorem AtL.rev : ∀ {ds : List PyData} {vs : List V}, AtL M H vs ds → AtL M H vs.reverse ds.reverse
  | [], _, h => by cases h; exact .nil
  | d :: ds, _, h => by
    cases h with
    | cons a r => rw [List.reverse_cons, List.reverse_cons]; exact (AtL.rev r).append (.one a)
theorem AtL.ints : ∀ ns : List Int, AtL M H (ns.map V.int) (ns.map PyData.int)
  | [] => .nil
  | n :: r => .cons (.int n) (AtL.ints r)
theorem AtL.bls : ∀ ns : List Bool, AtL M H (ns.map V.bl) (ns.map PyData.bool)
  | [] => .nil
  | n :: r => .cons (.bl n) (AtL.bls r)
/-- a datum's value tells its scalar -/
theorem At.int_of {v : V} {i : Int} (h : At M H v (.int i)) : v = .int i := by cases h; rfl
theorem At.str_of {v : V} {i : Str} (h : At M H v (.str i)) : v = .str i := by cases h; rfl
theorem At.tup_of {v : V} {ds : List PyData} (h : At M H v (.tuple ds)) : ∃ a xs, v = .ref a ∧ H a = some (.tup xs) ∧ AtL M H xs ds := by
  cases h with
  | tup e r => exact ⟨_, _, rfl, e, r⟩
theorem At.lst_of {v : V} {ds : List PyData} (h : At M H v (.list ds)) : ∃ a xs, v = .ref a ∧ H a = some (.lst xs) ∧ ¬ M a ∧ AtL M H xs ds := by
  cases h with
  | lst e n r => exact ⟨_, _, rfl, e, n, r⟩
end

/-! ### the kind of a value -/
def isI : PyData → Bool
  | .int _ => true
  | _ => false
def isTup : PyData → Bool
  | .tuple _ => true
  | _ => false
def isLst : PyData → Bool
  | .list _ => true
  | _ => false
def isB : PyData → Bool
  | .bool _ => true
  | _ => false
def isS : PyData → Bool
  | .str _ => true
  | _ => false
def tyD : PyData → String
  | .none => "NoneType"
  | .bool _ => "bool"
  | .int _ => "int"
  | .str _ => "str"
  | .list _ => "list"
  | .tuple _ => "tuple"
  | .dict _ => "dict"
theorem At.ty {K : PySem.W.Frag} {M : Addr → Prop} {H : Hp} {v : V} {d : PyData} (h : At M H v d) : TyX K H v (.type (tyD d)) := by
  cases h with
  | non => exact .base .non
  | bl b => exact .base (.bl b)
  | int i => exact .base (.int i)
  | str x => exact .base (.str x)
  | lst e n r => exact .base (.lst e)
  | tup e r => exact .base (.tup e)
/-- isinstance(v, int) and the like -/
theorem kit_int {K : PySem.W.Frag} (d : PyData) : PySem.W.kitOne K (.type (tyD d)) (.type "int") = some (isI d || isB d) := by
  cases d <;> (refine kit_ty ?_; simp only [tyD, isI, isB, isS, isTup, isLst]; decide +kernel)
theorem kit_bool {K : PySem.W.Frag} (d : PyData) : PySem.W.kitOne K (.type (tyD d)) (.type "bool") = some (isB d) := by
  cases d <;> (refine kit_ty ?_; simp only [tyD, isI, isB, isS, isTup, isLst]; decide +kernel)
theorem kit_tup {K : PySem.W.Frag} (d : PyData) : PySem.W.kitOne K (.type (tyD d)) (.type "tuple") = some (isTup d) := by
  cases d <;> (refine kit_ty ?_; simp only [tyD, isI, isB, isS, isTup, isLst]; decide +kernel)
theorem kit_lst {K : PySem.W.Frag} (d : PyData) : PySem.W.kitOne K (.type (tyD d)) (.type "list") = some (isLst d) := by
  cases d <;> (refine kit_ty ?_; simp only [tyD, isI, isB, isS, isTup, isLst]; decide +kernel)
theorem kit_str {K : PySem.W.Frag} (d : PyData) : PySem.W.kitOne K (.type (tyD d)) (.type "str") = some (isS d) := by
  cases d <;> (refine kit_ty ?_; simp only [tyD, isI, isB, isS, isTup, isLst]; decide +kernel)
end KD

set_option Elab.async false
set_option linter.all false
set_option maxRecDepth 100000
set_option maxHeartbeats 4000000
/-! What is a plan, as functions over data. -/
namespace KM
open PySem KD

def wd (w : Str) : Bool := decide (w = "then") || decide (w = "beside")
mutual
def formed : PyData → Str → Option (List Int)
  | .int i, _ => some [i]
  | .tuple [.str w, .tuple ps], o => if (wd w && !decide (w = o) && decide (2 ≤ ps.length)) = true then formedL ps w else none
  | _, _ => none
termination_by d => sizeOf d
def formedL : List PyData → Str → Option (List Int)
  | [], _ => some []
  | p :: r, w => match formed p w, formedL r w with
    | some a, some b => some (a ++ b)
    | _, _ => none
termination_by ds => sizeOf ds
end
theorem formed_int (i : Int) (o : Str) : formed (.int i) o = some [i] := by rw [formed]
theorem formed_parts (w o : Str) (ps : List PyData) : formed (.tuple [.str w, .tuple ps]) o = if (wd w && !decide (w = o) && decide (2 ≤ ps.length)) = true then formedL ps w else none := by rw [formed]
theorem formedL_nil (w : Str) : formedL [] w = some [] := by rw [formedL]
theorem formedL_cons (p : PyData) (r : List PyData) (w : Str) : formedL (p :: r) w = (match formed p w, formedL r w with
    | some a, some b => some (a ++ b)
    | _, _ => none) := by rw [formedL]
mutual
theorem formed_ne : ∀ (d : PyData) (o : Str) (l : List Int), formed d o = some l → l ≠ []
  | .int i, o, l, h => by rw [formed_int] at h; cases h; simp
  | .tuple [.str w, .tuple ps], o, l, h => by
    rw [formed_parts] at h
    split at h
    · rename_i c
      simp only [Bool.and_eq_true, decide_eq_true_eq] at c
      have q := formedL_len ps w l h
      intro e
      rw [e] at q
      have : ps.length ≤ 0 := q
      omega
    · cases h
  | .none, o, l, h => by rw [formed] at h <;> first | cases h | (intros; simp_all)
  | .bool _, o, l, h => by rw [formed] at h <;> first | cases h | (intros; simp_all)
  | .str _, o, l, h => by rw [formed] at h <;> first | cases h | (intros; simp_all)
  | .list _, o, l, h => by rw [formed] at h <;> first | cases h | (intros; simp_all)
  | .dict _, o, l, h => by rw [formed] at h <;> first | cases h | (intros; simp_all)
  | .tuple xs, o, l, h => by
    unfold formed at h
    split at h
    · rename_i e; cases e
    · rename_i w ps heq
      injection heq with heq
      subst heq
      split at h
      · rename_i c
        simp only [Bool.and_eq_true, decide_eq_true_eq] at c
        have q := formedL_len ps w l h
        intro e
        rw [e] at q
        have : ps.length ≤ 0 := q
        omega
      · cases h
    · cases h
termination_by d => sizeOf d
theorem formedL_len : ∀ (ds : List PyData) (w : Str) (l : List Int), formedL ds w = some l → ds.length ≤ l.length
  | [], w, l, h => Nat.zero_le _
  | p :: r, w, l, h => by
    rw [formedL_cons] at h
    split at h
    · rename_i a b e1 e2
      cases h
      have h1 := formed_ne p w a e1
      have h2 := formedL_len r w b e2
      have h3 : 0 < a.length := List.length_pos_iff.mpr h1
      rw [List.length_append, List.length_cons]
      omega
    · cases h
termination_by ds => sizeOf ds
end

/-! ### a permutation of 0, 1, .. -/
def full (l : List Int) : Prop := ∀ k : Nat, k < l.length → (k : Int) ∈ l
instance (l : List Int) : Decidable (full l) := by unfold full; exact inferInstance
def okL (l : List Int) : Bool := decide (l.length ≤ 7 ∧ full l)
def rng (n : Nat) : List Int := (List.range n).map Int.ofNat
theorem rng_length (n : Nat) : (rng n).length = n := by simp [rng]
theorem mem_rng {n : Nat} {x : Int} : x ∈ rng n ↔ 0 ≤ x ∧ x < n := by
  unfold rng
  rw [List.mem_map]
  constructor
  · rintro ⟨k, hk, rfl⟩
    have := List.mem_range.mp hk
    simp only [Int.ofNat_eq_natCast]
    omega
  · intro ⟨h1, h2⟩
    exact ⟨x.toNat, List.mem_range.mpr (by omega), by simp only [Int.ofNat_eq_natCast]; omega⟩
theorem rng_sorted (n : Nat) : (rng n).Pairwise (· ≤ ·) := by
  unfold rng
  rw [List.pairwise_map]
  refine List.Pairwise.imp ?_ (List.pairwise_lt_range (n := n))
  intro a b h
  simp only [Int.ofNat_eq_natCast]
  omega
theorem full_perm : ∀ (n : Nat) (l : List Int), l.length = n → full l → l.Perm (rng n)
  | 0, l, h, _ => by
    have : l = [] := List.length_eq_zero_iff.mp h
    subst this
    exact List.Perm.refl _
  | n + 1, l, h, f => by
    have hm : (n : Int) ∈ l := f n (by omega)
    have h1 := List.perm_cons_erase hm
    have hl : (l.erase (n : Int)).length = n := by rw [List.length_erase_of_mem hm]; omega
    have ih := full_perm n (l.erase (n : Int)) hl fun k hk => by
      rw [hl] at hk
      have := f k (by omega)
      exact (List.mem_erase_of_ne (by omega)).mpr this
    refine h1.trans ((List.Perm.cons _ ih).trans ?_)
    have e : rng (n + 1) = rng n ++ [(n : Int)] := by
      unfold rng
      rw [List.range_succ, List.map_append]
      rfl
    rw [e]
    exact (List.perm_append_singleton _ _).symm
theorem full_of_perm {l l' : List Int} (p : l.Perm l') (f : full l) : full l' := fun k hk => p.mem_iff.mp (f k (by rw [p.length_eq]; exact hk))
theorem okL_perm {l l' : List Int} (p : l.Perm l') : okL l = okL l' := by
  unfold okL
  rw [decide_eq_decide]
  constructor
  · exact fun ⟨a, b⟩ => ⟨by rw [← p.length_eq]; exact a, full_of_perm p b⟩
  · exact fun ⟨a, b⟩ => ⟨by rw [p.length_eq]; exact a, full_of_perm p.symm b⟩
theorem sorted_rng {l l' : List Int} {n : Nat} (p : l'.Perm l) (s : l'.Pairwise (· ≤ ·)) : l' = rng n ↔ l.length = n ∧ full l := by
  constructor
  · intro e
    subst e
    have hl : l.length = n := by rw [← p.length_eq, rng_length]
    exact ⟨hl, fun k hk => p.mem_iff.mp (mem_rng.mpr ⟨by omega, by omega⟩)⟩
  · intro ⟨h1, h2⟩
    have q := full_perm n l h1 h2
    exact List.Perm.eq_of_pairwise (fun _ _ _ _ a b => Int.le_antisymm a b) s (rng_sorted n) (p.trans q)
theorem okL_mem {l : List Int} (h : okL l = true) {x : Int} (hx : x ∈ l) : 0 ≤ x ∧ x < l.length ∧ x < 7 := by
  have q := of_decide_eq_true h
  have := (full_perm _ l rfl q.2).mem_iff.mp hx
  have := mem_rng.mp this
  omega

/-! ### the verdict -/
def allF : List (Str × PyData) → Option (List Int)
  | [] => some []
  | (o, d) :: r => match formed d o, allF r with
    | some a, some b => some (a ++ b)
    | _, _ => none
def verd (found : List Int) (ws : List (Str × PyData)) : Nat := match allF ws with
  | some l => if okL (found ++ l) = true then (found ++ l).length else 0
  | none => 0
theorem allF_app : ∀ (ws us : List (Str × PyData)), allF (ws ++ us) = (match allF ws, allF us with
    | some a, some b => some (a ++ b)
    | _, _ => none)
  | [], us => by
    show allF us = _
    cases allF us <;> rfl
  | (o, d) :: r, us => by
    show (match formed d o, allF (r ++ us) with | some a, some b => some (a ++ b) | _, _ => none) = (match (match formed d o, allF r with | some a, some b => some (a ++ b) | _, _ => none), allF us with | some a, some b => some (a ++ b) | _, _ => none)
    rw [allF_app r us]
    cases formed d o <;> cases allF r <;> cases allF us <;> simp
theorem allF_map (w : Str) : ∀ ps : List PyData, allF (ps.map fun p => (w, p)) = formedL ps w
  | [] => by rw [formedL_nil]; rfl
  | p :: r => by
    rw [formedL_cons, ← allF_map w r]
    rfl
theorem allF_one (o : Str) (d : PyData) : allF [(o, d)] = formed d o := by
  show (match formed d o, some ([] : List Int) with | some a, some b => some (a ++ b) | _, _ => none) = formed d o
  cases formed d o <;> simp
theorem allF_len : ∀ (ws : List (Str × PyData)) (l : List Int), allF ws = some l → ws.length ≤ l.length
  | [], l, h => Nat.zero_le _
  | (o, d) :: r, l, h => by
    have h : (match formed d o, allF r with | some a, some b => some (a ++ b) | _, _ => none) = some l := h
    split at h
    · rename_i a b e1 e2
      cases h
      have h1 := formed_ne d o a e1
      have h2 := allF_len r b e2
      have h3 : 0 < a.length := List.length_pos_iff.mpr h1
      rw [List.length_append, List.length_cons]
      omega
    · cases h
theorem verd_task {found : List Int} {ws : List (Str × PyData)} {o : Str} {i : Int} : verd found (ws ++ [(o, .int i)]) = verd (found ++ [i]) ws := by
  unfold verd
  rw [allF_app, allF_one, formed_int]
  cases h : allF ws with
  | none => rfl
  | some l =>
    show (if okL (found ++ (l ++ [i])) = true then (found ++ (l ++ [i])).length else 0) = if okL (found ++ [i] ++ l) = true then (found ++ [i] ++ l).length else 0
    have p : (found ++ (l ++ [i])).Perm (found ++ [i] ++ l) := by
      rw [List.append_assoc]
      exact List.Perm.append_left _ List.perm_append_comm
    rw [okL_perm p, p.length_eq]
theorem verd_noTask {found : List Int} {ws : List (Str × PyData)} {o : Str} {i : Int} (h : ¬ (0 ≤ i ∧ i < 7)) : verd found (ws ++ [(o, .int i)]) = 0 := by
  rw [verd_task]
  unfold verd
  cases allF ws with
  | none => rfl
  | some l =>
    show (if okL (found ++ [i] ++ l) = true then _ else 0) = 0
    rw [if_neg fun q => h ?_]
    have := okL_mem q (x := i) (by simp)
    omega
theorem verd_parts {found : List Int} {ws : List (Str × PyData)} {o w : Str} {ps : List PyData} (h1 : wd w = true) (h2 : w ≠ o) (h3 : 2 ≤ ps.length) :
    verd found (ws ++ [(o, .tuple [.str w, .tuple ps])]) = verd found (ws ++ ps.map fun p => (w, p)) := by
  unfold verd
  rw [allF_app, allF_one, formed_parts, allF_app, allF_map, if_pos (by simp [h1, h2, h3])]
theorem verd_none {found : List Int} {ws : List (Str × PyData)} {o : Str} {d : PyData} (h : formed d o = none) : verd found (ws ++ [(o, d)]) = 0 := by
  unfold verd
  rw [allF_app, allF_one, h]
  cases allF ws <;> rfl
theorem verd_many {found : List Int} {ws : List (Str × PyData)} (h : 7 < found.length + ws.length) : verd found ws = 0 := by
  unfold verd
  cases e : allF ws with
  | none => rfl
  | some l =>
    have := allF_len ws l e
    show (if okL (found ++ l) = true then _ else 0) = 0
    rw [if_neg fun q => ?_]
    have := (of_decide_eq_true q).1
    rw [List.length_append] at this
    omega
theorem verd_long {found : List Int} {ws : List (Str × PyData)} {o w : Str} {ps : List PyData} (h : 7 < ps.length) :
    verd found (ws ++ [(o, .tuple [.str w, .tuple ps])]) = 0 := by
  unfold verd
  rw [allF_app, allF_one, formed_parts]
  split
  · rename_i l e
    split at e
    · rename_i a b e1 e2
      cases e
      split at e2
      · have := formedL_len ps w b e2
        rw [if_neg fun q => ?_]
        have := (of_decide_eq_true q).1
        rw [List.length_append, List.length_append] at this
        omega
      · cases e2
    · cases e
  · rfl
def vdt (d : PyData) : Nat := verd [] [(("" : Str), d)]
theorem vdt_eq (d : PyData) : vdt d = (match formed d "" with | some l => if okL l = true then l.length else 0 | none => 0) := by
  unfold vdt verd
  rw [allF_one]
  rfl
theorem vdt_plan {d : PyData} {l : List Int} {n : Nat} (h : formed d "" = some l) (p : l.Perm (rng n)) (h7 : n ≤ 7) : vdt d = n := by
  rw [vdt_eq, h]
  have hl : l.length = n := by rw [p.length_eq, rng_length]
  have : okL l = true := decide_eq_true ⟨by omega, fun k hk => p.mem_iff.mpr (mem_rng.mpr ⟨by omega, by omega⟩)⟩
  show (if okL l = true then l.length else 0) = n
  rw [if_pos this, hl]
/-- what is_plan says of a datum and a size -/
def isSz : PyData → Bool
  | .int n => decide (1 ≤ n ∧ n ≤ 7)
  | _ => false
def isTk (n : Int) : PyData → Bool
  | .int i => decide (0 ≤ i ∧ i < n)
  | _ => false
def isPl (d : PyData) : PyData → Bool
  | .int n => decide (1 ≤ n ∧ n ≤ 7) && decide ((vdt d : Int) = n)
  | _ => false
/-- what the law says -/
def lawPl (d : PyData) (n : Int) : Bool := match formed d "" with
  | some l => decide ((l.length : Int) = n ∧ full l)
  | none => false
theorem isPl_law (d : PyData) (n : Int) (h : 1 ≤ n) : isPl d (.int n) = (decide (n < 8) && lawPl d n) := by
  unfold isPl lawPl
  rw [vdt_eq]
  cases formed d "" with
  | none =>
    have : ¬ (((0 : Nat) : Int) = n) := by omega
    simp only [decide_eq_false this, Bool.and_false]
  | some l =>
    show (decide (1 ≤ n ∧ n ≤ 7) && decide (((if okL l = true then l.length else 0 : Nat) : Int) = n)) = (decide (n < 8) && decide ((l.length : Int) = n ∧ full l))
    by_cases h8 : n < 8
    · have h7 : 1 ≤ n ∧ n ≤ 7 := by omega
      rw [decide_eq_true h7, decide_eq_true h8, Bool.true_and, Bool.true_and, decide_eq_decide]
      by_cases ho : okL l = true
      · rw [if_pos ho]
        exact ⟨fun e => ⟨e, (of_decide_eq_true ho).2⟩, fun e => e.1⟩
      · rw [if_neg ho]
        refine ⟨fun e => ?_, fun e => ?_⟩
        · have : ((0 : Nat) : Int) = n := e
          omega
        · exact absurd (decide_eq_true ⟨by omega, e.2⟩) ho
    · have h7 : ¬ (1 ≤ n ∧ n ≤ 7) := by omega
      rw [decide_eq_false h7, decide_eq_false h8, Bool.false_and, Bool.false_and]
/-- == of two lists of ints -/
theorem eqv_ints : ∀ a b : List Int, PyData.eqv (.list (a.map PyData.int)) (.list (b.map PyData.int)) = decide (a = b) := by
  have key : ∀ a b : List Int, PyData.eqvAll (a.map PyData.int) (b.map PyData.int) = decide (a = b) := by
    intro a
    induction a with
    | nil => intro b; cases b <;> simp [PyData.eqvAll]
    | cons x r ih =>
      intro b
      cases b with
      | nil => simp [PyData.eqvAll]
      | cons y t =>
        simp only [List.map_cons, PyData.eqvAll, PyData.eqv, ih t]
        rw [Bool.eq_iff_iff]
        simp
  intro a b
  simp only [PyData.eqv]
  exact key a b
end KM

set_option Elab.async false
set_option linter.all false
set_option maxRecDepth 100000
set_option maxHeartbeats 4000000
/-! Rules that the hand layer lacks: sorted(tuple of ints), x in tuple of data, t[::-1]. -/
namespace KR
open PySem PySem.Spec PyProof.Rows L2 GxR GA KD
section
variable {prog : Program} {w : World} {A : Around} {E : Value → Shared → Prop} {s : Shared}
theorem sorted_tup {t : Addr} {vs : List Value} {ns : List Int} {Q : Value → Shared → Prop} (ht : IsTup s.heap t vs.toArray) (hI : IntsAre vs ns) (h64 : vs.length < 64)
    (h : ∀ (out : List Value) (ns' : List Int) (h1 h' : Heap) (a : Addr) (e : Nat), IntsAre out ns' → ns'.Perm ns → ns'.Pairwise (· ≤ ·) → (∀ b o, s.heap.get? b = some o → h1.get? b = some o) → (∀ b o, h1.get? b = some o → h'.get? b = some o) → h1.objs.size ≤ a → h'.get? a = some (seqObj "list" out.toArray e) → Q (.ref a) { s with heap := h' }) :
    wpAny (model prog w) A (call (.builtin "sorted") [.ref t]) Q E s := by
  obtain ⟨o, ho, hc, n, hd⟩ := id ht
  refine Calls.call_function_entry kind_sorted plain_sorted entry_sorted (args_sorted1 _) ?_
  unfold Builtin.«sorted»
  refine wpAny_bind (m := checkCount "sorted" 1 1 _) (wpAny_pure ?_)
  refine wpAny_bind (wpAny_collect_seq t (.inr rfl) ho hc hd (fun h1 k1 => ?_) (by rw [List.size_toArray]; exact small64 h64))
  refine wpAny_bind (wpAny_newList ?_ (by show _ ≤ _; exact small64 h64))
  have hoL : (h1.push (seqObj "list" vs.toArray 0)).get? h1.objs.size = some (seqObj "list" vs.toArray 0) := Heap.get?_push_size _ rfl
  have k2 : ∀ b o, h1.get? b = some o → b < h1.objs.size ∧ (h1.push (seqObj "list" vs.toArray 0)).get? b = some o := fun b o e => ⟨Heap.lt_size e, Heap.get?_push_of_some _ e⟩
  refine wpAny_bind (wpAny_holding (wpAny_call_entry slot_list_sort ⟨_, hoL, rfl⟩ entry_list_sort (list_sort_tree hoL hI h64 fun out ns' a1 a2 a3 => ⟨_, rfl, ?_⟩) (args_list_sort _)))
  refine wpAny_pure ⟨_, rfl, ?_⟩
  obtain ⟨e, he⟩ := sortedHeap_at (out := out) hoL
  refine h out.toList ns' h1 _ _ e a1 a2 a3 k1 (fun b o q => ?_) (Nat.le_refl _) (by simpa using he)
  obtain ⟨q1, q2⟩ := k2 b o q
  rw [sortedHeap_old (Nat.ne_of_lt q1) (by rw [size_push']; exact Nat.lt_succ_of_lt q1)]
  exact q2
end
section
variable {X : Cx}
def rSortedTp (K : PySem.W.Frag) : List V → Hp → VK → Prop := fun vs H Q => ∃ (a : Addr) (ns : List Int), vs = [V.ref a] ∧ SqT K H a (ns.map V.int) ∧ ns.length < 64 ∧ ∀ (ns' : List Int) (p : Addr), ns'.Perm ns → ns'.Pairwise (· ≤ ·) → H p = none → Q (.ref p) (upd H p (.lst (ns'.map V.int)))
theorem cr_sortedTp : CallR X (.builtin "sorted") (rSortedTp X.K) := by
  intro pins s σ H vs us Q I r h
  obtain ⟨a, ns, rfl, hs, h64, q⟩ := h
  obtain ⟨its, rv, hl, _⟩ := I.tuple hs
  rw [Vals.ref1 r]
  have hi := rv.ints
  refine sorted_tup hl hi (by rw [hi.length]; exact h64) fun out ns' hh h' p e h1 h2 h3 hk0 hk hp he => ?_
  have I1 := I.kept (t' := s.toks) hk0
  have hlen : (ns'.map V.int).length ≤ sizeLine := by rw [List.length_map, h2.length_eq]; exact small64 h64
  exact ⟨.ref _, upd H p (.lst (ns'.map V.int)), I1.laid (t' := s.toks) hk hp ⟨hlen, out, e, vals_of_ints h1, he⟩, rfl, q ns' _ h2 h3 (I1.hok.fresh hp)⟩
def rInT (K : PySem.W.Frag) (neg : Bool) : R2 := fun x y H Q => ∃ d ds, Dp K H x d ∧ Dp K H y (.tuple ds) ∧ SeqAt.shaped d = true ∧ SeqAt.shaped (.tuple ds) = true ∧ Q (.bl (if neg then !(ds.any fun z => PyData.eqv z d) else ds.any fun z => PyData.eqv z d)) H
theorem op_inT (hu : X.A.units + 65 < cLine) : OpR X (compareOp .In) (rInT X.K false) := by
  intro pins s σ H x y v u Q I rx ry h
  obtain ⟨d, ds, hd, he, sd, se, q⟩ := h
  obtain ⟨as, r1⟩ := Dp.reads I d x v hd rx
  obtain ⟨bs, r2⟩ := Dp.reads I (.tuple ds) y u he ry
  exact SeqAt.in_tuple_reads r2 r1 (SeqAt.canLay_of_shaped se) (SeqAt.canLay_of_shaped sd) (room_in_shaped sd hu) ⟨.bl _, H, I, rfl, q⟩
theorem op_notInT (hu : X.A.units + 65 < cLine) : OpR X (compareOp .NotIn) (rInT X.K true) := by
  intro pins s σ H x y v u Q I rx ry h
  obtain ⟨d, ds, hd, he, sd, se, q⟩ := h
  obtain ⟨as, r1⟩ := Dp.reads I d x v hd rx
  obtain ⟨bs, r2⟩ := Dp.reads I (.tuple ds) y u he ry
  exact SeqAt.notIn_tuple_reads r2 r1 (SeqAt.canLay_of_shaped se) (SeqAt.canLay_of_shaped sd) (room_in_shaped sd hu) ⟨.bl _, H, I, rfl, q⟩
end

/-! ### t[::-1] -/
section
variable {prog : Program} {w : World} {A : Around} {E : Value → Shared → Prop} {s : Shared}
theorem getItem_tuple_rev {t sl : Addr} {items : Array Value} {vs : Value} {Q : Value → Shared → Prop} (ht : IsTup s.heap t items) (hs : s.heap.IsSliceOf sl .none .none vs) (ps : IsPart vs (some (-1)))
    (h : Q (.ref s.heap.objs.size) { s with heap := s.heap.push { cls := .type "tuple", data := .seq items.toList.reverse.toArray } })
    (hsz : items.size ≤ sizeLine) : wpAny (model prog w) A (getItem (.ref t) (.ref sl)) Q E s := by
  have htake : sizeOk (.seq items.toList.reverse.toArray) := by
    show items.toList.reverse.toArray.size ≤ sizeLine
    rw [List.size_toArray, List.length_reverse, Array.length_toList]
    omega
  obtain ⟨os, hos, hcs, hds⟩ := id hs
  have hTs : s.TypeIs (.ref sl) "slice" := ⟨os, hos, hcs⟩
  unfold getItem
  try with_reducible refine wpAny_holding ?_
  first | refine wpAny_bind (wpAny_pure ?_) | skip
  refine wpAny_bind (wpAny_sequenceKey ht.typeIs (by decide) ?_)
  refine wpAny_bind (wpAny_callSpecial?_slot (name := Str.ofString "__getitem__") ht.typeIs PyProof.Rows.slot_tuple_getitem
    (wpAny_call_entry PyProof.Rows.slot_tuple_getitem ht.typeIs entry_tuple_getitem ?_ (args_tuple_getitem _ _)))
  show wpAny _ _ (Builtin.Tuple.tupleItemsOf (.ref t) >>= _) _ _ s
  refine wpAny_bind (tupleItemsOf_ ht ?_)
  refine wpAny_bind (wpAny_typeOf hTs ?_)
  rw [if_pos (by decide)]
  have adj : Builtin.Slice.sliceAdjust none none (-1) (items.size : Int) = ((items.size : Int) - 1, -1) := by
    unfold Builtin.Slice.sliceAdjust
    simp
  have plc : Builtin.Slice.slicePlaces ((items.size : Int) - 1) (-1) (-1) = items.size := by
    unfold Builtin.Slice.slicePlaces
    simp
    try omega
  refine wpAny_bind ?_
  unfold Builtin.Slice.sliceApplied Builtin.Slice.sliceFields
  refine wpAny_bind (wpAny_bind (wpAny_field hos hds (x := .none) rfl (wpAny_bind (wpAny_field hos hds (x := .none) rfl (wpAny_bind (wpAny_field hos hds (x := vs) rfl (wpAny_pure ?_)))))))
  refine wpAny_bind (HT.slicePart_ ps ?_)
  show wpAny _ _ (if ((-1 : Int) == 0) = true then _ else _) _ _ s
  rw [if_neg (by decide)]
  refine wpAny_bind (HT.slicePart_ .none (wpAny_bind (HT.slicePart_ .none (wpAny_bind (wpAny_pure ?_)))))
  show wpAny _ _ (match Builtin.Slice.sliceAdjust none none (-1) (items.size : Int) with | (lo, hi) => pure (lo, (-1 : Int), Builtin.Slice.slicePlaces lo hi (-1))) _ _ s
  rw [adj]
  show wpAny _ _ (pure ((items.size : Int) - 1, (-1 : Int), Builtin.Slice.slicePlaces ((items.size : Int) - 1) (-1) (-1))) _ _ s
  rw [plc]
  refine wpAny_pure ?_
  show wpAny _ _ (if (((items.size : Int) - 1) == 0 && (-1 : Int) == 1 && items.size == items.size) = true then _ else _) _ _ s
  rw [if_neg (by
    intro q
    rw [Bool.and_eq_true, Bool.and_eq_true] at q
    exact absurd q.1.2 (by decide))]
  have pick : ((List.range items.size).filterMap fun (m : Nat) => items[((items.size : Int) - 1 + (m : Int) * (-1)).toNat]?).toArray = items.toList.reverse.toArray := by
    have e : (List.range items.size).filterMap (fun (m : Nat) => items[((items.size : Int) - 1 + (m : Int) * (-1)).toNat]?) = ((List.range items.size).map fun k => items.size - 1 - k).filterMap (items[·]?) := by
      rw [List.filterMap_map]
      have ef : (fun (m : Nat) => items[((items.size : Int) - 1 + (m : Int) * (-1)).toNat]?) = ((fun x => items[x]?) ∘ fun k => items.size - 1 - k) := by
        funext m
        have : ((items.size : Int) - 1 + (m : Int) * (-1)).toNat = items.size - 1 - m := by omega
        show items[((items.size : Int) - 1 + (m : Int) * (-1)).toNat]? = items[items.size - 1 - m]?
        rw [this]
      rw [ef]
    rw [e, PySem.W.krv_range, List.filterMap_reverse, PySem.W.krv_all]
  rw [pick]
  first
    | exact wpAny_bind (m := Builtin.Tuple.tupleExact _) (wpAny_newObj_type (wpAny_pure ⟨_, rfl, wpAny_pure h⟩) htake)
    | exact wpAny_bind (m := Builtin.Tuple.tupleExact _) (wpAny_newObj_type (wpAny_bind (wpAny_pure (wpAny_pure ⟨_, rfl, wpAny_pure h⟩))) htake)
    | exact wpAny_bind (wpAny_bind (m := Builtin.Tuple.tupleExact _) (wpAny_newObj_type (wpAny_pure (wpAny_pure ⟨_, rfl, wpAny_pure h⟩)) htake))
    | exact wpAny_bind (wpAny_bind (m := Builtin.Tuple.tupleExact _) (wpAny_newObj_type (wpAny_pure ⟨_, rfl, wpAny_pure h⟩) htake))
end
section
variable {X : Cx}
def tRevT (K : PySem.W.Frag) (te : TE) : TE := fun σ H Q => te σ H fun x H1 => ∃ a xs, x = .ref a ∧ SqT K H1 a xs ∧ ∀ p, H1 p = none → Q (.ref p) (upd H1 p (.tup xs.reverse))
theorem pe_revT {e : Expr} {te : TE} {k : Nat} {p1 p2 p3 pos : Pos} (he : PE X e te) : PE X (.Subscript e (.Slice none none (some (.UnaryOp .USub (.Constant (.int 1) k p1) p2)) p3) pos) (tRevT X.K te) := by
  refine ⟨fun pins s σ H Q I h => ?_⟩
  refine Subscript_ (thn (he.run pins s σ H _ I h) fun v s1 ⟨x, H1, I1, r1, q1⟩ => ?_)
  obtain ⟨a, xs, ex, hx, q⟩ := q1
  subst ex
  cases r1
  have hst : PO X (some (.UnaryOp .USub (.Constant (.int 1) k p1) p2)) (tPart (tUn (rU fun i => .int (-i)) (tC (.int 1)))) := po_some (pe_un un_neg pe_int)
  refine wpAny_Slice (thn (po_none.run pins s1 σ H1 (fun o H2 => o = none ∧ H2 = H1) I1 ⟨rfl, rfl⟩) fun vl s2 ⟨l, H2, I2, pl, el, e2⟩ => ?_)
  subst el e2
  refine thn (po_none.run pins s2 σ H2 (fun o H3 => o = none ∧ H3 = H2) I2 ⟨rfl, rfl⟩) fun vu s3 ⟨u, H3, I3, pu, eu, e3⟩ => ?_
  subst eu e3
  refine thn (hst.run pins s3 σ H3 (fun o H4 => o = some (-1) ∧ H4 = H3) I3 ⟨1, rfl, -1, rfl, rfl, rfl⟩) fun vs s4 ⟨o, H4, I4, ps, eo, e4⟩ => ?_
  subst eo e4
  cases pl
  cases pu
  have I5 : Inv X pins σ H4 { s4 with heap := s4.heap.push { cls := .type "slice", data := .fields #[.none, .none, vs] } } := I4.kept (t' := s4.toks) fun b ob q => Heap.get?_push_of_some _ q
  obtain ⟨its, r, ht, hz⟩ := I5.tuple hx
  have hlen := r.length
  show wpAny (model X.prog X.w) X.A (subscriptTail e (.Slice none none (some (.UnaryOp .USub (.Constant (.int 1) k p1) p2)) p3) (.ref a) (.ref s4.heap.objs.size)) (EP X pins σ Q) X.xe { s4 with heap := s4.heap.push { cls := .type "slice", data := .fields #[.none, .none, vs] } }
  refine tail_any (ops := [.ref a, .ref s4.heap.objs.size]) ht.typeIs PyProof.Rows.slot_tuple_getitem.lookup ?_ (by with_unfolding_all rfl)
  refine getItem_tuple_rev ht (Heap.IsSliceOf.new _ .none .none vs) ps ?_ (by rw [List.size_toArray]; omega)
  refine ⟨.ref _, _, I5.laid (t' := s4.toks) (o := .tup xs.reverse) (fun b ob q => Heap.get?_push_of_some _ q) (Nat.le_refl _) ?_, rfl, q _ (I5.hok.fresh (Nat.le_refl _))⟩
  exact ⟨by rw [List.length_reverse]; exact hz, _, r.reverse, IsTup.new _ _⟩
end
end KR

set_option Elab.async false
set_option linter.all false
set_option maxRecDepth 100000
set_option maxHeartbeats 4000000
namespace K2
open PySem L2 GxR GA KD KR KM
def top (i : Nat) : Stmt := PySem.Challenge.pw_thenbeside_k02_whole_normal_plans.main.body.getD i (.Pass ⟨0, 0, 0, 0⟩)
abbrev sIsInt : Stmt := top 6
abbrev sIsSize : Stmt := top 7
abbrev sIsTask : Stmt := top 8
abbrev sAreTasks : Stmt := top 9
abbrev sIsOrder : Stmt := top 10
abbrev sIsPlan : Stmt := top 13
abbrev sSizeOf : Stmt := top 16
abbrev sHasParts : Stmt := top 17
/-- the built-ins that no name of the module hides, the module's constants -/
structure Bl (K : PySem.W.Frag) (mg : Str → Option Value) : Prop where
  isinstance : mg "isinstance" = none
  int : mg "int" = none
  bool : mg "bool" = none
  tuple : mg "tuple" = none
  list : mg "list" = none
  str : mg "str" = none
  len : mg "len" = none
  sorted : mg "sorted" = none
  range : mg "range" = none
  all : mg "all" = none
  any : mg "any" = none
  abs : mg "abs" = none
  most : ∃ t, mg "MOST_TASKS" = some (.int 7 t)
  words : ∃ a, mg "WORDS" = some (.ref a) ∧ ∀ H : Hp, SqT K H a [.str "then", .str "beside"]
/-! ### promises -/
def spIsInt : Sp := fun vs H Q _ => ∃ (v : V) (d : PyData), vs = [v] ∧ At MN H v d ∧ Q (.bl (isI d)) H
def spIsSize : Sp := fun vs H Q _ => ∃ (v : V) (d : PyData), vs = [v] ∧ At MN H v d ∧ Q (.bl (isSz d)) H
def spIsTask : Sp := fun vs H Q _ => ∃ (v : V) (d : PyData) (n : Int), vs = [v, .int n] ∧ At MN H v d ∧ Q (.bl (isTk n d)) H
def areTk (n : Int) : PyData → Bool
  | .tuple ds => ds.all (isTk n)
  | _ => false
def spAreTasks (PT : Addr) : Sp := fun vs H Q _ => ∃ (v : V) (d : PyData) (n : Int), vs = [v, .int n] ∧ At MN H v d ∧ TabG H PT ∧ ∀ H', Kp MN H H' → Q (.bl (areTk n d)) H'

section
variable {P : Program} {w : World} {K : PySem.W.Frag} {mg : Str → Option Value} {base : Heap}
theorem scIsInt : FnScope ["value"] ["value"] (defScope sIsInt) := ⟨rfl, rfl, rfl, by decide +kernel, rfl, by decide +kernel, by decide +kernel⟩
theorem ok_isInt {f : Addr} {fd : FuncData} (F : Fun K "is_integer" "is_integer" sIsInt f fd) (B : Bl K mg) : FnOk P w K mg base CX0 1 f fd ["value"] spIsInt := by
  refine F.ok scIsInt (fun vs H Q E h => ?_) (fun cdv A outer s H vs Q E hr h => ?_)
  · obtain ⟨v, d, rfl, _⟩ := h
    rfl
  obtain ⟨v, d, rfl, hA, q⟩ := h
  refine ⟨_, pss_one (ps_ret (pe_and (pe_callB call_isi rfl B.isinstance (by decide +kernel) (pa_cons (pv 0) (pa_cons (pe_bltn rfl B.int (by decide +kernel) (v := .ty "int") rfl) pa_nil)))
    (pe_one (pe_not (pe_callB call_isi rfl B.isinstance (by decide +kernel) (pa_cons (pv 0) (pa_cons (pe_bltn rfl B.bool (by decide +kernel) (v := .ty "bool") rfl) pa_nil))))))), ?_⟩
  refine ⟨_, rfl, _, _, _, _, _, rfl, .ty _, hA.ty, kit_int d, _, rfl, ?_⟩
  refine ite2 (fun c => ?_) (fun c => ?_)
  · refine ⟨_, rfl, _, _, _, _, _, rfl, .ty _, hA.ty, kit_bool d, _, rfl, ?_⟩
    have e : (!isB d) = isI d := by cases d <;> simp_all [isI, isB]
    rw [← e] at q
    exact q
  · have e : false = isI d := by cases d <;> simp_all [isI, isB]
    rw [← e] at q
    exact q

theorem scIsSize : FnScope ["value"] ["value"] (defScope sIsSize) := ⟨rfl, rfl, rfl, by decide +kernel, rfl, by decide +kernel, by decide +kernel⟩
theorem ok_isSize {f g : Addr} {fd gd : FuncData} (F : Fun K "is_size" "is_size" sIsSize f fd) (B : Bl K mg) (G : FnOk P w K mg base CX0 1 g gd ["value"] spIsInt) (bG : Binds K gd ["value"] []) (kG : PySem.W.keepIn K (.ref g) = true) (mG : mg "is_integer" = some (.ref g)) :
    FnOk P w K mg base CX0 2 f fd ["value"] spIsSize := by
  refine F.ok scIsSize (fun vs H Q E h => ?_) (fun cdv A outer s H vs Q E hr h => ?_)
  · obtain ⟨v, d, rfl, _⟩ := h
    rfl
  obtain ⟨v, d, rfl, hA, q⟩ := h
  obtain ⟨t, hm⟩ := B.most
  refine ⟨_, pss_one (ps_ret (pe_and (pe_call G hr rfl mG kG bG .nil pass0 (pa_cons (pv 0) pa_nil))
    (pe_one (pe_chain op_le op_le pe_int (pv 0) (pe_glob rfl hm (v := .int 7) ⟨_, rfl⟩))))), ?_⟩
  refine ⟨_, rfl, v, d, rfl, hA, _, rfl, ?_⟩
  cases d with
  | int i =>
    cases hA.int_of
    refine iteT ?_
    refine ⟨_, rfl, _, _, rfl, rfl, _, rfl, ?_⟩
    refine ite2 (fun c => ?_) (fun c => ?_)
    · refine ⟨_, _, rfl, rfl, ?_⟩
      have c' : 1 ≤ i := of_decide_eq_true c
      have e : decide (i ≤ 7) = isSz (.int i) := by show decide (i ≤ 7) = decide (1 ≤ i ∧ i ≤ 7); rw [decide_eq_decide]; omega
      rw [← e] at q
      exact q
    · have c' : ¬ 1 ≤ i := of_decide_eq_false (Bool.eq_false_iff.mpr c)
      have e : false = isSz (.int i) := by show false = decide (1 ≤ i ∧ i ≤ 7); rw [decide_eq_false]; omega
      rw [← e] at q
      exact q
  | _ => exact iteF q
theorem scIsTask : FnScope ["value", "many"] ["value", "many"] (defScope sIsTask) := ⟨rfl, rfl, rfl, by decide +kernel, rfl, by decide +kernel, by decide +kernel⟩
theorem ok_isTask {f g : Addr} {fd gd : FuncData} (F : Fun K "is_index" "is_index" sIsTask f fd) (B : Bl K mg) (G : FnOk P w K mg base CX0 1 g gd ["value"] spIsInt) (bG : Binds K gd ["value"] []) (kG : PySem.W.keepIn K (.ref g) = true) (mG : mg "is_integer" = some (.ref g)) :
    FnOk P w K mg base CX0 2 f fd ["value", "many"] spIsTask := by
  refine F.ok scIsTask (fun vs H Q E h => ?_) (fun cdv A outer s H vs Q E hr h => ?_)
  · obtain ⟨v, d, n, rfl, _⟩ := h
    rfl
  obtain ⟨v, d, n, rfl, hA, q⟩ := h
  refine ⟨_, pss_one (ps_ret (pe_and (pe_call G hr rfl mG kG bG .nil pass0 (pa_cons (pv 0) pa_nil))
    (pe_one (pe_chain op_le op_lt pe_int (pv 0) (pv 1))))), ?_⟩
  refine ⟨_, rfl, v, d, rfl, hA, _, rfl, ?_⟩
  cases d with
  | int i =>
    cases hA.int_of
    refine iteT ?_
    refine ⟨_, rfl, _, _, rfl, rfl, _, rfl, ?_⟩
    refine ite2 (fun c => ?_) (fun c => ?_)
    · refine ⟨_, rfl, _, _, rfl, rfl, ?_⟩
      have c' : 0 ≤ i := of_decide_eq_true c
      have e : decide (i < n) = isTk n (.int i) := by show decide (i < n) = decide (0 ≤ i ∧ i < n); rw [decide_eq_decide]; omega
      rw [← e] at q
      exact q
    · have c' : ¬ 0 ≤ i := of_decide_eq_false (Bool.eq_false_iff.mpr c)
      have e : false = isTk n (.int i) := by show false = decide (0 ≤ i ∧ i < n); rw [decide_eq_false]; omega
      rw [← e] at q
      exact q
  | _ => exact iteF q
theorem scAreTasks : FnScope ["value", "many", "item"] ["value", "many"] (defScope sAreTasks) := ⟨rfl, rfl, rfl, by decide +kernel, rfl, by decide +kernel, by decide +kernel⟩
theorem ok_areTasks {f g c PT : Addr} {fd gd : FuncData} (F : FunT K "are_indexes" "are_indexes" sAreTasks f fd c) (TB : TabB base mg c PT) (B : Bl K mg) (G : FnOk P w K mg base CX0 2 g gd ["value", "many"] spIsTask) (bG : Binds K gd ["value", "many"] []) (kG : PySem.W.keepIn K (.ref g) = true) (mG : mg "is_index" = some (.ref g)) :
    FnOk P w K mg base CX0 4 f fd ["value", "many"] (spAreTasks PT) := by
  refine F.ok scAreTasks (fun vs H Q E h => ?_) (fun A outer s H vs Q E hr h => ?_)
  · obtain ⟨v, d, n, rfl, _⟩ := h
    rfl
  obtain ⟨v, d, n, rfl, hA, hT, q⟩ := h
  refine ⟨_, pss_one (ps_ret (pe_and (pe_callB call_isi rfl B.isinstance (by decide +kernel) (pa_cons (pv 0) (pa_cons (pe_bltn rfl B.tuple (by decide +kernel) (v := .ty "tuple") rfl) pa_nil)))
    (pe_one (pe_all (own := [("item", 2)]) (hr : Room (2 + 1) _) rfl B.all TB rfl scAreTasks.nd (gok_by (N := ["value", "many", "item"]) (sc := defScope sAreTasks) (own := [("item", 2)]) (by decide +kernel)) (pi_tup (pv 0)) (fun _ _ _ _ _ _ => pg_name (i := 2) scAreTasks.nd rfl (Or.inl rfl))
      (fun _ _ _ _ _ _ r => pe_call G r rfl mG kG bG .nil pass0 (pa_cons (pv 2) (pa_cons (pv 1) pa_nil))))))), ?_⟩
  refine ⟨_, rfl, _, _, _, _, _, rfl, .ty _, hA.ty, kit_tup d, _, rfl, ?_⟩
  cases d with
  | tuple ds =>
    obtain ⟨a, xs, rfl, hx, hall⟩ := hA.tup_of
    have hl := hall.length
    refine iteT ?_
    refine ⟨_, rfl, a, rfl, ⟨_, SqT.of hx⟩, hT, fun H2 hTb => gen_tup (K := K) (a := a) (xs := xs) (fun i H' => Kp MN H H' ∧ (ds.take i).all (isTk n) = true) ⟨Kp.tabbed hT hTb, rfl⟩ (fun i H' _ p => p.1.seqT (SqT.of hx)) (fun i x H' hi p => ?_) (fun H' p => ?_)⟩
    · obtain ⟨d', hd', ha'⟩ := hall.get hi
      refine ⟨rfl, _, rfl, _, rfl, x, d', n, rfl, ha'.kp p.1, _, rfl, fun e => ?_, fun e => ⟨p.1, ?_⟩⟩
      · have e2 : areTk n (.tuple ds) = false := by
          show ds.all (isTk n) = false
          rw [List.all_eq_false]
          exact ⟨d', List.mem_of_getElem? hd', by rw [e]; exact Bool.false_ne_true⟩
        have := q H' p.1
        rw [e2] at this
        exact this
      · rw [List.take_succ, hd', List.all_append, p.2]
        show (true && (isTk n d' && true)) = true
        rw [e]
        rfl
    · have e2 : areTk n (.tuple ds) = true := by
        have := p.2
        rw [hl, List.take_length] at this
        exact this
      have := q H' p.1
      rw [e2] at this
      exact this
  | _ => exact iteF (q H .refl)

theorem atl_ints {M : Addr → Prop} {H : Hp} : ∀ {l : List Int} {xs : List V}, AtL M H xs (l.map PyData.int) → xs = l.map V.int
  | [], _, h => by cases h; rfl
  | i :: r, _, h => by
    cases h with
    | cons a t => rw [a.int_of, atl_ints t]; rfl
theorem tk_ints {n : Int} : ∀ {ds : List PyData}, ds.all (isTk n) = true → ∃ l : List Int, ds = l.map PyData.int ∧ ∀ x ∈ l, 0 ≤ x ∧ x < n
  | [], _ => ⟨[], rfl, fun _ h => by cases h⟩
  | d :: r, h => by
    rw [List.all_cons, Bool.and_eq_true] at h
    obtain ⟨l, e, q⟩ := tk_ints h.2
    cases d with
    | int i =>
      refine ⟨i :: l, by rw [e]; rfl, fun x hx => ?_⟩
      rcases List.mem_cons.mp hx with z | z
      · rw [z]; exact of_decide_eq_true h.1
      · exact q x z
    | _ => cases h.1
theorem shaped_ints (l : List Int) : SeqAt.shaped (.list (l.map PyData.int)) = true := by
  have h1 : ∀ l : List Int, PyData.canLayAll0 (l.map PyData.int) = true := by
    intro l
    induction l with
    | nil => simp [PyData.canLayAll0]
    | cons x r ih => simp [PyData.canLayAll0, PyData.canLay0, ih]
  have h2 : ∀ l : List Int, PyData.depthAll (l.map PyData.int) ≤ 1 := by
    intro l
    induction l with
    | nil => simp [PyData.depthAll]
    | cons x r ih => simp only [List.map_cons, PyData.depthAll, PyData.depth]; omega
  have h3 := h2 l
  show (PyData.canLay0 (.list (l.map PyData.int)) && decide (PyData.depth (.list (l.map PyData.int)) ≤ 64)) = true
  rw [Bool.and_eq_true]
  refine ⟨by simp only [PyData.canLay0]; exact h1 l, decide_eq_true ?_⟩
  simp only [PyData.depth]
  omega
theorem rgV_rng (n : Nat) : rgV 0 (n : Int) = (rng n).map V.int := by
  unfold rgV rng
  rw [List.map_map]
  have e : ((n : Int) - 0).toNat = n := by omega
  rw [e]
  refine List.map_congr_left fun k _ => ?_
  show V.int (0 + (k : Int)) = V.int (Int.ofNat k)
  rw [Int.zero_add]
  rfl
/-- sorted(l) == list(range(n)) -/
def ordB (l : List Int) (n : Int) : Bool := decide ((l.length : Int) = n ∧ full l)
def intsOf : List PyData → Option (List Int)
  | [] => some []
  | .int i :: r => (intsOf r).map (i :: ·)
  | _ => none
theorem intsOf_map : ∀ l : List Int, intsOf (l.map PyData.int) = some l
  | [] => rfl
  | i :: r => by
    show (intsOf (r.map PyData.int)).map (i :: ·) = _
    rw [intsOf_map r]
    rfl
theorem intsOf_some : ∀ {ds : List PyData} {l : List Int}, intsOf ds = some l → ds = l.map PyData.int
  | [], l, h => by cases h; rfl
  | d :: r, l, h => by
    cases d with
    | int i =>
      have h : (intsOf r).map (i :: ·) = some l := h
      cases q : intsOf r with
      | none => rw [q] at h; cases h
      | some l' =>
        rw [q] at h
        cases h
        rw [intsOf_some q]
        rfl
    | _ => cases h
def isOrd (n : Int) : PyData → Bool
  | .tuple ds => match intsOf ds with
    | some l => ds.all (isTk n) && ordB l n
    | none => false
  | _ => false
theorem isOrd_ints (l : List Int) (n : Int) : isOrd n (.tuple (l.map PyData.int)) = ((l.map PyData.int).all (isTk n) && ordB l n) := by
  show (match intsOf (l.map PyData.int) with | some l' => (l.map PyData.int).all (isTk n) && ordB l' n | none => false) = _
  rw [intsOf_map]
def spIsOrder (PT : Addr) : Sp := fun vs H Q _ => ∃ (v : V) (d : PyData) (n : Nat), vs = [v, .int n] ∧ At MN H v d ∧ TabG H PT ∧ n < 64 ∧ (∀ ds, d = .tuple ds → ds.length < 64) ∧ ∀ H', Kp MN H H' → Q (.bl (isOrd n d)) H'
theorem scIsOrder : FnScope ["value", "many"] ["value", "many"] (defScope sIsOrder) := ⟨rfl, rfl, rfl, by decide +kernel, rfl, by decide +kernel, by decide +kernel⟩
theorem ok_isOrder {f g PT : Addr} {fd gd : FuncData} (F : Fun K "is_order" "is_order" sIsOrder f fd) (B : Bl K mg) (G : FnOk P w K mg base CX0 4 g gd ["value", "many"] (spAreTasks PT)) (bG : Binds K gd ["value", "many"] []) (kG : PySem.W.keepIn K (.ref g) = true) (mG : mg "are_indexes" = some (.ref g)) :
    FnOk P w K mg base CX0 5 f fd ["value", "many"] (spIsOrder PT) := by
  refine F.ok scIsOrder (fun vs H Q E h => ?_) (fun cdv A outer s H vs Q E hr h => ?_)
  · obtain ⟨v, d, n, rfl, _⟩ := h
    rfl
  obtain ⟨v, d, n, rfl, hA, hT, hn, hd, q⟩ := h
  refine ⟨_, pss_one (ps_ret (pe_and (pe_call G hr rfl mG kG bG .nil pass0 (pa_cons (pv 0) (pa_cons (pv 1) pa_nil)))
    (pe_one (pe_cmpR (op_eqD hr.units) (pe_callB cr_sortedTp rfl B.sorted (by decide +kernel) (pa_cons (pv 0) pa_nil)) (pe_listRg rfl rfl B.list (prg_1 rfl B.range (pv 1))) (nomark _))))), ?_⟩
  refine ⟨_, rfl, _, rfl, v, d, n, rfl, hA, hT, fun H1 k1 => ⟨_, rfl, ?_⟩⟩
  by_cases c : areTk n d = true
  · rw [c]
    refine iteT ?_
    cases d with
    | tuple ds =>
      obtain ⟨l, rfl, hl⟩ := tk_ints (show ds.all (isTk n) = true from c)
      obtain ⟨a, xs, rfl, hx, hall⟩ := hA.tup_of
      have exs := atl_ints hall
      subst exs
      have hlen : l.length < 64 := by have := hd _ rfl; rw [List.length_map] at this; exact this
      refine ⟨_, rfl, a, l, rfl, k1.seqT (SqT.of hx), hlen, fun ns' p perm srt hp => ?_⟩
      refine ⟨_, rfl, _, rfl, RgOk.of_le (by omega) (by omega) (by omega) (by omega), fun p2 hp2 => ?_⟩
      have hpp : p2 ≠ p := fun z => by
        rw [z, upd_same] at hp2
        cases hp2
      refine ⟨.list (ns'.map PyData.int), .list ((rng n).map PyData.int), .lst (SqL.of ((upd_ne hpp.symm).trans upd_same)) (AtL.dp (AtL.ints (M := MN) ns')), .lst (SqL.of (upd_same.trans (by rw [rgV_rng]))) (AtL.dp (AtL.ints (M := MN) (rng n))), shaped_ints _, shaped_ints _, ?_⟩
      rw [eqv_ints]
      have e : decide (ns' = rng n) = isOrd n (.tuple (l.map PyData.int)) := by
        rw [isOrd_ints, show (l.map PyData.int).all (isTk n) = true from c, Bool.true_and]
        unfold ordB
        rw [decide_eq_decide]
        rw [sorted_rng (n := n) perm srt]
        exact ⟨fun z => ⟨by omega, z.2⟩, fun z => ⟨by omega, z.2⟩⟩
      rw [e]
      exact q _ (k1.trans ((Kp.new hp).trans (Kp.new hp2)))
    | _ => cases c
  · have c' : areTk n d = false := Bool.eq_false_iff.mpr c
    rw [c']
    refine iteF ?_
    have e : false = isOrd n d := by
      cases d with
      | tuple ds =>
        show false = (match intsOf ds with | some l => ds.all (isTk n) && ordB l n | none => false)
        rw [show ds.all (isTk n) = false from c']
        cases intsOf ds <;> rfl
      | _ => rfl
    rw [e]
    exact q _ k1

theorem shaped_tup {ds : List PyData} {d : PyData} (h : SeqAt.shaped (.tuple ds) = true) (hd : d ∈ ds) : SeqAt.shaped d = true := by
  have key : ∀ ds : List PyData, PyData.canLayAll0 ds = true → PyData.depthAll ds ≤ 64 → ∀ d ∈ ds, SeqAt.shaped d = true := by
    intro ds
    induction ds with
    | nil => intro _ _ d hd; cases hd
    | cons x r ih =>
      intro h1 h2 d hd
      simp only [PyData.canLayAll0, Bool.and_eq_true] at h1
      simp only [PyData.depthAll] at h2
      rcases List.mem_cons.mp hd with z | z
      · rw [z]
        show (PyData.canLay0 x && decide (PyData.depth x ≤ 64)) = true
        rw [Bool.and_eq_true]
        exact ⟨h1.1, decide_eq_true (by omega)⟩
      · exact ih h1.2 (by omega) d z
  have h' : (PyData.canLay0 (.tuple ds) && decide (PyData.depth (.tuple ds) ≤ 64)) = true := h
  rw [Bool.and_eq_true] at h'
  have h2 := of_decide_eq_true h'.2
  simp only [PyData.canLay0] at h'
  simp only [PyData.depth] at h2
  exact key ds h'.1 (by omega) d hd
def inW : PyData → Bool
  | .str s => wd s
  | _ => false
theorem any_words (w : PyData) : ([PyData.str "then", PyData.str "beside"].any fun z => PyData.eqv z w) = inW w := by
  cases w with
  | str s =>
    have e : ∀ a : Str, PyData.eqv (.str a) (.str s) = decide (s = a) := fun a => by
      show (a == s) = decide (s = a)
      rw [Bool.eq_iff_iff, beq_iff_eq, decide_eq_true_eq]
      exact eq_comm
    show (PyData.eqv (.str "then") (.str s) || (PyData.eqv (.str "beside") (.str s) || false)) = _
    rw [e, e, Bool.or_false]
    rfl
  | _ => simp [PyData.eqv, inW]
theorem shaped_words : SeqAt.shaped (.tuple [PyData.str "then", PyData.str "beside"]) = true := by decide +kernel
def hasP : PyData → Bool
  | .tuple [w, .tuple ps] => inW w && decide (2 ≤ ps.length ∧ ps.length ≤ 7)
  | _ => false
theorem room65 {k : Nat} {A : Around} (r : Room k A) : A.units + 65 < cLine := by have := r.un; omega
def spHasParts : Sp := fun vs H Q _ => ∃ (v : V) (d : PyData), vs = [v] ∧ At MN H v d ∧ SeqAt.shaped d = true ∧ Q (.bl (hasP d)) H
theorem scHasParts : FnScope ["value"] ["value"] (defScope sHasParts) := ⟨rfl, rfl, rfl, by decide +kernel, rfl, by decide +kernel, by decide +kernel⟩
theorem dp_words {a : Addr} {H : Hp} (h : SqT K H a [.str "then", .str "beside"]) : Dp K H (.ref a) (.tuple [PyData.str "then", PyData.str "beside"]) := .tup h (.cons (.str _) (.cons (.str _) .nil))
theorem ok_hasParts {f : Addr} {fd : FuncData} (F : Fun K "has_parts" "has_parts" sHasParts f fd) (B : Bl K mg) : FnOk P w K mg base CX0 1 f fd ["value"] spHasParts := by
  refine F.ok scHasParts (fun vs H Q E h => ?_) (fun cdv A outer s H vs Q E hr h => ?_)
  · obtain ⟨v, d, rfl, _⟩ := h
    rfl
  obtain ⟨v, d, rfl, hA, hS, q⟩ := h
  obtain ⟨t, hm⟩ := B.most
  obtain ⟨aw, mw, hw⟩ := B.words
  refine ⟨_, pss_cons (ps_if (PW.pt (pw_or (pt_not (pt_val (pe_callB call_isi rfl B.isinstance (by decide +kernel) (pa_cons (pv 0) (pa_cons (pe_bltn rfl B.tuple (by decide +kernel) (v := .ty "tuple") rfl) pa_nil)))))
      (pw_or (pt_cmpR op_ne (pe_callB call_len_seq rfl B.len PySem.boot_len (pa_cons (pv 0) pa_nil)) pe_int (nomark _))
        (pw_or1 (pt_cmpR (op_notInT (room65 hr)) (pe_ix ix_tup (pv 0) pe_int (fun _ _ => rfl)) (pe_glob rfl mw (v := .ref aw) rfl) rfl)))))
      (pss_one (ps_ret pe_bl)) pss_nil)
    (pss_one (ps_ret (pe_and (pe_callB call_isi rfl B.isinstance (by decide +kernel) (pa_cons (pe_ix ix_tup (pv 0) pe_int (fun _ _ => rfl)) (pa_cons (pe_bltn rfl B.tuple (by decide +kernel) (v := .ty "tuple") rfl) pa_nil)))
      (pe_one (pe_chain op_le op_le pe_int (pe_callB call_len_seq rfl B.len PySem.boot_len (pa_cons (pe_ix ix_tup (pv 0) pe_int (fun _ _ => rfl)) pa_nil)) (pe_glob rfl hm (v := .int 7) ⟨_, rfl⟩)))))), ?_⟩
  refine ⟨_, rfl, _, _, _, _, _, rfl, .ty _, hA.ty, kit_tup d, _, rfl, ?_⟩
  cases d with
  | tuple ds =>
    obtain ⟨a, xs, rfl, hx, hall⟩ := hA.tup_of
    have hl := hall.length
    refine iteF ?_
    refine ⟨_, rfl, a, xs, rfl, .inr (SqT.of hx), rfl, _, rfl, ?_⟩
    refine ite2 (fun c => ?_) (fun c => ?_)
    · refine iteT ?_
      have e : hasP (.tuple ds) = false := by
        have c' : ¬ (xs.length = 2) := fun z => by
          rw [z] at c
          exact absurd c (by decide)
        unfold hasP
        split
        · rename_i e
          injection e with e
          rw [e] at hl
          exact absurd hl c'
        · rfl
      rw [e] at q
      exact q
    · have h2 : xs.length = 2 := by
        have c' := Bool.eq_false_iff.mpr c
        have := of_decide_eq_true (show decide (V.int (xs.length : Int) = V.int 2) = true by simpa using c')
        injection this with this
        omega
      obtain ⟨w0, p0, rfl⟩ : ∃ w0 p0, ds = [w0, p0] := by
        match ds, hl.symm.trans h2 with
        | [w0, p0], _ => exact ⟨w0, p0, rfl⟩
      obtain ⟨vw, vp, rfl⟩ : ∃ vw vp, xs = [vw, vp] := by
        match xs, h2 with
        | [vw, vp], _ => exact ⟨vw, vp, rfl⟩
      have aw0 : At MN H vw w0 := by cases hall with | cons a r => exact a
      have ap0 : At MN H vp p0 := by cases hall with | cons a r => cases r with | cons b _ => exact b
      refine ⟨_, rfl, _, _, _, _, rfl, rfl, SqT.of hx, atI_nat (j := 0) rfl, w0, _, aw0.dp, dp_words (hw H), shaped_tup hS (by simp), shaped_words, ?_⟩
      rw [if_pos rfl, any_words]
      refine ⟨_, rfl, ?_⟩
      by_cases cw : inW w0 = true
      · rw [cw]
        refine iteF ?_
        refine ⟨_, rfl, _, _, _, _, rfl, rfl, SqT.of hx, atI_nat (j := 1) rfl, _, _, _, _, _, rfl, .ty _, ap0.ty, kit_tup p0, _, rfl, ?_⟩
        cases p0 with
        | tuple ps =>
          obtain ⟨a2, xs2, rfl, hx2, hall2⟩ := ap0.tup_of
          have hl2 := hall2.length
          refine iteT ?_
          have e : hasP (.tuple [w0, .tuple ps]) = decide (2 ≤ ps.length ∧ ps.length ≤ 7) := by
            show (inW w0 && _) = _
            rw [cw, Bool.true_and]
          rw [e] at q
          refine ⟨_, rfl, _, _, _, _, rfl, rfl, SqT.of hx, atI_nat (j := 1) rfl, a2, xs2, rfl, .inr (SqT.of hx2), _, _, rfl, rfl, _, rfl, ?_⟩
          refine ite2 (fun c => ?_) (fun c => ?_)
          · have c' : (2 : Int) ≤ (xs2.length : Int) := of_decide_eq_true c
            refine ⟨_, _, rfl, rfl, ?_⟩
            have e2 : decide ((xs2.length : Int) ≤ 7) = decide (2 ≤ ps.length ∧ ps.length ≤ 7) := by rw [decide_eq_decide]; omega
            show Q (.bl (decide ((xs2.length : Int) ≤ 7))) H
            rw [e2]
            exact q
          · have c' : ¬ (2 : Int) ≤ (xs2.length : Int) := of_decide_eq_false (Bool.eq_false_iff.mpr c)
            have e2 : false = decide (2 ≤ ps.length ∧ ps.length ≤ 7) := by rw [eq_comm, decide_eq_false_iff_not]; omega
            show Q (.bl false) H
            rw [e2]
            exact q
        | _ => exact iteF q
      · have cw' := Bool.eq_false_iff.mpr cw
        rw [cw']
        refine iteT ?_
        have e : hasP (.tuple [w0, p0]) = false := by
          cases p0 with
          | tuple ps => show (inW w0 && _) = false; rw [cw']; rfl
          | _ => rfl
        rw [e] at q
        exact q
  | _ => exact iteT q
end
end K2

set_option Elab.async false
set_option linter.all false
set_option maxRecDepth 100000
set_option maxHeartbeats 4000000
namespace K2
open PySem L2 GxR GA KD KR KM

theorem formed_tup {ds : List PyData} {o : Str} {l : List Int} (h : formed (.tuple ds) o = some l) : ∃ w ps, ds = [.str w, .tuple ps] ∧ wd w = true ∧ w ≠ o ∧ 2 ≤ ps.length ∧ formedL ps w = some l := by
  unfold formed at h
  split at h
  · rename_i e; cases e
  · rename_i w ps heq
    injection heq with heq
    subst heq
    split at h
    · rename_i c
      simp only [Bool.and_eq_true, decide_eq_true_eq, Bool.not_eq_true', decide_eq_false_iff_not] at c
      exact ⟨w, ps, rfl, c.1.1, c.1.2, c.2, h⟩
    · cases h
  · cases h
theorem verd_bad {found : List Int} {ws : List (Str × PyData)} {o : Str} {d : PyData} (h1 : isTk 7 d = false) (h2 : hasP d = false) : verd found (ws ++ [(o, d)]) = 0 := by
  cases d with
  | int i => exact verd_noTask (of_decide_eq_false h1)
  | tuple ds =>
    cases e : formed (.tuple ds) o with
    | none => exact verd_none e
    | some l =>
      obtain ⟨w, ps, rfl, c1, c2, c3, _⟩ := formed_tup e
      have h2 : (wd w && decide (2 ≤ ps.length ∧ ps.length ≤ 7)) = false := h2
      rw [c1, Bool.true_and] at h2
      have := of_decide_eq_false h2
      exact verd_long (by omega)
  | none => exact verd_none (by unfold formed; rfl)
  | bool b => exact verd_none (by unfold formed; rfl)
  | str b => exact verd_none (by unfold formed; rfl)
  | list b => exact verd_none (by unfold formed; rfl)
  | dict b => exact verd_none (by unfold formed; rfl)
theorem hasP_some {d : PyData} (h : hasP d = true) : ∃ w ps, d = .tuple [.str w, .tuple ps] ∧ wd w = true ∧ 2 ≤ ps.length ∧ ps.length ≤ 7 := by
  unfold hasP at h
  split at h
  · rename_i w ps
    rw [Bool.and_eq_true] at h
    cases w with
    | str s =>
      have := of_decide_eq_true h.2
      exact ⟨s, ps, rfl, h.1, this.1, this.2⟩
    | _ => cases h.1
  · cases h
noncomputable def msz (ws : List (Str × PyData)) : Nat := (ws.map fun p => sizeOf p.2).sum
theorem msz_app (a b : List (Str × PyData)) : msz (a ++ b) = msz a + msz b := by unfold msz; rw [List.map_append, List.sum_append]
theorem msz_one (o : Str) (d : PyData) : msz [(o, d)] = sizeOf d := by unfold msz; simp
theorem size_pos (d : PyData) : 0 < sizeOf d := by cases d <;> simp <;> omega
theorem msz_map (w : Str) : ∀ ps : List PyData, msz (ps.map fun p => (w, p)) ≤ sizeOf ps
  | [] => by unfold msz; simp
  | p :: r => by
    have := msz_map w r
    have e : msz ((p :: r).map fun p => (w, p)) = sizeOf p + msz (r.map fun p => (w, p)) := by unfold msz; simp
    rw [e]
    simp
    omega
theorem msz_parts (w : Str) (ps : List PyData) : msz (ps.map fun p => (w, p)) < sizeOf (PyData.tuple [.str w, .tuple ps]) := by
  have := msz_map w ps
  simp
  omega
/-- pairs that wait -/
inductive Prs (H0 H : Hp) : List V → List (Str × PyData) → Prop
  | nil : Prs H0 H [] []
  | cons {t : Addr} {o : Str} {v : V} {d : PyData} {vs : List V} {ws : List (Str × PyData)} : H t = some (.tup [.str o, v]) → At MN H0 v d → SeqAt.shaped d = true → Prs H0 H vs ws → Prs H0 H (.ref t :: vs) ((o, d) :: ws)
theorem Prs.kp {H0 H H' : Hp} (k : ∀ b xs, H b = some (.tup xs) → H' b = some (.tup xs)) : ∀ {vs : List V} {ws : List (Str × PyData)}, Prs H0 H vs ws → Prs H0 H' vs ws
  | _, _, .nil => .nil
  | _, _, .cons e a s r => .cons (k _ _ e) a s (Prs.kp k r)
theorem Prs.length {H0 H : Hp} : ∀ {vs : List V} {ws : List (Str × PyData)}, Prs H0 H vs ws → vs.length = ws.length
  | _, _, .nil => rfl
  | _, _, .cons _ _ _ r => congrArg (· + 1) (Prs.length r)
theorem Prs.append {H0 H : Hp} : ∀ {vs us : List V} {ws zs : List (Str × PyData)}, Prs H0 H vs ws → Prs H0 H us zs → Prs H0 H (vs ++ us) (ws ++ zs)
  | _, _, _, _, .nil, g => g
  | _, _, _, _, .cons e a s r, g => .cons e a s (Prs.append r g)
theorem Prs.last {H0 H : Hp} : ∀ {vs : List V} {ws : List (Str × PyData)}, Prs H0 H vs ws → vs ≠ [] → ∃ vs' ws' t o v d, vs = vs' ++ [.ref t] ∧ ws = ws' ++ [(o, d)] ∧ Prs H0 H vs' ws' ∧ H t = some (.tup [.str o, v]) ∧ At MN H0 v d ∧ SeqAt.shaped d = true
  | _, _, .nil, h => absurd rfl h
  | _, _, .cons (t := t) (o := o) (v := v) (d := d) (vs := vs) (ws := ws) e a s r, _ => by
    by_cases q : vs = []
    · subst q
      cases r
      exact ⟨[], [], t, o, v, d, rfl, rfl, .nil, e, a, s⟩
    · obtain ⟨vs', ws', t', o', v', d', e1, e2, r', e3, a', s'⟩ := Prs.last r q
      exact ⟨.ref t :: vs', (o, d) :: ws', t', o', v', d', by rw [e1]; rfl, by rw [e2]; rfl, .cons e a s r', e3, a', s'⟩
theorem isOrd_okL {l : List Int} (h : l.length ≤ 7) : isOrd l.length (.tuple (l.map PyData.int)) = okL l := by
  rw [isOrd_ints]
  by_cases f : full l
  · have e1 : okL l = true := decide_eq_true ⟨h, f⟩
    have e2 : ordB l l.length = true := decide_eq_true ⟨rfl, f⟩
    rw [e1, e2, Bool.and_true, List.all_map, List.all_eq_true]
    intro x hx
    have := okL_mem e1 hx
    exact decide_eq_true ⟨this.1, this.2.1⟩
  · have e1 : okL l = false := decide_eq_false fun q => f q.2
    have e2 : ordB l l.length = false := decide_eq_false fun q => f q.2
    rw [e1, e2, Bool.and_false]

def spSizeOf (PT : Addr) : Sp := fun vs H Q _ => ∃ (v : V) (d : PyData), vs = [v] ∧ At MN H v d ∧ SeqAt.shaped d = true ∧ TabG H PT ∧ ∀ H', Kp MN H H' → Q (.int (vdt d : Nat)) H'
def spIsPlan (PT : Addr) : Sp := fun vs H Q _ => ∃ (v u : V) (d e : PyData), vs = [v, u] ∧ At MN H v d ∧ At MN H u e ∧ SeqAt.shaped d = true ∧ TabG H PT ∧ ∀ H', Kp MN H H' → Q (.bl (isPl d e)) H'
section
variable {P : Program} {w : World} {K : PySem.W.Frag} {mg : Str → Option Value} {base : Heap}
theorem scSizeOf : FnScope ["value", "found", "waiting", "outer", "item", "piece"] ["value"] (defScope sSizeOf) := ⟨rfl, rfl, rfl, by decide +kernel, rfl, by decide +kernel, by decide +kernel⟩
/-- the loop's word -/
def SzInv (v : V) (d : PyData) (H0 : Hp) (m : Nat) (σ : St) (H : Hp) : Prop := ∃ (F Wt : Addr) (found : List Int) (wvs : List V) (ws : List (Str × PyData)) (x3 x4 x5 : Option V),
  σ = [some v, some (.ref F), some (.ref Wt), x3, x4, x5] ∧ H0 F = none ∧ H0 Wt = none ∧ F ≠ Wt ∧ Kp MN H0 H ∧ H F = some (.lst (found.map V.int)) ∧ H Wt = some (.lst wvs) ∧ Prs H0 H wvs ws ∧ verd found ws = vdt d ∧ found.length + ws.length ≤ 7 ∧ m = msz ws
theorem ok_sizeOf {f gT gP gO PT : Addr} {fd dT dP dO : FuncData} (F : Fun K "size_of" "size_of" sSizeOf f fd) (B : Bl K mg)
    (GT : FnOk P w K mg base CX0 2 gT dT ["value", "many"] spIsTask) (bT : Binds K dT ["value", "many"] []) (kT : PySem.W.keepIn K (.ref gT) = true) (mT : mg "is_index" = some (.ref gT))
    (GP : FnOk P w K mg base CX0 1 gP dP ["value"] spHasParts) (bP : Binds K dP ["value"] []) (kP : PySem.W.keepIn K (.ref gP) = true) (mP : mg "has_parts" = some (.ref gP))
    (GO : FnOk P w K mg base CX0 5 gO dO ["value", "many"] (spIsOrder PT)) (bO : Binds K dO ["value", "many"] []) (kO : PySem.W.keepIn K (.ref gO) = true) (mO : mg "is_order" = some (.ref gO)) :
    FnOk P w K mg base CX0 6 f fd ["value"] (spSizeOf PT) := by
  refine F.ok scSizeOf (fun vs H Q E h => ?_) (fun cdv A outer s H vs Q E hr h => ?_)
  · obtain ⟨v, d, rfl, _⟩ := h
    rfl
  obtain ⟨v, d, rfl, hA, hS, hT, q⟩ := h
  obtain ⟨t, hm⟩ := B.most
  refine ⟨_, pss_cons (ps_set (i := 1) scSizeOf.nd rfl (Or.inl rfl) (pe_lst pa_nil))
    (pss_cons (ps_set (i := 2) scSizeOf.nd rfl (Or.inl rfl) (pe_lst (pa_cons (pe_tup (pa_cons pe_str (pa_cons (pv 0) pa_nil))) pa_nil)))
    (pss_cons (ps_while PassesOwn.never (pt_truth (pv 2) (by intro _; rfl))
      (pss_cons (ps_asg (pe_bm0 PySem.F.plainAttrs_list PySem.F.slot_list_pop PySem.F.type_list_pop mt_pop (pv 2)) (pg_tup rfl (pgs_cons (pg_name (i := 3) scSizeOf.nd rfl (Or.inl rfl)) (pgs_cons (pg_name (i := 4) scSizeOf.nd rfl (Or.inr rfl)) pgs_nil))))
      (pss_cons (ps_if (pt_val (pe_call GT (hr.mono (by decide)) rfl mT kT bT .nil pass0 (pa_cons (pv 4) (pa_cons (pe_glob rfl hm (v := .int 7) ⟨_, rfl⟩) pa_nil))))
          (pss_one (ps_expr (pe_bm PySem.F.plainAttrs_list PySem.F.slot_list_append PySem.F.type_list_append mt_append (pv 1) (pa_cons (pv 4) pa_nil))))
          (pss_one (ps_if (PW.pt (pw_and (pt_val (pe_call GP (hr.mono (by decide)) rfl mP kP bP .nil pass0 (pa_cons (pv 4) pa_nil))) (pw_and1 (pt_cmpR op_ne (pe_ix ix_tup (pv 4) pe_int (fun _ _ => rfl)) (pv 3) (nomark _)))))
            (pss_one (ps_expr (pe_bm PySem.F.plainAttrs_list PySem.F.slot_list_extend PySem.F.type_list_extend mt_extend (pv 2) (pa_cons
              (pe_lc (own := [("piece", 5)]) (g := gName 5) (tt := tYes) rfl scSizeOf.nd (pi_tup (pe_ix ix_tup (pv 4) pe_int (fun _ _ => rfl))) (blkOk_by (own := [("piece", 5)]) (N := ["value", "found", "waiting", "outer", "item", "piece"]) (sc := defScope sSizeOf) (by decide +kernel))
                (fun _ _ _ _ _ => pg_name (i := 5) scSizeOf.nd rfl (Or.inl rfl)) (fun _ _ _ _ _ => pts_nil) (fun _ _ _ _ _ => pe_tup (pa_cons (pe_ix (r := rIxT K) ix_tup (pv 4) pe_int (fun _ _ => rfl)) (pa_cons (pv 5) pa_nil)))) pa_nil))))
            (pss_one (ps_ret pe_int)))))
      (pss_one (ps_if (pt_cmpR op_gt (pe_op op_add (pe_callB call_len_seq rfl B.len PySem.boot_len (pa_cons (pv 1) pa_nil)) (pe_callB call_len_seq rfl B.len PySem.boot_len (pa_cons (pv 2) pa_nil))) (pe_glob rfl hm (v := .int 7) ⟨_, rfl⟩) (nomark _)) (pss_one (ps_ret pe_int)) pss_nil)))))
    (pss_one (ps_ret (pe_ifExp (pt_val (pe_call GO hr rfl mO kO bO .nil pass0 (pa_cons (pe_callTy call_tuple_of rfl B.tuple (by decide +kernel) (pa_cons (pv 1) pa_nil)) (pa_cons (pe_callB call_len_seq rfl B.len PySem.boot_len (pa_cons (pv 1) pa_nil)) pa_nil))))
      (pe_callB call_len_seq rfl B.len PySem.boot_len (pa_cons (pv 1) pa_nil)) pe_int))))), ?_⟩
  refine ⟨(by show 0 ≤ sizeLine; decide), fun F hF => ⟨_, rfl, (by show 2 ≤ sizeLine; decide), fun t0 ht0 => ⟨(by show 1 ≤ sizeLine; decide), fun Wt hWt => ?_⟩⟩⟩
  have nFt : F ≠ t0 := fun z => by rw [← z, upd_same] at ht0; cases ht0
  have nFW : F ≠ Wt := fun z => by rw [← z, upd_ne nFt, upd_same] at hWt; cases hWt
  have ntW : t0 ≠ Wt := fun z => by rw [← z, upd_same] at hWt; cases hWt
  have ht0' : H t0 = none := by rw [upd_ne nFt.symm] at ht0; exact ht0
  have hWt' : H Wt = none := by rw [upd_ne ntW.symm, upd_ne nFW.symm] at hWt; exact hWt
  have k0 : Kp MN H (upd (upd (upd H F (.lst [])) t0 (.tup [.str "", v])) Wt (.lst [.ref t0])) := (Kp.new hF).trans ((Kp.new ht0).trans (Kp.new hWt))
  refine ⟨fun m σ H' => SzInv v d H m σ H', ⟨_, F, Wt, [], [.ref t0], [("", d)], none, none, none, rfl, hF, hWt', nFW, k0, by rw [upd_ne nFW, upd_ne nFt, upd_same]; rfl, upd_same, .cons (by rw [upd_ne ntW, upd_same]) hA hS .nil, rfl, by show 0 + 1 ≤ 7; decide, rfl⟩, ?_⟩
  rintro m σ1 H1 ⟨F, Wt, found, wvs, ws, x3, x4, x5, rfl, hF0, hW0, hne, k, hF, hW, prs, hv, hle, rfl⟩
  have hT1 : TabG H1 PT := k.tbl _ hT
  refine ⟨_, rfl, !wvs.isEmpty, .inl ⟨wvs, SqL.of hW, rfl⟩, ?_⟩
  by_cases hw : wvs = []
  · subst hw
    cases prs
    refine iteF ?_
    refine ⟨_, rfl, F, _, rfl, .inl ⟨SqL.of hF, fun p hp => ?_⟩⟩
    have hpF : F ≠ p := ne_of_none hF hp
    refine ⟨_, rfl, F, _, rfl, .inl (SqL.of (by rw [upd_ne hpF]; exact hF)), .ref p, .tuple (found.map PyData.int), (found.map V.int).length, rfl, .tup upd_same (AtL.ints found), (Kp.new (M := MN) hp).tbl _ hT1, ?_, ?_, fun H2 k2 => ⟨_, rfl, ?_⟩⟩
    · rw [List.length_map]; simp at hle; omega
    · intro ds e
      injection e with e
      rw [← e, List.length_map]
      simp at hle
      omega
    · have hle' : found.length ≤ 7 := by simpa using hle
      rw [List.length_map, isOrd_okL hle']
      have hv' : vdt d = if okL found = true then found.length else 0 := by
        rw [← hv]
        show (if okL (found ++ []) = true then (found ++ []).length else 0) = _
        rw [List.append_nil]
      have hF2 : H2 F = some (.lst (found.map V.int)) := k2.lst F _ (fun z => z) (by rw [upd_ne hpF]; exact hF)
      have kk : Kp MN H H2 := k.trans ((Kp.new hp).trans k2)
      refine ite2 (fun c => ?_) (fun c => ?_)
      · refine ⟨_, rfl, F, _, rfl, .inl (SqL.of hF2), ?_⟩
        have := q H2 kk
        rw [hv', if_pos c] at this
        rw [List.length_map]
        exact this
      · have := q H2 kk
        rw [hv', if_neg c] at this
        exact this
  · obtain ⟨vs', ws', t', o', v', d', rfl, rfl, prs', ht', hA', hS'⟩ := prs.last hw
    have he : (!(vs' ++ [V.ref t']).isEmpty) = true := by cases vs' <;> rfl
    rw [he]
    refine iteT ?_
    refine ⟨fun σ' H' => ∃ m', m' < msz (ws' ++ [(o', d')]) ∧ SzInv v d H m' σ' H', fun _ _ z => z, ?_⟩
    refine ⟨_, rfl, .inl ⟨rfl, _, .inl (.inl hW)⟩, Wt, _, _, rfl, rfl, hW, (by rw [List.length_append]; show (vs' ++ [V.ref t'])[vs'.length + 1 - 1]? = some (V.ref t'); simp), ?_⟩
    rw [List.dropLast_concat]
    have k1 : Kp MN H (upd H1 Wt (.lst vs')) := k.putNew hW0 hW
    have ht1 : (upd H1 Wt (.lst vs')) t' = some (.tup [.str o', v']) := by rw [upd_ne (ne_of ht' hW (by intro z; cases z))]; exact ht'
    have hF1 : (upd H1 Wt (.lst vs')) F = some (.lst (found.map V.int)) := by rw [upd_ne hne]; exact hF
    have hW1 : (upd H1 Wt (.lst vs')) Wt = some (.lst vs') := upd_same
    have prs1 : Prs H (upd H1 Wt (.lst vs')) vs' ws' := prs'.kp fun b xs e => by rw [upd_ne (ne_of e hW (by intro z; cases z))]; exact e
    have hA1 : At MN (upd H1 Wt (.lst vs')) v' d' := hA'.kp k1
    generalize upd H1 Wt (.lst vs') = H2 at k1 ht1 hF1 hW1 prs1 hA1 ⊢
    have hlw := prs1.length
    have hle' : found.length + (ws'.length + 1) ≤ 7 := by rw [List.length_append] at hle; exact hle
    refine ⟨t', _, rfl, SqT.of ht1, rfl, _, _, rfl, _, _, rfl, rfl, ?_⟩
    refine ⟨_, rfl, v', d', 7, rfl, hA1, _, rfl, ?_⟩
    have fin : ∀ (found3 : List Int) (vs3 : List V) (ws3 : List (Str × PyData)) (H3 : Hp), Kp MN H H3 → H3 F = some (.lst (found3.map V.int)) → H3 Wt = some (.lst vs3) → Prs H H3 vs3 ws3 → verd found3 ws3 = vdt d → msz ws3 < msz (ws' ++ [(o', d')]) →
        (decide ((7 : Int) < ((found3.map V.int).length : Int) + (vs3.length : Int)) = true → Q (.int 0) H3) ∧ (¬ decide ((7 : Int) < ((found3.map V.int).length : Int) + (vs3.length : Int)) = true → ∃ m', m' < msz (ws' ++ [(o', d')]) ∧ SzInv v d H m' [some v, some (.ref F), some (.ref Wt), some (.str o'), some v', x5] H3) := by
      intro found3 vs3 ws3 H3 k3 hF3 hW3 prs3 hv3 hm3
      have hl3 := prs3.length
      rw [List.length_map]
      refine ⟨fun c => ?_, fun c => ?_⟩
      · have c' := of_decide_eq_true c
        have := q H3 k3
        rw [← hv3, verd_many (by omega)] at this
        exact this
      · have c' := of_decide_eq_false (Bool.eq_false_iff.mpr c)
        exact ⟨_, hm3, F, Wt, found3, vs3, ws3, _, _, _, rfl, hF0, hW0, hne, k3, hF3, hW3, prs3, hv3, by omega, rfl⟩
    refine ite2 (fun c => ?_) (fun c => ?_)
    · cases d' with
      | int i =>
        cases hA1.int_of
        refine ⟨_, rfl, .inl ⟨rfl, _, .inl (.inl hF1)⟩, _, rfl, F, _, _, rfl, rfl, hF1, (by rw [List.length_map]; exact small1000 (by omega)), ?_⟩
        obtain ⟨f1, f2⟩ := fin (found ++ [i]) vs' ws' (upd H2 F (.lst (found.map V.int ++ [.int i]))) (k1.putNew hF0 hF1) (by rw [upd_same, List.map_append]; rfl) (by rw [upd_ne hne.symm]; exact hW1)
          (prs1.kp fun b xs e => by rw [upd_ne (ne_of e hF1 (by intro z; cases z))]; exact e) (by rw [← verd_task (o := o'), hv]) (by rw [msz_app, msz_one]; have := size_pos (.int i); omega)
        rw [List.map_append] at f1 f2
        refine ⟨_, rfl, F, _, rfl, .inl (SqL.of upd_same), _, rfl, Wt, _, rfl, .inl (SqL.of (by rw [upd_ne hne.symm]; exact hW1)), _, _, rfl, rfl, _, _, rfl, rfl, _, rfl, ?_⟩
        exact ite2 f1 f2
      | _ => cases c
    · have c' := Bool.eq_false_iff.mpr c
      refine ⟨_, rfl, v', d', rfl, hA1, hS', _, rfl, ?_⟩
      have bad : vdt d = 0 → Q (.int 0) H2 := fun e => by
        have := q H2 k1
        rw [e] at this
        exact this
      by_cases cp : hasP d' = true
      · rw [cp]
        refine iteT ?_
        obtain ⟨w0, ps, rfl, g1, g2, g3⟩ := hasP_some cp
        obtain ⟨a2, xs2, rfl, hx20, hall2⟩ := hA'.tup_of
        obtain ⟨vp, rfl, ap⟩ : ∃ vp, xs2 = [.str w0, vp] ∧ At MN H vp (.tuple ps) := by
          cases hall2 with
          | cons a1 r1 =>
            cases r1 with
            | cons b1 r2 =>
              cases r2
              exact ⟨_, by rw [a1.str_of], b1⟩
        obtain ⟨a3, xs3, rfl, hx30, hall3⟩ := ap.tup_of
        have hx2 := k1.tup _ _ hx20
        have hx3 := k1.tup _ _ hx30
        have hl3 := hall3.length
        refine ⟨_, rfl, _, _, _, _, rfl, rfl, SqT.of hx2, atI_nat (j := 0) rfl, _, rfl, rfl, _, rfl, ?_⟩
        by_cases cw : w0 = o'
        · subst cw
          have e0 : (!decide (V.str w0 = V.str w0)) = false := by simp
          rw [e0]
          refine iteF (bad ?_)
          rw [← hv]
          refine verd_none ?_
          rw [formed_parts, if_neg (by simp)]
        · have e0 : (!decide (V.str w0 = V.str o')) = true := by
            rw [decide_eq_false fun z => cw (by injection z)]
            rfl
          rw [e0]
          refine iteT ?_
          refine ⟨_, rfl, .inl ⟨rfl, _, .inl (.inl hW1)⟩, ?_⟩
          refine ⟨_, rfl, _, _, _, _, rfl, rfl, SqT.of hx2, atI_nat (j := 1) rfl, a3, rfl, ⟨_, SqT.of hx3⟩, fun D hD => ?_⟩
          have nF := ne_of_none hF1 hD
          have nW := ne_of_none hW1 hD
          have nD := k1.noLst (a := D) (fun z => z) hD
          refine lc_tup (K := K) (a := a3) (xs := xs3) (fun i H' => Kp MN H H' ∧ H' F = some (.lst (found.map V.int)) ∧ H' Wt = some (.lst vs') ∧ H' a2 = some (.tup [.str w0, .ref a3]) ∧ H' a3 = some (.tup xs3) ∧ Prs H H' vs' ws' ∧
            ∃ us, H' D = some (.lst us) ∧ Prs H H' us ((ps.take i).map fun p => (w0, p))) ?_ (fun i H' _ p => SqT.of p.2.2.2.2.1) (fun i x H' hi p => ?_) (fun H' p => ?_)
          · refine ⟨k1.trans (Kp.new hD), by rw [upd_ne nF]; exact hF1, by rw [upd_ne nW]; exact hW1, by rw [upd_ne (ne_of_none hx2 hD)]; exact hx2, by rw [upd_ne (ne_of_none hx3 hD)]; exact hx3, prs1.kp fun b xs e => by rw [upd_ne (ne_of_none e hD)]; exact e, [], upd_same, .nil⟩
          · obtain ⟨k3, hF3, hW3, h2, h3, pr3, us, hu, pu⟩ := p
            obtain ⟨pd, hpd, hap⟩ := hall3.get hi
            have hlu := pu.length
            rw [List.length_map, List.length_take] at hlu
            refine ⟨rfl, ?_⟩
            dsimp only [tYes]
            rw [if_pos rfl]
            refine ⟨_, rfl, _, _, _, _, rfl, rfl, SqT.of h2, atI_nat (j := 0) rfl, _, rfl, (by show 2 ≤ sizeLine; decide), fun p hp => ?_⟩
            have nDp := ne_of_none hu hp
            refine ⟨us, by rw [upd_ne nDp]; exact hu, small1000 (by omega), ?_⟩
            have kt : ∀ b xs, H' b = some (.tup xs) → (upd (upd H' p (.tup [.str w0, x])) D (.lst (us ++ [.ref p]))) b = some (.tup xs) := fun b xs e => by
              rw [upd_ne (ne_of e hu (by intro z; cases z)), upd_ne (ne_of_none e hp)]
              exact e
            refine ⟨(k3.trans (Kp.new hp)).putFresh nD (by rw [upd_ne nDp]; exact hu), by rw [upd_ne nF, upd_ne (ne_of_none hF3 hp)]; exact hF3, by rw [upd_ne nW, upd_ne (ne_of_none hW3 hp)]; exact hW3, kt _ _ h2, kt _ _ h3, pr3.kp kt, _, upd_same, ?_⟩
            rw [List.take_succ, hpd, List.map_append]
            exact (pu.kp kt).append (.cons (by rw [upd_ne nDp.symm, upd_same]) hap (shaped_tup (shaped_tup hS' (by simp)) (List.mem_of_getElem? hpd)) .nil)
          · obtain ⟨k3, hF3, hW3, h2, h3, pr3, us, hu, pu⟩ := p
            rw [hl3, List.take_length] at pu
            have hlu := pu.length
            rw [List.length_map] at hlu
            refine ⟨Wt, D, _, _, rfl, rfl, hW3, hu, Nat.le_of_lt (small1000 (by omega)), ?_⟩
            have kt : ∀ b xs, H' b = some (.tup xs) → (upd H' Wt (.lst (vs' ++ us))) b = some (.tup xs) := fun b xs e => by
              rw [upd_ne (ne_of e hW3 (by intro z; cases z))]
              exact e
            obtain ⟨f1, f2⟩ := fin found (vs' ++ us) (ws' ++ ps.map fun p => (w0, p)) (upd H' Wt (.lst (vs' ++ us))) (k3.putNew hW0 hW3) (by rw [upd_ne hne]; exact hF3) upd_same
              ((pr3.kp kt).append (pu.kp kt)) (by rw [← verd_parts (o := o') g1 cw g2, hv]) (by rw [msz_app, msz_app, msz_one]; have := msz_parts w0 ps; omega)
            refine ⟨_, rfl, F, _, rfl, .inl (SqL.of (by rw [upd_ne hne]; exact hF3)), _, rfl, Wt, _, rfl, .inl (SqL.of upd_same), _, _, rfl, rfl, _, _, rfl, rfl, _, rfl, ?_⟩
            exact ite2 f1 f2
      · have cp' := Bool.eq_false_iff.mpr cp
        rw [cp']
        exact iteF (bad (by rw [← hv]; exact verd_bad c' cp'))
end
end K2

set_option Elab.async false
set_option linter.all false
set_option maxRecDepth 100000
set_option maxHeartbeats 4000000
namespace K2
open PySem L2 GxR GA KD KR KM
abbrev sStream : Stmt := top 26
abbrev sNext : Stmt := top 27
abbrev sLIsInt : Stmt := top 28
abbrev sEqual : Stmt := top 29
abbrev sPick : Stmt := top 30
abbrev sOrder : Stmt := top 31
abbrev sGrown : Stmt := top 32
abbrev sPlan : Stmt := top 33
/-- the law's stream at st -/
def StAt (st l : Addr) (H : Hp) : Prop := ∃ (b k : Int) (ns : List Int), H st = some (.lst [.ref l, .int b, .int k]) ∧ H l = some (.lst (ns.map V.int)) ∧ l ≠ st ∧ 0 ≤ b ∧ 0 ≤ k
abbrev MS (st : Addr) : Addr → Prop := fun a => a = st
theorem StAt.kp {st l : Addr} {H H' : Hp} (h : StAt st l H) (k : Kp MN H H') : StAt st l H' := by
  obtain ⟨b, c, ns, h1, h2, h3, h4, h5⟩ := h
  exact ⟨b, c, ns, k.lst _ _ (fun z => z) h1, k.lst _ _ (fun z => z) h2, h3, h4, h5⟩
theorem StAt.ex {st l : Addr} {H : Hp} (h : StAt st l H) : ∃ xs, H st = some (.lst xs) := by
  obtain ⟨b, c, ns, h1, _⟩ := h
  exact ⟨_, h1⟩
theorem StAt.ex2 {st l : Addr} {H : Hp} (h : StAt st l H) : ∃ xs, H l = some (.lst xs) := by
  obtain ⟨b, c, ns, _, h2, _⟩ := h
  exact ⟨_, h2⟩
def spStream (K : PySem.W.Frag) : Sp := fun vs H Q _ => ∃ (a : Addr) (ns : List Int), vs = [.ref a] ∧ SqL K H a (ns.map V.int) ∧ ns.length ≤ 63 ∧ ∀ st l H', H st = none → Kp MN H H' → StAt st l H' → Q (.ref st) H'
def spNext : Sp := fun vs H Q _ => ∃ (st l : Addr) (many : Int), vs = [.ref st, .int many] ∧ StAt st l H ∧ 0 < many ∧ many < 1000 ∧ ∀ d H', 0 ≤ d → d < many → Kp (MS st) H H' → StAt st l H' → Q (.int d) H'
section
variable {P : Program} {w : World} {K : PySem.W.Frag} {mg : Str → Option Value} {base : Heap}
theorem scIsPlan : FnScope ["value", "size"] ["value", "size"] (defScope sIsPlan) := ⟨rfl, rfl, rfl, by decide +kernel, rfl, by decide +kernel, by decide +kernel⟩
theorem ok_isPlan {f gS gZ PT : Addr} {fd dS dZ : FuncData} (F : Fun K "is_plan" "is_plan" sIsPlan f fd) (B : Bl K mg)
    (GS : FnOk P w K mg base CX0 2 gS dS ["value"] spIsSize) (bS : Binds K dS ["value"] []) (kS : PySem.W.keepIn K (.ref gS) = true) (mS : mg "is_size" = some (.ref gS))
    (GZ : FnOk P w K mg base CX0 6 gZ dZ ["value"] (spSizeOf PT)) (bZ : Binds K dZ ["value"] []) (kZ : PySem.W.keepIn K (.ref gZ) = true) (mZ : mg "size_of" = some (.ref gZ)) :
    FnOk P w K mg base CX0 7 f fd ["value", "size"] (spIsPlan PT) := by
  refine F.ok scIsPlan (fun vs H Q E h => ?_) (fun cdv A outer s H vs Q E hr h => ?_)
  · obtain ⟨v, u, d, e, rfl, _⟩ := h
    rfl
  obtain ⟨v, u, d, e, rfl, hA, hU, hS, hT, q⟩ := h
  refine ⟨_, pss_one (ps_ret (pe_and (pe_call GS (hr.mono (by decide)) rfl mS kS bS .nil pass0 (pa_cons (pv 1) pa_nil))
    (pe_one (pe_cmpR op_eq (pe_call GZ hr rfl mZ kZ bZ .nil pass0 (pa_cons (pv 0) pa_nil)) (pv 1) (nomark _))))), ?_⟩
  refine ⟨_, rfl, u, e, rfl, hU, _, rfl, ?_⟩
  cases e with
  | int n =>
    cases hU.int_of
    refine ite2 (fun c => ?_) (fun c => ?_)
    · refine ⟨_, rfl, v, d, rfl, hA, hS, hT, fun H' k => ⟨_, rfl, rfl, ?_⟩⟩
      have c' : (1 ≤ n ∧ n ≤ 7) := of_decide_eq_true c
      have e : decide (V.int (vdt d : Nat) = V.int n) = isPl d (.int n) := by
        show _ = (decide (1 ≤ n ∧ n ≤ 7) && decide ((vdt d : Int) = n))
        rw [decide_eq_true c', Bool.true_and, decide_eq_decide]
        exact ⟨fun z => by injection z, fun z => by rw [z]⟩
      show Q (.bl (decide (V.int (vdt d : Nat) = V.int n))) H'
      rw [e]
      exact q H' k
    · have c' : ¬ (1 ≤ n ∧ n ≤ 7) := of_decide_eq_false (Bool.eq_false_iff.mpr c)
      have e : false = isPl d (.int n) := by
        show _ = (decide (1 ≤ n ∧ n ≤ 7) && decide ((vdt d : Int) = n))
        rw [decide_eq_false c']
        rfl
      show Q (.bl false) H
      rw [e]
      exact q H .refl
  | _ => exact iteF (q H .refl)
theorem scStream : FnScope ["script"] ["script"] (defScope sStream) := ⟨rfl, rfl, rfl, by decide +kernel, rfl, by decide +kernel, by decide +kernel⟩
theorem ok_stream {f : Addr} {fd : FuncData} (F : Fun K "_law_stream" "_law_stream" sStream f fd) (B : Bl K mg) : FnOk P w K mg base CX0 1 f fd ["script"] (spStream K) := by
  refine F.ok scStream (fun vs H Q E h => ?_) (fun cdv A outer s H vs Q E hr h => ?_)
  · obtain ⟨a, ns, rfl, _⟩ := h
    rfl
  obtain ⟨a, ns, rfl, hS, hl, q⟩ := h
  refine ⟨_, pss_one (ps_ret (pe_lst (pa_cons (pe_callTy call_list_of rfl B.list (by decide +kernel) (pa_cons (pv 0) pa_nil)) (pa_cons pe_int (pa_cons pe_int pa_nil))))), ?_⟩
  refine ⟨_, rfl, a, _, rfl, .inl hS, fun l hl => ?_⟩
  refine ⟨by show 3 ≤ sizeLine; decide, fun st hst => ?_⟩
  have n : l ≠ st := fun z => by rw [← z, upd_same] at hst; cases hst
  have hst' : H st = none := by rw [upd_ne n.symm] at hst; exact hst
  exact q st l _ hst' ((Kp.new hl).trans (Kp.new hst)) ⟨0, 0, ns, upd_same, by rw [upd_ne n, upd_same], n, by decide, by decide⟩
theorem scNext : FnScope ["stream", "many", "k", "cell", "digit"] ["stream", "many"] (defScope sNext) := ⟨rfl, rfl, rfl, by decide +kernel, rfl, by decide +kernel, by decide +kernel⟩
theorem ok_next {f : Addr} {fd : FuncData} (F : Fun K "_law_next" "_law_next" sNext f fd) (B : Bl K mg) : FnOk P w K mg base CX0 1 f fd ["stream", "many"] spNext := by
  refine F.ok scNext (fun vs H Q E h => ?_) (fun cdv A outer s H vs Q E hr h => ?_)
  · obtain ⟨st, l, many, rfl, _⟩ := h
    rfl
  obtain ⟨st, l, many, rfl, ⟨b, k, ns, h1, h2, h3, h4, h5⟩, m1, m2, q⟩ := h
  refine ⟨_, C8.pss_cut (ps_if (pt_cmpR op_eq (pe_ix ix_list (pv 0) pe_int (fun _ _ => rfl)) pe_int (nomark _))
      (pss_cons (ps_set (i := 2) scNext.nd rfl (Or.inl rfl) (pe_ix ix_list (pv 0) pe_int (fun _ _ => rfl)))
      (pss_cons (ps_set (i := 3) scNext.nd rfl (Or.inl rfl) (pe_op op_add pe_int (pv 2)))
      (C8.pss_cut (ps_if (pt_cmpR op_lt (pv 2) (pe_callB call_len_seq rfl B.len PySem.boot_len (pa_cons (pe_ix ix_list (pv 0) pe_int (fun _ _ => rfl)) pa_nil)) (nomark _))
          (pss_one (ps_set (i := 3) scNext.nd rfl (Or.inl rfl) (pe_callB call_abs rfl B.abs (by decide +kernel) (pa_cons (pe_ix ix_list (pe_ix ix_list (pv 0) pe_int (fun _ _ => rfl)) (pv 2) (fun _ _ => rfl)) pa_nil)))) pss_nil)
      (C8.pss_cut (ps_if (pt_cmpR op_lt (pv 3) (pe_op op_pow pe_int pe_int) (nomark _))
          (pss_cons (ps_set (i := 3) scNext.nd rfl (Or.inl rfl) (pe_op op_mod (pe_callTy call_int1 rfl B.int (by decide +kernel) (pa_cons (pe_op op_add (pe_op op_add (pe_op op_mul (pv 3) pe_int) (pe_op op_mul (pv 2) pe_int)) pe_int) pa_nil)) pe_int))
          (pss_one (ps_set (i := 3) scNext.nd rfl (Or.inl rfl) (pe_op op_add (pe_op op_mul (pe_op op_mod (pe_callTy call_int1 rfl B.int (by decide +kernel) (pa_cons (pe_op op_add (pe_op op_mul (pv 3) pe_int) pe_int) pa_nil)) pe_int) pe_int) (pv 3))))) pss_nil)
      (pss_cons (ps_asg (pv 3) (pg_sub (pv 0) pe_int set_list))
      (pss_one (ps_asg (pe_op op_add (pv 2) pe_int) (pg_sub (pv 0) pe_int set_list)))))))) pss_nil)
    (pss_cons (ps_set (i := 4) scNext.nd rfl (Or.inl rfl) (pe_op op_mod (pe_callTy call_int1 rfl B.int (by decide +kernel) (pa_cons (pe_ix ix_list (pv 0) pe_int (fun _ _ => rfl)) pa_nil)) (pv 1)))
    (pss_cons (ps_asg (pe_op op_fdivW (pe_ix ix_list (pv 0) pe_int (fun _ _ => rfl)) (pv 1)) (pg_sub (pv 0) pe_int set_list))
    (pss_one (ps_ret (pv 4))))), ?_⟩
  -- behind the first if
  refine ⟨fun σ' H' => ∃ (b' k' : Int) (x2 x3 : Option V), σ' = [some (.ref st), some (.int many), x2, x3, none] ∧ Kp (MS st) H H' ∧ H' st = some (.lst [.ref l, .int b', .int k']) ∧ H' l = some (.lst (ns.map V.int)) ∧ 0 ≤ b' ∧ 0 ≤ k', ?_, ?_⟩
  · refine ⟨_, rfl, st, _, _, _, rfl, rfl, SqL.of h1, atI_nat (j := 1) rfl, rfl, _, rfl, ?_⟩
    refine ite2 (fun c => ?_) (fun c => ?_)
    · refine ⟨_, rfl, st, _, _, _, rfl, rfl, SqL.of h1, atI_nat (j := 2) rfl, _, rfl, 7, _, rfl, rfl, ?_⟩
      refine ⟨fun σ' H' => ∃ cell : Int, 0 ≤ cell ∧ σ' = [some (.ref st), some (.int many), some (.int k), some (.int cell), none] ∧ H = H', ?_, ?_⟩
      · refine ⟨_, rfl, _, rfl, st, _, _, _, rfl, rfl, SqL.of h1, atI_nat (j := 0) rfl, l, _, rfl, .inl (SqL.of h2), _, _, rfl, rfl, _, rfl, ?_⟩
        refine ite2 (fun c2 => ?_) (fun c2 => ⟨7 + k, by omega, rfl, rfl⟩)
        have c2' : k < ((ns.map V.int).length : Int) := of_decide_eq_true c2
        rw [List.length_map] at c2'
        have hk : k.toNat < ns.length := by omega
        have ek : k = ((k.toNat : Nat) : Int) := by omega
        have hat := atI_nat (xs := ns.map V.int) (j := k.toNat) (v := .int ns[k.toNat]) (by rw [List.getElem?_map, List.getElem?_eq_getElem hk]; rfl)
        rw [← ek] at hat
        refine ⟨_, rfl, st, _, _, _, rfl, rfl, SqL.of h1, atI_nat (j := 0) rfl, _, rfl, l, _, _, _, rfl, rfl, SqL.of h2, hat, _, rfl, ?_⟩
        refine ⟨_, ?_, rfl, rfl⟩
        split <;> omega
      · rintro σ' H' ⟨cell, hc, rfl, rfl⟩
        refine ⟨fun σ' H' => ∃ cell : Int, 0 ≤ cell ∧ σ' = [some (.ref st), some (.int many), some (.int k), some (.int cell), none] ∧ H = H', ?_, ?_⟩
        · refine ⟨_, rfl, 10, 18, rfl, rfl, ⟨by decide, by decide, by decide⟩, _, _, rfl, rfl, _, rfl, ?_⟩
          refine ite2 (fun c2 => ?_) (fun c2 => ⟨cell, hc, rfl, rfl⟩)
          refine ⟨_, rfl, _, 48271, rfl, rfl, .inr ⟨by decide, by decide⟩, _, rfl, _, 69621, rfl, rfl, .inr ⟨by decide, by decide⟩, _, _, rfl, rfl, _, 11, rfl, rfl, .inl ⟨_, rfl, _, 2147483647, rfl, rfl, (by show (0 : Int) < 2147483647; decide), ?_⟩⟩
          refine ⟨_, rfl, _, 16807, rfl, rfl, .inr ⟨by decide, by decide⟩, _, 13, rfl, rfl, .inl ⟨_, rfl, _, 2147483647, rfl, rfl, (by show (0 : Int) < 2147483647; decide), _, 65537, rfl, rfl, .inr ⟨by decide, by decide⟩, _, rfl, _, _, rfl, rfl, ?_⟩⟩
          refine ⟨_, ?_, rfl, rfl⟩
          have e1 := Int.emod_nonneg (cell * 48271 + k * 69621 + 11) (show (2147483647 : Int) ≠ 0 by decide)
          have e2 := Int.emod_nonneg ((cell * 48271 + k * 69621 + 11) % 2147483647 * 16807 + 13) (show (2147483647 : Int) ≠ 0 by decide)
          omega
        · rintro σ' H' ⟨cell, hc, rfl, rfl⟩
          refine ⟨_, rfl, _, rfl, st, _, 1, 1, rfl, rfl, h1, rfl, ?_⟩
          refine ⟨_, rfl, k, 1, rfl, rfl, _, rfl, st, _, 2, 2, rfl, rfl, upd_same, rfl, ?_⟩
          rw [upd_upd]
          exact ⟨cell, k + 1, _, _, rfl, Kp.put rfl h1, upd_same, by rw [upd_ne h3]; exact h2, hc, by omega⟩
    · exact ⟨b, k, none, none, rfl, .refl, h1, h2, h4, h5⟩
  · rintro σ' H' ⟨b', k', x2, x3, rfl, kp, g1, g2, g4, g5⟩
    refine ⟨_, rfl, st, _, _, _, rfl, rfl, SqL.of g1, atI_nat (j := 1) rfl, .inl ⟨_, rfl, _, rfl, _, _, rfl, rfl, m1, ?_⟩⟩
    refine ⟨_, rfl, st, _, _, _, rfl, rfl, SqL.of g1, atI_nat (j := 1) rfl, _, rfl, _, _, rfl, rfl, wide_div (b := 10) m1 (by omega) (by decide) (by decide), _, rfl, st, _, 1, 1, rfl, rfl, g1, rfl, _, rfl, ?_⟩
    refine q _ _ (Int.emod_nonneg _ (by omega)) (Int.emod_lt_of_pos _ m1) (kp.trans (Kp.put rfl g1)) ⟨b' / many, k', ns, upd_same, by rw [upd_ne h3]; exact g2, h3, Int.ediv_nonneg g4 (by omega), g5⟩
end
end K2

set_option Elab.async false
set_option linter.all false
set_option maxRecDepth 100000
set_option maxHeartbeats 4000000
namespace K2
open PySem L2 GxR GA KD KR KM
mutual
/-- what the law means by equal: (actual, due) -/
def leq : PyData → PyData → Bool
  | .none, .none => true
  | .bool a, .bool b => decide (a = b)
  | .int a, .int b => decide (a = b)
  | .str a, .str b => decide (a = b)
  | .list xs, .list ys => leqL xs ys
  | .tuple xs, .tuple ys => leqL xs ys
  | _, _ => false
def leqL : List PyData → List PyData → Bool
  | [], [] => true
  | x :: xs, y :: ys => leq x y && leqL xs ys
  | _, _ => false
end
theorem leqL_len : ∀ {xs ys : List PyData}, leqL xs ys = true → xs.length = ys.length
  | [], [], _ => rfl
  | x :: xs, y :: ys, h => by
    simp only [leqL, Bool.and_eq_true] at h
    exact congrArg (· + 1) (leqL_len h.2)
  | [], _ :: _, h => by simp [leqL] at h
  | _ :: _, [], h => by simp [leqL] at h
mutual
theorem leq_refl : ∀ d : PyData, d.canLay0 = true → leq d d = true
  | .none, _ => by simp [leq]
  | .bool b, _ => by simp [leq]
  | .int b, _ => by simp [leq]
  | .str b, _ => by simp [leq]
  | .list xs, h => by simp only [leq]; exact leqL_refl xs (by simpa [PyData.canLay0] using h)
  | .tuple xs, h => by simp only [leq]; exact leqL_refl xs (by simpa [PyData.canLay0] using h)
  | .dict _, h => by simp [PyData.canLay0] at h
theorem leqL_refl : ∀ d : List PyData, PyData.canLayAll0 d = true → leqL d d = true
  | [], _ => by simp [leqL]
  | x :: xs, h => by
    simp only [PyData.canLayAll0, Bool.and_eq_true] at h
    simp only [leqL, leq_refl x h.1, leqL_refl xs h.2, Bool.and_self]
end
/-- place by place -/
theorem leqL_at : ∀ (xs ys : List PyData), xs.length = ys.length → leqL xs ys = ((List.range ys.length).map fun i => leq (xs.getD i .none) (ys.getD i .none)).all id
  | [], [], _ => by simp [leqL]
  | x :: xs, y :: ys, h => by
    have ih := leqL_at xs ys (by simpa using h)
    simp only [leqL, ih, List.length_cons, List.range_succ_eq_map, List.map_cons, List.map_map, List.all_cons, id]
    rfl
  | [], _ :: _, h => by simp at h
  | _ :: _, [], h => by simp at h
theorem depth_mem : ∀ {ds : List PyData} {d : PyData}, d ∈ ds → d.depth ≤ PyData.depthAll ds
  | x :: r, d, h => by
    simp only [PyData.depthAll]
    rcases List.mem_cons.mp h with z | z
    · rw [z]; omega
    · have := depth_mem z
      omega
mutual
def slim : PyData → Bool
  | .list xs => decide (xs.length ≤ 900) && slimL xs
  | .tuple xs => decide (xs.length ≤ 900) && slimL xs
  | _ => true
def slimL : List PyData → Bool
  | [] => true
  | x :: r => slim x && slimL r
end
theorem slimL_mem : ∀ {ds : List PyData} {d : PyData}, slimL ds = true → d ∈ ds → slim d = true
  | x :: r, d, h, hd => by
    simp only [slimL, Bool.and_eq_true] at h
    rcases List.mem_cons.mp hd with z | z
    · rw [z]; exact h.1
    · exact slimL_mem h.2 z
def spEq (n : Nat) : Sp := fun vs H Q _ => ∃ (v u : V) (d e : PyData), vs = [v, u] ∧ At MN H v d ∧ At MN H u e ∧ e.depth < n ∧ slim e = true ∧ ∀ H', Kp MN H H' → Q (.bl (leq d e)) H'
def spPick : Sp := fun vs H Q _ => ∃ (st l : Addr) (r : V) (ds : List PyData), vs = [.ref st, r] ∧ StAt st l H ∧ At (MS st) H r (.list ds) ∧ ds ≠ [] ∧ ds.length < 1000 ∧ ∀ x d H', d ∈ ds → At (MS st) H' x d → Kp (MS st) H H' → StAt st l H' → Q x H'
def spOrder : Sp := fun vs H Q _ => ∃ (st c : Addr) (n : Nat), vs = [.ref st, .int n] ∧ StAt st c H ∧ n < 60 ∧ ∀ p (l : List Int) H', l.Perm (rng n) → H' p = some (.tup (l.map V.int)) → Kp (MS st) H H' → StAt st c H' → Q (.ref p) H'
section
variable {P : Program} {w : World} {K : PySem.W.Frag} {mg : Str → Option Value} {base : Heap}
theorem scLIsInt : FnScope ["actual"] ["actual"] (defScope sLIsInt) := ⟨rfl, rfl, rfl, by decide +kernel, rfl, by decide +kernel, by decide +kernel⟩
theorem ok_lIsInt {f : Addr} {fd : FuncData} (F : Fun K "_law_is_integer" "_law_is_integer" sLIsInt f fd) (B : Bl K mg) : FnOk P w K mg base CX0 1 f fd ["actual"] spIsInt := by
  refine F.ok scLIsInt (fun vs H Q E h => ?_) (fun cdv A outer s H vs Q E hr h => ?_)
  · obtain ⟨v, d, rfl, _⟩ := h
    rfl
  obtain ⟨v, d, rfl, hA, q⟩ := h
  refine ⟨_, pss_one (ps_ret (pe_and (pe_callB call_isi rfl B.isinstance (by decide +kernel) (pa_cons (pv 0) (pa_cons (pe_bltn rfl B.int (by decide +kernel) (v := .ty "int") rfl) pa_nil)))
    (pe_one (pe_not (pe_callB call_isi rfl B.isinstance (by decide +kernel) (pa_cons (pv 0) (pa_cons (pe_bltn rfl B.bool (by decide +kernel) (v := .ty "bool") rfl) pa_nil))))))), ?_⟩
  refine ⟨_, rfl, _, _, _, _, _, rfl, .ty _, hA.ty, kit_int d, _, rfl, ?_⟩
  refine ite2 (fun c => ?_) (fun c => ?_)
  · refine ⟨_, rfl, _, _, _, _, _, rfl, .ty _, hA.ty, kit_bool d, _, rfl, ?_⟩
    have e : (!isB d) = isI d := by cases d <;> simp_all [isI, isB]
    rw [← e] at q
    exact q
  · have e : false = isI d := by cases d <;> simp_all [isI, isB]
    rw [← e] at q
    exact q
theorem scEqual : FnScope ["actual", "due", "at"] ["actual", "due"] (defScope sEqual) := ⟨rfl, rfl, rfl, by decide +kernel, rfl, by decide +kernel, by decide +kernel⟩
theorem ok_equal {n : Nat} {f g : Addr} {fd gd : FuncData} (F : Fun K "_law_equal" "_law_equal" sEqual f fd) (B : Bl K mg)
    (G : FnOk P w K mg base CX0 1 g gd ["actual"] spIsInt) (bG : Binds K gd ["actual"] []) (kG : PySem.W.keepIn K (.ref g) = true) (mG : mg "_law_is_integer" = some (.ref g))
    (R : FnOk P w K mg base CX0 (n + 1) f fd ["actual", "due"] (spEq n)) (bF : Binds K fd ["actual", "due"] []) (mF : mg "_law_equal" = some (.ref f)) :
    FnOk P w K mg base CX0 (n + 2) f fd ["actual", "due"] (spEq (n + 1)) := by
  refine F.ok scEqual (fun vs H Q E h => ?_) (fun cdv A outer s H vs Q E hr h => ?_)
  · obtain ⟨v, u, d, e, rfl, _⟩ := h
    rfl
  obtain ⟨v, u, d, e, rfl, hV, hU, hd, hsl, q⟩ := h
  refine ⟨_, pss_cons (ps_if (pt_cmp (pc_isN (pv 1))) (pss_one (ps_ret (pe_cmp (pc_isN (pv 0))))) pss_nil)
    (pss_cons (ps_if (pt_val (pe_callB call_isi rfl B.isinstance (by decide +kernel) (pa_cons (pv 1) (pa_cons (pe_bltn rfl B.bool (by decide +kernel) (v := .ty "bool") rfl) pa_nil))))
      (pss_one (ps_ret (pe_and (pe_callB call_isi rfl B.isinstance (by decide +kernel) (pa_cons (pv 0) (pa_cons (pe_bltn rfl B.bool (by decide +kernel) (v := .ty "bool") rfl) pa_nil))) (pe_one (pe_cmpR op_eq (pv 0) (pv 1) (nomark _)))))) pss_nil)
    (pss_cons (ps_if (pt_val (pe_callB call_isi rfl B.isinstance (by decide +kernel) (pa_cons (pv 1) (pa_cons (pe_bltn rfl B.int (by decide +kernel) (v := .ty "int") rfl) pa_nil))))
      (pss_one (ps_ret (pe_and (pe_call G (hr.mono (Nat.le_add_left 1 n)) rfl mG kG bG .nil pass0 (pa_cons (pv 0) pa_nil)) (pe_one (pe_cmpR op_eq (pv 0) (pv 1) (nomark _)))))) pss_nil)
    (pss_cons (ps_if (pt_val (pe_callB call_isi rfl B.isinstance (by decide +kernel) (pa_cons (pv 1) (pa_cons (pe_bltn rfl B.str (by decide +kernel) (v := .ty "str") rfl) pa_nil))))
      (pss_one (ps_ret (pe_and (pe_callB call_isi rfl B.isinstance (by decide +kernel) (pa_cons (pv 0) (pa_cons (pe_bltn rfl B.str (by decide +kernel) (v := .ty "str") rfl) pa_nil))) (pe_one (pe_cmpR op_eq (pv 0) (pv 1) (nomark _)))))) pss_nil)
    (pss_cons (ps_if (PW.pt (pw_and (pt_val (pe_callB call_isi rfl B.isinstance (by decide +kernel) (pa_cons (pv 1) (pa_cons (pe_bltn rfl B.tuple (by decide +kernel) (v := .ty "tuple") rfl) pa_nil))))
        (pw_and1 (pt_not (pt_val (pe_callB call_isi rfl B.isinstance (by decide +kernel) (pa_cons (pv 0) (pa_cons (pe_bltn rfl B.tuple (by decide +kernel) (v := .ty "tuple") rfl) pa_nil))))))))
      (pss_one (ps_ret pe_bl)) pss_nil)
    (pss_cons (ps_if (PW.pt (pw_and (pt_val (pe_callB call_isi rfl B.isinstance (by decide +kernel) (pa_cons (pv 1) (pa_cons (pe_bltn rfl B.list (by decide +kernel) (v := .ty "list") rfl) pa_nil))))
        (pw_and1 (pt_not (pt_val (pe_callB call_isi rfl B.isinstance (by decide +kernel) (pa_cons (pv 0) (pa_cons (pe_bltn rfl B.list (by decide +kernel) (v := .ty "list") rfl) pa_nil))))))))
      (pss_one (ps_ret pe_bl)) pss_nil)
    (pss_cons (ps_if (pt_cmpR op_ne (pe_callB call_len_seq rfl B.len PySem.boot_len (pa_cons (pv 0) pa_nil)) (pe_callB call_len_seq rfl B.len PySem.boot_len (pa_cons (pv 1) pa_nil)) (nomark _)) (pss_one (ps_ret pe_bl)) pss_nil)
    (pss_one (ps_ret (pe_callB (cr_all rfl) rfl B.all (by decide +kernel) (pa_cons
      (pe_lc (own := [("at", 2)]) (g := gName 2) (tt := tYes) rfl scEqual.nd (pi_range1 rfl B.range (pa_cons (pe_callB call_len_seq rfl B.len PySem.boot_len (pa_cons (pv 1) pa_nil)) pa_nil)) (blkOk_by (own := [("at", 2)]) (N := ["actual", "due", "at"]) (sc := defScope sEqual) (by decide +kernel))
        (fun _ _ _ _ _ => pg_name (i := 2) scEqual.nd rfl (Or.inl rfl)) (fun _ _ _ _ _ => pts_nil)
        (fun _ _ _ _ _ => pe_call R hr rfl mF F.kp bF .nil pass0 (pa_cons (pe_ix (r := fun x y H Q => rIxL K x y H Q ∨ rIxT K x y H Q) (IxR.or ix_list ix_tup) (pv 0) (pv 2) (fun _ _ => rfl)) (pa_cons (pe_ix (r := fun x y H Q => rIxL K x y H Q ∨ rIxT K x y H Q) (IxR.or ix_list ix_tup) (pv 1) (pv 2) (fun _ _ => rfl)) pa_nil)))) pa_nil)))))))))), ?_⟩
  have hV' := hV
  have hU' := hU
  refine ⟨_, rfl, _, rfl, ?_⟩
  cases hU with
  | non =>
    refine iteT ?_
    refine ⟨_, rfl, ?_⟩
    cases hV <;> exact q H .refl
  | bl b =>
    refine iteF ?_
    refine ⟨_, rfl, _, _, _, _, _, rfl, .ty _, hU'.ty, kit_bool _, _, rfl, ?_⟩
    refine iteT ?_
    refine ⟨_, rfl, _, _, _, _, _, rfl, .ty _, hV'.ty, kit_bool _, _, rfl, ?_⟩
    cases hV with
    | bl a =>
      refine iteT ⟨_, rfl, _, rfl, rfl, ?_⟩
      have e : decide (V.bl a = V.bl b) = leq (.bool a) (.bool b) := by simp only [leq, decide_eq_decide]; exact ⟨fun z => by injection z, fun z => by rw [z]⟩
      rw [e]
      exact q H .refl
    | _ => exact iteF (q H .refl)
  | int b =>
    refine iteF ?_
    refine ⟨_, rfl, _, _, _, _, _, rfl, .ty _, hU'.ty, kit_bool _, _, rfl, ?_⟩
    refine iteF ?_
    refine ⟨_, rfl, _, _, _, _, _, rfl, .ty _, hU'.ty, kit_int _, _, rfl, ?_⟩
    refine iteT ?_
    refine ⟨_, rfl, v, d, rfl, hV', _, rfl, ?_⟩
    cases hV with
    | int a =>
      refine iteT ⟨_, rfl, _, rfl, rfl, ?_⟩
      have e : decide (V.int a = V.int b) = leq (.int a) (.int b) := by simp only [leq, decide_eq_decide]; exact ⟨fun z => by injection z, fun z => by rw [z]⟩
      rw [e]
      exact q H .refl
    | _ => exact iteF (q H .refl)
  | str b =>
    refine iteF ?_
    refine ⟨_, rfl, _, _, _, _, _, rfl, .ty _, hU'.ty, kit_bool _, _, rfl, ?_⟩
    refine iteF ?_
    refine ⟨_, rfl, _, _, _, _, _, rfl, .ty _, hU'.ty, kit_int _, _, rfl, ?_⟩
    refine iteF ?_
    refine ⟨_, rfl, _, _, _, _, _, rfl, .ty _, hU'.ty, kit_str _, _, rfl, ?_⟩
    refine iteT ?_
    refine ⟨_, rfl, _, _, _, _, _, rfl, .ty _, hV'.ty, kit_str _, _, rfl, ?_⟩
    cases hV with
    | str a =>
      refine iteT ⟨_, rfl, _, rfl, rfl, ?_⟩
      have e : decide (V.str a = V.str b) = leq (.str a) (.str b) := by simp only [leq, decide_eq_decide]; exact ⟨fun z => by injection z, fun z => by rw [z]⟩
      rw [e]
      exact q H .refl
    | _ => exact iteF (q H .refl)
  | @lst a2 ys es hy0 _ hay =>
    refine iteF ?_
    refine ⟨_, rfl, _, _, _, _, _, rfl, .ty _, hU'.ty, kit_bool _, _, rfl, ?_⟩
    refine iteF ?_
    refine ⟨_, rfl, _, _, _, _, _, rfl, .ty _, hU'.ty, kit_int _, _, rfl, ?_⟩
    refine iteF ?_
    refine ⟨_, rfl, _, _, _, _, _, rfl, .ty _, hU'.ty, kit_str _, _, rfl, ?_⟩
    refine iteF ?_
    refine ⟨_, rfl, _, _, _, _, _, rfl, .ty _, hU'.ty, kit_tup _, _, rfl, ?_⟩
    refine iteF ?_
    refine ⟨_, rfl, _, _, _, _, _, rfl, .ty _, hU'.ty, kit_lst _, _, rfl, ?_⟩
    refine iteT ?_
    refine ⟨_, rfl, _, _, _, _, _, rfl, .ty _, hV'.ty, kit_lst _, _, rfl, ?_⟩
    cases hV with
    | @lst a1 xs ds hx0 _ hax =>
      refine iteF ?_
      have hl1 := hax.length
      have hl2 := hay.length
      refine ⟨_, rfl, _, xs, rfl, .inl (SqL.of hx0), _, rfl, _, ys, rfl, .inl (SqL.of hy0), rfl, _, rfl, ?_⟩
      refine ite2 (fun c => ?_) (fun c => ?_)
      · have c' : ¬ xs.length = ys.length := fun z => by
          rw [z] at c
          exact absurd c (by simp)
        have e : leq (.list ds) (.list es) = false := by
          simp only [leq]
          exact Bool.eq_false_iff.mpr fun z => c' (by rw [hl1, hl2]; exact leqL_len z)
        have := q H .refl
        rw [e] at this
        exact this
      · have hlen : xs.length = ys.length := by
          have c' := Bool.eq_false_iff.mpr c
          have := of_decide_eq_true (show decide (V.int (xs.length : Int) = V.int (ys.length : Int)) = true by simpa using c')
          injection this with this
          omega
        simp only [slim, Bool.and_eq_true, decide_eq_true_eq] at hsl
        obtain ⟨hs1, hs2⟩ := hsl
        refine ⟨_, rfl, _, ys, rfl, .inl (SqL.of hy0), (ys.length : Int), rfl, by omega, by omega, fun D hD => ?_⟩
        refine lc_range (lo := 0) (n := ((ys.length : Int)).toNat) (fun i H' => Kp MN H H' ∧ H' D = some (.lst (((List.range i).map fun j => leq (ds.getD j .none) (es.getD j .none)).map V.bl))) ⟨Kp.new hD, upd_same⟩ (fun i H' hi p => ?_) (fun H' p => ?_)
        · obtain ⟨k1, hD1⟩ := p
          have hi' : i < ys.length := by omega
          have hx : xs[i]? = some (xs[i]'(by omega)) := List.getElem?_eq_getElem (by omega)
          have hy : ys[i]? = some (ys[i]'(by omega)) := List.getElem?_eq_getElem (by omega)
          obtain ⟨dx, hdx, ax⟩ := hax.get hx
          obtain ⟨dy, hdy, ay⟩ := hay.get hy
          refine ⟨rfl, ?_⟩
          dsimp only [tYes]
          rw [if_pos rfl]
          refine ⟨_, rfl, _, rfl, .inl ⟨_, _, _, _, rfl, rfl, (k1.seqL (fun z => z) (SqL.of hx0)), (by rw [Int.zero_add]; exact atI_nat hx), _, rfl, _, rfl, .inl ⟨_, _, _, _, rfl, rfl, (k1.seqL (fun z => z) (SqL.of hy0)), (by rw [Int.zero_add]; exact atI_nat hy), ?_⟩⟩⟩
          refine ⟨_, _, dx, dy, rfl, ax.kp k1, ay.kp k1, ?_, slimL_mem hs2 (List.mem_of_getElem? hdy), fun H2 k2 => ⟨_, k2.lst D _ (fun z => z) hD1, by rw [List.length_map, List.length_map, List.length_range]; exact small1000 (by omega), (k1.trans k2).putFresh (Kp.noLst (M := MN) .refl (fun z => z) hD) (k2.lst D _ (fun z => z) hD1), ?_⟩⟩
          · have := depth_mem (List.mem_of_getElem? hdy)
            simp only [PyData.depth] at hd
            omega
          · rw [upd_same, List.range_succ, List.map_append, List.map_append]
            have e1 : ds.getD i .none = dx := by rw [List.getD_eq_getElem?_getD, hdx]; rfl
            have e2 : es.getD i .none = dy := by rw [List.getD_eq_getElem?_getD, hdy]; rfl
            simp only [List.map_cons, List.map_nil, e1, e2]
        · obtain ⟨k1, hD1⟩ := p
          refine ⟨D, _, rfl, SqL.of hD1, ?_⟩
          have e : leq (.list ds) (.list es) = (List.map (fun j => leq (ds.getD j .none) (es.getD j .none)) (List.range ((ys.length : Int)).toNat)).all id := by
            simp only [leq]
            rw [leqL_at ds es (by omega)]
            rw [show ((ys.length : Int)).toNat = es.length by omega]
          have := q H' k1
          rw [e] at this
          exact this
    | _ => exact iteT (q H .refl)
  | @tup a2 ys es hy0 hay =>
    refine iteF ?_
    refine ⟨_, rfl, _, _, _, _, _, rfl, .ty _, hU'.ty, kit_bool _, _, rfl, ?_⟩
    refine iteF ?_
    refine ⟨_, rfl, _, _, _, _, _, rfl, .ty _, hU'.ty, kit_int _, _, rfl, ?_⟩
    refine iteF ?_
    refine ⟨_, rfl, _, _, _, _, _, rfl, .ty _, hU'.ty, kit_str _, _, rfl, ?_⟩
    refine iteF ?_
    refine ⟨_, rfl, _, _, _, _, _, rfl, .ty _, hU'.ty, kit_tup _, _, rfl, ?_⟩
    refine iteT ?_
    refine ⟨_, rfl, _, _, _, _, _, rfl, .ty _, hV'.ty, kit_tup _, _, rfl, ?_⟩
    cases hV with
    | @tup a1 xs ds hx0 hax =>
      refine iteF ?_
      refine ⟨_, rfl, _, _, _, _, _, rfl, .ty _, hU'.ty, kit_lst _, _, rfl, ?_⟩
      refine iteF ?_
      have hl1 := hax.length
      have hl2 := hay.length
      refine ⟨_, rfl, _, xs, rfl, .inr (SqT.of hx0), _, rfl, _, ys, rfl, .inr (SqT.of hy0), rfl, _, rfl, ?_⟩
      refine ite2 (fun c => ?_) (fun c => ?_)
      · have c' : ¬ xs.length = ys.length := fun z => by
          rw [z] at c
          exact absurd c (by simp)
        have e : leq (.tuple ds) (.tuple es) = false := by
          simp only [leq]
          exact Bool.eq_false_iff.mpr fun z => c' (by rw [hl1, hl2]; exact leqL_len z)
        have := q H .refl
        rw [e] at this
        exact this
      · have hlen : xs.length = ys.length := by
          have c' := Bool.eq_false_iff.mpr c
          have := of_decide_eq_true (show decide (V.int (xs.length : Int) = V.int (ys.length : Int)) = true by simpa using c')
          injection this with this
          omega
        simp only [slim, Bool.and_eq_true, decide_eq_true_eq] at hsl
        obtain ⟨hs1, hs2⟩ := hsl
        refine ⟨_, rfl, _, ys, rfl, .inr (SqT.of hy0), (ys.length : Int), rfl, by omega, by omega, fun D hD => ?_⟩
        refine lc_range (lo := 0) (n := ((ys.length : Int)).toNat) (fun i H' => Kp MN H H' ∧ H' D = some (.lst (((List.range i).map fun j => leq (ds.getD j .none) (es.getD j .none)).map V.bl))) ⟨Kp.new hD, upd_same⟩ (fun i H' hi p => ?_) (fun H' p => ?_)
        · obtain ⟨k1, hD1⟩ := p
          have hi' : i < ys.length := by omega
          have hx : xs[i]? = some (xs[i]'(by omega)) := List.getElem?_eq_getElem (by omega)
          have hy : ys[i]? = some (ys[i]'(by omega)) := List.getElem?_eq_getElem (by omega)
          obtain ⟨dx, hdx, ax⟩ := hax.get hx
          obtain ⟨dy, hdy, ay⟩ := hay.get hy
          refine ⟨rfl, ?_⟩
          dsimp only [tYes]
          rw [if_pos rfl]
          refine ⟨_, rfl, _, rfl, .inr ⟨_, _, _, _, rfl, rfl, (k1.seqT (SqT.of hx0)), (by rw [Int.zero_add]; exact atI_nat hx), _, rfl, _, rfl, .inr ⟨_, _, _, _, rfl, rfl, (k1.seqT (SqT.of hy0)), (by rw [Int.zero_add]; exact atI_nat hy), ?_⟩⟩⟩
          refine ⟨_, _, dx, dy, rfl, ax.kp k1, ay.kp k1, ?_, slimL_mem hs2 (List.mem_of_getElem? hdy), fun H2 k2 => ⟨_, k2.lst D _ (fun z => z) hD1, by rw [List.length_map, List.length_map, List.length_range]; exact small1000 (by omega), (k1.trans k2).putFresh (Kp.noLst (M := MN) .refl (fun z => z) hD) (k2.lst D _ (fun z => z) hD1), ?_⟩⟩
          · have := depth_mem (List.mem_of_getElem? hdy)
            simp only [PyData.depth] at hd
            omega
          · rw [upd_same, List.range_succ, List.map_append, List.map_append]
            have e1 : ds.getD i .none = dx := by rw [List.getD_eq_getElem?_getD, hdx]; rfl
            have e2 : es.getD i .none = dy := by rw [List.getD_eq_getElem?_getD, hdy]; rfl
            simp only [List.map_cons, List.map_nil, e1, e2]
        · obtain ⟨k1, hD1⟩ := p
          refine ⟨D, _, rfl, SqL.of hD1, ?_⟩
          have e : leq (.tuple ds) (.tuple es) = (List.map (fun j => leq (ds.getD j .none) (es.getD j .none)) (List.range ((ys.length : Int)).toNat)).all id := by
            simp only [leq]
            rw [leqL_at ds es (by omega)]
            rw [show ((ys.length : Int)).toNat = es.length by omega]
          have := q H' k1
          rw [e] at this
          exact this
    | _ => exact iteT (q H .refl)
end
end K2

set_option Elab.async false
set_option linter.all false
set_option maxRecDepth 100000
set_option maxHeartbeats 4000000
namespace K2
open PySem L2 GxR GA KD KR KM
theorem pop_perm : ∀ {l : List Int} {j : Nat} (h : j < l.length), (l[j] :: l.eraseIdx j).Perm l
  | x :: r, 0, h => List.Perm.refl _
  | x :: r, j + 1, h => by
    have hj : j < r.length := by simpa using h
    have ih := pop_perm (l := r) (j := j) hj
    show (r[j] :: x :: r.eraseIdx j).Perm (x :: r)
    exact (List.Perm.swap x r[j] _).trans (List.Perm.cons x ih)
theorem map_eraseIdx {α β : Type} (f : α → β) : ∀ (l : List α) (j : Nat), (l.eraseIdx j).map f = (l.map f).eraseIdx j
  | [], _ => rfl
  | x :: r, 0 => rfl
  | x :: r, j + 1 => congrArg (f x :: ·) (map_eraseIdx f r j)
theorem seq_ix {d : Int} {n : Nat} (h0 : 0 ≤ d) (h1 : d < n) : PySem.seqIndex? d n = some d.toNat := (ixN_seq (by unfold ixN; rw [if_pos h0, if_pos h1])).1
theorem StAt.new {st c p : Addr} {H : Hp} {o : HO} (s : StAt st c H) (h : H p = none) : StAt st c (upd H p o) := s.kp (Kp.new h)
theorem StAt.ne {st c p : Addr} {H : Hp} (s : StAt st c H) (h : H p = none) : p ≠ st ∧ p ≠ c := by
  obtain ⟨xs, e⟩ := s.ex
  obtain ⟨ys, e2⟩ := s.ex2
  exact ⟨(ne_of_none e h).symm, (ne_of_none e2 h).symm⟩
/-- a write to a list that is not the stream's -/
theorem StAt.put {st c a : Addr} {H : Hp} {xs : List V} (s : StAt st c H) (hn : a ≠ st ∧ a ≠ c) : StAt st c (upd H a (.lst xs)) := by
  obtain ⟨b, k, ns, h1, h2, h3, h4, h5⟩ := s
  exact ⟨b, k, ns, by rw [upd_ne hn.1.symm]; exact h1, by rw [upd_ne hn.2.symm]; exact h2, h3, h4, h5⟩
section
variable {P : Program} {w : World} {K : PySem.W.Frag} {mg : Str → Option Value} {base : Heap}
theorem never_ok {f : Addr} {fd : FuncData} {ps : List Str} {sp : Sp} {k : Nat} (no : ∀ vs H Q E, ¬ sp vs H Q E) : FnOk P w K mg base CX0 k f fd ps sp :=
  ⟨fun vs H Q E h => absurd h (no vs H Q E), fun A outer s H args us vs Q E _ _ _ _ h => absurd h (no vs H Q E)⟩
theorem oks_equal {f g : Addr} {fd gd : FuncData} (F : Fun K "_law_equal" "_law_equal" sEqual f fd) (B : Bl K mg)
    (G : FnOk P w K mg base CX0 1 g gd ["actual"] spIsInt) (bG : Binds K gd ["actual"] []) (kG : PySem.W.keepIn K (.ref g) = true) (mG : mg "_law_is_integer" = some (.ref g))
    (bF : Binds K fd ["actual", "due"] []) (mF : mg "_law_equal" = some (.ref f)) : ∀ n : Nat, FnOk P w K mg base CX0 (n + 1) f fd ["actual", "due"] (spEq n)
  | 0 => never_ok fun vs H Q E h => by
    obtain ⟨_, _, _, _, _, _, _, h, _⟩ := h
    exact absurd h (Nat.not_lt_zero _)
  | n + 1 => ok_equal F B G bG kG mG (oks_equal F B G bG kG mG bF mF n) bF mF
theorem scPick : FnScope ["stream", "rows"] ["stream", "rows"] (defScope sPick) := ⟨rfl, rfl, rfl, by decide +kernel, rfl, by decide +kernel, by decide +kernel⟩
theorem ok_pick {f g : Addr} {fd gd : FuncData} (F : Fun K "_law_pick" "_law_pick" sPick f fd) (B : Bl K mg)
    (G : FnOk P w K mg base CX0 1 g gd ["stream", "many"] spNext) (bG : Binds K gd ["stream", "many"] []) (kG : PySem.W.keepIn K (.ref g) = true) (mG : mg "_law_next" = some (.ref g)) : FnOk P w K mg base CX0 2 f fd ["stream", "rows"] spPick := by
  refine F.ok scPick (fun vs H Q E h => ?_) (fun cdv A outer s H vs Q E hr h => ?_)
  · obtain ⟨st, c, r, ds, rfl, _⟩ := h
    rfl
  obtain ⟨st, c, r, ds, rfl, hst, hA, hne, hlen, q⟩ := h
  obtain ⟨a, xs, rfl, hx, hm, hall⟩ := hA.lst_of
  have hl := hall.length
  refine ⟨_, pss_one (ps_ret (pe_ix ix_list (pv 1) (pe_call G hr rfl mG kG bG .nil pass0 (pa_cons (pv 0) (pa_cons (pe_callB call_len_seq rfl B.len PySem.boot_len (pa_cons (pv 1) pa_nil)) pa_nil))) (fun _ _ => rfl))), ?_⟩
  have hpos : 0 < xs.length := by rw [hl]; exact List.length_pos_iff.mpr hne
  refine ⟨_, rfl, _, rfl, _, rfl, a, xs, rfl, .inl (SqL.of hx), st, c, (xs.length : Int), rfl, hst, by omega, by omega, fun d H' d0 d1 k s' => ?_⟩
  have hd : d.toNat < xs.length := by omega
  have hv : xs[d.toNat]? = some xs[d.toNat] := List.getElem?_eq_getElem hd
  obtain ⟨dd, hdd, add⟩ := hall.get hv
  have ed : d = ((d.toNat : Nat) : Int) := by omega
  have hat := atI_nat hv
  rw [← ed] at hat
  exact ⟨a, xs, d, _, rfl, rfl, SqL.of (k.lst a xs hm hx), hat, q _ dd H' (List.mem_of_getElem? hdd) (add.kp k) k s'⟩
theorem scOrder : FnScope ["stream", "many", "left", "k"] ["stream", "many"] (defScope sOrder) := ⟨rfl, rfl, rfl, by decide +kernel, rfl, by decide +kernel, by decide +kernel⟩
theorem ok_order {f g : Addr} {fd gd : FuncData} (F : Fun K "_law_order" "_law_order" sOrder f fd) (B : Bl K mg)
    (G : FnOk P w K mg base CX0 1 g gd ["stream", "many"] spNext) (bG : Binds K gd ["stream", "many"] []) (kG : PySem.W.keepIn K (.ref g) = true) (mG : mg "_law_next" = some (.ref g)) : FnOk P w K mg base CX0 2 f fd ["stream", "many"] spOrder := by
  refine F.ok scOrder (fun vs H Q E h => ?_) (fun cdv A outer s H vs Q E hr h => ?_)
  · obtain ⟨st, c, n, rfl, _⟩ := h
    rfl
  obtain ⟨st, c, n, rfl, hst, hn, q⟩ := h
  refine ⟨_, pss_cons (ps_set (i := 2) scOrder.nd rfl (Or.inr rfl) (pe_listRg rfl rfl B.list (prg_1 rfl B.range (pv 1))))
    (pss_one (ps_ret (pe_callTy call_tuple_of rfl B.tuple (by decide +kernel) (pa_cons
      (pe_lc (own := [("k", 3)]) (g := gName 3) (tt := tYes) rfl scOrder.nd (pi_range1 rfl B.range (pa_cons (pv 1) pa_nil)) (blkOk_by (own := [("k", 3)]) (N := ["stream", "many", "left", "k"]) (sc := defScope sOrder) (by decide +kernel))
        (fun _ _ _ _ _ => pg_name (i := 3) scOrder.nd rfl (Or.inl rfl)) (fun _ _ _ _ _ => pts_nil)
        (te := tBM K "list" rPopAt (tVar 2) (tCons (tCall spNext [] E0 (tCons (tVar 0) (tCons (tCB (fun xs H Q => ∃ p ys, xs = [.ref p] ∧ (SqL K H p ys ∨ SqT K H p ys) ∧ Q (.int ys.length) H) (tCons (tVar 2) tNil)) tNil))) tNil))
        (fun _ _ _ _ _ => pe_bm PySem.F.plainAttrs_list PySem.F.slot_list_pop PySem.F.type_list_pop mt_popAt (pv 2) (pa_cons (pe_call G hr rfl mG kG bG .nil pass0 (pa_cons (pv 0) (pa_cons (pe_callB call_len_seq rfl B.len PySem.boot_len (pa_cons (pv 2) pa_nil)) pa_nil))) pa_nil))) pa_nil)))), ?_⟩
  refine ⟨_, rfl, _, rfl, RgOk.of_le (by omega) (by omega) (by omega) (by omega), fun L hL => ?_⟩
  have hs0 : StAt st c (upd H L (.lst (rgV 0 n))) := hst.new hL
  refine ⟨_, rfl, (n : Int), rfl, by omega, by omega, fun D hD => ?_⟩
  have nL : L ≠ D := fun z => by rw [← z, upd_same] at hD; cases hD
  have hD' : H D = none := by rw [upd_ne nL.symm] at hD; exact hD
  have sL := hst.ne hL
  have sD := hst.ne hD'
  refine lc_range (lo := 0) (n := ((n : Int)).toNat) (fun i H' => ∃ (rest taken : List Int), H' L = some (.lst (rest.map V.int)) ∧ H' D = some (.lst (taken.map V.int)) ∧ taken.length = i ∧ (taken ++ rest).Perm (rng n) ∧ Kp (MS st) H H' ∧ StAt st c H')
    ⟨rng n, [], by rw [upd_ne nL, upd_same, rgV_rng], upd_same, rfl, List.Perm.refl _, (Kp.new hL).trans (Kp.new hD), hs0.new hD⟩ (fun i H' hi p => ?_) (fun H' p => ?_)
  · obtain ⟨rest, taken, h1, h2, h3, h4, h5, h6⟩ := p
    have hlen : taken.length + rest.length = n := by rw [← List.length_append, h4.length_eq, rng_length]
    refine ⟨rfl, ?_⟩
    dsimp only [tYes]
    rw [if_pos rfl]
    refine ⟨_, rfl, .inl ⟨rfl, _, .inl (.inl h1)⟩, _, rfl, _, rfl, L, _, rfl, .inl (SqL.of h1), st, c, _, rfl, h6, by rw [List.length_map]; omega, by rw [List.length_map]; omega, fun d H2 d0 d1 k2 s2 => ?_⟩
    rw [List.length_map] at d1
    have hd : d.toNat < rest.length := by omega
    have h1' := k2.lst L _ sL.1 h1
    have h2' := k2.lst D _ sD.1 h2
    refine ⟨L, _, d, d.toNat, .int rest[d.toNat], rfl, rfl, h1', by omega, by omega, by rw [List.length_map]; exact seq_ix d0 d1, by rw [List.getElem?_map, List.getElem?_eq_getElem hd]; rfl, ?_⟩
    refine ⟨taken.map V.int, by rw [upd_ne nL.symm]; exact h2', by rw [List.length_map]; exact small1000 (by omega), rest.eraseIdx d.toNat, taken ++ [rest[d.toNat]], by rw [upd_ne nL, upd_same, map_eraseIdx], by rw [upd_same, List.map_append]; rfl, by rw [List.length_append, h3]; rfl, ?_, ?_, (s2.put sL).put sD⟩
    · refine List.Perm.trans ?_ h4
      rw [List.append_assoc]
      exact List.Perm.append_left _ (pop_perm hd)
    · have k3 := h5.trans k2
      refine Kp.putFresh (Kp.putFresh k3 (fun zs e => ?_) h1') (fun zs e => ?_) (by rw [upd_ne nL.symm]; exact h2')
      · rw [hL] at e; cases e
      · rw [hD'] at e; cases e
  · obtain ⟨rest, taken, h1, h2, h3, h4, h5, h6⟩ := p
    have hlen : taken.length + rest.length = n := by rw [← List.length_append, h4.length_eq, rng_length]
    have hr0 : rest = [] := List.length_eq_zero_iff.mp (by omega)
    subst hr0
    rw [List.append_nil] at h4
    exact ⟨D, _, rfl, .inl ⟨SqL.of h2, fun p hp => q p taken _ h4 upd_same (h5.trans (Kp.new hp)) (h6.new hp)⟩⟩
end
end K2

set_option Elab.async false
set_option linter.all false
set_option maxRecDepth 100000
set_option maxHeartbeats 4000000
namespace K2
open PySem L2 GxR GA KD KR KM
mutual
/-- no list within -/
def noL : PyData → Bool
  | .list _ => false
  | .tuple xs => noLL xs
  | _ => true
def noLL : List PyData → Bool
  | [] => true
  | x :: r => noL x && noLL r
end
theorem noLL_app : ∀ ds es : List PyData, noLL (ds ++ es) = (noLL ds && noLL es)
  | [], es => by simp [noLL]
  | d :: r, es => by
    show noLL (d :: (r ++ es)) = _
    simp only [noLL, noLL_app r es, Bool.and_assoc]
mutual
theorem At.put {M M' : Addr → Prop} {H H' : Hp} (k : ∀ b xs, H b = some (.tup xs) → H' b = some (.tup xs)) : ∀ {d : PyData} {v : V}, At M H v d → noL d = true → At M' H' v d
  | .none, _, h, _ => by cases h; exact .non
  | .bool b, _, h, _ => by cases h; exact .bl b
  | .int i, _, h, _ => by cases h; exact .int i
  | .str x, _, h, _ => by cases h; exact .str x
  | .list ds, _, h, n => by simp [noL] at n
  | .tuple ds, _, h, n => by
    cases h with
    | tup e r => exact .tup (k _ _ e) (AtL.put k r (by simpa [noL] using n))
  | .dict _, _, h, _ => by cases h
theorem AtL.put {M M' : Addr → Prop} {H H' : Hp} (k : ∀ b xs, H b = some (.tup xs) → H' b = some (.tup xs)) : ∀ {ds : List PyData} {vs : List V}, AtL M H vs ds → noLL ds = true → AtL M' H' vs ds
  | [], _, h, _ => by cases h; exact .nil
  | d :: ds, _, h, n => by
    simp only [noLL, Bool.and_eq_true] at n
    cases h with
    | cons a r => exact .cons (At.put k a n.1) (AtL.put k r n.2)
end
structure PlanD (d : PyData) (w : Str) (ts : List Int) : Prop where
  form : ∀ o, o ≠ w → ∃ l, formed d o = some l ∧ l.Perm ts
  lay : d.canLay0 = true
  dep : d.depth + 2 ≤ 2 * ts.length
  slm : slim d = true
  nol : noL d = true
structure PartsD (ds : List PyData) (w : Str) (ls : List (List Int)) (n : Nat) : Prop where
  form : ∃ l, formedL ds w = some l ∧ l.Perm ls.flatten
  lay : PyData.canLayAll0 ds = true
  dep : PyData.depthAll ds + 4 ≤ 2 * n
  slm : slimL ds = true
  nol : noLL ds = true
  len : ds.length = ls.length
theorem formedL_app (w : Str) : ∀ ds es : List PyData, formedL (ds ++ es) w = (match formedL ds w, formedL es w with | some a, some b => some (a ++ b) | _, _ => none)
  | [], es => by
    rw [formedL_nil]
    show formedL es w = _
    cases formedL es w <;> rfl
  | d :: r, es => by
    show formedL (d :: (r ++ es)) w = _
    rw [formedL_cons, formedL_cons, formedL_app w r es]
    cases formed d w <;> cases formedL r w <;> cases formedL es w <;> simp
theorem formedL_one (d : PyData) (w : Str) : formedL [d] w = formed d w := by
  rw [formedL_cons, formedL_nil]
  cases formed d w <;> simp
theorem depthAll_app : ∀ ds es : List PyData, PyData.depthAll (ds ++ es) = max (PyData.depthAll ds) (PyData.depthAll es)
  | [], es => by simp [PyData.depthAll]
  | d :: r, es => by
    show PyData.depthAll (d :: (r ++ es)) = _
    simp only [PyData.depthAll, depthAll_app r es]
    omega
theorem layAll_app : ∀ ds es : List PyData, PyData.canLayAll0 (ds ++ es) = (PyData.canLayAll0 ds && PyData.canLayAll0 es)
  | [], es => by simp [PyData.canLayAll0]
  | d :: r, es => by
    show PyData.canLayAll0 (d :: (r ++ es)) = _
    simp only [PyData.canLayAll0, layAll_app r es, Bool.and_assoc]
theorem slimL_app : ∀ ds es : List PyData, slimL (ds ++ es) = (slimL ds && slimL es)
  | [], es => by simp [slimL]
  | d :: r, es => by
    show slimL (d :: (r ++ es)) = _
    simp only [slimL, slimL_app r es, Bool.and_assoc]
theorem PartsD.nil {w : Str} {n : Nat} (h : 2 ≤ n) : PartsD [] w [] n := ⟨⟨[], by rw [formedL_nil], List.Perm.refl _⟩, by simp [PyData.canLayAll0], by simp [PyData.depthAll]; omega, by simp [slimL], by simp [noLL], rfl⟩
theorem PartsD.snoc {ds : List PyData} {w o : Str} {ls : List (List Int)} {n : Nat} {d : PyData} {l : List Int} (p : PartsD ds w ls n) (q : PlanD d o l) (hn : w ≠ o) (hl : l.length + 1 ≤ n) : PartsD (ds ++ [d]) w (ls ++ [l]) n := by
  obtain ⟨⟨a, a1, a2⟩, b, c, e, n0, f⟩ := p
  obtain ⟨x, x1, x2⟩ := q.form w hn
  refine ⟨⟨a ++ x, ?_, ?_⟩, ?_, ?_, ?_, ?_, ?_⟩
  · rw [formedL_app, formedL_one, a1, x1]
  · rw [List.flatten_append]
    simp only [List.flatten_cons, List.flatten_nil, List.append_nil]
    exact a2.append x2
  · rw [layAll_app, b]
    simp [PyData.canLayAll0, q.lay]
  · rw [depthAll_app]
    have := q.dep
    simp only [PyData.depthAll]
    omega
  · rw [slimL_app, e]
    simp [slimL, q.slm]
  · rw [noLL_app, n0]
    simp [noLL, q.nol]
  · rw [List.length_append, List.length_append, f]
    rfl
theorem wd_or {w : Str} (h : wd w = true) : w = "then" ∨ w = "beside" := by
  unfold wd at h
  simpa using h
theorem strOk_words : PyData.strOk "then" = true ∧ PyData.strOk "beside" = true := by constructor <;> decide +kernel
theorem PartsD.plan {ds : List PyData} {w : Str} {ls : List (List Int)} {ts : List Int} (p : PartsD ds w ls ts.length) (hw : wd w = true) (h2 : 2 ≤ ls.length) (hp : ls.flatten.Perm ts) (h9 : ls.length ≤ 900) : PlanD (.tuple [.str w, .tuple ds]) w ts := by
  obtain ⟨⟨a, a1, a2⟩, b, c, e, n0, f⟩ := p
  refine ⟨fun o ho => ⟨a, ?_, a2.trans hp⟩, ?_, ?_, ?_, ?_⟩
  · rw [formed_parts, if_pos, a1]
    simp [hw, ho.symm]
    omega
  · have hs : PyData.strOk w = true := by
      rcases wd_or hw with z | z <;> rw [z]
      · exact strOk_words.1
      · exact strOk_words.2
    simp [PyData.canLay0, PyData.canLayAll0, b, hs]
  · simp only [PyData.depth, PyData.depthAll]
    omega
  · simp [slim, slimL, e]
    omega
  · simp [noL, noLL, n0]
theorem PlanD.one (i : Int) (w : Str) : PlanD (.int i) w [i] := ⟨fun o _ => ⟨[i], formed_int i o, List.Perm.refl _⟩, by simp [PyData.canLay0], by simp [PyData.depth], by simp [slim], by simp [noL]⟩
theorem PlanD.shaped {d : PyData} {w : Str} {ts : List Int} (p : PlanD d w ts) (h : ts.length ≤ 30) : SeqAt.shaped d = true := by
  show (PyData.canLay0 d && decide (PyData.depth d ≤ 64)) = true
  rw [Bool.and_eq_true]
  have := p.dep
  exact ⟨p.lay, decide_eq_true (by omega)⟩
/-! ### rows: lists of ints in a list -/
structure RowsAt (H : Hp) (R : Addr) (rows : List (Addr × List Int)) : Prop where
  at_ : H R = some (.lst (rows.map fun r => V.ref r.1))
  nd : (rows.map (·.1)).Nodup
  row : ∀ r ∈ rows, H r.1 = some (.lst (r.2.map V.int))
  ne : ∀ r ∈ rows, r.1 ≠ R
theorem RowsAt.kp {st R : Addr} {H H' : Hp} {rows : List (Addr × List Int)} (h : RowsAt H R rows) (k : Kp (MS st) H H') (hR : R ≠ st) (hr : ∀ r ∈ rows, r.1 ≠ st) : RowsAt H' R rows :=
  ⟨k.lst _ _ hR h.at_, h.nd, fun r m => k.lst _ _ (hr r m) (h.row r m), h.ne⟩
theorem set_fst {rows : List (Addr × List Int)} {j : Nat} {a : Addr} {l x : List Int} (h : rows[j]? = some (a, l)) : (rows.set j (a, x)).map (·.1) = rows.map (·.1) := by
  rw [List.map_set]
  show (rows.map (·.1)).set j a = rows.map (·.1)
  refine List.ext_getElem? fun i => ?_
  by_cases e : i = j
  · subst e
    obtain ⟨hl, _⟩ := List.getElem?_eq_some_iff.mp h
    rw [List.getElem?_set_self (by rw [List.length_map]; exact hl), List.getElem?_map, h]
    rfl
  · rw [List.getElem?_set_ne (Ne.symm e)]
theorem set_flat : ∀ {rows : List (Addr × List Int)} {j : Nat} {a : Addr} {l : List Int} {t : Int}, rows[j]? = some (a, l) → (((rows.set j (a, l ++ [t])).map (·.2)).flatten).Perm ((rows.map (·.2)).flatten ++ [t])
  | r :: rs, 0, a, l, t, h => by
    simp at h
    subst h
    simp only [List.set_cons_zero, List.map_cons, List.flatten_cons]
    rw [List.append_assoc, List.append_assoc]
    exact List.Perm.append_left _ List.perm_append_comm
  | r :: rs, j + 1, a, l, t, h => by
    have ih := set_flat (rows := rs) (t := t) (by simpa using h)
    simp only [List.set_cons_succ, List.map_cons, List.flatten_cons]
    rw [List.append_assoc]
    exact List.Perm.append_left _ ih
theorem mem_set_cases {α : Type} {l : List α} {j : Nat} {x y : α} (h : y ∈ l.set j x) : y ∈ l ∨ y = x := List.mem_or_eq_of_mem_set h
theorem RowsAt.put {H : Hp} {R a : Addr} {rows : List (Addr × List Int)} {j : Nat} {l : List Int} {t : Int} (h : RowsAt H R rows) (hj : rows[j]? = some (a, l)) :
    RowsAt (upd H a (.lst (l.map V.int ++ [.int t]))) R (rows.set j (a, l ++ [t])) := by
  have ha : (a, l) ∈ rows := List.mem_of_getElem? hj
  have hRa : R ≠ a := (h.ne _ ha).symm
  have nd := h.nd
  obtain ⟨hjl, ej⟩ := List.getElem?_eq_some_iff.mp hj
  refine ⟨?_, by rw [set_fst hj]; exact nd, fun r hr => ?_, fun r hr => ?_⟩
  · rw [upd_ne hRa, h.at_]
    have e : (rows.set j (a, l ++ [t])).map (fun r => V.ref r.1) = rows.map (fun r => V.ref r.1) := by
      have := congrArg (List.map V.ref) (set_fst (x := l ++ [t]) hj)
      rw [List.map_map, List.map_map] at this
      exact this
    rw [e]
  · obtain ⟨i, hi, e⟩ := List.getElem_of_mem hr
    rw [List.length_set] at hi
    by_cases z : i = j
    · subst z
      rw [List.getElem_set_self] at e
      subst e
      rw [upd_same, List.map_append]
      rfl
    · rw [List.getElem_set_ne (Ne.symm z)] at e
      have hm : r ∈ rows := by rw [← e]; exact List.getElem_mem hi
      have hne : r.1 ≠ a := fun q => by
        have e1 : (rows.map (·.1))[i]'(by rw [List.length_map]; exact hi) = (rows.map (·.1))[j]'(by rw [List.length_map]; exact hjl) := by
          rw [List.getElem_map, List.getElem_map, e, ej]
          exact q
        exact z ((List.getElem_inj nd).mp e1)
      rw [upd_ne hne]
      exact h.row r hm
  · rcases mem_set_cases hr with z | z
    · exact h.ne r z
    · rw [z]; exact hRa.symm
theorem cut_to {ts : List Int} {m : Nat} (h : m ≤ ts.length) : cutV (ts.map V.int) none (some (m : Int)) = (ts.take m).map V.int := by
  unfold cutV
  rw [HT.sIx_none, HT.sIx_nat, List.length_map, List.drop_zero, Nat.sub_zero, Nat.min_eq_left h, List.map_take]
theorem cut_from {ts : List Int} {m : Nat} (h : m ≤ ts.length) : cutV (ts.map V.int) (some (m : Int)) none = (ts.drop m).map V.int := by
  unfold cutV
  rw [HT.sIx_none, HT.sIx_nat, List.length_map, Nat.min_eq_left h, List.map_drop, List.take_of_length_le (by rw [List.length_drop, List.length_map]; exact Nat.le_refl _)]
theorem RowsAt.snoc {H : Hp} {R p : Addr} {rows : List (Addr × List Int)} {l : List Int} (h : RowsAt H R rows) (hp : H p = none) :
    RowsAt (upd (upd H p (.lst (l.map V.int))) R (.lst (rows.map (fun r => V.ref r.1) ++ [.ref p]))) R (rows ++ [(p, l)]) := by
  have nR : p ≠ R := (ne_of_none h.at_ hp).symm
  have nr : ∀ r ∈ rows, r.1 ≠ p := fun r m => ne_of_none (h.row r m) hp
  refine ⟨by rw [upd_same, List.map_append]; rfl, ?_, fun r hr => ?_, fun r hr => ?_⟩
  · rw [List.map_append, List.nodup_append]
    refine ⟨h.nd, by simp, fun x hx y hy => ?_⟩
    obtain ⟨r, hr, rfl⟩ := List.mem_map.mp hx
    have : y = p := by simpa using hy
    rw [this]
    exact nr r hr
  · rcases List.mem_append.mp hr with z | z
    · rw [upd_ne (h.ne r z), upd_ne (nr r z)]
      exact h.row r z
    · have : r = (p, l) := by simpa using z
      subst this
      rw [upd_ne nR, upd_same]
  · rcases List.mem_append.mp hr with z | z
    · exact h.ne r z
    · have : r = (p, l) := by simpa using z
      subst this
      exact nR
theorem row_len {ls : List (List Int)} (h : ∀ l ∈ ls, l ≠ []) {l : List Int} (hl : l ∈ ls) : l.length + ls.length ≤ ls.flatten.length + 1 := by
  have key : ∀ ls : List (List Int), (∀ l ∈ ls, l ≠ []) → ls.length ≤ ls.flatten.length := by
    intro ls
    induction ls with
    | nil => intro _; simp
    | cons x r ih =>
      intro h
      have h1 := ih fun l m => h l (List.mem_cons_of_mem _ m)
      have h2 : 0 < x.length := List.length_pos_iff.mpr (h x List.mem_cons_self)
      simp only [List.length_cons, List.flatten_cons, List.length_append]
      omega
  induction ls with
  | nil => cases hl
  | cons x r ih =>
    have h2 : 0 < x.length := List.length_pos_iff.mpr (h x List.mem_cons_self)
    have h3 := key r fun l m => h l (List.mem_cons_of_mem _ m)
    simp only [List.length_cons, List.flatten_cons, List.length_append]
    rcases List.mem_cons.mp hl with z | z
    · subst z; omega
    · have := ih (fun l m => h l (List.mem_cons_of_mem _ m)) z
      omega
theorem flat_ones (ts : List Int) : (ts.map fun t => [t]).flatten = ts := by
  induction ts with
  | nil => rfl
  | cons t r ih => simp [ih]
end K2

set_option Elab.async false
set_option linter.all false
set_option maxRecDepth 100000
set_option maxHeartbeats 4000000
namespace K2
open PySem L2 GxR GA KD KR KM
def spGrown (n : Nat) : Sp := fun vs H Q _ => ∃ (st c a : Addr) (w : Str) (ts : List Int), vs = [.ref st, .ref a, .str w] ∧ StAt st c H ∧ a ≠ st ∧ H a = some (.lst (ts.map V.int)) ∧ wd w = true ∧ ts ≠ [] ∧ ts.length ≤ n ∧ ts.length ≤ 60 ∧
  ∀ v d H', At (MS st) H' v d → PlanD d w ts → Kp (MS st) H H' → StAt st c H' → Q v H'
def spPlan : Sp := fun vs H Q _ => ∃ (st c : Addr) (n : Nat), vs = [.ref st, .int n] ∧ StAt st c H ∧ 1 ≤ n ∧ n ≤ 7 ∧
  ∀ v d w ts H', At (MS st) H' v d → PlanD d w ts → wd w = true → ts.Perm (rng n) → Kp (MS st) H H' → StAt st c H' → Q v H'
section
variable {P : Program} {w : World} {K : PySem.W.Frag} {mg : Str → Option Value} {base : Heap}
theorem _root_.K2.RowsAt.upd {H : Hp} {R b : Addr} {o : HO} {rows : List (Addr × List Int)} (h : RowsAt H R rows) (hR : R ≠ b) (hr : ∀ r ∈ rows, r.1 ≠ b) : RowsAt (upd H b o) R rows :=
  ⟨by rw [upd_ne hR]; exact h.at_, h.nd, fun r m => by rw [upd_ne (hr r m)]; exact h.row r m, h.ne⟩
theorem scGrown : FnScope ["stream", "tasks", "word", "many", "task", "rows", "other", "row"] ["stream", "tasks", "word"] (defScope sGrown) := ⟨rfl, rfl, rfl, by decide +kernel, rfl, by decide +kernel, by decide +kernel⟩
theorem ok_grown {n : Nat} {f g : Addr} {fd gd : FuncData} (F : Fun K "_law_grown" "_law_grown" sGrown f fd) (B : Bl K mg)
    (G : FnOk P w K mg base CX0 1 g gd ["stream", "many"] spNext) (bG : Binds K gd ["stream", "many"] []) (kG : PySem.W.keepIn K (.ref g) = true) (mG : mg "_law_next" = some (.ref g))
    (R : FnOk P w K mg base CX0 (n + 2) f fd ["stream", "tasks", "word"] (spGrown n)) (bF : Binds K fd ["stream", "tasks", "word"] []) (mF : mg "_law_grown" = some (.ref f)) :
    FnOk P w K mg base CX0 (n + 3) f fd ["stream", "tasks", "word"] (spGrown (n + 1)) := by
  refine F.ok scGrown (fun vs H Q E h => ?_) (fun cdv A outer s H vs Q E hr h => ?_)
  · obtain ⟨st, c, a, w, ts, rfl, _⟩ := h
    rfl
  obtain ⟨st, c, a, wo, ts, rfl, hst, hast, ha, hwd, hne, hln, hl60, q⟩ := h
  have hr1 : Room 1 _ := hr.mono (Nat.le_add_left 1 (n + 1))
  refine ⟨_, pss_cons (ps_if (pt_cmpR op_eq (pe_callB call_len_seq rfl B.len PySem.boot_len (pa_cons (pv 1) pa_nil)) pe_int (nomark _)) (pss_one (ps_ret (pe_ix ix_list (pv 1) pe_int (fun _ _ => rfl)))) pss_nil)
    (pss_cons (ps_set (i := 3) scGrown.nd rfl (Or.inl rfl) (pe_op op_add pe_int (pe_call G hr1 rfl mG kG bG .nil pass0 (pa_cons (pv 0) (pa_cons (pe_op op_sub (pe_callB call_len_seq rfl B.len PySem.boot_len (pa_cons (pv 1) pa_nil)) pe_int) pa_nil)))))
    (pss_cons (ps_setLc (i := 5) (own := [("task", 4)]) (g := gName 4) (tt := tYes) (te := tLst (tCons (tVar 4) tNil)) (by rfl) scGrown.nd rfl rfl (sw_true rfl rfl rfl (by decide +kernel)) (pi_list (pe_slice sl_list (pv 1) po_none (po_some (pv 3))))
        (blkOk_by (own := [("task", 4)]) (N := ["stream", "tasks", "word", "many", "task", "rows", "other", "row"]) (sc := defScope sGrown) (by decide +kernel)) (fun _ _ _ _ _ => pg_name (i := 4) scGrown.nd rfl (Or.inl rfl)) (fun _ _ _ _ _ => pts_nil) (fun _ _ _ _ _ => pe_lst (pa_cons (pv 4) pa_nil)))
    (pss_cons (ps_for PassesOwn.never rfl (pi_list (pe_slice sl_list (pv 1) (po_some (pv 3)) po_none)) (pg_name (i := 4) scGrown.nd rfl (Or.inl rfl))
        (pss_one (ps_expr (pe_bm PySem.F.plainAttrs_list PySem.F.slot_list_append PySem.F.type_list_append mt_append (pe_ix ix_list (pv 5) (pe_call G hr1 rfl mG kG bG .nil pass0 (pa_cons (pv 0) (pa_cons (pv 3) pa_nil))) (fun _ _ => rfl)) (pa_cons (pv 4) pa_nil)))))
    (C8.pss_cut (ps_set (i := 6) scGrown.nd rfl (Or.inr rfl) (pe_ifExp (pt_cmpR op_eq (pv 2) pe_str (nomark _)) pe_str pe_str))
    (pss_one (ps_ret (pe_tup (pa_cons (pv 2) (pa_cons (pe_callTy call_tuple_of rfl B.tuple (by decide +kernel) (pa_cons
      (pe_lc (own := [("row", 7)]) (g := gName 7) (tt := tYes) (te := tCall (spGrown n) [] E0 (tCons (tVar 0) (tCons (tVar 7) (tCons (tVar 6) tNil)))) rfl scGrown.nd (pi_list (pv 5)) (blkOk_by (own := [("row", 7)]) (N := ["stream", "tasks", "word", "many", "task", "rows", "other", "row"]) (sc := defScope sGrown) (by decide +kernel))
        (fun _ _ _ _ _ => pg_name (i := 7) scGrown.nd rfl (Or.inl rfl)) (fun _ _ _ _ _ => pts_nil) (fun _ _ _ _ _ => pe_call R hr rfl mF F.kp bF .nil pass0 (pa_cons (pv 0) (pa_cons (pv 7) (pa_cons (pv 6) pa_nil))))) pa_nil)) pa_nil))))))))), ?_⟩
  have hl : (ts.map V.int).length = ts.length := List.length_map _
  have hpos : 0 < ts.length := List.length_pos_iff.mpr hne
  refine ⟨_, rfl, a, _, rfl, .inl (SqL.of ha), rfl, _, rfl, ?_⟩
  refine ite2 (fun c1 => ?_) (fun c1 => ?_)
  · have c' := of_decide_eq_true c1
    injection c' with c'
    rw [hl] at c'
    obtain ⟨t, rfl⟩ : ∃ t, ts = [t] := by
      match ts, (show ts.length = 1 by omega) with
      | [t], _ => exact ⟨t, rfl⟩
    exact ⟨_, rfl, a, _, _, _, rfl, rfl, SqL.of ha, atI_nat (j := 0) rfl, q _ _ H (.int t) (PlanD.one t wo) .refl hst⟩
  have h2 : 2 ≤ ts.length := by
    have c' := of_decide_eq_false (Bool.eq_false_iff.mpr c1)
    rw [hl] at c'
    have : ts.length ≠ 1 := fun z => c' (by rw [z]; rfl)
    omega
  refine ⟨_, rfl, _, rfl, a, _, rfl, .inl (SqL.of ha), _, 1, rfl, rfl, st, c, _, rfl, hst, by rw [hl]; omega, by rw [hl]; omega, fun d0 H1 d00 d01 k1 s1 => ?_⟩
  rw [hl] at d01
  have ha1 := k1.lst a _ hast ha
  obtain ⟨m, em⟩ : ∃ m : Nat, (2 : Int) + d0 = (m : Int) := ⟨(2 + d0).toNat, by omega⟩
  have hm2 : 2 ≤ m := by omega
  have hmt : m ≤ ts.length := by omega
  refine ⟨2, d0, rfl, rfl, ?_⟩
  dsimp only
  rw [em]
  -- rows = [[task] for task in tasks[:many]]
  refine ⟨_, rfl, _, rfl, _, rfl, a, _, rfl, SqL.of ha1, fun S1 hS1 => ⟨S1, rfl, ⟨_, SqL.of upd_same⟩, fun D hD => ?_⟩⟩
  rw [cut_to hmt] at hD ⊢
  have nS1 := s1.ne hS1
  have s2 : StAt st c (upd H1 S1 (.lst ((ts.take m).map V.int))) := s1.new hS1
  have nD := s2.ne hD
  have k2 : Kp (MS st) H (upd H1 S1 (.lst ((ts.take m).map V.int))) := k1.trans (Kp.new hS1)
  have fD : ∀ zs, H D ≠ some (.lst zs) := k2.noLst nD.1 hD
  refine lc_list (K := K) (a := S1) (xs := (ts.take m).map V.int) (fun i H' => ∃ rows, Kp (MS st) H H' ∧ StAt st c H' ∧ H' S1 = some (.lst ((ts.take m).map V.int)) ∧ RowsAt H' D rows ∧ rows.map (·.2) = ((ts.take m).take i).map (fun t => [t]) ∧ ∀ r ∈ rows, ∀ zs, H r.1 ≠ some (.lst zs))
    ⟨[], k2.trans (Kp.new hD), s2.new hD, by rw [upd_ne (ne_of_none upd_same hD), upd_same], ⟨upd_same, by simp, (fun _ h => by cases h), (fun _ h => by cases h)⟩, rfl, (fun _ h => by cases h)⟩ (fun i H' _ p => SqL.of (by obtain ⟨_, _, _, e, _⟩ := p; exact e)) (fun i x H' hi p => ?_) (fun H' p => ?_)
  · obtain ⟨rows, k3, s3, e3, r3, f3, g3⟩ := p
    rw [List.getElem?_map] at hi
    obtain ⟨t, ht, rfl⟩ := Option.map_eq_some_iff.mp hi
    have hi' := (List.getElem?_eq_some_iff.mp ht).1
    rw [List.length_take] at hi'
    refine ⟨rfl, ?_⟩
    dsimp only [tYes]
    rw [if_pos rfl]
    refine ⟨_, rfl, (by show 1 ≤ sizeLine; decide), fun p hp => ?_⟩
    have np := s3.ne hp
    have hD3 := r3.at_
    have nDp : D ≠ p := ne_of_none hD3 hp
    have hlr : rows.length ≤ 60 := by
      have := congrArg List.length f3
      simp only [List.length_map, List.length_take] at this
      omega
    refine ⟨_, by rw [upd_ne nDp]; exact hD3, by rw [List.length_map]; exact small1000 (by omega), rows ++ [(p, [t])], ?_, (s3.new hp).put nD, ?_, r3.snoc (l := [t]) hp, ?_, fun r hr => ?_⟩
    · exact (k3.trans (Kp.new hp)).putFresh fD (by rw [upd_ne nDp]; exact hD3)
    · have n1 : S1 ≠ D := by
        intro z
        rw [z, upd_same] at hD
        cases hD
      rw [upd_ne n1, upd_ne (ne_of_none e3 hp)]
      exact e3
    · rw [List.map_append, f3, List.take_succ, ht, List.map_append]
      rfl
    · rcases List.mem_append.mp hr with z | z
      · exact g3 r z
      · have : r = (p, [t]) := by simpa using z
        subst this
        exact k3.noLst np.1 hp
  · obtain ⟨rows, k3, s3, e3, r3, f3, g3⟩ := p
    rw [List.length_map, List.take_length] at f3
    have ha3 := k3.lst a _ hast ha
    -- for task in tasks[many:]
    refine ⟨_, rfl, _, rfl, _, rfl, a, _, rfl, SqL.of ha3, fun S2 hS2 => ⟨S2, rfl, ⟨_, SqL.of upd_same⟩, ?_⟩⟩
    rw [cut_from hmt]
    have hrl : rows.length = m := by
      have := congrArg List.length f3
      simp only [List.length_map, List.length_take] at this
      omega
    refine for_list (K := K) (a := S2) (xs := (ts.drop m).map V.int) (fun i σ H' => ∃ rows x4, σ = [some (.ref st), some (.ref a), some (.str wo), some (.int m), x4, some (.ref D), none, none] ∧ Kp (MS st) H H' ∧ StAt st c H' ∧ H' S2 = some (.lst ((ts.drop m).map V.int)) ∧ RowsAt H' D rows ∧
        (∀ r ∈ rows, ∀ zs, H r.1 ≠ some (.lst zs)) ∧ (∀ r ∈ rows, r.1 ≠ S2) ∧ rows.length = m ∧ (∀ r ∈ rows, r.2 ≠ []) ∧ ((rows.map (·.2)).flatten).Perm (ts.take m ++ (ts.drop m).take i))
      ⟨rows, none, rfl, k3.trans (Kp.new hS2), s3.new hS2, upd_same, r3.kp (st := st) (Kp.new hS2) nD.1 (fun r hr z => ?_), g3, fun r hr => ne_of_none (r3.row r hr) hS2, hrl, fun r hr e => ?_, ?_⟩ (fun i σ H' _ p => SqL.of (by obtain ⟨_, _, _, _, _, e, _⟩ := p; exact e)) (fun i x σ H' hi p => ?_) (fun σ H' p => ?_)
    · obtain ⟨xs, e⟩ := hst.ex
      exact g3 r hr xs (by rw [z]; exact e)
    · have : r.2 ∈ rows.map (·.2) := List.mem_map.mpr ⟨r, hr, rfl⟩
      rw [f3, e] at this
      obtain ⟨t, _, z⟩ := List.mem_map.mp this
      cases z
    · rw [f3, flat_ones, List.take_zero, List.append_nil]
    · obtain ⟨rows, x4, rfl, k4, s4, e4, r4, g4, n4, l4, m4, p4⟩ := p
      rw [List.getElem?_map] at hi
      obtain ⟨t, ht, rfl⟩ := Option.map_eq_some_iff.mp hi
      refine ⟨_, rfl, _, rfl, _, rfl, st, c, _, rfl, s4, by omega, by omega, fun d H5 d50 d51 k5 s5 => ?_⟩
      have hd : d.toNat < rows.length := by omega
      obtain ⟨⟨aj, lj⟩, hj⟩ : ∃ r, rows[d.toNat]? = some r := ⟨_, List.getElem?_eq_getElem hd⟩
      have hm := List.mem_of_getElem? hj
      have nst : ∀ r ∈ rows, r.1 ≠ st := fun r hr z => by
        obtain ⟨xs, e⟩ := hst.ex
        exact g4 r hr xs (by rw [z]; exact e)
      have nc : ∀ r ∈ rows, r.1 ≠ c := fun r hr z => by
        obtain ⟨xs, e⟩ := hst.ex2
        exact g4 r hr xs (by rw [z]; exact e)
      have r5 := r4.kp k5 nD.1 nst
      have e5 : H5 S2 = some (.lst ((ts.drop m).map V.int)) := k5.lst S2 _ (s3.ne hS2).1 e4
      have hat := atI_nat (xs := rows.map fun r => V.ref r.1) (j := d.toNat) (v := .ref aj) (by rw [List.getElem?_map, hj]; rfl)
      have ed : ((d.toNat : Nat) : Int) = d := by omega
      rw [ed] at hat
      have hrow := r5.row _ hm
      have hlen : lj.length ≤ 60 := by
        have h1 := row_len (ls := rows.map (·.2)) (fun l hl => by obtain ⟨r, hr, rfl⟩ := List.mem_map.mp hl; exact m4 r hr) (List.mem_map.mpr ⟨_, hm, rfl⟩)
        have h2 := p4.length_eq
        rw [List.length_append, List.length_take, List.length_take, List.length_drop] at h2
        rw [List.length_map] at h1
        dsimp only at h1
        have hi' := (List.getElem?_eq_some_iff.mp ht).1
        rw [List.length_drop] at hi'
        rw [Nat.min_eq_left hmt, Nat.min_eq_left (by omega)] at h2
        omega
      refine ⟨D, _, d, _, rfl, rfl, SqL.of r5.at_, hat, .inl ⟨rfl, _, .inl (.inl hrow)⟩, _, rfl, aj, _, _, rfl, rfl, hrow, by rw [List.length_map]; exact small1000 (by dsimp only; omega), ?_⟩
      refine ⟨rows.set d.toNat (aj, lj ++ [t]), _, rfl, (k4.trans k5).putFresh (g4 _ hm) hrow, s5.put ⟨nst _ hm, nc _ hm⟩, by rw [upd_ne (n4 _ hm).symm]; exact e5, r5.put hj, fun r hr => ?_, fun r hr => ?_, by rw [List.length_set]; exact l4, fun r hr => ?_, ?_⟩
      · rcases mem_set_cases hr with z | z
        · exact g4 r z
        · rw [z]; exact g4 (aj, lj) hm
      · rcases mem_set_cases hr with z | z
        · exact n4 r z
        · rw [z]; exact n4 (aj, lj) hm
      · rcases mem_set_cases hr with z | z
        · exact m4 r z
        · rw [z]; simp
      · refine (set_flat hj).trans ?_
        rw [List.take_succ, ht, ← List.append_assoc]
        exact List.Perm.append_right _ p4
    · obtain ⟨rows, x4, rfl, k4, s4, e4, r4, g4, n4, l4, m4, p4⟩ := p
      rw [List.length_map, List.take_length, List.take_append_drop] at p4
      refine ⟨fun σ' H'' => ∃ oth x, σ' = [some (.ref st), some (.ref a), some (.str wo), some (.int m), x, some (.ref D), some (.str oth), none] ∧ wd oth = true ∧ wo ≠ oth ∧ H' = H'', ?_, ?_⟩
      · refine ⟨_, rfl, rfl, _, rfl, ?_⟩
        refine ite2 (fun c => ?_) (fun c => ?_)
        · have c' := of_decide_eq_true c
          injection c' with c'
          exact ⟨"beside", x4, rfl, by decide +kernel, by rw [c']; decide +kernel, rfl⟩
        · have c' := of_decide_eq_false (Bool.eq_false_iff.mpr c)
          exact ⟨"then", x4, rfl, by decide +kernel, fun z => c' (by rw [z]), rfl⟩
      rintro σ' H'' ⟨oth, x, rfl, hoth, hno, rfl⟩
      refine ⟨_, rfl, ?_⟩
      refine ⟨_, rfl, D, rfl, ⟨_, SqL.of r4.at_⟩, fun D2 hD2 => ?_⟩
      have n2 := s4.ne hD2
      have k5 : Kp (MS st) H (upd H' D2 (.lst [])) := k4.trans (Kp.new hD2)
      have f2 : ∀ zs, H D2 ≠ some (.lst zs) := k4.noLst n2.1 hD2
      have nDD : D ≠ D2 := ne_of_none r4.at_ hD2
      have nRD : ∀ r ∈ rows, r.1 ≠ D2 := fun r hr => ne_of_none (r4.row r hr) hD2
      have hL : (rows.map (·.2)).length = m := by rw [List.length_map]; exact l4
      refine lc_list (K := K) (a := D) (xs := rows.map fun r => V.ref r.1) (fun i H3 => ∃ vs ds, Kp (MS st) H H3 ∧ StAt st c H3 ∧ RowsAt H3 D rows ∧ H3 D2 = some (.lst vs) ∧ AtL (MS st) H3 vs ds ∧ PartsD ds wo ((rows.map (·.2)).take i) ts.length)
        ⟨[], [], k5, s4.new hD2, r4.upd nDD nRD, upd_same, .nil, PartsD.nil h2⟩ (fun i H3 _ p => SqL.of (by obtain ⟨_, _, _, _, r, _⟩ := p; exact r.at_)) (fun i x H3 hi p => ?_) (fun H3 p => ?_)
      · obtain ⟨vs, ds, k6, s6, r6, e6, a6, p6⟩ := p
        rw [List.getElem?_map] at hi
        obtain ⟨⟨ar, lr⟩, hr', rfl⟩ := Option.map_eq_some_iff.mp hi
        have hm := List.mem_of_getElem? hr'
        have hlen := row_len (ls := rows.map (·.2)) (fun l hl => by obtain ⟨r, hr, rfl⟩ := List.mem_map.mp hl; exact m4 r hr) (List.mem_map.mpr ⟨_, hm, rfl⟩)
        rw [p4.length_eq, hL] at hlen
        have hlen' : lr.length + m ≤ ts.length + 1 := hlen
        refine ⟨rfl, ?_⟩
        dsimp only [tYes]
        rw [if_pos rfl]
        have nst : ar ≠ st := fun z => by
          obtain ⟨xs, e⟩ := hst.ex
          exact g4 _ hm xs (by rw [z]; exact e)
        refine ⟨_, rfl, _, rfl, _, rfl, st, c, ar, oth, lr, rfl, s6, nst, r6.row _ hm, hoth, m4 _ hm, by omega, by omega, fun v d H7 a7 q7 k7 s7 => ?_⟩
        have e7 := k7.lst D2 _ n2.1 e6
        have hds := p6.len
        have hvs := a6.length
        rw [List.length_take, hL] at hds
        refine ⟨vs, e7, small1000 (by have : min i m ≤ m := Nat.min_le_right _ _; omega), vs ++ [v], ds ++ [d], (k6.trans k7).putFresh f2 e7, s7.put n2, (r6.kp k7 nD.1 fun r hr z => ?_).upd nDD nRD, upd_same, ?_, ?_⟩
        · obtain ⟨xs, e⟩ := hst.ex
          exact g4 r hr xs (by rw [z]; exact e)
        · have tk : ∀ b xs, H7 b = some (.tup xs) → upd H7 D2 (.lst (vs ++ [v])) b = some (.tup xs) := fun b xs e => by
            rw [upd_ne]
            · exact e
            · intro z
              rw [z, e7] at e
              cases e
          exact AtL.append (AtL.put tk (a6.kp k7) p6.nol) (AtL.one (At.put tk a7 q7.nol))
        · rw [List.take_succ, List.getElem?_map, hr']
          exact p6.snoc q7 hno (by show lr.length + 1 ≤ _; omega)
      · obtain ⟨vs, ds, k6, s6, r6, e6, a6, p6⟩ := p
        rw [List.length_map, List.take_of_length_le (by rw [List.length_map]; exact Nat.le_refl _)] at p6
        refine ⟨D2, vs, rfl, .inl ⟨SqL.of e6, fun p1 hp1 => ?_⟩⟩
        refine ⟨(by show 2 ≤ sizeLine; decide), fun p2 hp2 => ?_⟩
        have kk : Kp (MS st) H3 (upd (upd H3 p1 (.tup vs)) p2 (.tup [.str wo, .ref p1])) := (Kp.new hp1).trans (Kp.new hp2)
        refine q _ (.tuple [.str wo, .tuple ds]) _ (.tup upd_same (.cons (.str wo) (.cons (.tup ?_ (a6.kp kk)) .nil))) ?_ (k6.trans kk) ((s6.new hp1).new hp2)
        · rw [upd_ne (ne_of_none upd_same hp2), upd_same]
        · exact p6.plan hwd (by omega) p4 (by omega)
end
end K2

set_option Elab.async false
set_option linter.all false
set_option maxRecDepth 100000
set_option maxHeartbeats 4000000
namespace K2
open PySem L2 GxR GA KD KR KM
mutual
/-- how many whole numbers stand in tuples -/
def lv : PyData → Nat
  | .int _ => 1
  | .tuple xs => lvL xs
  | _ => 0
def lvL : List PyData → Nat
  | [] => 0
  | x :: r => lv x + lvL r
end
theorem lvL_cons (x : PyData) (r : List PyData) : lvL (x :: r) = lv x + lvL r := by simp only [lvL]
theorem lv_tuple (r : List PyData) : lv (.tuple r) = lvL r := by simp only [lv]
theorem lv_str (s : Str) : lv (.str s) = 0 := by simp only [lv]
mutual
theorem formed_lv : ∀ (d : PyData) (o : Str) (l : List Int), formed d o = some l → l.length = lv d
  | .int i, o, l, h => by
    rw [formed_int] at h
    cases h
    simp only [lv]
    rfl
  | .tuple [.str w, .tuple ps], o, l, h => by
    rw [formed_parts] at h
    split at h
    · rw [formedL_lv ps w l h, lv_tuple, lvL_cons, lvL_cons, lv_str, lv_tuple]
      simp only [lvL]
      omega
    · cases h
  | .none, _, _, h => by simp [formed] at h
  | .bool _, _, _, h => by simp [formed] at h
  | .str _, _, _, h => by simp [formed] at h
  | .list _, _, _, h => by simp [formed] at h
  | .dict _, _, _, h => by simp [formed] at h
  | .tuple [], _, _, h => by simp [formed] at h
  | .tuple [_], _, _, h => by simp [formed] at h
  | .tuple (.str _ :: .none :: _), _, _, h => by simp [formed] at h
  | .tuple (.str _ :: .bool _ :: _), _, _, h => by simp [formed] at h
  | .tuple (.str _ :: .int _ :: _), _, _, h => by simp [formed] at h
  | .tuple (.str _ :: .str _ :: _), _, _, h => by simp [formed] at h
  | .tuple (.str _ :: .list _ :: _), _, _, h => by simp [formed] at h
  | .tuple (.str _ :: .dict _ :: _), _, _, h => by simp [formed] at h
  | .tuple (.none :: _ :: _), _, _, h => by simp [formed] at h
  | .tuple (.bool _ :: _ :: _), _, _, h => by simp [formed] at h
  | .tuple (.int _ :: _ :: _), _, _, h => by simp [formed] at h
  | .tuple (.tuple _ :: _ :: _), _, _, h => by simp [formed] at h
  | .tuple (.list _ :: _ :: _), _, _, h => by simp [formed] at h
  | .tuple (.dict _ :: _ :: _), _, _, h => by simp [formed] at h
  | .tuple (.str _ :: .tuple _ :: _ :: _), _, _, h => by simp [formed] at h
theorem formedL_lv : ∀ (ds : List PyData) (w : Str) (l : List Int), formedL ds w = some l → l.length = lvL ds
  | [], w, l, h => by
    rw [formedL_nil] at h
    cases h
    simp only [lvL]
    rfl
  | p :: r, w, l, h => by
    rw [formedL_cons] at h
    cases e1 : formed p w with
    | none => rw [e1] at h; cases h
    | some a =>
      cases e2 : formedL r w with
      | none => rw [e1, e2] at h; cases h
      | some b =>
        rw [e1, e2] at h
        cases h
        rw [List.length_append, formed_lv p w a e1, formedL_lv r w b e2, lvL_cons]
end
theorem lvL_take : ∀ (ds : List PyData) (i : Nat), lvL (ds.take i) ≤ lvL ds
  | [], i => by simp [lvL]
  | d :: r, 0 => by simp [lvL]
  | d :: r, i + 1 => by
    rw [List.take_succ_cons, lvL_cons, lvL_cons]
    have := lvL_take r i
    omega
theorem lvL_mem : ∀ {ds : List PyData} {d : PyData}, d ∈ ds → lv d ≤ lvL ds
  | x :: r, d, h => by
    rw [lvL_cons]
    rcases List.mem_cons.mp h with z | z
    · rw [z]; omega
    · have := lvL_mem z
      omega
theorem formedL_bad {w : Str} : ∀ {ds : List PyData} {d : PyData}, d ∈ ds → formed d w = none → formedL ds w = none
  | x :: r, d, h, e => by
    rw [formedL_cons]
    rcases List.mem_cons.mp h with z | z
    · rw [← z, e]
    · rw [formedL_bad z e]
      cases formed x w <;> rfl
theorem formedL_succ {w : Str} {ds : List PyData} {i : Nat} {p : PyData} {a b : List Int} (h : formedL (ds.take i) w = some a) (hp : ds[i]? = some p) (hb : formed p w = some b) : formedL (ds.take (i + 1)) w = some (a ++ b) := by
  rw [List.take_succ, hp]
  show formedL (ds.take i ++ [p]) w = _
  rw [formedL_app, formedL_one, h, hb]
/-- the parts' answers in a list -/
inductive FR (M : Addr → Prop) (H : Hp) (w : Str) : List V → List PyData → Prop
  | nil : FR M H w [] []
  | bad {p : PyData} {vs : List V} {ps : List PyData} : formed p w = none → FR M H w vs ps → FR M H w (.non :: vs) (p :: ps)
  | good {p : PyData} {l : List Int} {a : Addr} {vs : List V} {ps : List PyData} : formed p w = some l → H a = some (.lst (l.map V.int)) → ¬ M a → FR M H w vs ps → FR M H w (.ref a :: vs) (p :: ps)
theorem FR.kp {M : Addr → Prop} {H H' : Hp} {w : Str} (k : Kp M H H') : ∀ {vs : List V} {ps : List PyData}, FR M H w vs ps → FR M H' w vs ps
  | _, _, .nil => .nil
  | _, _, .bad e r => .bad e (FR.kp k r)
  | _, _, .good e h n r => .good e (k.lst _ _ n h) n (FR.kp k r)
theorem FR.len {M : Addr → Prop} {H : Hp} {w : Str} : ∀ {vs : List V} {ps : List PyData}, FR M H w vs ps → vs.length = ps.length
  | _, _, .nil => rfl
  | _, _, .bad _ r => congrArg (· + 1) (FR.len r)
  | _, _, .good _ _ _ r => congrArg (· + 1) (FR.len r)
theorem FR.snocB {M : Addr → Prop} {H : Hp} {w : Str} {p : PyData} (e : formed p w = none) : ∀ {vs : List V} {ps : List PyData}, FR M H w vs ps → FR M H w (vs ++ [.non]) (ps ++ [p])
  | _, _, .nil => .bad e .nil
  | _, _, .bad e' r => .bad e' (FR.snocB e r)
  | _, _, .good e' h n r => .good e' h n (FR.snocB e r)
theorem FR.snocG {M : Addr → Prop} {H : Hp} {w : Str} {p : PyData} {l : List Int} {a : Addr} (e : formed p w = some l) (ha : H a = some (.lst (l.map V.int))) (hm : ¬ M a) : ∀ {vs : List V} {ps : List PyData}, FR M H w vs ps → FR M H w (vs ++ [.ref a]) (ps ++ [p])
  | _, _, .nil => .good e ha hm .nil
  | _, _, .bad e' r => .bad e' (FR.snocG e ha hm r)
  | _, _, .good e' h n r => .good e' h n (FR.snocG e ha hm r)
theorem FR.get {M : Addr → Prop} {H : Hp} {w : Str} : ∀ {vs : List V} {ps : List PyData} {i : Nat} {v : V}, FR M H w vs ps → vs[i]? = some v →
    ∃ p, ps[i]? = some p ∧ ((formed p w = none ∧ v = .non) ∨ ∃ l a, formed p w = some l ∧ v = .ref a ∧ H a = some (.lst (l.map V.int)) ∧ ¬ M a)
  | _, _, 0, v, .bad (p := p) e r, h => by
    simp at h
    exact ⟨p, rfl, .inl ⟨e, h.symm⟩⟩
  | _, _, 0, v, .good (p := p) e h' n r, h => by
    simp at h
    exact ⟨p, rfl, .inr ⟨_, _, e, h.symm, h', n⟩⟩
  | _, _, i + 1, v, .bad e r, h => FR.get (i := i) r (by simpa using h)
  | _, _, i + 1, v, .good e _ _ r, h => FR.get (i := i) r (by simpa using h)
theorem FR.fresh {M : Addr → Prop} {H : Hp} {w : Str} {D : Addr} {o : HO} (hD : H D = none) : ∀ {vs : List V} {ps : List PyData}, FR M H w vs ps → FR (MS D) (upd H D o) w vs ps
  | _, _, .nil => .nil
  | _, _, .bad e r => .bad e (FR.fresh hD r)
  | _, _, .good e h n r => .good e (by rw [upd_ne (ne_of_none h hD)]; exact h) (fun z => ne_of_none h hD z) (FR.fresh hD r)
def spFormed (n : Nat) : Sp := fun vs H Q _ => ∃ (v : V) (d : PyData) (o : Str), vs = [v, .str o] ∧ At MN H v d ∧ d.depth < n ∧ SeqAt.shaped d = true ∧ slim d = true ∧ lv d ≤ 60 ∧
  (∀ H', formed d o = none → Kp MN H H' → Q .non H') ∧ (∀ l a H', formed d o = some l → (∀ zs, H a ≠ some (.lst zs)) → Kp MN H H' → H' a = some (.lst (l.map V.int)) → Q (.ref a) H')
def spLIsPlan : Sp := fun vs H Q _ => ∃ (v : V) (d : PyData) (n : Nat), vs = [v, .int n] ∧ At MN H v d ∧ n < 60 ∧ SeqAt.shaped d = true ∧ slim d = true ∧ lv d ≤ 60 ∧ ∀ H', Kp MN H H' → Q (.bl (lawPl d n)) H'
section
variable {P : Program} {w : World} {K : PySem.W.Frag} {mg : Str → Option Value} {base : Heap}
theorem oks_grown {f g : Addr} {fd gd : FuncData} (F : Fun K "_law_grown" "_law_grown" sGrown f fd) (B : Bl K mg)
    (G : FnOk P w K mg base CX0 1 g gd ["stream", "many"] spNext) (bG : Binds K gd ["stream", "many"] []) (kG : PySem.W.keepIn K (.ref g) = true) (mG : mg "_law_next" = some (.ref g))
    (bF : Binds K fd ["stream", "tasks", "word"] []) (mF : mg "_law_grown" = some (.ref f)) : ∀ n : Nat, FnOk P w K mg base CX0 (n + 2) f fd ["stream", "tasks", "word"] (spGrown n)
  | 0 => never_ok fun vs H Q E h => by
    obtain ⟨_, _, _, _, ts, _, _, _, _, _, hn, h0, _⟩ := h
    exact hn (List.length_eq_zero_iff.mp (Nat.le_zero.mp h0))
  | n + 1 => ok_grown F B G bG kG mG (oks_grown F B G bG kG mG bF mF n) bF mF
theorem scPlan : FnScope ["stream", "size"] ["stream", "size"] (defScope sPlan) := ⟨rfl, rfl, rfl, by decide +kernel, rfl, by decide +kernel, by decide +kernel⟩
theorem ok_plan {f g o p : Addr} {fd gd od pd : FuncData} (F : Fun K "_law_plan" "_law_plan" sPlan f fd) (B : Bl K mg)
    (G : FnOk P w K mg base CX0 9 g gd ["stream", "tasks", "word"] (spGrown 7)) (bG : Binds K gd ["stream", "tasks", "word"] []) (kG : PySem.W.keepIn K (.ref g) = true) (mG : mg "_law_grown" = some (.ref g))
    (O : FnOk P w K mg base CX0 2 o od ["stream", "many"] spOrder) (bO : Binds K od ["stream", "many"] []) (kO : PySem.W.keepIn K (.ref o) = true) (mO : mg "_law_order" = some (.ref o))
    (C : FnOk P w K mg base CX0 2 p pd ["stream", "rows"] spPick) (bC : Binds K pd ["stream", "rows"] []) (kC : PySem.W.keepIn K (.ref p) = true) (mC : mg "_law_pick" = some (.ref p)) :
    FnOk P w K mg base CX0 10 f fd ["stream", "size"] spPlan := by
  refine F.ok scPlan (fun vs H Q E h => ?_) (fun cdv A outer s H vs Q E hr h => ?_)
  · obtain ⟨st, c, n, rfl, _⟩ := h
    rfl
  obtain ⟨st, c, n, rfl, hst, h1, h7, q⟩ := h
  have hr2 : Room 2 _ := hr.mono (by decide)
  refine ⟨_, pss_one (ps_ret (pe_call G hr rfl mG kG bG .nil pass0 (pa_cons (pv 0) (pa_cons (pe_callTy call_list_of rfl B.list (by decide +kernel) (pa_cons (pe_call O hr2 rfl mO kO bO .nil pass0 (pa_cons (pv 0) (pa_cons (pv 1) pa_nil))) pa_nil))
    (pa_cons (pe_call C hr2 rfl mC kC bC .nil pass0 (pa_cons (pv 0) (pa_cons (pe_lst (pa_cons pe_str (pa_cons pe_str pa_nil))) pa_nil))) pa_nil))))), ?_⟩
  refine ⟨_, rfl, _, rfl, _, rfl, st, c, n, rfl, hst, by omega, fun p ts H1 perm hp k1 s1 => ?_⟩
  refine ⟨p, _, rfl, .inr (SqT.of hp), fun L hL => ?_⟩
  refine ⟨_, rfl, (by show 2 ≤ sizeLine; decide), fun R hR => ?_⟩
  have nL := s1.ne hL
  have s2 : StAt st c (upd H1 L (.lst (ts.map V.int))) := s1.new hL
  have s3 := s2.new hR (o := .lst [.str "then", .str "beside"])
  have nR := s2.ne hR
  refine ⟨st, c, _, [.str "then", .str "beside"], rfl, s3, .lst upd_same nR.1 (.cons (.str _) (.cons (.str _) .nil)), by simp, by decide, fun x d H2 hd ax k2 s4 => ?_⟩
  obtain ⟨wo, rfl, hwo⟩ : ∃ wo, d = .str wo ∧ wd wo = true := by
    rcases List.mem_cons.mp hd with z | z
    · exact ⟨_, z, by decide +kernel⟩
    · exact ⟨_, List.mem_singleton.mp z, by decide +kernel⟩
  cases ax.str_of
  have hlen := perm.length_eq
  rw [rng_length] at hlen
  have nLR : L ≠ R := fun z => by
    rw [← z, upd_same] at hR
    cases hR
  have eL := k2.lst L (ts.map V.int) nL.1 (by rw [upd_ne nLR]; exact upd_same)
  exact ⟨st, c, L, wo, ts, rfl, s4, nL.1, eL, hwo, fun z => by rw [z] at hlen; simp at hlen; omega, by omega, by omega, fun v d H3 a3 p3 k3 s5 => q v d wo ts H3 a3 p3 hwo perm (k1.trans ((Kp.new hL).trans ((Kp.new hR).trans (k2.trans k3)))) s5⟩
end
end K2

set_option Elab.async false
set_option linter.all false
set_option maxRecDepth 100000
set_option maxHeartbeats 1000000
namespace KJ
open PySem PySem.W L2 GxR GA KD KR PyProof.Rows
theorem vals_at : ∀ {xs : List V} {its : List Value} {i : Nat} {v : Value}, Vals xs its → its[i]? = some v → ∃ u, xs[i]? = some u ∧ RelV u v
  | _, _, 0, v, .cons (a := x) r t, h => by
    simp at h
    subst h
    exact ⟨x, rfl, r⟩
  | _, _, i + 1, v, .cons r t, h => vals_at (i := i) t (by simpa using h)
theorem dps_at {K : PySem.W.Frag} {H : Hp} : ∀ {xs : List V} {ds : List PyData} {i : Nat} {u : V}, DpAll K H xs ds → xs[i]? = some u → ∃ d, ds[i]? = some d ∧ Dp K H u d
  | _, _, 0, u, .cons (d := d) r t, h => by
    simp at h
    subst h
    exact ⟨d, rfl, r⟩
  | _, _, i + 1, u, .cons r t, h => dps_at (i := i) t (by simpa using h)
/-- min(xs) of a list of data of one kind: the item itself -/
def rMinD (K : PySem.W.Frag) : List V → Hp → VK → Prop := fun vs H Q => ∃ (a : Addr) (xs : List V) (d : PyData) (ds : List PyData), vs = [.ref a] ∧ SqL K H a xs ∧ DpAll K H xs (d :: ds) ∧ AlikeAll (d :: ds) ∧ PyData.depthAll (d :: ds) ≤ 60 ∧
  ∀ (i : Nat) (v : V), xs[i]? = some v → (d :: ds)[i]? = some (minD d ds) → Q v H
theorem cr_minD {X : Cx} (hc : X.calm = true) (hu : X.A.units + 65 < cLine) : CallR X (.builtin "min") (rMinD X.K) := by
  intro pins s σ H vs us Q I r h
  obtain ⟨a, xs, d, ds, rfl, hs, hall, hal, hdep, q⟩ := h
  obtain ⟨its, rv, hl, _⟩ := I.list hs
  rw [Vals.ref1 r]
  obtain ⟨as, hr⟩ := Dp.readsAll I (d :: ds) xs its hall rv
  refine min_list_data (I.ok.hd hc) hl.isList (x := d) (xs := ds) (as := as) (by simpa using hr) hal (by omega) fun i v h' tk bs hv hR hk => ?_
  have hv' : its[i]? = some v := by simpa using hv
  obtain ⟨u, hu', ru⟩ := vals_at rv hv'
  obtain ⟨e, he, de⟩ := dps_at hall hu'
  obtain ⟨as2, r2⟩ := Dp.reads I e u v de ru
  have em := (reads_det (fun b o e _ => hk b o e) r2 hR).1
  exact ⟨u, H, I.kept hk, ru, q i u hu' (by rw [em]; exact he)⟩
theorem minD_last : ∀ (init : List PyData) (m : PyData), (∀ t ∈ init, dataLt m t = true) → ∀ x xs, x :: xs = init ++ [m] → minD x xs = m := by
  intro init m h x xs e
  cases init with
  | nil =>
    simp at e
    obtain ⟨rfl, rfl⟩ := e
    rfl
  | cons t r =>
    simp at e
    obtain ⟨rfl, rfl⟩ := e
    unfold minD
    rw [List.foldl_append]
    have key : ∀ (r : List PyData) (y : PyData), (∀ t ∈ r, dataLt m t = true) → dataLt m y = true → dataLt m (r.foldl (fun a y => if dataLt y a then y else a) y) = true := by
      intro r
      induction r with
      | nil => intro y _ h; exact h
      | cons z r ih =>
        intro y h1 h2
        rw [List.foldl_cons]
        refine ih _ (fun t ht => h1 t (List.mem_cons_of_mem _ ht)) ?_
        split
        · exact h1 z List.mem_cons_self
        · exact h2
    show (if dataLt m _ then m else _) = m
    rw [if_pos (key r x (fun t ht => h t (List.mem_cons_of_mem _ ht)) (h x List.mem_cons_self))]
theorem lt_heads {i j : Int} {xs ys : List PyData} (h : i < j) : dataLt (.tuple (.int i :: xs)) (.tuple (.int j :: ys)) = true := by
  rw [dataLt_tuple]
  have e : PyData.eqv (.int i) (.int j) = false := by
    show (i == j) = false
    rw [beq_eq_false_iff_ne]
    omega
  rw [dataLt_all_no (by simp [alike]) e, dataLt_int]
  exact decide_eq_true h
end KJ

set_option Elab.async false
set_option linter.all false
set_option maxRecDepth 100000
set_option maxHeartbeats 1000000
namespace KJ
open PySem L2 KM
mutual
/-- the tasks in their sequence -/
def tl : PyData → List Int
  | .int i => [i]
  | .tuple xs => tlL xs
  | _ => []
def tlL : List PyData → List Int
  | [] => []
  | x :: r => tl x ++ tlL r
end
theorem tl_int (i : Int) : tl (.int i) = [i] := by simp only [tl]
theorem tl_str (s : Str) : tl (.str s) = [] := by simp only [tl]
theorem tl_tuple (xs : List PyData) : tl (.tuple xs) = tlL xs := by simp only [tl]
theorem tlL_nil : tlL [] = [] := by simp only [tlL]
theorem tlL_cons (x : PyData) (r : List PyData) : tlL (x :: r) = tl x ++ tlL r := by simp only [tlL]
theorem tl_part (w : Str) (ps : List PyData) : tl (.tuple [.str w, .tuple ps]) = tlL ps := by
  rw [tl_tuple, tlL_cons, tlL_cons, tl_str, tl_tuple, tlL_nil, List.append_nil, List.nil_append]
/-- a plan or a part of one -/
inductive Pn : Str → PyData → List Int → Prop
  | int (o : Str) (i : Int) : Pn o (.int i) [i]
  | node {o w : Str} {ps : List PyData} {l : List Int} : wd w = true → w ≠ o → 2 ≤ ps.length → formedL ps w = some l → Pn o (.tuple [.str w, .tuple ps]) l
mutual
theorem formed_tl : ∀ (d : PyData) (o : Str) (l : List Int), formed d o = some l → tl d = l
  | .int i, o, l, h => by
    rw [formed_int] at h
    cases h
    exact tl_int i
  | .tuple [.str w, .tuple ps], o, l, h => by
    rw [formed_parts] at h
    split at h
    · rw [tl_part]
      exact formedL_tl ps w l h
    · cases h
  | .none, _, _, h => by simp [formed] at h
  | .bool _, _, _, h => by simp [formed] at h
  | .str _, _, _, h => by simp [formed] at h
  | .list _, _, _, h => by simp [formed] at h
  | .dict _, _, _, h => by simp [formed] at h
  | .tuple [], _, _, h => by simp [formed] at h
  | .tuple [_], _, _, h => by simp [formed] at h
  | .tuple (.str _ :: .none :: _), _, _, h => by simp [formed] at h
  | .tuple (.str _ :: .bool _ :: _), _, _, h => by simp [formed] at h
  | .tuple (.str _ :: .int _ :: _), _, _, h => by simp [formed] at h
  | .tuple (.str _ :: .str _ :: _), _, _, h => by simp [formed] at h
  | .tuple (.str _ :: .list _ :: _), _, _, h => by simp [formed] at h
  | .tuple (.str _ :: .dict _ :: _), _, _, h => by simp [formed] at h
  | .tuple (.none :: _ :: _), _, _, h => by simp [formed] at h
  | .tuple (.bool _ :: _ :: _), _, _, h => by simp [formed] at h
  | .tuple (.int _ :: _ :: _), _, _, h => by simp [formed] at h
  | .tuple (.tuple _ :: _ :: _), _, _, h => by simp [formed] at h
  | .tuple (.list _ :: _ :: _), _, _, h => by simp [formed] at h
  | .tuple (.dict _ :: _ :: _), _, _, h => by simp [formed] at h
  | .tuple (.str _ :: .tuple _ :: _ :: _), _, _, h => by simp [formed] at h
theorem formedL_tl : ∀ (ds : List PyData) (w : Str) (l : List Int), formedL ds w = some l → tlL ds = l
  | [], w, l, h => by
    rw [formedL_nil] at h
    cases h
    exact tlL_nil
  | p :: r, w, l, h => by
    rw [formedL_cons] at h
    cases e1 : formed p w with
    | none => rw [e1] at h; cases h
    | some a =>
      cases e2 : formedL r w with
      | none => rw [e1, e2] at h; cases h
      | some b =>
        rw [e1, e2] at h
        cases h
        rw [tlL_cons, formed_tl p w a e1, formedL_tl r w b e2]
end
theorem formedL_mem {w : Str} : ∀ {ds : List PyData} {l : List Int}, formedL ds w = some l → ∀ p ∈ ds, formed p w = some (tl p)
  | q :: r, l, h, p, hp => by
    rw [formedL_cons] at h
    cases e1 : formed q w with
    | none => rw [e1] at h; cases h
    | some a =>
      cases e2 : formedL r w with
      | none => rw [e1, e2] at h; cases h
      | some b =>
        rcases List.mem_cons.mp hp with z | z
        · rw [z, e1, formed_tl q w a e1]
        · exact formedL_mem e2 p z
theorem formedL_ok {w : Str} : ∀ {ds : List PyData}, (∀ p ∈ ds, formed p w = some (tl p)) → formedL ds w = some (tlL ds)
  | [], _ => by rw [formedL_nil, tlL_nil]
  | q :: r, h => by
    rw [formedL_cons, h q List.mem_cons_self, formedL_ok fun p hp => h p (List.mem_cons_of_mem _ hp), tlL_cons]
theorem tl_mem : ∀ {ds : List PyData} {p : PyData}, p ∈ ds → ∀ x ∈ tl p, x ∈ tlL ds
  | q :: r, p, hp, x, hx => by
    rw [tlL_cons, List.mem_append]
    rcases List.mem_cons.mp hp with z | z
    · rw [← z]; exact .inl hx
    · exact .inr (tl_mem z x hx)
/-- a part of two or more is longer than each of its parts -/
theorem tl_short {w : Str} : ∀ {ds : List PyData}, (∀ p ∈ ds, formed p w = some (tl p)) → ∀ p ∈ ds, (tl p).length + ds.length ≤ (tlL ds).length + 1
  | q :: r, h, p, hp => by
    have hq : 0 < (tl q).length := List.length_pos_iff.mpr (formed_ne q w _ (h q List.mem_cons_self))
    have hr := formedL_len r w _ (formedL_ok fun p hp => h p (List.mem_cons_of_mem _ hp))
    rw [tlL_cons, List.length_append, List.length_cons]
    rcases List.mem_cons.mp hp with z | z
    · rw [z]; omega
    · have := tl_short (fun p hp => h p (List.mem_cons_of_mem _ hp)) p z
      omega
mutual
/-- the least part that contains both -/
def jd (a b : Int) : PyData → PyData
  | .tuple [w, .tuple ps] => (jdL a b ps).getD (.tuple [w, .tuple ps])
  | d => d
termination_by d => sizeOf d
def jdL (a b : Int) : List PyData → Option PyData
  | [] => none
  | p :: r => if a ∈ tl p ∧ b ∈ tl p then some (jd a b p) else jdL a b r
termination_by ds => sizeOf ds
end
theorem jd_part (a b : Int) (w : PyData) (ps : List PyData) : jd a b (.tuple [w, .tuple ps]) = (jdL a b ps).getD (.tuple [w, .tuple ps]) := by rw [jd]
theorem jdL_nil (a b : Int) : jdL a b [] = none := by rw [jdL]
theorem jdL_cons (a b : Int) (p : PyData) (r : List PyData) : jdL a b (p :: r) = if a ∈ tl p ∧ b ∈ tl p then some (jd a b p) else jdL a b r := by rw [jdL]
mutual
/-- all parts: the word and the tasks -/
def lp : PyData → List (Str × List Int)
  | .tuple [.str w, .tuple ps] => (w, tlL ps) :: lpL ps
  | _ => []
termination_by d => sizeOf d
def lpL : List PyData → List (Str × List Int)
  | [] => []
  | p :: r => lp p ++ lpL r
termination_by ds => sizeOf ds
end
theorem lp_int (i : Int) : lp (.int i) = [] := by simp [lp]
theorem lp_part (w : Str) (ps : List PyData) : lp (.tuple [.str w, .tuple ps]) = (w, tlL ps) :: lpL ps := by rw [lp]
theorem lpL_nil : lpL [] = [] := by rw [lpL]
theorem lpL_cons (p : PyData) (r : List PyData) : lpL (p :: r) = lp p ++ lpL r := by rw [lpL]
def has (a b : Int) (x : Str × List Int) : Bool := decide (a ∈ x.2 ∧ b ∈ x.2)
/-- what the law gathers for two tasks: the joint stands last and is the shortest -/
structure Good (a b : Int) (e : PyData) (fl : List (Str × List Int)) (n : Nat) : Prop where
  ex : ∃ (we : Str) (pe : List PyData) (init : List (Str × List Int)) (o : Str), e = .tuple [.str we, .tuple pe] ∧ wd we = true ∧ formed e o = some (tlL pe) ∧ a ∈ tlL pe ∧ b ∈ tlL pe ∧ fl = init ++ [(we, tlL pe)] ∧ (∀ x ∈ init, (tlL pe).length < x.2.length) ∧ (tlL pe).length ≤ n
mutual
theorem lp_sub : ∀ (d : PyData) (o : Str) (l : List Int), formed d o = some l → ∀ x ∈ lp d, ∀ t ∈ x.2, t ∈ l
  | .int i, o, l, h, x, hx => by
    rw [lp_int] at hx
    cases hx
  | .tuple [.str w, .tuple ps], o, l, h, x, hx => by
    rw [formed_parts] at h
    split at h
    · rw [lp_part] at hx
      rcases List.mem_cons.mp hx with z | z
      · rw [z, formedL_tl ps w l h]
        exact fun t ht => ht
      · exact lpL_sub ps w l h x z
    · cases h
  | .none, _, _, h, _, _ => by simp [formed] at h
  | .bool _, _, _, h, _, _ => by simp [formed] at h
  | .str _, _, _, h, _, _ => by simp [formed] at h
  | .list _, _, _, h, _, _ => by simp [formed] at h
  | .dict _, _, _, h, _, _ => by simp [formed] at h
  | .tuple [], _, _, h, _, _ => by simp [formed] at h
  | .tuple [_], _, _, h, _, _ => by simp [formed] at h
  | .tuple (.str _ :: .none :: _), _, _, h, _, _ => by simp [formed] at h
  | .tuple (.str _ :: .bool _ :: _), _, _, h, _, _ => by simp [formed] at h
  | .tuple (.str _ :: .int _ :: _), _, _, h, _, _ => by simp [formed] at h
  | .tuple (.str _ :: .str _ :: _), _, _, h, _, _ => by simp [formed] at h
  | .tuple (.str _ :: .list _ :: _), _, _, h, _, _ => by simp [formed] at h
  | .tuple (.str _ :: .dict _ :: _), _, _, h, _, _ => by simp [formed] at h
  | .tuple (.none :: _ :: _), _, _, h, _, _ => by simp [formed] at h
  | .tuple (.bool _ :: _ :: _), _, _, h, _, _ => by simp [formed] at h
  | .tuple (.int _ :: _ :: _), _, _, h, _, _ => by simp [formed] at h
  | .tuple (.tuple _ :: _ :: _), _, _, h, _, _ => by simp [formed] at h
  | .tuple (.list _ :: _ :: _), _, _, h, _, _ => by simp [formed] at h
  | .tuple (.dict _ :: _ :: _), _, _, h, _, _ => by simp [formed] at h
  | .tuple (.str _ :: .tuple _ :: _ :: _), _, _, h, _, _ => by simp [formed] at h
theorem lpL_sub : ∀ (ds : List PyData) (w : Str) (l : List Int), formedL ds w = some l → ∀ x ∈ lpL ds, ∀ t ∈ x.2, t ∈ l
  | [], w, l, h, x, hx => by
    rw [lpL_nil] at hx
    cases hx
  | p :: r, w, l, h, x, hx => by
    rw [formedL_cons] at h
    cases e1 : formed p w with
    | none => rw [e1] at h; cases h
    | some a =>
      cases e2 : formedL r w with
      | none => rw [e1, e2] at h; cases h
      | some b =>
        rw [e1, e2] at h
        cases h
        rw [lpL_cons] at hx
        intro t ht
        rw [List.mem_append]
        rcases List.mem_append.mp hx with z | z
        · exact .inl (lp_sub p w a e1 x z t ht)
        · exact .inr (lpL_sub r w b e2 x z t ht)
end
theorem lp_none {d : PyData} {o : Str} {l : List Int} {a b : Int} (h : formed d o = some l) (hn : ¬ (a ∈ l ∧ b ∈ l)) : (lp d).filter (has a b) = [] := by
  rw [List.filter_eq_nil_iff]
  intro x hx z
  have z := of_decide_eq_true z
  exact hn ⟨lp_sub d o l h x hx a z.1, lp_sub d o l h x hx b z.2⟩
theorem lpL_none {ds : List PyData} {o : Str} {l : List Int} {a b : Int} (h : formedL ds o = some l) (hn : ¬ (a ∈ l ∧ b ∈ l)) : (lpL ds).filter (has a b) = [] := by
  rw [List.filter_eq_nil_iff]
  intro x hx z
  have z := of_decide_eq_true z
  exact hn ⟨lpL_sub ds o l h x hx a z.1, lpL_sub ds o l h x hx b z.2⟩
end KJ

set_option Elab.async false
set_option linter.all false
set_option maxRecDepth 100000
set_option maxHeartbeats 1000000
namespace KJ
open PySem PySem.W L2 KM
mutual
theorem chain {a b : Int} (hab : a ≠ b) : ∀ (d : PyData) (o : Str) (l : List Int), formed d o = some l → l.Nodup → a ∈ l → b ∈ l → Good a b (jd a b d) ((lp d).filter (has a b)) l.length
  | .int i, o, l, h, hn, ha, hb => by
    rw [formed_int] at h
    cases h
    exact absurd ((List.mem_singleton.mp ha).trans (List.mem_singleton.mp hb).symm) hab
  | .tuple [.str w, .tuple ps], o, l, h, hn, ha, hb => by
    have hf := h
    rw [formed_parts] at h
    split at h
    · rename_i hc
      simp only [Bool.and_eq_true, Bool.not_eq_true', decide_eq_false_iff_not, decide_eq_true_eq] at hc
      have htl := formedL_tl ps w l h
      have hh : has a b (w, tlL ps) = true := decide_eq_true (by rw [htl]; exact ⟨ha, hb⟩)
      rw [lp_part, List.filter_cons_of_pos hh, jd_part]
      rcases chainL hab ps w l h hn with ⟨e1, e2⟩ | ⟨e, e1, p, hp, g⟩
      · rw [e1, e2]
        exact ⟨w, ps, [], o, rfl, hc.1.1, by rw [htl]; exact hf, by rw [htl]; exact ha, by rw [htl]; exact hb, rfl, (fun _ z => by cases z), (by rw [htl]; exact Nat.le_refl _)⟩
      · rw [e1]
        obtain ⟨we, pe, init, o', g1, g2, g3, g4, g5, g6, g7, g8⟩ := g.ex
        have hs := tl_short (formedL_mem h) p hp
        rw [htl] at hs ⊢
        refine ⟨we, pe, (w, l) :: init, o', g1, g2, g3, g4, g5, by rw [g6]; rfl, fun x hx => ?_, by have := hc.2; omega⟩
        rcases List.mem_cons.mp hx with z | z
        · rw [z]
          show (tlL pe).length < l.length
          have := hc.2
          omega
        · exact g7 x z
    · cases h
  | .none, _, _, h, _, _, _ => by simp [formed] at h
  | .bool _, _, _, h, _, _, _ => by simp [formed] at h
  | .str _, _, _, h, _, _, _ => by simp [formed] at h
  | .list _, _, _, h, _, _, _ => by simp [formed] at h
  | .dict _, _, _, h, _, _, _ => by simp [formed] at h
  | .tuple [], _, _, h, _, _, _ => by simp [formed] at h
  | .tuple [_], _, _, h, _, _, _ => by simp [formed] at h
  | .tuple (.str _ :: .none :: _), _, _, h, _, _, _ => by simp [formed] at h
  | .tuple (.str _ :: .bool _ :: _), _, _, h, _, _, _ => by simp [formed] at h
  | .tuple (.str _ :: .int _ :: _), _, _, h, _, _, _ => by simp [formed] at h
  | .tuple (.str _ :: .str _ :: _), _, _, h, _, _, _ => by simp [formed] at h
  | .tuple (.str _ :: .list _ :: _), _, _, h, _, _, _ => by simp [formed] at h
  | .tuple (.str _ :: .dict _ :: _), _, _, h, _, _, _ => by simp [formed] at h
  | .tuple (.none :: _ :: _), _, _, h, _, _, _ => by simp [formed] at h
  | .tuple (.bool _ :: _ :: _), _, _, h, _, _, _ => by simp [formed] at h
  | .tuple (.int _ :: _ :: _), _, _, h, _, _, _ => by simp [formed] at h
  | .tuple (.tuple _ :: _ :: _), _, _, h, _, _, _ => by simp [formed] at h
  | .tuple (.list _ :: _ :: _), _, _, h, _, _, _ => by simp [formed] at h
  | .tuple (.dict _ :: _ :: _), _, _, h, _, _, _ => by simp [formed] at h
  | .tuple (.str _ :: .tuple _ :: _ :: _), _, _, h, _, _, _ => by simp [formed] at h
theorem chainL {a b : Int} (hab : a ≠ b) : ∀ (ds : List PyData) (w : Str) (l : List Int), formedL ds w = some l → l.Nodup →
    (jdL a b ds = none ∧ (lpL ds).filter (has a b) = []) ∨ ∃ e, jdL a b ds = some e ∧ ∃ p ∈ ds, Good a b e ((lpL ds).filter (has a b)) (tl p).length
  | [], w, l, h, hn => .inl ⟨jdL_nil a b, by rw [lpL_nil]; rfl⟩
  | p :: r, w, l, h, hn => by
    rw [formedL_cons] at h
    cases e1 : formed p w with
    | none => rw [e1] at h; cases h
    | some x =>
      cases e2 : formedL r w with
      | none => rw [e1, e2] at h; cases h
      | some y =>
        rw [e1, e2] at h
        cases h
        obtain ⟨n1, n2, n3⟩ := List.nodup_append.mp hn
        have htl := formed_tl p w x e1
        rw [jdL_cons, lpL_cons, List.filter_append, htl]
        by_cases hc : a ∈ x ∧ b ∈ x
        · rw [if_pos hc, lpL_none e2 (fun z => n3 a hc.1 a z.1 rfl), List.append_nil]
          refine .inr ⟨_, rfl, p, List.mem_cons_self, ?_⟩
          rw [htl]
          exact chain hab p w x e1 n1 hc.1 hc.2
        · rw [if_neg hc, lp_none e1 hc, List.nil_append]
          rcases chainL hab r w y e2 n2 with z | ⟨e, z1, q, z2, z3⟩
          · exact .inl z
          · exact .inr ⟨e, z1, q, List.mem_cons_of_mem _ z2, z3⟩
end
/-- the ascending list -/
def srt (l : List Int) : List Int := l.mergeSort fun a b => decide (a ≤ b)
theorem srt_perm (l : List Int) : (srt l).Perm l := List.mergeSort_perm l _
theorem srt_sorted (l : List Int) : (srt l).Pairwise (· ≤ ·) := by
  have h := List.pairwise_mergeSort (le := fun a b : Int => decide (a ≤ b)) (fun a b c h1 h2 => by simp only [decide_eq_true_eq] at *; omega) (fun a b => by simp only [Bool.or_eq_true, decide_eq_true_eq]; omega) l
  exact h.imp fun z => of_decide_eq_true z
theorem srt_uniq {l l' : List Int} (p : l'.Perm l) (s : l'.Pairwise (· ≤ ·)) : l' = srt l :=
  List.Perm.eq_of_pairwise (fun _ _ _ _ a b => Int.le_antisymm a b) s (srt_sorted l) (p.trans (srt_perm l).symm)
theorem srt_len (l : List Int) : (srt l).length = l.length := (srt_perm l).length_eq
/-- what the law's list holds for a part -/
def dOf (x : Str × List Int) : PyData := .tuple [.int (x.2.length : Int), .str x.1, .tuple ((srt x.2).map PyData.int)]
theorem min_good {a b : Int} {e : PyData} {fl : List (Str × List Int)} {n : Nat} (g : Good a b e fl n) : ∃ (we : Str) (pe : List PyData) (o : Str) (x : PyData) (xs : List PyData), e = .tuple [.str we, .tuple pe] ∧ wd we = true ∧ formed e o = some (tlL pe) ∧ a ∈ tlL pe ∧ b ∈ tlL pe ∧ (tlL pe).length ≤ n ∧
    fl.map dOf = x :: xs ∧ minD x xs = dOf (we, tlL pe) := by
  obtain ⟨we, pe, init, o, g1, g2, g3, g4, g5, g6, g7, g8⟩ := g.ex
  have hm : fl.map dOf = init.map dOf ++ [dOf (we, tlL pe)] := by rw [g6, List.map_append]; rfl
  obtain ⟨x, xs, hx⟩ : ∃ x xs, init.map dOf ++ [dOf (we, tlL pe)] = x :: xs := by
    cases init.map dOf with
    | nil => exact ⟨_, _, rfl⟩
    | cons y r => exact ⟨_, _, rfl⟩
  refine ⟨we, pe, o, x, xs, g1, g2, g3, g4, g5, g8, hm.trans hx, minD_last (init.map dOf) _ (fun t ht => ?_) x xs hx.symm⟩
  obtain ⟨y, hy, rfl⟩ := List.mem_map.mp ht
  exact lt_heads (by have := g7 y hy; show ((tlL pe).length : Int) < (y.2.length : Int); omega)
theorem alike_dOf (fl : List (Str × List Int)) : AlikeAll (fl.map dOf) := by
  have kin : ∀ l m : List Int, alikeAll (l.map PyData.int) (m.map PyData.int) = true := by
    intro l
    induction l with
    | nil => intro m; simp [alikeAll]
    | cons i r ih =>
      intro m
      cases m with
      | nil => simp [alikeAll]
      | cons j t => simp [alikeAll, alike, ih]
  refine ⟨fun x hx y hy => ?_, fun x hx => ?_⟩
  · obtain ⟨p, _, rfl⟩ := List.mem_map.mp hx
    obtain ⟨q, _, rfl⟩ := List.mem_map.mp hy
    simp [dOf, alike, alikeAll, kin]
  · obtain ⟨p, _, rfl⟩ := List.mem_map.mp hx
    exact fun z => by cases z
theorem depth_ints (l : List Int) : PyData.depthAll (l.map PyData.int) ≤ 1 := by
  induction l with
  | nil => simp [PyData.depthAll]
  | cons x r ih => simp only [List.map_cons, PyData.depthAll, PyData.depth]; omega
theorem depth_dOf (fl : List (Str × List Int)) : PyData.depthAll (fl.map dOf) ≤ 5 := by
  induction fl with
  | nil => simp [PyData.depthAll]
  | cons x r ih =>
    have := depth_ints (srt x.2)
    simp only [List.map_cons, PyData.depthAll, dOf, PyData.depth]
    omega
/-- the joint's word and tasks, for the two exchanged, too -/
theorem good_swap {a b : Int} {d : PyData} {n m : Nat} (g : Good a b (jd a b d) ((lp d).filter (has a b)) n) (g' : Good b a (jd b a d) ((lp d).filter (has b a)) m) :
    ∃ (we : Str) (pe pe' : List PyData), jd a b d = .tuple [.str we, .tuple pe] ∧ jd b a d = .tuple [.str we, .tuple pe'] ∧ tlL pe' = tlL pe := by
  obtain ⟨we, pe, init, o, g1, g2, g3, g4, g5, g6, g7, g8⟩ := g.ex
  obtain ⟨we', pe', init', o', k1, k2, k3, k4, k5, k6, k7, k8⟩ := g'.ex
  have e : (lp d).filter (has a b) = (lp d).filter (has b a) := by
    refine List.filter_congr fun x _ => ?_
    unfold has
    rw [decide_eq_decide]
    exact And.comm
  rw [g6, k6] at e
  have e2 := congrArg List.getLast? e
  rw [List.getLast?_concat, List.getLast?_concat] at e2
  injection e2 with e2
  injection e2 with e3 e4
  exact ⟨we, pe, pe', g1, by rw [k1, e3], e4.symm⟩
end KJ

set_option Elab.async false
set_option linter.all false
set_option maxRecDepth 100000
set_option maxHeartbeats 1000000
namespace K2
open PySem L2 GxR GA KD KR KM KJ
abbrev sRequire : Stmt := top 5
abbrev sRelation : Stmt := top 15
abbrev sChecked : Stmt := top 18
abbrev sTwo : Stmt := top 19
abbrev sTasksIn : Stmt := top 20
abbrev sJointIn : Stmt := top 22
abbrev sRelationIn : Stmt := top 23
abbrev sAll : Stmt := top 34
abbrev sLaw : Stmt := top 38
/-- a walk through a tuple, whatever each turn does -/
theorem thru_tup {K : PySem.W.Frag} {a : Addr} {xs : List V} {Bd : V → Hp → (Hp → Prop) → Prop} {Qd : Hp → Prop} {Hs : Hp} (Pv : Nat → Hp → Prop) (start : Pv 0 Hs) (src : ∀ i H, Pv i H → SqT K H a xs)
    (turn : ∀ i x H, xs[i]? = some x → Pv i H → Bd x H (Pv (i + 1))) (fin : ∀ H, Pv xs.length H → Qd H) :
    ∃ W : Nat → Nat → Hp → Prop, (∃ m, W 0 m Hs) ∧ ∀ i m H, W i m H → ((Itt K a).stop i H ∧ Qd H) ∨ ((Itt K a).go i H ∧ ∃ Nx : Hp → Prop, (∀ H', Nx H' → ∃ m', m' < m ∧ W (i + 1) m' H') ∧ ∀ x H', (Itt K a).yld i H x H' → Bd x H' Nx) := by
  refine ⟨fun i m H => i + m = xs.length ∧ Pv i H, ⟨xs.length, Nat.zero_add _, start⟩, fun i m H w => ?_⟩
  have s := src i H w.2
  rcases Nat.eq_zero_or_pos m with z | z
  · have e : i = xs.length := by have := w.1; omega
    exact .inl ⟨⟨xs, s, by omega⟩, fin H (e ▸ w.2)⟩
  · have hi : i < xs.length := by have := w.1; omega
    refine .inr ⟨⟨xs, xs[i], s, List.getElem?_eq_getElem hi⟩, Pv (i + 1), fun H' p => ⟨m - 1, by omega, by have := w.1; omega, p⟩, fun x H' y => ?_⟩
    rw [y.1]
    exact turn i x H (y.2 xs s) w.2
/-- the same through a list -/
theorem thru_lst {K : PySem.W.Frag} {a : Addr} {xs : List V} {Bd : V → Hp → (Hp → Prop) → Prop} {Qd : Hp → Prop} {Hs : Hp} (Pv : Nat → Hp → Prop) (start : Pv 0 Hs) (src : ∀ i H, Pv i H → SqL K H a xs)
    (turn : ∀ i x H, xs[i]? = some x → Pv i H → Bd x H (Pv (i + 1))) (fin : ∀ H, Pv xs.length H → Qd H) :
    ∃ W : Nat → Nat → Hp → Prop, (∃ m, W 0 m Hs) ∧ ∀ i m H, W i m H → ((Itl K a).stop i H ∧ Qd H) ∨ ((Itl K a).go i H ∧ ∃ Nx : Hp → Prop, (∀ H', Nx H' → ∃ m', m' < m ∧ W (i + 1) m' H') ∧ ∀ x H', (Itl K a).yld i H x H' → Bd x H' Nx) := by
  refine ⟨fun i m H => i + m = xs.length ∧ Pv i H, ⟨xs.length, Nat.zero_add _, start⟩, fun i m H w => ?_⟩
  have s := src i H w.2
  rcases Nat.eq_zero_or_pos m with z | z
  · have e : i = xs.length := by have := w.1; omega
    exact .inl ⟨⟨xs, s, by omega⟩, fin H (e ▸ w.2)⟩
  · have hi : i < xs.length := by have := w.1; omega
    refine .inr ⟨⟨xs, xs[i], s, List.getElem?_eq_getElem hi⟩, Pv (i + 1), fun H' p => ⟨m - 1, by omega, by have := w.1; omega, p⟩, fun x H' y => ?_⟩
    rw [y.1]
    exact turn i x H (y.2 xs s) w.2
def spReq : Sp := fun vs H Q _ => ∃ name : Str, vs = [.bl true, .str name] ∧ Q .non H
def spChecked (PT : Addr) : Sp := fun vs H Q _ => ∃ (v : V) (d : PyData), vs = [v] ∧ At MN H v d ∧ SeqAt.shaped d = true ∧ TabG H PT ∧ 0 < vdt d ∧ ∀ H', Kp MN H H' → Q (.int (vdt d : Nat)) H'
def spTwo (PT : Addr) : Sp := fun vs H Q _ => ∃ (v : V) (d : PyData) (a b : Int), vs = [v, .int a, .int b] ∧ At MN H v d ∧ SeqAt.shaped d = true ∧ TabG H PT ∧ 0 ≤ a ∧ a < (vdt d : Nat) ∧ 0 ≤ b ∧ b < (vdt d : Nat) ∧ a ≠ b ∧ ∀ H', Kp MN H H' → Q .non H'
/-- a list of the tasks, none of the old ones -/
def spTasks (n : Nat) : Sp := fun vs H Q _ => ∃ (v : V) (d : PyData) (o : Str), vs = [v] ∧ At MN H v d ∧ formed d o = some (tl d) ∧ d.depth < n ∧ (tl d).length ≤ 60 ∧
  ∀ a H', (∀ zs, H a ≠ some (.lst zs)) → Kp MN H H' → H' a = some (.lst ((tl d).map V.int)) → Q (.ref a) H'
section
variable {P : Program} {w : World} {K : PySem.W.Frag} {mg : Str → Option Value} {base : Heap}
theorem ps_not {X : Cx} {st : Stmt} : PS X st (fun _ _ _ => False) := ⟨fun _ _ _ _ _ _ h => h.elim⟩
theorem scRequire : FnScope ["holds", "name"] ["holds", "name"] (defScope sRequire) := ⟨rfl, rfl, rfl, by decide +kernel, rfl, by decide +kernel, by decide +kernel⟩
theorem ok_require {f : Addr} {fd : FuncData} (F : Fun K "require" "require" sRequire f fd) : FnOk P w K mg base CX0 1 f fd ["holds", "name"] spReq := by
  refine F.ok scRequire (fun vs H Q E h => ?_) (fun cdv A outer s H vs Q E hr h => ?_)
  · obtain ⟨nm, rfl, _⟩ := h
    rfl
  obtain ⟨nm, rfl, q⟩ := h
  refine ⟨_, pss_one (ps_if (pt_not (pt_val (pv 0))) (pss_one ps_not) pss_nil), ?_⟩
  refine ⟨_, rfl, _, rfl, ?_⟩
  exact iteF q
theorem scChecked : FnScope ["plan", "size"] ["plan"] (defScope sChecked) := ⟨rfl, rfl, rfl, by decide +kernel, rfl, by decide +kernel, by decide +kernel⟩
theorem ok_checked {f g r PT : Addr} {fd gd rd : FuncData} (F : Fun K "checked_size" "checked_size" sChecked f fd)
    (G : FnOk P w K mg base CX0 6 g gd ["value"] (spSizeOf PT)) (bG : Binds K gd ["value"] []) (kG : PySem.W.keepIn K (.ref g) = true) (mG : mg "size_of" = some (.ref g))
    (R : FnOk P w K mg base CX0 1 r rd ["holds", "name"] spReq) (bR : Binds K rd ["holds", "name"] []) (kR : PySem.W.keepIn K (.ref r) = true) (mR : mg "require" = some (.ref r)) :
    FnOk P w K mg base CX0 7 f fd ["plan"] (spChecked PT) := by
  refine F.ok scChecked (fun vs H Q E h => ?_) (fun cdv A outer s H vs Q E hr h => ?_)
  · obtain ⟨v, d, rfl, _⟩ := h
    rfl
  obtain ⟨v, d, rfl, hA, hS, hT, hv, q⟩ := h
  refine ⟨_, pss_cons (ps_set (i := 1) scChecked.nd rfl (Or.inl rfl) (pe_call G hr rfl mG kG bG .nil pass0 (pa_cons (pv 0) pa_nil)))
    (pss_cons (ps_expr (pe_call R (hr.mono (by decide)) rfl mR kR bR .nil pass0 (pa_cons (pe_cmpR op_gt (pv 1) pe_int (nomark _)) (pa_cons pe_str pa_nil))))
    (pss_one (ps_ret (pv 1)))), ?_⟩
  refine ⟨_, rfl, v, d, rfl, hA, hS, hT, fun H1 k1 => ?_⟩
  refine ⟨_, rfl, _, _, rfl, rfl, "plan", ?_, ?_⟩
  · show [V.bl (decide ((0 : Int) < ((vdt d : Nat) : Int))), V.str "plan"] = _
    rw [decide_eq_true (show (0 : Int) < ((vdt d : Nat) : Int) by omega)]
  · exact ⟨_, rfl, q H1 k1⟩
theorem scTwo : FnScope ["plan", "first", "second", "size"] ["plan", "first", "second"] (defScope sTwo) := ⟨rfl, rfl, rfl, by decide +kernel, rfl, by decide +kernel, by decide +kernel⟩
theorem ok_two {f g r t PT : Addr} {fd gd rd td : FuncData} (F : Fun K "check_two_tasks" "check_two_tasks" sTwo f fd)
    (G : FnOk P w K mg base CX0 7 g gd ["plan"] (spChecked PT)) (bG : Binds K gd ["plan"] []) (kG : PySem.W.keepIn K (.ref g) = true) (mG : mg "checked_size" = some (.ref g))
    (T : FnOk P w K mg base CX0 2 t td ["value", "many"] spIsTask) (bT : Binds K td ["value", "many"] []) (kT : PySem.W.keepIn K (.ref t) = true) (mT : mg "is_index" = some (.ref t))
    (R : FnOk P w K mg base CX0 1 r rd ["holds", "name"] spReq) (bR : Binds K rd ["holds", "name"] []) (kR : PySem.W.keepIn K (.ref r) = true) (mR : mg "require" = some (.ref r)) :
    FnOk P w K mg base CX0 8 f fd ["plan", "first", "second"] (spTwo PT) := by
  refine F.ok scTwo (fun vs H Q E h => ?_) (fun cdv A outer s H vs Q E hr h => ?_)
  · obtain ⟨v, d, a, b, rfl, _⟩ := h
    rfl
  obtain ⟨v, d, a, b, rfl, hA, hS, hT, ha0, ha1, hb0, hb1, hab, q⟩ := h
  have r1 : Room 1 _ := hr.mono (by decide)
  have r2 : Room 2 _ := hr.mono (by decide)
  refine ⟨_, pss_cons (ps_set (i := 3) scTwo.nd rfl (Or.inl rfl) (pe_call G hr rfl mG kG bG .nil pass0 (pa_cons (pv 0) pa_nil)))
    (pss_cons (ps_expr (pe_call R r1 rfl mR kR bR .nil pass0 (pa_cons (pe_call T r2 rfl mT kT bT .nil pass0 (pa_cons (pv 1) (pa_cons (pv 3) pa_nil))) (pa_cons pe_str pa_nil))))
    (pss_one (ps_expr (pe_call R r1 rfl mR kR bR .nil pass0 (pa_cons (pe_and (pe_call T r2 rfl mT kT bT .nil pass0 (pa_cons (pv 2) (pa_cons (pv 3) pa_nil))) (pe_one (pe_cmpR op_ne (pv 2) (pv 1) (nomark _)))) (pa_cons pe_str pa_nil)))))), ?_⟩
  have e1 : isTk (vdt d : Nat) (.int a) = true := decide_eq_true ⟨ha0, ha1⟩
  have e2 : isTk (vdt d : Nat) (.int b) = true := decide_eq_true ⟨hb0, hb1⟩
  refine ⟨_, rfl, v, d, rfl, hA, hS, hT, by omega, fun H1 k1 => ?_⟩
  refine ⟨_, rfl, _, rfl, _, .int a, _, rfl, .int a, ?_⟩
  rw [e1]
  refine ⟨_, rfl, ?_⟩
  refine ⟨_, rfl, _, rfl, _, .int b, _, rfl, .int b, ?_⟩
  rw [e2]
  refine ⟨_, rfl, ?_⟩
  refine iteT ?_
  refine ⟨_, rfl, _, rfl, rfl, "second", ?_, q H1 k1⟩
  have e3 : (!decide (V.int b = V.int a)) = true := by
    rw [Bool.not_eq_true', decide_eq_false_iff_not]
    exact fun z => hab (by injection z with z; exact z.symm)
  rw [e3]
  rfl
theorem tlL_app : ∀ ds es : List PyData, tlL (ds ++ es) = tlL ds ++ tlL es
  | [], es => by rw [tlL_nil]; rfl
  | d :: r, es => by rw [List.cons_append, tlL_cons, tlL_cons, tlL_app r es, List.append_assoc]
theorem tlL_succ {ds : List PyData} {i : Nat} {p : PyData} (h : ds[i]? = some p) : tlL (ds.take (i + 1)) = tlL (ds.take i) ++ tl p := by
  rw [List.take_succ, h]
  show tlL (ds.take i ++ [p]) = _
  rw [tlL_app, tlL_cons, tlL_nil, List.append_nil]
theorem tl_le : ∀ {ds : List PyData} {p : PyData}, p ∈ ds → (tl p).length ≤ (tlL ds).length
  | q :: r, p, hp => by
    rw [tlL_cons, List.length_append]
    rcases List.mem_cons.mp hp with z | z
    · rw [z]; omega
    · have := tl_le z
      omega
theorem tlL_take_le (ds : List PyData) (i : Nat) : (tlL (ds.take i)).length ≤ (tlL ds).length := by
  have h : tlL ds = tlL (ds.take i) ++ tlL (ds.drop i) := by rw [← tlL_app, List.take_append_drop]
  rw [h, List.length_append]
  omega
theorem depth_part {w : PyData} {ps : List PyData} {p : PyData} {n : Nat} (h : (PyData.tuple [w, .tuple ps]).depth < n + 1) (hp : p ∈ ps) : p.depth < n := by
  have := depth_mem hp
  simp only [PyData.depth, PyData.depthAll] at h
  omega
/-- a plan's two cases -/
theorem plan_cases {d : PyData} {o : Str} (h : formed d o = some (tl d)) : (∃ i, d = .int i) ∨ ∃ w ps, d = .tuple [.str w, .tuple ps] ∧ wd w = true ∧ w ≠ o ∧ 2 ≤ ps.length ∧ formedL ps w = some (tlL ps) ∧ ∀ p ∈ ps, formed p w = some (tl p) := by
  cases d with
  | int i => exact .inl ⟨i, rfl⟩
  | tuple ds =>
    match ds, h with
    | [.str w, .tuple ps], h =>
      have h' := h
      rw [formed_parts] at h
      split at h
      · rename_i hc
        simp only [Bool.and_eq_true, Bool.not_eq_true', decide_eq_false_iff_not, decide_eq_true_eq] at hc
        rw [tl_part] at h
        exact .inr ⟨w, ps, rfl, hc.1.1, hc.1.2, hc.2, h, formedL_mem h⟩
      · cases h
    | [], h => simp [formed] at h
    | [_], h => simp [formed] at h
    | .str _ :: .none :: _, h => simp [formed] at h
    | .str _ :: .bool _ :: _, h => simp [formed] at h
    | .str _ :: .int _ :: _, h => simp [formed] at h
    | .str _ :: .str _ :: _, h => simp [formed] at h
    | .str _ :: .list _ :: _, h => simp [formed] at h
    | .str _ :: .dict _ :: _, h => simp [formed] at h
    | .none :: _ :: _, h => simp [formed] at h
    | .bool _ :: _ :: _, h => simp [formed] at h
    | .int _ :: _ :: _, h => simp [formed] at h
    | .tuple _ :: _ :: _, h => simp [formed] at h
    | .list _ :: _ :: _, h => simp [formed] at h
    | .dict _ :: _ :: _, h => simp [formed] at h
    | .str _ :: .tuple _ :: _ :: _, h => simp [formed] at h
  | _ => simp [formed] at h
/-- where a part stands -/
theorem At.parts {M : Addr → Prop} {H : Hp} {v : V} {w : Str} {ps : List PyData} (h : At M H v (.tuple [.str w, .tuple ps])) : ∃ (a a2 : Addr) (xs : List V), v = .ref a ∧ H a = some (.tup [.str w, .ref a2]) ∧ H a2 = some (.tup xs) ∧ AtL M H xs ps := by
  obtain ⟨a, xs, rfl, hx, hall⟩ := h.tup_of
  cases hall with
  | cons h1 r =>
    cases r with
    | cons h2 r2 =>
      cases r2
      cases h1.str_of
      obtain ⟨a2, xs2, rfl, hx2, hall2⟩ := h2.tup_of
      exact ⟨a, a2, xs2, rfl, hx, hx2, hall2⟩
theorem scTasksIn : FnScope ["plan", "piece", "task"] ["plan"] (defScope sTasksIn) := ⟨rfl, rfl, rfl, by decide +kernel, rfl, by decide +kernel, by decide +kernel⟩
theorem ok_tasksIn {n : Nat} {f : Addr} {fd : FuncData} (F : Fun K "tasks_in" "tasks_in" sTasksIn f fd) (B : Bl K mg)
    (R : FnOk P w K mg base CX0 (n + 1) f fd ["plan"] (spTasks n)) (bF : Binds K fd ["plan"] []) (mF : mg "tasks_in" = some (.ref f)) : FnOk P w K mg base CX0 (n + 2) f fd ["plan"] (spTasks (n + 1)) := by
  refine F.ok scTasksIn (fun vs H Q E h => ?_) (fun cdv A outer s H vs Q E hr h => ?_)
  · obtain ⟨v, d, o, rfl, _⟩ := h
    rfl
  obtain ⟨v, d, o, rfl, hA, hf, hd, h60, q⟩ := h
  refine ⟨_, pss_cons (ps_if (pt_val (pe_callB call_isi rfl B.isinstance (by decide +kernel) (pa_cons (pv 0) (pa_cons (pe_bltn rfl B.int (by decide +kernel) (v := .ty "int") rfl) pa_nil)))) (pss_one (ps_ret (pe_lst (pa_cons (pv 0) pa_nil)))) pss_nil)
    (pss_one (ps_ret (pe_lc2 (own := [("piece", 1), ("task", 2)]) (vs1 := [2]) (g := gName 1) (tt := tYes) (g1 := gName 2) (tt1 := tYes) (te := tVar 2) (wi1 := iList K (tCall (spTasks n) [] E0 (tCons (tVar 1) tNil))) rfl scTasksIn.nd (pi_tup (pe_ix ix_tup (pv 0) pe_int (fun _ _ => rfl)))
      (blkOk_by (own := [("piece", 1), ("task", 2)]) (N := ["plan", "piece", "task"]) (sc := defScope sTasksIn) (by decide +kernel)) (by decide) (fun _ _ _ _ _ => pg_name (i := 1) scTasksIn.nd rfl (Or.inl rfl)) (fun _ _ _ _ _ => pts_nil)
      (fun _ _ _ _ _ => pi_list (pe_call R hr rfl mF F.kp bF .nil pass0 (pa_cons (pv 1) pa_nil))) (fun _ _ _ _ _ => pg_name (i := 2) scTasksIn.nd rfl (Or.inl rfl)) (fun _ _ _ _ _ => pts_nil) (fun _ _ _ _ _ => pv 2)))), ?_⟩
  refine ⟨_, rfl, _, _, _, _, _, rfl, .ty _, hA.ty, kit_int d, _, rfl, ?_⟩
  rcases plan_cases hf with ⟨i, rfl⟩ | ⟨wo, ps, rfl, hwd, hwo, h2, hfl, hfm⟩
  · cases hA.int_of
    refine iteT ?_
    refine ⟨_, rfl, (by show 1 ≤ sizeLine; decide), fun p hp => q p _ (fun zs z => by rw [hp] at z; cases z) (Kp.new hp) (by rw [upd_same, tl_int]; rfl)⟩
  refine iteF ?_
  obtain ⟨a, a2, xs, rfl, hx, hx2, hall⟩ := At.parts hA
  rw [tl_part] at h60 q
  refine ⟨_, rfl, _, _, _, _, rfl, rfl, SqT.of hx, atI_nat (j := 1) rfl, a2, rfl, ⟨_, SqT.of hx2⟩, fun D hD => ?_⟩
  refine thru_tup (K := K) (a := a2) (xs := xs) (fun i H' => Kp MN H H' ∧ H' D = some (.lst ((tlL (ps.take i)).map V.int))) ⟨Kp.new hD, by rw [upd_same, List.take_zero, tlL_nil]; rfl⟩ (fun i H' p => SqT.of (p.1.tup _ _ hx2)) (fun i x H' hi p => ?_) (fun H' p => ?_)
  · obtain ⟨d', hd', ha'⟩ := hall.get hi
    have hm := List.mem_of_getElem? hd'
    have hsuc := tlL_succ hd'
    have hle := tlL_take_le ps (i + 1)
    refine ⟨rfl, ?_⟩
    dsimp only [tYes]
    rw [if_pos rfl]
    refine ⟨_, rfl, x, d', wo, rfl, ha'.kp p.1, hfm d' hm, depth_part hd hm, Nat.le_trans (tl_le hm) h60, fun b H5 hb k5 e5 => ⟨b, rfl, ⟨_, SqL.of e5⟩, ?_⟩⟩
    have nb : b ≠ D := fun z => hb _ (by rw [z]; exact p.2)
    have e5D := k5.lst D _ (fun z => z) p.2
    refine thru_lst (K := K) (a := b) (xs := (tl d').map V.int) (fun j H6 => Kp MN H H6 ∧ H6 b = some (.lst ((tl d').map V.int)) ∧ H6 D = some (.lst ((tlL (ps.take i) ++ (tl d').take j).map V.int)))
      ⟨p.1.trans k5, e5, by rw [List.take_zero, List.append_nil]; exact e5D⟩ (fun j H6 p6 => SqL.of p6.2.1) (fun j y H6 hj p6 => ?_) (fun H6 p6 => ?_)
    · obtain ⟨k6, e6, f6⟩ := p6
      refine ⟨rfl, ?_⟩
      rw [if_pos rfl]
      rw [List.getElem?_map] at hj
      obtain ⟨t, ht, rfl⟩ := Option.map_eq_some_iff.mp hj
      have hjl := (List.getElem?_eq_some_iff.mp ht).1
      refine ⟨_, rfl, _, f6, ?_, k6.putNew hD f6, by rw [upd_ne nb]; exact e6, ?_⟩
      · rw [hsuc, List.length_append] at hle
        rw [List.length_map, List.length_append, List.length_take]
        exact small1000 (by omega)
      · rw [upd_same, List.take_succ, ht]
        simp
    · obtain ⟨k6, e6, f6⟩ := p6
      refine ⟨k6, ?_⟩
      rw [List.length_map, List.take_length] at f6
      rw [hsuc]
      exact f6
  · obtain ⟨k6, f6⟩ := p
    rw [hall.length, List.take_length] at f6
    exact q D H' (fun zs z => by rw [hD] at z; cases z) k6 f6
theorem oks_tasksIn {f : Addr} {fd : FuncData} (F : Fun K "tasks_in" "tasks_in" sTasksIn f fd) (B : Bl K mg) (bF : Binds K fd ["plan"] []) (mF : mg "tasks_in" = some (.ref f)) : ∀ n : Nat, FnOk P w K mg base CX0 (n + 1) f fd ["plan"] (spTasks n)
  | 0 => never_ok fun vs H Q E h => by
    obtain ⟨_, _, _, _, _, _, h, _⟩ := h
    exact absurd h (Nat.not_lt_zero _)
  | n + 1 => ok_tasksIn F B (oks_tasksIn F B bF mF n) bF mF
theorem scAll : FnScope ["plan", "found", "part"] ["plan"] (defScope sAll) := ⟨rfl, rfl, rfl, by decide +kernel, rfl, by decide +kernel, by decide +kernel⟩
theorem ok_all {n : Nat} {f : Addr} {fd : FuncData} (F : Fun K "_law_all" "_law_all" sAll f fd) (B : Bl K mg)
    (R : FnOk P w K mg base CX0 (n + 1) f fd ["plan"] (spTasks n)) (bF : Binds K fd ["plan"] []) (mF : mg "_law_all" = some (.ref f)) : FnOk P w K mg base CX0 (n + 2) f fd ["plan"] (spTasks (n + 1)) := by
  refine F.ok scAll (fun vs H Q E h => ?_) (fun cdv A outer s H vs Q E hr h => ?_)
  · obtain ⟨v, d, o, rfl, _⟩ := h
    rfl
  obtain ⟨v, d, o, rfl, hA, hf, hd, h60, q⟩ := h
  refine ⟨_, pss_cons (ps_if (pt_val (pe_callB call_isi rfl B.isinstance (by decide +kernel) (pa_cons (pv 0) (pa_cons (pe_bltn rfl B.int (by decide +kernel) (v := .ty "int") rfl) pa_nil)))) (pss_one (ps_ret (pe_lst (pa_cons (pv 0) pa_nil)))) pss_nil)
    (pss_cons (ps_set (i := 1) scAll.nd rfl (Or.inl rfl) (pe_lst pa_nil))
    (pss_cons (ps_for PassesOwn.never rfl (pi_tup (pe_ix ix_tup (pv 0) pe_int (fun _ _ => rfl))) (pg_name (i := 2) scAll.nd rfl (Or.inl rfl))
      (pss_one (ps_expr (pe_bm PySem.F.plainAttrs_list PySem.F.slot_list_extend PySem.F.type_list_extend mt_extend (pv 1) (pa_cons (pe_call R hr rfl mF F.kp bF .nil pass0 (pa_cons (pv 2) pa_nil)) pa_nil)))))
    (pss_one (ps_ret (pv 1))))), ?_⟩
  refine ⟨_, rfl, _, _, _, _, _, rfl, .ty _, hA.ty, kit_int d, _, rfl, ?_⟩
  rcases plan_cases hf with ⟨i, rfl⟩ | ⟨wo, ps, rfl, hwd, hwo, h2, hfl, hfm⟩
  · cases hA.int_of
    refine iteT ?_
    refine ⟨_, rfl, (by show 1 ≤ sizeLine; decide), fun p hp => q p _ (fun zs z => by rw [hp] at z; cases z) (Kp.new hp) (by rw [upd_same, tl_int]; rfl)⟩
  refine iteF ?_
  obtain ⟨a, a2, xs, rfl, hx, hx2, hall⟩ := At.parts hA
  rw [tl_part] at h60 q
  refine ⟨(by show 0 ≤ sizeLine; decide), fun D hD => ?_⟩
  have kD : Kp MN H (upd H D (.lst [])) := Kp.new hD
  refine ⟨_, rfl, _, _, _, _, rfl, rfl, SqT.of (kD.tup _ _ hx), atI_nat (j := 1) rfl, a2, rfl, ⟨_, SqT.of (kD.tup _ _ hx2)⟩, ?_⟩
  refine for_tup (K := K) (a := a2) (xs := xs) (fun i σ H' => ∃ x2, σ = [some (.ref a), some (.ref D), x2] ∧ Kp MN H H' ∧ H' D = some (.lst ((tlL (ps.take i)).map V.int))) ⟨none, rfl, kD, by rw [upd_same, List.take_zero, tlL_nil]; rfl⟩
    (fun i σ H' _ p => SqT.of (by obtain ⟨_, _, k, _⟩ := p; exact k.tup _ _ hx2)) (fun i x σ H' hi p => ?_) (fun σ H' p => ?_)
  · obtain ⟨x2, rfl, k, e⟩ := p
    obtain ⟨d', hd', ha'⟩ := hall.get hi
    have hm := List.mem_of_getElem? hd'
    have hsuc := tlL_succ hd'
    have hle := tlL_take_le ps (i + 1)
    refine ⟨_, rfl, .inl ⟨rfl, _, .inl (.inl e)⟩, _, rfl, x, d', wo, rfl, ha'.kp k, hfm d' hm, depth_part hd hm, Nat.le_trans (tl_le hm) h60, fun b H5 hb k5 e5 => ?_⟩
    have e5D := k5.lst D _ (fun z => z) e
    refine ⟨D, b, _, _, rfl, rfl, e5D, e5, ?_, _, rfl, (k.trans k5).putNew hD e5D, ?_⟩
    · rw [hsuc, List.length_append] at hle
      rw [List.length_map, List.length_map]
      exact Nat.le_of_lt (small1000 (by omega))
    · rw [upd_same, hsuc, List.map_append]
  · obtain ⟨x2, rfl, k, e⟩ := p
    rw [hall.length, List.take_length] at e
    exact ⟨_, rfl, q D H' (fun zs z => by rw [hD] at z; cases z) k e⟩
theorem oks_all {f : Addr} {fd : FuncData} (F : Fun K "_law_all" "_law_all" sAll f fd) (B : Bl K mg) (bF : Binds K fd ["plan"] []) (mF : mg "_law_all" = some (.ref f)) : ∀ n : Nat, FnOk P w K mg base CX0 (n + 1) f fd ["plan"] (spTasks n)
  | 0 => never_ok fun vs H Q E h => by
    obtain ⟨_, _, _, _, _, _, h, _⟩ := h
    exact absurd h (Nat.not_lt_zero _)
  | n + 1 => ok_all F B (oks_all F B bF mF n) bF mF
end
end K2

set_option Elab.async false
set_option linter.all false
set_option maxRecDepth 100000
set_option maxHeartbeats 1000000
namespace K2
open PySem L2 GxR GA KD KR KM KJ
theorem any_ints (l : List Int) (a : Int) : ((l.map PyData.int).any fun z => PyData.eqv z (.int a)) = decide (a ∈ l) := by
  induction l with
  | nil => simp
  | cons i r ih =>
    rw [List.map_cons, List.any_cons, ih, Bool.eq_iff_iff, Bool.or_eq_true, decide_eq_true_eq, decide_eq_true_eq, List.mem_cons]
    have e : (PyData.eqv (.int i) (.int a) = true) ↔ a = i := by
      show (i == a) = true ↔ a = i
      rw [beq_iff_eq]
      exact eq_comm
    rw [e]
theorem first_ix {a : Int} : ∀ {l : List Int}, a ∈ l → ∃ j : Nat, l[j]? = some a ∧ ∀ (m : Nat) (z : Int), m < j → l[m]? = some z → z ≠ a
  | x :: r, h => by
    by_cases e : x = a
    · exact ⟨0, by rw [e]; rfl, fun m z h => absurd h (Nat.not_lt_zero m)⟩
    · have h' : a ∈ r := by
        rcases List.mem_cons.mp h with z | z
        · exact absurd z.symm e
        · exact z
      obtain ⟨j, h1, h2⟩ := first_ix h'
      refine ⟨j + 1, by simpa using h1, fun m z hm hz => ?_⟩
      cases m with
      | zero =>
        simp at hz
        rw [← hz]
        exact e
      | succ m => exact h2 m z (by omega) (by simpa using hz)
mutual
theorem jd_depth (a b : Int) : ∀ d : PyData, (jd a b d).depth ≤ d.depth
  | .tuple [w, .tuple ps] => by
    rw [jd_part]
    have h := jdL_depth a b ps
    cases e : jdL a b ps with
    | none => exact Nat.le_refl _
    | some x =>
      have := h x e
      show x.depth ≤ _
      simp only [PyData.depth, PyData.depthAll]
      omega
  | .none => by rw [jd]; exact Nat.le_refl _; all_goals exact fun _ _ z => by cases z
  | .bool _ => by rw [jd]; exact Nat.le_refl _; all_goals exact fun _ _ z => by cases z
  | .int _ => by rw [jd]; exact Nat.le_refl _; all_goals exact fun _ _ z => by cases z
  | .str _ => by rw [jd]; exact Nat.le_refl _; all_goals exact fun _ _ z => by cases z
  | .list _ => by rw [jd]; exact Nat.le_refl _; all_goals exact fun _ _ z => by cases z
  | .dict _ => by rw [jd]; exact Nat.le_refl _; all_goals exact fun _ _ z => by cases z
  | .tuple [] => by rw [jd]; exact Nat.le_refl _; all_goals exact fun _ _ z => by cases z
  | .tuple [_] => by rw [jd]; exact Nat.le_refl _; all_goals exact fun _ _ z => by cases z
  | .tuple (_ :: _ :: _ :: _) => by rw [jd]; exact Nat.le_refl _; all_goals exact fun _ _ z => by cases z
  | .tuple [_, .none] => by rw [jd]; exact Nat.le_refl _; all_goals exact fun _ _ z => by cases z
  | .tuple [_, .bool _] => by rw [jd]; exact Nat.le_refl _; all_goals exact fun _ _ z => by cases z
  | .tuple [_, .int _] => by rw [jd]; exact Nat.le_refl _; all_goals exact fun _ _ z => by cases z
  | .tuple [_, .str _] => by rw [jd]; exact Nat.le_refl _; all_goals exact fun _ _ z => by cases z
  | .tuple [_, .list _] => by rw [jd]; exact Nat.le_refl _; all_goals exact fun _ _ z => by cases z
  | .tuple [_, .dict _] => by rw [jd]; exact Nat.le_refl _; all_goals exact fun _ _ z => by cases z
theorem jdL_depth (a b : Int) : ∀ (ds : List PyData) (e : PyData), jdL a b ds = some e → e.depth ≤ PyData.depthAll ds
  | [], e, h => by rw [jdL_nil] at h; cases h
  | p :: r, e, h => by
    rw [jdL_cons] at h
    simp only [PyData.depthAll]
    split at h
    · cases h
      have := jd_depth a b p
      omega
    · have := jdL_depth a b r e h
      omega
end
def spJointIn (n : Nat) : Sp := fun vs H Q _ => ∃ (v : V) (d : PyData) (o : Str) (a b : Int), vs = [v, .int a, .int b] ∧ At MN H v d ∧ formed d o = some (tl d) ∧ d.depth < n ∧ (tl d).length ≤ 60 ∧ a ≠ b ∧ a ∈ tl d ∧ b ∈ tl d ∧
  ∀ v' H', At MN H' v' (jd a b d) → Kp MN H H' → Q v' H'
/-- a whole plan and two of its tasks -/
structure Both (d : PyData) (o : Str) (a b : Int) : Prop where
  form : formed d o = some (tl d)
  dep : d.depth < 15
  len : (tl d).length ≤ 60
  nd : (tl d).Nodup
  ne : a ≠ b
  ma : a ∈ tl d
  mb : b ∈ tl d
theorem Both.good {d : PyData} {o : Str} {a b : Int} (h : Both d o a b) : Good a b (jd a b d) ((lp d).filter (has a b)) (tl d).length := chain h.ne d o _ h.form h.nd h.ma h.mb
def spRelIn : Sp := fun vs H Q _ => ∃ (v : V) (d : PyData) (o : Str) (a b : Int), vs = [v, .int a, .int b] ∧ At MN H v d ∧ Both d o a b ∧
  ∀ (r we : Str) (pe : List PyData) H', jd a b d = .tuple [.str we, .tuple pe] → (r = "beside" ↔ we = "beside") → Kp MN H H' → Q (.str r) H'
def spRel (PT : Addr) : Sp := fun vs H Q _ => ∃ (v : V) (d : PyData) (o : Str) (a b : Int), vs = [v, .int a, .int b] ∧ At MN H v d ∧ Both d o a b ∧ SeqAt.shaped d = true ∧ TabG H PT ∧ 0 ≤ a ∧ a < (vdt d : Nat) ∧ 0 ≤ b ∧ b < (vdt d : Nat) ∧
  ∀ (r we : Str) (pe : List PyData) H', jd a b d = .tuple [.str we, .tuple pe] → (r = "beside" ↔ we = "beside") → Kp MN H H' → Q (.str r) H'
def spJoint (PT : Addr) : Sp := fun vs H Q _ => ∃ (v : V) (d : PyData) (o : Str) (a b : Int), vs = [v, .int a, .int b] ∧ At MN H v d ∧ Both d o a b ∧ SeqAt.shaped d = true ∧ TabG H PT ∧ 0 ≤ a ∧ a < (vdt d : Nat) ∧ 0 ≤ b ∧ b < (vdt d : Nat) ∧
  ∀ (v' : V) (we : Str) (pe : List PyData) H', jd a b d = .tuple [.str we, .tuple pe] → At MN H' v' (.tuple [.str we, .tuple ((srt (tlL pe)).map PyData.int)]) → Kp MN H H' → Q v' H'
section
variable {P : Program} {w : World} {K : PySem.W.Frag} {mg : Str → Option Value} {base : Heap}
theorem scJointIn : FnScope ["plan", "first", "second", "piece", "inside"] ["plan", "first", "second"] (defScope sJointIn) := ⟨rfl, rfl, rfl, by decide +kernel, rfl, by decide +kernel, by decide +kernel⟩
theorem ok_jointIn {n : Nat} {f g : Addr} {fd gd : FuncData} (F : Fun K "joint_in" "joint_in" sJointIn f fd) (B : Bl K mg)
    (G : FnOk P w K mg base CX0 (n + 1) g gd ["plan"] (spTasks n)) (bG : Binds K gd ["plan"] []) (kG : PySem.W.keepIn K (.ref g) = true) (mG : mg "tasks_in" = some (.ref g))
    (R : FnOk P w K mg base CX0 (n + 1) f fd ["plan", "first", "second"] (spJointIn n)) (bF : Binds K fd ["plan", "first", "second"] []) (mF : mg "joint_in" = some (.ref f)) :
    FnOk P w K mg base CX0 (n + 2) f fd ["plan", "first", "second"] (spJointIn (n + 1)) := by
  refine F.ok scJointIn (fun vs H Q E h => ?_) (fun cdv A outer s H vs Q E hr h => ?_)
  · obtain ⟨v, d, o, a, b, rfl, _⟩ := h
    rfl
  obtain ⟨v, d, o, a, b, rfl, hA, hf, hd, h60, hab, ha, hb, q⟩ := h
  refine ⟨_, pss_cons (ps_for PassesOwn.never rfl (pi_tup (pe_ix ix_tup (pv 0) pe_int (fun _ _ => rfl))) (pg_name (i := 3) scJointIn.nd rfl (Or.inl rfl))
      (pss_cons (ps_set (i := 4) scJointIn.nd rfl (Or.inl rfl) (pe_call G hr rfl mG kG bG .nil pass0 (pa_cons (pv 3) pa_nil)))
      (pss_one (ps_if (PW.pt (pw_and (pt_cmpR (op_inD (room65 hr)) (pv 1) (pv 4) rfl) (pw_and1 (pt_cmpR (op_inD (room65 hr)) (pv 2) (pv 4) rfl))))
        (pss_one (ps_ret (pe_call R hr rfl mF F.kp bF .nil pass0 (pa_cons (pv 3) (pa_cons (pv 1) (pa_cons (pv 2) pa_nil)))))) pss_nil))))
    (pss_one (ps_ret (pv 0))), ?_⟩
  rcases plan_cases hf with ⟨i, rfl⟩ | ⟨wo, ps, rfl, hwd, hwo, h2, hfl, hfm⟩
  · rw [tl_int] at ha hb
    exact absurd ((List.mem_singleton.mp ha).trans (List.mem_singleton.mp hb).symm) hab
  obtain ⟨p1, p2, xs, rfl, hx, hx2, hall⟩ := At.parts hA
  have hl := hall.length
  rw [tl_part] at h60
  refine ⟨_, rfl, _, _, _, _, rfl, rfl, SqT.of hx, atI_nat (j := 1) rfl, p2, rfl, ⟨_, SqT.of hx2⟩, ?_⟩
  refine for_tup (K := K) (a := p2) (xs := xs) (fun i σ H' => ∃ x3 x4, σ = [some (.ref p1), some (.int a), some (.int b), x3, x4] ∧ Kp MN H H' ∧ jdL a b ps = jdL a b (ps.drop i)) ⟨none, none, rfl, .refl, rfl⟩
    (fun i σ H' _ p => SqT.of (by obtain ⟨_, _, _, k, _⟩ := p; exact k.tup _ _ hx2)) (fun i x σ H' hi p => ?_) (fun σ H' p => ?_)
  · obtain ⟨x3, x4, rfl, k, e⟩ := p
    obtain ⟨d', hd', ha'⟩ := hall.get hi
    have hm := List.mem_of_getElem? hd'
    obtain ⟨hil, hie⟩ := List.getElem?_eq_some_iff.mp hd'
    rw [List.drop_eq_getElem_cons hil, hie, jdL_cons] at e
    refine ⟨_, rfl, x, d', wo, rfl, ha'.kp k, hfm d' hm, depth_part hd hm, Nat.le_trans (tl_le hm) h60, fun t H5 ht k5 e5 => ?_⟩
    have dl : Dp K H5 (.ref t) (.list ((tl d').map PyData.int)) := .lst (SqL.of e5) (AtL.dp (AtL.ints (M := MN) (tl d')))
    refine ⟨_, rfl, _, rfl, .int a, _, .int a, dl, by rfl, shaped_ints _, ?_⟩
    rw [any_ints]
    refine ⟨_, rfl, ?_⟩
    by_cases c1 : a ∈ tl d'
    · rw [decide_eq_true c1]
      refine iteT ?_
      refine ⟨_, rfl, _, rfl, .int b, _, .int b, dl, by rfl, shaped_ints _, ?_⟩
      rw [any_ints]
      refine ⟨_, rfl, ?_⟩
      by_cases c2 : b ∈ tl d'
      · rw [decide_eq_true c2]
        refine iteT ?_
        rw [if_pos ⟨c1, c2⟩] at e
        refine ⟨_, rfl, _, rfl, _, rfl, x, d', wo, a, b, rfl, (ha'.kp k).kp k5, hfm d' hm, depth_part hd hm, Nat.le_trans (tl_le hm) h60, hab, c1, c2, fun v' H6 a6 k6 => q v' H6 ?_ (k.trans (k5.trans k6))⟩
        rw [jd_part, e]
        exact a6
      · rw [decide_eq_false c2]
        rw [if_neg fun z => c2 z.2] at e
        exact iteF ⟨_, _, rfl, k.trans k5, e⟩
    · rw [decide_eq_false c1]
      rw [if_neg fun z => c1 z.1] at e
      refine iteF ?_
      exact iteF ⟨_, _, rfl, k.trans k5, e⟩
  · obtain ⟨x3, x4, rfl, k, e⟩ := p
    rw [hl, List.drop_length, jdL_nil] at e
    refine ⟨_, rfl, q _ H' ?_ k⟩
    rw [jd_part, e]
    exact hA.kp k
theorem oks_jointIn {f g : Addr} {fd gd : FuncData} (F : Fun K "joint_in" "joint_in" sJointIn f fd) (B : Bl K mg)
    (G : ∀ n, FnOk P w K mg base CX0 (n + 1) g gd ["plan"] (spTasks n)) (bG : Binds K gd ["plan"] []) (kG : PySem.W.keepIn K (.ref g) = true) (mG : mg "tasks_in" = some (.ref g))
    (bF : Binds K fd ["plan", "first", "second"] []) (mF : mg "joint_in" = some (.ref f)) : ∀ n : Nat, FnOk P w K mg base CX0 (n + 1) f fd ["plan", "first", "second"] (spJointIn n)
  | 0 => never_ok fun vs H Q E h => by
    obtain ⟨_, _, _, _, _, _, _, _, h, _⟩ := h
    exact absurd h (Nat.not_lt_zero _)
  | n + 1 => ok_jointIn F B (G n) bG kG mG (oks_jointIn F B G bG kG mG bF mF n) bF mF
theorem scRelationIn : FnScope ["plan", "first", "second", "least", "standing"] ["plan", "first", "second"] (defScope sRelationIn) := ⟨rfl, rfl, rfl, by decide +kernel, rfl, by decide +kernel, by decide +kernel⟩
theorem ok_relationIn {f g j : Addr} {fd gd jd' : FuncData} (F : Fun K "relation_in" "relation_in" sRelationIn f fd) (B : Bl K mg)
    (G : FnOk P w K mg base CX0 16 g gd ["plan"] (spTasks 15)) (bG : Binds K gd ["plan"] []) (kG : PySem.W.keepIn K (.ref g) = true) (mG : mg "tasks_in" = some (.ref g))
    (J : FnOk P w K mg base CX0 16 j jd' ["plan", "first", "second"] (spJointIn 15)) (bJ : Binds K jd' ["plan", "first", "second"] []) (kJ : PySem.W.keepIn K (.ref j) = true) (mJ : mg "joint_in" = some (.ref j)) :
    FnOk P w K mg base CX0 17 f fd ["plan", "first", "second"] spRelIn := by
  refine F.ok scRelationIn (fun vs H Q E h => ?_) (fun cdv A outer s H vs Q E hr h => ?_)
  · obtain ⟨v, d, o, a, b, rfl, _⟩ := h
    rfl
  obtain ⟨v, d, o, a, b, rfl, hA, hB, q⟩ := h
  refine ⟨_, pss_cons (ps_set (i := 3) scRelationIn.nd rfl (Or.inl rfl) (pe_call J hr rfl mJ kJ bJ .nil pass0 (pa_cons (pv 0) (pa_cons (pv 1) (pa_cons (pv 2) pa_nil)))))
    (pss_cons (ps_if (pt_cmpR op_eq (pe_ix ix_tup (pv 3) pe_int (fun _ _ => rfl)) pe_str (nomark _)) (pss_one (ps_ret pe_str)) pss_nil)
    (pss_cons (ps_set (i := 4) scRelationIn.nd rfl (Or.inl rfl) (pe_call G hr rfl mG kG bG .nil pass0 (pa_cons (pv 3) pa_nil)))
    (pss_one (ps_ret (pe_ifExp (pt_cmpR op_lt (pe_bm PySem.F.plainAttrs_list PySem.F.slot_list_index PySem.F.type_list_index mt_index (pv 4) (pa_cons (pv 1) pa_nil)) (pe_bm PySem.F.plainAttrs_list PySem.F.slot_list_index PySem.F.type_list_index mt_index (pv 4) (pa_cons (pv 2) pa_nil)) (nomark _)) pe_str pe_str))))), ?_⟩
  obtain ⟨we, pe, init, o', g1, g2, g3, g4, g5, g6, g7, g8⟩ := hB.good.ex
  refine ⟨_, rfl, _, rfl, _, rfl, v, d, o, a, b, rfl, hA, hB.form, hB.dep, hB.len, hB.ne, hB.ma, hB.mb, fun v' H1 a1 k1 => ?_⟩
  have hdep := jd_depth a b d
  rw [g1] at a1 g3 hdep
  obtain ⟨p1, p2, xs, rfl, hx, hx2, hall⟩ := At.parts a1
  refine ⟨_, rfl, _, _, _, _, rfl, rfl, SqT.of hx, atI_nat (j := 0) rfl, rfl, _, rfl, ?_⟩
  refine ite2 (fun cc => ?_) (fun cc => ?_)
  · have c' := of_decide_eq_true cc
    injection c' with c'
    exact q "beside" we pe H1 g1 ⟨fun _ => c', fun _ => rfl⟩ k1
  have nb : we ≠ "beside" := fun z => (of_decide_eq_false (Bool.eq_false_iff.mpr cc)) (by rw [z])
  refine ⟨_, rfl, _, _, o', rfl, a1, by rw [tl_part]; exact g3, by have := hB.dep; omega, by rw [tl_part]; exact Nat.le_trans g8 hB.len, fun t H2 ht k2 e2 => ?_⟩
  rw [tl_part] at e2
  have flat : ((tlL pe).map V.int).all flatV = true := by
    rw [List.all_eq_true]
    intro x hx
    obtain ⟨i, _, rfl⟩ := List.mem_map.mp hx
    rfl
  have ixs : ∀ {c : Int}, c ∈ tlL pe → ∃ j : Nat, ((tlL pe).map V.int)[j]? = some (.int c) ∧ ∀ (m : Nat) (z' : V), m < j → ((tlL pe).map V.int)[m]? = some z' → eqV z' (.int c) = false := fun {c} hc => by
    obtain ⟨j, h1, h2⟩ := first_ix hc
    refine ⟨j, by rw [List.getElem?_map, h1]; rfl, fun m z' hm hz => ?_⟩
    rw [List.getElem?_map] at hz
    obtain ⟨i, hi, rfl⟩ := Option.map_eq_some_iff.mp hz
    have hne := h2 m i hm hi
    show (i == c) = false
    rw [beq_eq_false_iff_ne]
    exact hne
  have self : ∀ c : Int, eqV (.int c) (.int c) = true := fun c => by
    show (c == c) = true
    exact beq_self_eq_true c
  obtain ⟨j1, h11, h12⟩ := ixs g4
  obtain ⟨j2, h21, h22⟩ := ixs g5
  refine ⟨_, rfl, .inl ⟨rfl, _, .inl (.inl e2)⟩, _, rfl, t, _, .int a, j1, .int a, rfl, rfl, SqL.of e2, rfl, flat, h11, self a, h12, ?_⟩
  refine ⟨_, rfl, .inl ⟨rfl, _, .inl (.inl e2)⟩, _, rfl, t, _, .int b, j2, .int b, rfl, rfl, SqL.of e2, rfl, flat, h21, self b, h22, ?_⟩
  refine ⟨_, _, rfl, rfl, _, rfl, ?_⟩
  refine ite2 (fun cc => ?_) (fun cc => ?_)
  · exact q "before" we pe H2 g1 ⟨fun z => absurd z (by decide +kernel), fun z => absurd z nb⟩ (k1.trans k2)
  · exact q "after" we pe H2 g1 ⟨fun z => absurd z (by decide +kernel), fun z => absurd z nb⟩ (k1.trans k2)
end
end K2

set_option Elab.async false
set_option linter.all false
set_option maxRecDepth 100000
set_option maxHeartbeats 1000000
namespace K2
open PySem L2 GxR GA KD KR KM KJ
/-- the law's entry for a part -/
def pOf (x : Str × List Int) : PyData := .tuple [.str x.1, .tuple ((srt x.2).map PyData.int)]
theorem noL_ints (l : List Int) : noLL (l.map PyData.int) = true := by
  induction l with
  | nil => simp [noLL]
  | cons i r ih => simp [noLL, noL, ih]
theorem noL_pOf (fl : List (Str × List Int)) : noLL (fl.map pOf) = true := by
  induction fl with
  | nil => simp [noLL]
  | cons x r ih => simp [noLL, noL, pOf, noL_ints, ih]
mutual
theorem lp_len : ∀ (d : PyData) (o : Str) (l : List Int), formed d o = some l → (lp d).length + 1 ≤ l.length
  | .int i, o, l, h => by
    rw [formed_int] at h
    cases h
    rw [lp_int]
    exact Nat.le_refl _
  | .tuple [.str w, .tuple ps], o, l, h => by
    rw [formed_parts] at h
    split at h
    · rename_i hc
      simp only [Bool.and_eq_true, Bool.not_eq_true', decide_eq_false_iff_not, decide_eq_true_eq] at hc
      have := lpL_len ps w l h
      rw [lp_part, List.length_cons]
      have := hc.2
      omega
    · cases h
  | .none, _, _, h => by simp [formed] at h
  | .bool _, _, _, h => by simp [formed] at h
  | .str _, _, _, h => by simp [formed] at h
  | .list _, _, _, h => by simp [formed] at h
  | .dict _, _, _, h => by simp [formed] at h
  | .tuple [], _, _, h => by simp [formed] at h
  | .tuple [_], _, _, h => by simp [formed] at h
  | .tuple (.str _ :: .none :: _), _, _, h => by simp [formed] at h
  | .tuple (.str _ :: .bool _ :: _), _, _, h => by simp [formed] at h
  | .tuple (.str _ :: .int _ :: _), _, _, h => by simp [formed] at h
  | .tuple (.str _ :: .str _ :: _), _, _, h => by simp [formed] at h
  | .tuple (.str _ :: .list _ :: _), _, _, h => by simp [formed] at h
  | .tuple (.str _ :: .dict _ :: _), _, _, h => by simp [formed] at h
  | .tuple (.none :: _ :: _), _, _, h => by simp [formed] at h
  | .tuple (.bool _ :: _ :: _), _, _, h => by simp [formed] at h
  | .tuple (.int _ :: _ :: _), _, _, h => by simp [formed] at h
  | .tuple (.tuple _ :: _ :: _), _, _, h => by simp [formed] at h
  | .tuple (.list _ :: _ :: _), _, _, h => by simp [formed] at h
  | .tuple (.dict _ :: _ :: _), _, _, h => by simp [formed] at h
  | .tuple (.str _ :: .tuple _ :: _ :: _), _, _, h => by simp [formed] at h
theorem lpL_len : ∀ (ds : List PyData) (w : Str) (l : List Int), formedL ds w = some l → (lpL ds).length + ds.length ≤ l.length
  | [], w, l, h => by
    rw [lpL_nil]
    exact Nat.zero_le _
  | p :: r, w, l, h => by
    rw [formedL_cons] at h
    cases e1 : formed p w with
    | none => rw [e1] at h; cases h
    | some a =>
      cases e2 : formedL r w with
      | none => rw [e1, e2] at h; cases h
      | some b =>
        rw [e1, e2] at h
        cases h
        have := lp_len p w a e1
        have := lpL_len r w b e2
        rw [lpL_cons, List.length_append, List.length_append, List.length_cons]
        omega
end
theorem lpL_app : ∀ ds es : List PyData, lpL (ds ++ es) = lpL ds ++ lpL es
  | [], es => by rw [lpL_nil]; rfl
  | d :: r, es => by rw [List.cons_append, lpL_cons, lpL_cons, lpL_app r es, List.append_assoc]
theorem lpL_succ {ds : List PyData} {i : Nat} {p : PyData} (h : ds[i]? = some p) : lpL (ds.take (i + 1)) = lpL (ds.take i) ++ lp p := by
  rw [List.take_succ, h]
  show lpL (ds.take i ++ [p]) = _
  rw [lpL_app, lpL_cons, lpL_nil, List.append_nil]
def spParts (n : Nat) : Sp := fun vs H Q _ => ∃ (v : V) (d : PyData) (o : Str), vs = [v] ∧ At MN H v d ∧ formed d o = some (tl d) ∧ d.depth < n ∧ (tl d).length ≤ 60 ∧
  ∀ a xs H', (∀ zs, H a ≠ some (.lst zs)) → Kp MN H H' → H' a = some (.lst xs) → AtL MN H' xs ((lp d).map pOf) → Q (.ref a) H'
section
variable {P : Program} {w : World} {K : PySem.W.Frag} {mg : Str → Option Value} {base : Heap}
theorem scRelation : FnScope ["plan", "first", "second"] ["plan", "first", "second"] (defScope sRelation) := ⟨rfl, rfl, rfl, by decide +kernel, rfl, by decide +kernel, by decide +kernel⟩
theorem ok_relation {f g j PT : Addr} {fd gd jd' : FuncData} (F : Fun K "relation" "relation" sRelation f fd)
    (G : FnOk P w K mg base CX0 8 g gd ["plan", "first", "second"] (spTwo PT)) (bG : Binds K gd ["plan", "first", "second"] []) (kG : PySem.W.keepIn K (.ref g) = true) (mG : mg "check_two_tasks" = some (.ref g))
    (J : FnOk P w K mg base CX0 17 j jd' ["plan", "first", "second"] spRelIn) (bJ : Binds K jd' ["plan", "first", "second"] []) (kJ : PySem.W.keepIn K (.ref j) = true) (mJ : mg "relation_in" = some (.ref j)) :
    FnOk P w K mg base CX0 18 f fd ["plan", "first", "second"] (spRel PT) := by
  refine F.ok scRelation (fun vs H Q E h => ?_) (fun cdv A outer s H vs Q E hr h => ?_)
  · obtain ⟨v, d, o, a, b, rfl, _⟩ := h
    rfl
  obtain ⟨v, d, o, a, b, rfl, hA, hB, hS, hT, a0, a1, b0, b1, q⟩ := h
  refine ⟨_, pss_cons (ps_expr (pe_call G (hr.mono (by decide)) rfl mG kG bG .nil pass0 (pa_cons (pv 0) (pa_cons (pv 1) (pa_cons (pv 2) pa_nil)))))
    (pss_one (ps_ret (pe_call J hr rfl mJ kJ bJ .nil pass0 (pa_cons (pv 0) (pa_cons (pv 1) (pa_cons (pv 2) pa_nil)))))), ?_⟩
  refine ⟨_, rfl, _, rfl, _, rfl, v, d, a, b, rfl, hA, hS, hT, a0, a1, b0, b1, hB.ne, fun H1 k1 => ?_⟩
  exact ⟨_, rfl, _, rfl, _, rfl, v, d, o, a, b, rfl, hA.kp k1, hB, fun r we pe H' e1 e2 k2 => q r we pe H' e1 e2 (k1.trans k2)⟩
end
end K2

set_option Elab.async false
set_option linter.all false
set_option maxRecDepth 100000
set_option maxHeartbeats 1000000
/-! The relation in a plan; what is left of a plan (mathematics alone). -/
namespace KG
open PySem L2 KM KJ
theorem depth_mem : ∀ {ds : List PyData} {d : PyData}, d ∈ ds → d.depth ≤ PyData.depthAll ds
  | x :: r, d, h => by
    simp only [PyData.depthAll]
    rcases List.mem_cons.mp h with z | z
    · rw [z]; omega
    · have := depth_mem z
      omega
theorem tlL_app : ∀ ds es : List PyData, tlL (ds ++ es) = tlL ds ++ tlL es
  | [], es => by rw [tlL_nil]; rfl
  | d :: r, es => by rw [List.cons_append, tlL_cons, tlL_cons, tlL_app r es, List.append_assoc]
theorem tlL_succ {ds : List PyData} {i : Nat} {p : PyData} (h : ds[i]? = some p) : tlL (ds.take (i + 1)) = tlL (ds.take i) ++ tl p := by
  rw [List.take_succ, h]
  show tlL (ds.take i ++ [p]) = _
  rw [tlL_app, tlL_cons, tlL_nil, List.append_nil]
theorem tl_le : ∀ {ds : List PyData} {p : PyData}, p ∈ ds → (tl p).length ≤ (tlL ds).length
  | q :: r, p, hp => by
    rw [tlL_cons, List.length_append]
    rcases List.mem_cons.mp hp with z | z
    · rw [z]; omega
    · have := tl_le z
      omega
theorem tlL_take_le (ds : List PyData) (i : Nat) : (tlL (ds.take i)).length ≤ (tlL ds).length := by
  have h : tlL ds = tlL (ds.take i) ++ tlL (ds.drop i) := by rw [← tlL_app, List.take_append_drop]
  rw [h, List.length_append]
  omega
theorem depth_part {w : PyData} {ps : List PyData} {p : PyData} {n : Nat} (h : (PyData.tuple [w, .tuple ps]).depth < n + 1) (hp : p ∈ ps) : p.depth < n := by
  have := depth_mem hp
  simp only [PyData.depth, PyData.depthAll] at h
  omega
/-- a plan's two cases -/
theorem plan_cases {d : PyData} {o : Str} (h : formed d o = some (tl d)) : (∃ i, d = .int i) ∨ ∃ w ps, d = .tuple [.str w, .tuple ps] ∧ wd w = true ∧ w ≠ o ∧ 2 ≤ ps.length ∧ formedL ps w = some (tlL ps) ∧ ∀ p ∈ ps, formed p w = some (tl p) := by
  cases d with
  | int i => exact .inl ⟨i, rfl⟩
  | tuple ds =>
    match ds, h with
    | [.str w, .tuple ps], h =>
      have h' := h
      rw [formed_parts] at h
      split at h
      · rename_i hc
        simp only [Bool.and_eq_true, Bool.not_eq_true', decide_eq_false_iff_not, decide_eq_true_eq] at hc
        rw [tl_part] at h
        exact .inr ⟨w, ps, rfl, hc.1.1, hc.1.2, hc.2, h, formedL_mem h⟩
      · cases h
    | [], h => simp [formed] at h
    | [_], h => simp [formed] at h
    | .str _ :: .none :: _, h => simp [formed] at h
    | .str _ :: .bool _ :: _, h => simp [formed] at h
    | .str _ :: .int _ :: _, h => simp [formed] at h
    | .str _ :: .str _ :: _, h => simp [formed] at h
    | .str _ :: .list _ :: _, h => simp [formed] at h
    | .str _ :: .dict _ :: _, h => simp [formed] at h
    | .none :: _ :: _, h => simp [formed] at h
    | .bool _ :: _ :: _, h => simp [formed] at h
    | .int _ :: _ :: _, h => simp [formed] at h
    | .tuple _ :: _ :: _, h => simp [formed] at h
    | .list _ :: _ :: _, h => simp [formed] at h
    | .dict _ :: _ :: _, h => simp [formed] at h
    | .str _ :: .tuple _ :: _ :: _, h => simp [formed] at h
  | _ => simp [formed] at h
/-- the relation of x to y in a plan -/
inductive RelD (x y : Int) : PyData → Str → Prop
  | inner {u : Str} {ps : List PyData} {i : Nat} {p : PyData} {r : Str} : ps[i]? = some p → x ∈ tl p → y ∈ tl p → RelD x y p r → RelD x y (.tuple [.str u, .tuple ps]) r
  | beside {ps : List PyData} {i j : Nat} {p q : PyData} : ps[i]? = some p → ps[j]? = some q → x ∈ tl p → y ∈ tl q → i ≠ j → RelD x y (.tuple [.str "beside", .tuple ps]) "beside"
  | before {ps : List PyData} {i j : Nat} {p q : PyData} : ps[i]? = some p → ps[j]? = some q → x ∈ tl p → y ∈ tl q → i < j → RelD x y (.tuple [.str "then", .tuple ps]) "before"
  | after {ps : List PyData} {i j : Nat} {p q : PyData} : ps[i]? = some p → ps[j]? = some q → x ∈ tl p → y ∈ tl q → j < i → RelD x y (.tuple [.str "then", .tuple ps]) "after"
def opp (r : Str) : Str := if r = "before" then "after" else if r = "after" then "before" else r
theorem RelD.swap {x y : Int} {d : PyData} {r : Str} (h : RelD x y d r) : RelD y x d (opp r) := by
  induction h with
  | inner h1 h2 h3 _ ih => exact .inner h1 h3 h2 ih
  | beside h1 h2 h3 h4 h5 => exact .beside h2 h1 h4 h3 (Ne.symm h5)
  | before h1 h2 h3 h4 h5 => exact .after h2 h1 h4 h3 h5
  | after h1 h2 h3 h4 h5 => exact .before h2 h1 h4 h3 h5
theorem RelD.kind {x y : Int} {d : PyData} {r : Str} (h : RelD x y d r) : r = "before" ∨ r = "beside" ∨ r = "after" := by
  induction h with
  | inner h1 h2 h3 _ ih => exact ih
  | beside => exact .inr (.inl rfl)
  | before => exact .inl rfl
  | after => exact .inr (.inr rfl)
/-- where a task stands is one place -/
theorem one_place {x : Int} : ∀ {ps : List PyData} {i j : Nat} {p q : PyData}, (tlL ps).Nodup → ps[i]? = some p → ps[j]? = some q → x ∈ tl p → x ∈ tl q → i = j
  | a :: r, i, j, p, q, hn, h1, h2, m1, m2 => by
    rw [tlL_cons] at hn
    obtain ⟨n1, n2, n3⟩ := List.nodup_append.mp hn
    have far : ∀ {k : Nat} {z : PyData}, r[k]? = some z → x ∈ tl z → x ∈ tl a → False := fun hk mz ma => n3 x ma x (tl_mem (List.mem_of_getElem? hk) x mz) rfl
    cases i with
    | zero =>
      simp at h1
      subst h1
      cases j with
      | zero => rfl
      | succ j => exact (far (k := j) (by simpa using h2) m2 m1).elim
    | succ i =>
      cases j with
      | zero =>
        simp at h2
        subst h2
        exact (far (k := i) (by simpa using h1) m1 m2).elim
      | succ j => exact congrArg (· + 1) (one_place n2 (by simpa using h1) (by simpa using h2) m1 m2)
theorem nodup_part : ∀ {ps : List PyData} {p : PyData}, (tlL ps).Nodup → p ∈ ps → (tl p).Nodup
  | a :: r, p, hn, hp => by
    rw [tlL_cons] at hn
    obtain ⟨n1, n2, _⟩ := List.nodup_append.mp hn
    rcases List.mem_cons.mp hp with z | z
    · rw [z]; exact n1
    · exact nodup_part n2 z
theorem RelD.uniq {x y : Int} {d : PyData} {r : Str} (h : RelD x y d r) : ∀ {r' : Str}, (tl d).Nodup → RelD x y d r' → r = r' := by
  induction h with
  | @inner u ps i p r h1 h2 h3 h4 ih =>
    intro r' hn h'
    rw [tl_part] at hn
    cases h' with
    | @inner _ _ k _ _ g1 g2 g3 g4 =>
      have e := one_place hn h1 g1 h2 g2
      subst e
      rw [h1] at g1
      cases g1
      exact ih (nodup_part hn (List.mem_of_getElem? h1)) g4
    | beside g1 g2 g3 g4 g5 => exact absurd ((one_place hn g1 h1 g3 h2).trans (one_place hn h1 g2 h3 g4)) g5
    | before g1 g2 g3 g4 g5 => exact absurd ((one_place hn g1 h1 g3 h2).trans (one_place hn h1 g2 h3 g4)) (by omega)
    | after g1 g2 g3 g4 g5 => exact absurd ((one_place hn g1 h1 g3 h2).trans (one_place hn h1 g2 h3 g4)) (by omega)
  | beside h1 h2 h3 h4 h5 =>
    intro r' hn h'
    rw [tl_part] at hn
    cases h' with
    | inner g1 g2 g3 g4 => exact absurd ((one_place hn h1 g1 h3 g2).trans (one_place hn g1 h2 g3 h4)) h5
    | beside => rfl
  | before h1 h2 h3 h4 h5 =>
    intro r' hn h'
    rw [tl_part] at hn
    cases h' with
    | inner g1 g2 g3 g4 => exact absurd ((one_place hn h1 g1 h3 g2).trans (one_place hn g1 h2 g3 h4)) (by omega)
    | before => rfl
    | after g1 g2 g3 g4 g5 =>
      have e1 := one_place hn h1 g1 h3 g3
      have e2 := one_place hn h2 g2 h4 g4
      omega
  | after h1 h2 h3 h4 h5 =>
    intro r' hn h'
    rw [tl_part] at hn
    cases h' with
    | inner g1 g2 g3 g4 => exact absurd ((one_place hn h1 g1 h3 g2).trans (one_place hn g1 h2 g3 h4)) (by omega)
    | before g1 g2 g3 g4 g5 =>
      have e1 := one_place hn h1 g1 h3 g3
      have e2 := one_place hn h2 g2 h4 g4
      omega
    | after => rfl
theorem mem_tlL {z : Int} : ∀ {ps : List PyData}, z ∈ tlL ps → ∃ (i : Nat) (p : PyData), ps[i]? = some p ∧ z ∈ tl p
  | a :: r, h => by
    rw [tlL_cons, List.mem_append] at h
    rcases h with h | h
    · exact ⟨0, a, rfl, h⟩
    · obtain ⟨i, p, h1, h2⟩ := mem_tlL h
      exact ⟨i + 1, p, by simpa using h1, h2⟩

/-- two tasks have a relation -/
theorem RelD.ex {x y : Int} : ∀ (n : Nat) {d : PyData} {o : Str}, d.depth < n → formed d o = some (tl d) → x ∈ tl d → y ∈ tl d → x ≠ y → ∃ r, RelD x y d r
  | 0, _, _, h, _, _, _, _ => absurd h (Nat.not_lt_zero _)
  | n + 1, d, o, hd, hf, hx, hy, hne => by
    rcases plan_cases hf with ⟨i, rfl⟩ | ⟨wo, ps, rfl, hwd, hwo, h2, hfl, hfm⟩
    · rw [tl_int] at hx hy
      exact absurd ((List.mem_singleton.mp hx).trans (List.mem_singleton.mp hy).symm) hne
    · rw [tl_part] at hx hy
      obtain ⟨i, p, hi, hp⟩ := mem_tlL hx
      obtain ⟨j, q, hj, hq⟩ := mem_tlL hy
      by_cases e : i = j
      · subst e
        rw [hi] at hj
        cases hj
        have hm := List.mem_of_getElem? hi
        obtain ⟨r, hr⟩ := RelD.ex n (depth_part hd hm) (hfm p hm) hp hq hne
        exact ⟨r, .inner hi hp hq hr⟩
      · by_cases c : wo = "beside"
        · subst c
          exact ⟨_, .beside hi hj hp hq e⟩
        · have c2 : wo = "then" := by
            simp only [wd, Bool.or_eq_true, decide_eq_true_eq] at hwd
            rcases hwd with z | z
            · exact z
            · exact absurd z c
          subst c2
          rcases Nat.lt_or_gt_of_ne e with z | z
          · exact ⟨_, .before hi hj hp hq z⟩
          · exact ⟨_, .after hi hj hp hq z⟩
theorem RelD.mem {x y : Int} {d : PyData} {r : Str} (h : RelD x y d r) : x ∈ tl d ∧ y ∈ tl d := by
  cases h with
  | inner h1 h2 h3 _ => rw [tl_part]; exact ⟨tl_mem (List.mem_of_getElem? h1) _ h2, tl_mem (List.mem_of_getElem? h1) _ h3⟩
  | beside h1 h2 h3 h4 _ => rw [tl_part]; exact ⟨tl_mem (List.mem_of_getElem? h1) _ h3, tl_mem (List.mem_of_getElem? h2) _ h4⟩
  | before h1 h2 h3 h4 _ => rw [tl_part]; exact ⟨tl_mem (List.mem_of_getElem? h1) _ h3, tl_mem (List.mem_of_getElem? h2) _ h4⟩
  | after h1 h2 h3 h4 _ => rw [tl_part]; exact ⟨tl_mem (List.mem_of_getElem? h1) _ h3, tl_mem (List.mem_of_getElem? h2) _ h4⟩
end KG

set_option Elab.async false
set_option linter.all false
set_option maxRecDepth 100000
set_option maxHeartbeats 1000000
namespace K2
open PySem L2 GxR GA KD KR KM KJ
/-- what each plan is -/
structure Fine (d : PyData) : Prop where
  lay : d.canLay0 = true
  dep : d.depth + 2 ≤ 2 * (tl d).length
  slm : slim d = true
  nol : noL d = true
theorem fine_all {w : Str} : ∀ {ps : List PyData}, (∀ p ∈ ps, formed p w = some (tl p)) → (∀ p ∈ ps, Fine p) → PyData.canLayAll0 ps = true ∧ slimL ps = true ∧ noLL ps = true ∧ ∀ m, (∀ p ∈ ps, (tl p).length ≤ m) → PyData.depthAll ps ≤ 2 * m - 2
  | [], _, _ => ⟨by simp [PyData.canLayAll0], by simp [slimL], by simp [noLL], fun m _ => by simp [PyData.depthAll]⟩
  | p :: r, h, f => by
    obtain ⟨a, b, c, e⟩ := fine_all (fun q hq => h q (List.mem_cons_of_mem _ hq)) (fun q hq => f q (List.mem_cons_of_mem _ hq))
    have fp := f p List.mem_cons_self
    refine ⟨by simp [PyData.canLayAll0, a, fp.lay], by simp [slimL, b, fp.slm], by simp [noLL, c, fp.nol], fun m hm => ?_⟩
    have := e m fun q hq => hm q (List.mem_cons_of_mem _ hq)
    have h1 := hm p List.mem_cons_self
    have h2 := fp.dep
    simp only [PyData.depthAll]
    omega
theorem fine : ∀ (n : Nat) {d : PyData} {o : Str}, d.depth < n → formed d o = some (tl d) → (tl d).length ≤ 60 → Fine d
  | 0, _, _, h, _, _ => absurd h (Nat.not_lt_zero _)
  | n + 1, d, o, hd, hf, h60 => by
    rcases plan_cases hf with ⟨i, rfl⟩ | ⟨w, ps, rfl, hw, hwo, h2, hfl, hfm⟩
    · exact ⟨by simp [PyData.canLay0], by rw [tl_int]; simp [PyData.depth], by simp [slim], by simp [noL]⟩
    · rw [tl_part] at h60
      obtain ⟨a, b, c, e⟩ := fine_all hfm fun p hp => fine n (depth_part hd hp) (hfm p hp) (Nat.le_trans (tl_le hp) h60)
      have hs : PyData.strOk w = true := by
        rcases wd_or hw with z | z <;> rw [z]
        · exact strOk_words.1
        · exact strOk_words.2
      have hlen := formedL_len _ _ _ hfl
      refine ⟨by simp [PyData.canLay0, PyData.canLayAll0, a, hs], ?_, by simp [slim, slimL, b]; omega, by simp [noL, noLL, c]⟩
      have hm : ∀ p ∈ ps, (tl p).length ≤ (tlL ps).length - 1 := fun p hp => by
        have := tl_short hfm p hp
        omega
      have := e _ hm
      rw [tl_part]
      simp only [PyData.depth, PyData.depthAll]
      omega
theorem Fine.shaped {d : PyData} (f : Fine d) (h : (tl d).length ≤ 30) : SeqAt.shaped d = true := by
  show (PyData.canLay0 d && decide (PyData.depth d ≤ 64)) = true
  rw [Bool.and_eq_true]
  have := f.dep
  exact ⟨f.lay, decide_eq_true (by omega)⟩
end K2

set_option Elab.async false
set_option linter.all false
set_option maxRecDepth 100000
set_option maxHeartbeats 1000000
/-! dicts whose keys are pairs of ints: update. -/
namespace KU
open PySem PySem.Spec PyProof.Rows L2 KD
def mergeT (kvs more : List (List Key × V)) : List (List Key × V) := more.foldl (fun acc kv => putK acc kv.1 kv.2) kvs
theorem KT.mem_tup {H : Hp} : ∀ {kvs : List (List Key × V)} {xs : List (List Key × Addr × Value)}, KT H kvs xs → ∀ x ∈ xs, H x.2.1 = some (.tup (x.1.map kV)) := by
  intro kvs xs r
  induction r with
  | nil => intro x hx; exact nomatch hx
  | @cons p q ps qs h t ih =>
    intro x hx
    rcases List.mem_cons.mp hx with e | hx
    · subst e; rw [← h.1]; exact h.2.1
    · exact ih x hx
theorem KT.merge {H : Hp} : ∀ {more : List (List Key × V)} {ys : List (List Key × Addr × Value)}, KT H more ys → ∀ {kvs : List (List Key × V)} {xs : List (List Key × Addr × Value)}, KT H kvs xs → KT H (mergeT kvs more) (storedAllH xs ys) := by
  intro more ys r
  induction r with
  | nil => intro kvs xs q; exact q
  | @cons p q ps qs h t ih =>
    intro kvs xs r
    obtain ⟨h1, h2, h3⟩ := h
    show KT H (mergeT (putK kvs p.1 p.2) ps) (storedAllH (storedH xs q.1 q.2.1 q.2.2) qs)
    refine ih ?_
    rw [← h1]
    exact r.put p.1 h2 h3
theorem length_mergeT : ∀ (more kvs : List (List Key × V)), (mergeT kvs more).length ≤ kvs.length + more.length
  | [], kvs => by simp [mergeT]
  | p :: r, kvs => by
    have h := length_mergeT r (putK kvs p.1 p.2)
    have h2 := length_putK kvs p.1 p.2
    rw [List.length_cons]
    show (mergeT (putK kvs p.1 p.2) r).length ≤ _
    omega
theorem KT.keysEq {H : Hp} {kvs : List (List Key × V)} {xs : List (List Key × Addr × Value)} (r : KT H kvs xs) : xs.map (·.1) = kvs.map (·.1) := by
  induction r with
  | nil => rfl
  | cons h t ih => rw [List.map_cons, List.map_cons, ih, h.1]
/-- a pair of small ints as a key -/
def pk (a b : Nat) : List Key := [.inl (a : Int), .inl (b : Int)]
def hpk (a b : Nat) : Int := reduceHash (Builtin.Tuple.tupleHashOf [hashInt (a : Int), hashInt (b : Int)])
theorem hpk_apart : ((List.range 64).map fun i => hpk (i / 8) (i % 8)).Nodup := by decide +kernel
theorem hash_pk {P : Program} {w : World} (a b : Nat) : (tupleKind (mixKind P w)).hash (pk a b) = hpk a b := rfl
/-- no two keys hash alike -/
def Apart (kvs : List (List Key × V)) : Prop := ∀ p ∈ kvs, ∃ a b, a < 8 ∧ b < 8 ∧ p.1 = pk a b
theorem pk_inj {a b c d : Nat} (h : pk a b = pk c d) : a = c ∧ b = d := by
  unfold pk at h
  injection h with h1 h2
  injection h2 with h2 _
  injection h1 with h1
  injection h2 with h2
  exact ⟨by omega, by omega⟩
theorem hpk_inj {a b c d : Nat} (ha : a < 8) (hb : b < 8) (hc : c < 8) (hd : d < 8) (h : hpk a b = hpk c d) : a = c ∧ b = d := by
  have n := List.pairwise_iff_getElem.mp hpk_apart
  have g : ∀ x y, x < 8 → y < 8 → hpk ((8 * x + y) / 8) ((8 * x + y) % 8) = hpk x y := fun x y hx hy => by
    rw [show (8 * x + y) / 8 = x by omega, show (8 * x + y) % 8 = y by omega]
  have key : ∀ i j, i < 64 → j < 64 → hpk (i / 8) (i % 8) = hpk (j / 8) (j % 8) → i = j := fun i j hi hj e => by
    have li : i < ((List.range 64).map fun i => hpk (i / 8) (i % 8)).length := by rw [List.length_map, List.length_range]; exact hi
    have lj : j < ((List.range 64).map fun i => hpk (i / 8) (i % 8)).length := by rw [List.length_map, List.length_range]; exact hj
    rcases Nat.lt_trichotomy i j with z | z | z
    · refine (n i j li lj z ?_).elim
      simpa using e
    · exact z
    · refine (n j i lj li z ?_).elim
      simpa using e.symm
  have := key (8 * a + b) (8 * c + d) (by omega) (by omega) (by rw [g a b ha hb, g c d hc hd, h])
  omega
theorem hash_nodup {P : Program} {w : World} {l : List (List Key)} (n : l.Nodup) (h : ∀ k ∈ l, ∃ a b, a < 8 ∧ b < 8 ∧ k = pk a b) : (l.map (tupleKind (mixKind P w)).hash).Nodup := by
  unfold List.Nodup at n ⊢
  rw [List.pairwise_map]
  refine n.imp_of_mem fun {x y} hx hy ne e => ne ?_
  obtain ⟨a, b, ha, hb, rfl⟩ := h x hx
  obtain ⟨c, d, hc, hd, rfl⟩ := h y hy
  rw [hash_pk, hash_pk] at e
  obtain ⟨rfl, rfl⟩ := hpk_inj ha hb hc hd e
  rfl
section
variable {X : Cx} {pins : List (Addr × Obj)} {σ : L2.St} {H : Hp} {s : Shared} {a b : Addr} {A : Around} {E : Value → Shared → Prop}
/-- d.update(d2) -/
theorem d_updateT {kvs more : List (List Key × V)} {Q : Value → Shared → Prop} (hu : A.units + 1 < cLine) (I : Inv X pins σ H s) (ea : H a = some (.dT kvs)) (eb : H b = some (.dT more)) (hab : a ≠ b) (hap : Apart more)
    (hz : kvs.length + more.length ≤ sizeLine) (h : ∀ s', Inv X pins σ (upd H a (.dT (mergeT kvs more))) s' → Q .none s') : wpAny (model X.prog X.w) A (call (.builtin "dict.update") [.ref a, .ref b]) Q E s := by
  obtain ⟨za, hda, xs, rel, dd⟩ := dt_of I.hok ea
  obtain ⟨zb, hdb, ys, rel2, dd2⟩ := dt_of I.hok eb
  obtain ⟨o2, es2, ep2, hb1, hb2, hb3, hb4, hb5, hb6⟩ := id dd2
  have hl : (mergeT kvs more).length ≤ sizeLine := Nat.le_trans (length_mergeT more kvs) hz
  have hn : (ys.map fun x => (tupleKind (mixKind X.prog X.w)).hash x.1).Nodup := by
    have e : (ys.map fun x => (tupleKind (mixKind X.prog X.w)).hash x.1) = (ys.map (·.1)).map (tupleKind (mixKind X.prog X.w)).hash := by rw [List.map_map]; rfl
    rw [e]
    refine hash_nodup hb6 fun k hk => ?_
    rw [KT.keysEq rel2] at hk
    obtain ⟨p, hp, rfl⟩ := List.mem_map.mp hk
    exact hap p hp
  refine call_update_dictH (tupleKind_room_in1 hu) hab hdb dd dd2 (.inr ⟨fun x hx => (key_of I.hok (KT.mem_tup rel2 x hx)).typeIs, hn⟩) (by rw [← Paired.length rel, ← Paired.length rel2]; exact hz) fun h' dd' _ hs => h _ ?_
  obtain ⟨q, es, ep, hq, h2, h3, h4, _, h5⟩ := dd'
  refine d_write (t' := s.toks) I (by rw [ea]; exact True.intro) hs ⟨q, hq⟩ ⟨hl, hda, _, (KT.merge rel2 rel).keeps fun c ys ec => ?_, q, es, ep, hq, h2, h3, h4, h5⟩
  rw [upd_ne (ne_of ec ea (fun z => nomatch z))]
  exact ec
end
def tDUpd (td ty : TE) : TE := fun σ H Q => td σ H fun x H1 => ∃ a, x = .ref a ∧ IsD H1 a ∧ ty σ H1 fun y H2 => ∃ (b : Addr) (kvs more : List (List Key × V)), y = .ref b ∧ H2 a = some (.dT kvs) ∧ H2 b = some (.dT more) ∧ a ≠ b ∧ Apart more ∧
  kvs.length + more.length ≤ sizeLine ∧ Q .non (upd H2 a (.dT (mergeT kvs more)))
section
variable {X : Cx} {o e f : Expr} {apos cpos : Pos} {td ty tx : TE}
theorem pe_dupd (hu : X.A.units + 1 < cLine) (ho : PE X o td) (he : PE X e ty) (m : M1 X o "update" apos e cpos) : PE X (.Call (.Attribute o "update" apos) [e] [] cpos) (tDUpd td ty) := by
  refine ⟨fun pins s σ H Q I h => ?_⟩
  refine wpAny_Call_method m.base m.few m.line PySem.F.plainAttrs_dict PySem.F.slot_dict_update PySem.F.type_dict_update (thn (ho.run pins s σ H _ I h) fun u s1 ⟨x, H1, I1, rx, a, ex, d, q1⟩ => ?_)
  subst ex
  obtain rfl : u = Value.ref a := rx
  obtain ⟨t1, t2, _⟩ := isD_at I1 d
  refine ⟨t1, t2, ?_⟩
  rw [m.trees]
  refine Calls.callWith_builtin rfl (Calls.evalArgs_plain (Calls.spliced_cons (thn (he.run pins s1 σ H1 _ I1 q1) fun iv s2 ⟨y, H2, I2, ry, b, kvs, more, ey, g1, g2, hab, hap, hz, q2⟩ => Calls.spliced_nil ?_)))
  subst ey
  cases (show iv = Value.ref b from ry)
  exact d_updateT hu I2 g1 g2 hab hap hz fun s3 I3 => ⟨.non, _, I3, rfl, q2⟩
end
end KU

set_option Elab.async false
set_option linter.all false
set_option maxRecDepth 100000
set_option maxHeartbeats 1000000
/-! a dict of the relations of a plan. -/
namespace KU
open PySem L2 KD KM KJ KG
def pkI (x y : Int) : List Key := [.inl x, .inl y]
theorem pkI_inj {a b c d : Int} (h : pkI a b = pkI c d) : a = c ∧ b = d := by
  unfold pkI at h
  injection h with h1 h2
  injection h2 with h2 _
  injection h1 with h1
  injection h2 with h2
  exact ⟨h1, h2⟩
theorem pkI_pk {x y : Int} (hx : 0 ≤ x) (hy : 0 ≤ y) : pkI x y = pk x.toNat y.toNat := by
  unfold pkI pk
  rw [Int.toNat_of_nonneg hx, Int.toNat_of_nonneg hy]
theorem valV_mem {k : List Key} {v : V} : ∀ {kvs : List (List Key × V)}, valV kvs k = some v → (k, v) ∈ kvs
  | [], h => by cases h
  | p :: r, h => by
    by_cases e : p.1 = k
    · rw [valV_pos e] at h
      cases h
      rw [← e]
      exact List.mem_cons_self
    · rw [valV_neg e] at h
      exact List.mem_cons_of_mem _ (valV_mem h)
theorem valV_of_mem {k : List Key} {v : V} : ∀ {kvs : List (List Key × V)}, (kvs.map (·.1)).Nodup → (k, v) ∈ kvs → valV kvs k = some v
  | p :: r, n, h => by
    rw [List.map_cons, List.nodup_cons] at n
    rcases List.mem_cons.mp h with z | z
    · subst z
      exact valV_pos rfl
    · have : ¬ p.1 = k := fun e => n.1 (List.mem_map.mpr ⟨_, z, e.symm⟩)
      rw [valV_neg this]
      exact valV_of_mem n.2 z
theorem mem_putK {kvs : List (List Key × V)} {k : List Key} {v : V} {p : List Key × V} (h : p ∈ putK kvs k v) : p ∈ kvs ∨ p = (k, v) := by
  unfold putK at h
  split at h
  · obtain ⟨q, hq, e⟩ := List.mem_map.mp h
    split at e
    · rename_i c
      exact .inr (by rw [← e, c])
    · exact .inl (by rw [← e]; exact hq)
  · rcases List.mem_append.mp h with z | z
    · exact .inl z
    · exact .inr (List.mem_singleton.mp z)
theorem keys_putK {kvs : List (List Key × V)} {k : List Key} {v : V} (n : (kvs.map (·.1)).Nodup) : ((putK kvs k v).map (·.1)).Nodup := by
  unfold putK
  split
  · rw [List.map_map]
    have e : ((fun x : List Key × V => x.1) ∘ fun kv : List Key × V => if kv.1 = k then (kv.1, v) else kv) = fun x => x.1 := by
      funext x
      show (if x.1 = k then (x.1, v) else x).1 = x.1
      split <;> rfl
    rw [e]
    exact n
  · rename_i c
    rw [List.map_append, List.nodup_append]
    refine ⟨n, by simp, fun a ha b hb e => ?_⟩
    have hb' : b = k := by simpa using hb
    obtain ⟨q, hq, hq2⟩ := List.mem_map.mp ha
    refine c (List.any_eq_true.mpr ⟨q, hq, decide_eq_true ?_⟩)
    rw [hq2, e, hb']
theorem isSome_put {kvs : List (List Key × V)} {k j : List Key} {v : V} (h : (valV kvs j).isSome = true) : (valV (putK kvs k v) j).isSome = true := by
  rw [valV_put]
  split
  · rfl
  · exact h
theorem isSome_put_same {kvs : List (List Key × V)} {k : List Key} {v : V} : (valV (putK kvs k v) k).isSome = true := by
  rw [valV_put, if_pos rfl]
  rfl
theorem isSome_merge {j : List Key} : ∀ {more kvs : List (List Key × V)}, ((valV kvs j).isSome = true ∨ (valV more j).isSome = true) → (valV (mergeT kvs more) j).isSome = true
  | [], kvs, h => by
    rcases h with h | h
    · exact h
    · cases h
  | p :: r, kvs, h => by
    refine isSome_merge (more := r) (kvs := putK kvs p.1 p.2) ?_
    rcases h with h | h
    · exact .inl (isSome_put h)
    · by_cases e : p.1 = j
      · rw [← e]
        exact .inl isSome_put_same
      · rw [valV_neg e] at h
        exact .inr h
/-- each entry is one of R's, no key twice -/
structure Tb (R : Int → Int → Str → Prop) (kvs : List (List Key × V)) : Prop where
  mem : ∀ p ∈ kvs, ∃ x y r, p = (pkI x y, V.str r) ∧ R x y r
  nd : (kvs.map (·.1)).Nodup
section
variable {R R' : Int → Int → Str → Prop} {kvs more : List (List Key × V)}
theorem Tb.nil : Tb R [] := ⟨fun p h => (absurd h List.not_mem_nil), List.nodup_nil⟩
theorem Tb.mono (t : Tb R kvs) (h : ∀ x y r, R x y r → R' x y r) : Tb R' kvs := ⟨fun p hp => by obtain ⟨x, y, r, e, z⟩ := t.mem p hp; exact ⟨x, y, r, e, h _ _ _ z⟩, t.nd⟩
theorem Tb.put {x y : Int} {r : Str} (t : Tb R kvs) (h : R x y r) : Tb R (putK kvs (pkI x y) (.str r)) := by
  refine ⟨fun p hp => ?_, keys_putK t.nd⟩
  rcases mem_putK hp with z | z
  · exact t.mem p z
  · exact ⟨x, y, r, z, h⟩
theorem Tb.merge : ∀ {more kvs : List (List Key × V)}, Tb R kvs → (∀ p ∈ more, ∃ x y r, p = (pkI x y, V.str r) ∧ R x y r) → Tb R (mergeT kvs more)
  | [], kvs, t, _ => t
  | p :: r, kvs, t, u => by
    obtain ⟨x, y, s, e, z⟩ := u p List.mem_cons_self
    refine Tb.merge (more := r) (kvs := putK kvs p.1 p.2) ?_ fun q hq => u q (List.mem_cons_of_mem _ hq)
    rw [e]
    exact t.put z
end
theorem nodup_le : ∀ (n : Nat) (l : List Nat), l.Nodup → (∀ x ∈ l, x < n) → l.length ≤ n
  | 0, l, _, h => by
    cases l with
    | nil => exact Nat.le_refl _
    | cons x r => exact absurd (h x List.mem_cons_self) (Nat.not_lt_zero _)
  | n + 1, l, nd, h => by
    have e : (l.erase n).length ≤ n := nodup_le n (l.erase n) (nd.erase n) fun x hx => by
      obtain ⟨h1, h2⟩ := (List.Nodup.mem_erase_iff nd).mp hx
      have := h x h2
      omega
    have := List.length_erase (a := n) (l := l)
    split at this <;> omega
theorem Tb.len {R : Int → Int → Str → Prop} {kvs : List (List Key × V)} (t : Tb R kvs) (h : ∀ x y r, R x y r → (0 ≤ x ∧ x < 8) ∧ 0 ≤ y ∧ y < 8) : kvs.length ≤ 64 := by
  let f : List Key → Nat := fun k => match k with
    | [.inl x, .inl y] => 8 * x.toNat + y.toNat
    | _ => 0
  have hk : ∀ p ∈ kvs, ∃ x y : Int, p.1 = pkI x y ∧ (0 ≤ x ∧ x < 8) ∧ 0 ≤ y ∧ y < 8 := fun p hp => by
    obtain ⟨x, y, r, e, z⟩ := t.mem p hp
    exact ⟨x, y, by rw [e], h _ _ _ z⟩
  have hnd : ((kvs.map (·.1)).map f).Nodup := by
    have n := t.nd
    unfold List.Nodup at n ⊢
    rw [List.pairwise_map]
    refine n.imp_of_mem fun {k1 k2} h1 h2 ne e => ne ?_
    obtain ⟨p1, q1, rfl⟩ := List.mem_map.mp h1
    obtain ⟨p2, q2, rfl⟩ := List.mem_map.mp h2
    obtain ⟨x, y, e1, b1⟩ := hk p1 q1
    obtain ⟨x', y', e2, b2⟩ := hk p2 q2
    rw [e1, e2] at e ⊢
    have e' : 8 * x.toNat + y.toNat = 8 * x'.toNat + y'.toNat := e
    have : x = x' := by omega
    have : y = y' := by omega
    subst x' y'
    rfl
  have := nodup_le 64 _ hnd fun z hz => by
    obtain ⟨k, h1, rfl⟩ := List.mem_map.mp hz
    obtain ⟨p, q, rfl⟩ := List.mem_map.mp h1
    obtain ⟨x, y, e, b⟩ := hk p q
    rw [e]
    show 8 * x.toNat + y.toNat < 64
    omega
  simpa using this
theorem Tb.apart {R : Int → Int → Str → Prop} {kvs : List (List Key × V)} (t : Tb R kvs) (h : ∀ x y r, R x y r → (0 ≤ x ∧ x < 8) ∧ 0 ≤ y ∧ y < 8) : Apart kvs := fun p hp => by
  obtain ⟨x, y, r, e, z⟩ := t.mem p hp
  have b := h _ _ _ z
  refine ⟨x.toNat, y.toNat, by omega, by omega, ?_⟩
  rw [e]
  exact pkI_pk b.1.1 b.2.1
/-- the relations of a plan, all of them -/
structure RelTab (d : PyData) (kvs : List (List Key × V)) : Prop where
  tb : Tb (fun x y r => RelD x y d r) kvs
  all : ∀ x y r, RelD x y d r → (valV kvs (pkI x y)).isSome = true
theorem RelTab.val {d : PyData} {kvs : List (List Key × V)} (t : RelTab d kvs) (n : (tl d).Nodup) {x y : Int} {r : Str} (h : RelD x y d r) : valV kvs (pkI x y) = some (.str r) := by
  have a := t.all x y r h
  obtain ⟨v, hv⟩ := Option.isSome_iff_exists.mp a
  obtain ⟨x', y', r', e, z⟩ := t.tb.mem _ (valV_mem hv)
  have e1 : pkI x y = pkI x' y' := congrArg Prod.fst e
  have e2 : v = V.str r' := congrArg Prod.snd e
  obtain ⟨rfl, rfl⟩ := pkI_inj e1
  rw [hv, e2, h.uniq n z]
/-- two tasks of different parts, ahead of a place in the row of all such pairs -/
def Lx (ps : List PyData) (k j l m : Nat) (x y : Int) : Prop := ∃ (k' j' l' m' : Nat) (p q : PyData), ps[k']? = some p ∧ ps[j']? = some q ∧ (tl p)[l']? = some x ∧ (tl q)[m']? = some y ∧ k' ≠ j' ∧
  (k' < k ∨ (k' = k ∧ (j' < j ∨ (j' = j ∧ (l' < l ∨ (l' = l ∧ m' < m))))))
section
variable {ps : List PyData} {k j l m : Nat} {x y : Int} {p q : PyData}
theorem Lx_0 : ¬ Lx ps 0 0 0 0 x y := fun ⟨_, _, _, _, _, _, _, _, _, _, _, h⟩ => by omega
theorem lt_of_some {α : Type} {xs : List α} {i : Nat} {a : α} (h : xs[i]? = some a) : i < xs.length := (List.getElem?_eq_some_iff.mp h).1
theorem Lx_j (h : Lx ps (k + 1) 0 0 0 x y) : Lx ps k ps.length 0 0 x y := by
  obtain ⟨k', j', l', m', p', q', h1, h2, h3, h4, h5, h6⟩ := h
  have := lt_of_some h2
  exact ⟨k', j', l', m', p', q', h1, h2, h3, h4, h5, by omega⟩
theorem Lx_l (hp : ps[k]? = some p) (h : Lx ps k (j + 1) 0 0 x y) : Lx ps k j (tl p).length 0 x y := by
  obtain ⟨k', j', l', m', p', q', h1, h2, h3, h4, h5, h6⟩ := h
  refine ⟨k', j', l', m', p', q', h1, h2, h3, h4, h5, ?_⟩
  by_cases c : k' = k
  · subst c
    rw [hp] at h1
    cases h1
    have := lt_of_some h3
    omega
  · omega
theorem Lx_m (hq : ps[j]? = some q) (h : Lx ps k j (l + 1) 0 x y) : Lx ps k j l (tl q).length x y := by
  obtain ⟨k', j', l', m', p', q', h1, h2, h3, h4, h5, h6⟩ := h
  refine ⟨k', j', l', m', p', q', h1, h2, h3, h4, h5, ?_⟩
  by_cases c : j' = j
  · subst c
    rw [hq] at h2
    cases h2
    have := lt_of_some h4
    omega
  · omega
theorem Lx_s {x0 y0 : Int} (hp : ps[k]? = some p) (hq : ps[j]? = some q) (hx : (tl p)[l]? = some x0) (hy : (tl q)[m]? = some y0) (h : Lx ps k j l (m + 1) x y) : Lx ps k j l m x y ∨ (x = x0 ∧ y = y0 ∧ k ≠ j) := by
  obtain ⟨k', j', l', m', p', q', h1, h2, h3, h4, h5, h6⟩ := h
  by_cases c : k' = k ∧ j' = j ∧ l' = l ∧ m' = m
  · obtain ⟨rfl, rfl, rfl, rfl⟩ := c
    rw [hp] at h1
    cases h1
    rw [hq] at h2
    cases h2
    rw [hx] at h3
    cases h3
    rw [hy] at h4
    cases h4
    exact .inr ⟨rfl, rfl, h5⟩
  · exact .inl ⟨k', j', l', m', p', q', h1, h2, h3, h4, h5, by omega⟩
theorem Lx_end {i : Nat} (hp : ps[i]? = some p) (hq : ps[j]? = some q) (hx : x ∈ tl p) (hy : y ∈ tl q) (h : i ≠ j) : Lx ps ps.length 0 0 0 x y := by
  obtain ⟨l, hl⟩ := List.getElem?_of_mem hx
  obtain ⟨m, hm⟩ := List.getElem?_of_mem hy
  exact ⟨i, j, l, m, p, q, hp, hq, hl, hm, h, .inl (lt_of_some hp)⟩
end
/-- the range of a plan's tasks -/
def Sm (d : PyData) : Prop := ∀ x ∈ tl d, 0 ≤ x ∧ x < 8
theorem Sm.rel {d : PyData} (s : Sm d) {x y : Int} {r : Str} (h : RelD x y d r) : (0 ≤ x ∧ x < 8) ∧ 0 ≤ y ∧ y < 8 := ⟨s x h.mem.1, s y h.mem.2⟩
theorem Sm.part {w : Str} {ps : List PyData} {p : PyData} (s : Sm (.tuple [.str w, .tuple ps])) (hp : p ∈ ps) : Sm p := fun x hx => s x (by rw [tl_part]; exact tl_mem hp x hx)
end KU

set_option Elab.async false
set_option linter.all false
set_option maxRecDepth 100000
set_option maxHeartbeats 1000000
namespace K2
open PySem L2 GxR GA KD KR KM KJ KU
open KG (RelD RelD.mem mem_tlL one_place nodup_part)
abbrev sRelated : Stmt := top 35
/-- a dict of the plan's relations -/
def spRelated (n : Nat) : Sp := fun vs H Q _ => ∃ (v : V) (d : PyData) (o : Str), vs = [v] ∧ At MN H v d ∧ formed d o = some (tl d) ∧ d.depth < n ∧ (tl d).length ≤ 7 ∧ (tl d).Nodup ∧ Sm d ∧
  ∀ a kvs H', (∀ zs, H a ≠ some (.dT zs)) → Kp MN H H' → H' a = some (.dT kvs) → RelTab d kvs → Q (.ref a) H'
theorem AtL.ints_of {M : Addr → Prop} {H : Hp} : ∀ {l : List Int} {vs : List V}, AtL M H vs (l.map PyData.int) → vs = l.map V.int
  | [], _, h => by cases h; rfl
  | i :: r, _, h => by
    cases h with
    | cons a b => rw [a.int_of, AtL.ints_of b]; rfl
def rowD (p : PyData) : PyData := .list ((tl p).map PyData.int)
section
variable {P : Program} {w : World} {K : PySem.W.Frag} {mg : Str → Option Value} {base : Heap}
theorem scRelated : FnScope ["plan", "found", "part", "rows", "k", "j", "one", "other"] ["plan"] (defScope sRelated) := ⟨rfl, rfl, rfl, by decide +kernel, rfl, by decide +kernel, by decide +kernel⟩
theorem ok_related {n : Nat} {f g : Addr} {fd gd : FuncData} (F : Fun K "_law_related" "_law_related" sRelated f fd) (B : Bl K mg)
    (G : FnOk P w K mg base CX0 (n + 1) g gd ["plan"] (spTasks n)) (bG : Binds K gd ["plan"] []) (kG : PySem.W.keepIn K (.ref g) = true) (mG : mg "_law_all" = some (.ref g))
    (R : FnOk P w K mg base CX0 (n + 1) f fd ["plan"] (spRelated n)) (bF : Binds K fd ["plan"] []) (mF : mg "_law_related" = some (.ref f)) :
    FnOk P w K mg base CX0 (n + 2) f fd ["plan"] (spRelated (n + 1)) := by
  refine F.ok scRelated (fun vs H Q E h => ?_) (fun cdv A outer s H vs Q E hr h => ?_)
  · obtain ⟨v, d, o, rfl, _⟩ := h
    rfl
  obtain ⟨v, d, o, rfl, hA, hf, hd, h7, hnd, hsm, q⟩ := h
  have hu1 := room65 hr
  refine ⟨_, pss_cons (ps_set (i := 1) scRelated.nd rfl (Or.inl rfl) pe_dnewT)
    (pss_cons (ps_if (pt_not (pt_val (pe_callB call_isi rfl B.isinstance (by decide +kernel) (pa_cons (pv 0) (pa_cons (pe_bltn rfl B.int (by decide +kernel) (v := .ty "int") rfl) pa_nil)))))
      (pss_cons (ps_for PassesOwn.never rfl (pi_tup (pe_ix ix_tup (pv 0) pe_int (fun _ _ => rfl))) (pg_name (i := 2) scRelated.nd rfl (Or.inl rfl))
        (pss_one (ps_expr (pe_dupd (hu_of hr) (pv 1) (pe_call R hr rfl mF F.kp bF .nil pass0 (pa_cons (pv 2) pa_nil)) ⟨rfl, rfl, rfl, rfl⟩))))
      (pss_cons (ps_setLc (i := 3) (own := [("part", 2)]) (g := gName 2) (tt := tYes) (te := tCall (spTasks n) [] E0 (tCons (tVar 2) tNil)) (by rfl) scRelated.nd rfl rfl (sw_true rfl rfl rfl (by decide +kernel)) (pi_tup (pe_ix ix_tup (pv 0) pe_int (fun _ _ => rfl)))
        (blkOk_by (own := [("part", 2)]) (N := ["plan", "found", "part", "rows", "k", "j", "one", "other"]) (sc := defScope sRelated) (by decide +kernel)) (fun _ _ _ _ _ => pg_name (i := 2) scRelated.nd rfl (Or.inl rfl)) (fun _ _ _ _ _ => pts_nil)
        (fun _ _ _ _ _ => pe_call G hr rfl mG kG bG .nil pass0 (pa_cons (pv 2) pa_nil)))
      (pss_one (ps_for PassesOwn.never rfl (pi_range1 rfl B.range (pa_cons (pe_callB call_len_seq rfl B.len PySem.boot_len (pa_cons (pv 3) pa_nil)) pa_nil)) (pg_name (i := 4) scRelated.nd rfl (Or.inl rfl))
        (pss_one (ps_for PassesOwn.never rfl (pi_range1 rfl B.range (pa_cons (pe_callB call_len_seq rfl B.len PySem.boot_len (pa_cons (pv 3) pa_nil)) pa_nil)) (pg_name (i := 5) scRelated.nd rfl (Or.inl rfl))
          (pss_one (ps_for PassesOwn.never rfl (pi_list (pe_ix ix_list (pv 3) (pv 4) (fun _ _ => rfl))) (pg_name (i := 6) scRelated.nd rfl (Or.inl rfl))
            (pss_one (ps_for PassesOwn.never rfl (pi_list (pe_ix ix_list (pv 3) (pv 5) (fun _ _ => rfl))) (pg_name (i := 7) scRelated.nd rfl (Or.inl rfl))
              (pss_one (ps_if (pt_cmpR op_ne (pv 4) (pv 5) (nomark _))
                (pss_one (ps_asg (pe_ifExp (pt_cmpR op_eq (pe_ix ix_tup (pv 0) pe_int (fun _ _ => rfl)) pe_str (nomark _)) pe_str (pe_ifExp (pt_cmpR op_lt (pv 4) (pv 5) (nomark _)) pe_str pe_str))
                  (pg_sub (pv 1) (pe_tup (pa_cons (pv 6) (pa_cons (pv 7) pa_nil))) (set_dict (hu_of hr))))) pss_nil)))))))))))) pss_nil)
    (pss_one (ps_ret (pv 1)))), ?_⟩
  intro D hD
  have kD : Kp MN H (upd H D (.dT [])) := Kp.new hD
  have eD : upd H D (.dT []) D = some (.dT []) := upd_same
  generalize upd H D (.dT []) = H0 at kD eD
  have fD : ∀ zs, H D ≠ some (.dT zs) := fun zs z => by rw [hD] at z; cases z
  refine ⟨_, rfl, _, _, _, _, _, rfl, .ty _, (hA.kp kD).ty, kit_int d, _, rfl, ?_⟩
  rcases plan_cases hf with ⟨i, rfl⟩ | ⟨wo, ps, rfl, hwd, hwo, h2, hfl, hfm⟩
  · cases hA.int_of
    refine iteF ?_
    exact ⟨_, rfl, q D [] H0 fD kD eD ⟨Tb.nil, fun x y r h => by cases h⟩⟩
  refine iteT ?_
  obtain ⟨a, a2, xs, rfl, hx, hx2, hall⟩ := At.parts hA
  rw [tl_part] at h7 hnd
  have hl := hall.length
  let S0 : Nat → Int → Int → Prop := fun i x y => ∃ (m : Nat) (p : PyData) (r : Str), m < i ∧ ps[m]? = some p ∧ RelD x y p r
  refine ⟨_, rfl, _, _, _, _, rfl, rfl, SqT.of (kD.tup _ _ hx), atI_nat (j := 1) rfl, a2, rfl, ⟨_, SqT.of (kD.tup _ _ hx2)⟩, ?_⟩
  refine for_tup (K := K) (a := a2) (xs := xs) (fun i σ H' => ∃ x2 kvs, σ = [some (.ref a), some (.ref D), x2, none, none, none, none, none] ∧ Kp (fun b => b = D) H0 H' ∧ H' D = some (.dT kvs) ∧
      Tb (fun x y r => RelD x y (.tuple [.str wo, .tuple ps]) r) kvs ∧ ∀ x y, S0 i x y → (valV kvs (pkI x y)).isSome = true)
    ⟨none, [], rfl, .refl, eD, Tb.nil, fun x y ⟨m, _, _, h, _⟩ => absurd h (Nat.not_lt_zero _)⟩
    (fun i σ H' _ p => SqT.of (by obtain ⟨_, _, _, k, _⟩ := p; exact k.tup _ _ (kD.tup _ _ hx2))) (fun i x σ H' hi p => ?_) (fun σ H' p => ?_)
  · obtain ⟨x2, kvs, rfl, k, e, tb, dn⟩ := p
    obtain ⟨d', hd', ha'⟩ := hall.get hi
    have hm := List.mem_of_getElem? hd'
    refine ⟨_, rfl, D, rfl, .inr ⟨kvs, .inl e⟩, ?_⟩
    have nl : noL d' = true := (fine (d'.depth + 1) (Nat.lt_succ_self _) (hfm d' hm) (Nat.le_trans (tl_le hm) (by omega))).nol
    refine ⟨_, rfl, x, d', wo, rfl, At.put (fun b ys z => k.tup b ys z) (ha'.kp kD) nl, hfm d' hm, depth_part hd hm, Nat.le_trans (tl_le hm) h7, nodup_part hnd hm, hsm.part hm, fun b more H5 hb k5 e5 t5 => ?_⟩
    have e5D := k5.dct D _ (fun z => z) e
    have hbD : D ≠ b := fun z => hb kvs (by rw [← z]; exact e)
    have tb5 : Tb (fun x y r => RelD x y (.tuple [.str wo, .tuple ps]) r) more := t5.tb.mono fun x y r h => .inner hd' h.mem.1 h.mem.2 h
    have l1 := tb.len fun x y r h => hsm.rel h
    have l2 := tb5.len fun x y r h => hsm.rel h
    refine ⟨b, kvs, more, rfl, e5D, e5, hbD, tb5.apart fun x y r h => hsm.rel h, ?_, _, mergeT kvs more, rfl, (k.trans k5.any).trans (Kp.putD rfl e5D), upd_same, tb.merge tb5.mem, ?_⟩
    · rw [sizeLine_eq]; omega
    · intro x y ⟨m, p, r, h1, h2, h3⟩
      refine isSome_merge ?_
      by_cases c : m < i
      · exact .inl (dn x y ⟨m, p, r, c, h2, h3⟩)
      · have : m = i := by omega
        subst this
        rw [hd'] at h2
        cases h2
        exact .inr (t5.all x y r h3)
  · obtain ⟨x2, kvs, rfl, k, e, tb, dn⟩ := p
    rw [hl] at dn
    have kH : Kp MN H H' := kD.cut k hD
    refine ⟨_, rfl, _, _, _, _, rfl, rfl, SqT.of (kH.tup _ _ hx), atI_nat (j := 1) rfl, a2, rfl, ⟨_, SqT.of (kH.tup _ _ hx2)⟩, fun Rw hRw => ?_⟩
    have nRD : D ≠ Rw := ne_of_none e hRw
    refine lc_tup (K := K) (a := a2) (xs := xs) (fun i H2 => ∃ vs, Kp MN H' H2 ∧ H2 Rw = some (.lst vs) ∧ AtL (fun b => b = D ∨ b = Rw) H2 vs ((ps.take i).map rowD))
      ⟨[], Kp.new hRw, upd_same, .nil⟩ (fun i H2 _ p => SqT.of (by
        obtain ⟨_, k2, _⟩ := p
        exact k2.tup _ _ (kH.tup _ _ hx2))) (fun i x H2 hi p => ?_) (fun H2 p => ?_)
    · obtain ⟨vs, k2, e2, r2⟩ := p
      obtain ⟨d', hd', ha'⟩ := hall.get hi
      have hm := List.mem_of_getElem? hd'
      have hlv := r2.length
      have hil := lt_of_some hd'
      have hps := formedL_len _ _ _ hfl
      refine ⟨rfl, ?_⟩
      dsimp only [tYes]
      rw [if_pos rfl]
      have htk : (ps.take (i + 1)).map rowD = (ps.take i).map rowD ++ [rowD d'] := by rw [List.take_succ, hd', List.map_append]; rfl
      refine ⟨_, rfl, x, d', wo, rfl, ha'.kp (kH.trans k2), hfm d' hm, depth_part hd hm, Nat.le_trans (tl_le hm) (by omega), fun b H5 hb k5 e5 => ?_⟩
      have e5R := k5.lst Rw _ (fun z => z) e2
      have nb : b ≠ Rw := fun z => hb vs (by rw [z]; exact e2)
      have eD5 := (k2.trans k5).dct D _ (fun z => z) e
      have nbD : b ≠ D := ne_of e5 eD5 (fun z => by cases z)
      refine ⟨vs, e5R, small1000 (by rw [hlv, List.length_map, List.length_take]; omega), vs ++ [.ref b], (k2.trans k5).putNew hRw e5R, upd_same, ?_⟩
      rw [htk]
      refine ((r2.kp k5.any).kp (Kp.put (.inr rfl) e5R)).append (.one (.lst (xs := (tl d').map V.int) (by rw [upd_ne nb]; exact e5) (fun z => ?_) (AtL.ints _)))
      rcases z with z | z
      · exact nbD z
      · exact nb z
    obtain ⟨vs, k2, e2, r2⟩ := p
    rw [hl, List.take_length] at r2
    have hlv : vs.length = ps.length := by rw [r2.length, List.length_map]
    have aR : At (fun b => b = D) H2 (.ref Rw) (.list (ps.map rowD)) := .lst e2 (fun z => nRD z.symm) (r2.weak fun b z => .inl z)
    have eD2 := k2.dct D _ (fun z => z) e
    have hps := formedL_len _ _ _ hfl
    refine ⟨_, rfl, Rw, _, rfl, .inl (SqL.of e2), _, rfl, by omega, by omega, ?_⟩
    have tn : ((vs.length : Int)).toNat = ps.length := by rw [Int.toNat_natCast, hlv]
    let T : Nat → Nat → Nat → Nat → Int → Int → Prop := fun k j l m x y => S0 ps.length x y ∨ Lx ps k j l m x y
    let RR : Int → Int → Str → Prop := fun x y r => RelD x y (.tuple [.str wo, .tuple ps]) r
    refine for_range (lo := 0) (n := ((vs.length : Int)).toNat) (fun i σ H' => ∃ x4 x5 x6 x7 kvs, σ = [some (.ref a), some (.ref D), x2, some (.ref Rw), x4, x5, x6, x7] ∧ Kp (fun b => b = D) H2 H' ∧ H' D = some (.dT kvs) ∧ Tb RR kvs ∧ ∀ x y, T i 0 0 0 x y → (valV kvs (pkI x y)).isSome = true)
      ⟨none, none, none, none, kvs, rfl, .refl, eD2, tb, fun x y h => dn x y (h.resolve_right Lx_0)⟩ (fun i σ H' hi p => ?_) (fun σ H' p => ?_)
    · obtain ⟨x4, x5, x6, x7, kv1, rfl, k3, e3, t3, n3⟩ := p
      have hi' : i < ps.length := by omega
      have hp : ps[i]? = some ps[i] := List.getElem?_eq_getElem hi'
      generalize ps[i] = pc at hp
      have e2R := k3.lst Rw _ (fun z => nRD z.symm) e2
      refine ⟨_, rfl, Rw, _, rfl, .inl (SqL.of e2R), _, rfl, by omega, by omega, ?_⟩
      refine for_range (lo := 0) (n := ((vs.length : Int)).toNat) (fun j σ H' => ∃ x5 x6 x7 kvs, σ = [some (.ref a), some (.ref D), x2, some (.ref Rw), some (.int (0 + (i : Int))), x5, x6, x7] ∧ Kp (fun b => b = D) H2 H' ∧ H' D = some (.dT kvs) ∧ Tb RR kvs ∧ ∀ x y, T i j 0 0 x y → (valV kvs (pkI x y)).isSome = true)
        ⟨x5, x6, x7, kv1, rfl, k3, e3, t3, n3⟩ (fun j σ H' hj p => ?_) (fun σ H' p => ?_)
      · obtain ⟨x5, x6, x7, kv2, rfl, k4, e4, t4, n4⟩ := p
        have hj' : j < ps.length := by omega
        have hq : ps[j]? = some ps[j] := List.getElem?_eq_getElem hj'
        generalize ps[j] = qc at hq
        have row : ∀ {H' : Hp} {i : Nat} {pc : PyData}, Kp (fun b => b = D) H2 H' → ps[i]? = some pc → ∃ b, atI vs (0 + (i : Int)) = some (V.ref b) ∧ H' Rw = some (.lst vs) ∧ H' b = some (.lst ((tl pc).map V.int)) := fun {H' i pc} k hp => by
          obtain ⟨v, hv, av⟩ := (r2.kp (k.mono fun b z => .inl z)).get' (i := i) (d := rowD pc) (by rw [List.getElem?_map, hp]; rfl)
          obtain ⟨b, zs, rfl, hb, _, ab⟩ := av.lst_of
          refine ⟨b, by rw [Int.zero_add]; exact atI_nat hv, k.lst Rw _ (fun z => nRD z.symm) e2, ?_⟩
          rw [hb, AtL.ints_of ab]
        obtain ⟨b1, hv1, hR1, hb1⟩ := row k4 hp
        refine ⟨_, rfl, _, rfl, Rw, _, _, _, rfl, rfl, SqL.of hR1, hv1, b1, rfl, ⟨_, SqL.of hb1⟩, ?_⟩
        refine for_list (K := K) (a := b1) (xs := (tl pc).map V.int) (fun l σ H' => ∃ x6 x7 kvs, σ = [some (.ref a), some (.ref D), x2, some (.ref Rw), some (.int (0 + (i : Int))), some (.int (0 + (j : Int))), x6, x7] ∧ Kp (fun b => b = D) H2 H' ∧ H' D = some (.dT kvs) ∧ Tb RR kvs ∧ ∀ x y, T i j l 0 x y → (valV kvs (pkI x y)).isSome = true)
          ⟨x6, x7, kv2, rfl, k4, e4, t4, n4⟩ (fun l σ H' _ p => SqL.of (by
            obtain ⟨_, _, _, _, k, _⟩ := p
            obtain ⟨b, z1, _, z2⟩ := row k hp
            rw [hv1] at z1
            cases z1
            exact z2)) (fun l x σ H' hxl p => ?_) (fun σ H' p => ?_)
        · obtain ⟨x6, x7, kv3, rfl, k5, e5, t5, n5⟩ := p
          rw [List.getElem?_map] at hxl
          obtain ⟨tx, htx, rfl⟩ := Option.map_eq_some_iff.mp hxl
          obtain ⟨b2, hv2, hR2, hb2⟩ := row k5 hq
          refine ⟨_, rfl, _, rfl, Rw, _, _, _, rfl, rfl, SqL.of hR2, hv2, b2, rfl, ⟨_, SqL.of hb2⟩, ?_⟩
          refine for_list (K := K) (a := b2) (xs := (tl qc).map V.int) (fun m σ H' => ∃ x7 kvs, σ = [some (.ref a), some (.ref D), x2, some (.ref Rw), some (.int (0 + (i : Int))), some (.int (0 + (j : Int))), some (.int tx), x7] ∧ Kp (fun b => b = D) H2 H' ∧ H' D = some (.dT kvs) ∧ Tb RR kvs ∧ ∀ x y, T i j l m x y → (valV kvs (pkI x y)).isSome = true)
            ⟨x7, kv3, rfl, k5, e5, t5, n5⟩ (fun m σ H' _ p => SqL.of (by
              obtain ⟨_, _, _, k, _⟩ := p
              obtain ⟨b, z1, _, z2⟩ := row k hq
              rw [hv2] at z1
              cases z1
              exact z2)) (fun m x σ H' hy p => ?_) (fun σ H' p => ?_)
          · obtain ⟨x7, kv4, rfl, k6, e6, t6, n6⟩ := p
            rw [List.getElem?_map] at hy
            obtain ⟨ty, hty, rfl⟩ := Option.map_eq_some_iff.mp hy
            refine ⟨_, rfl, _, rfl, rfl, _, rfl, ?_⟩
            by_cases c : i = j
            · subst c
              have : (!decide (V.int (0 + (i : Int)) = V.int (0 + (i : Int)))) = false := by rw [decide_eq_true rfl]; rfl
              rw [this]
              refine iteF ?_
              refine ⟨_, _, rfl, k6, e6, t6, fun x y h => ?_⟩
              rcases h with h | h
              · exact n6 x y (.inl h)
              · rcases Lx_s hp hq htx hty h with z | z
                · exact n6 x y (.inr z)
                · exact absurd rfl z.2.2
            · have : (!decide (V.int (0 + (i : Int)) = V.int (0 + (j : Int)))) = true := by
                rw [decide_eq_false fun z => by injection z with z; omega]; rfl
              rw [this]
              refine iteT ?_
              have l6 := t6.len fun x y r h => hsm.rel h
              have fin : ∀ (r : Str) (t : Addr), RR tx ty r → H' t = none → DPut (upd H' t (.tup [.int tx, .int ty])) D (.ref t) (.str r) (upd (upd H' t (.tup [.int tx, .int ty])) D (.dT (putK kv4 (pkI tx ty) (.str r)))) ∧
                  Kp (fun b => b = D) H2 (upd (upd H' t (.tup [.int tx, .int ty])) D (.dT (putK kv4 (pkI tx ty) (.str r)))) ∧ Tb RR (putK kv4 (pkI tx ty) (.str r)) ∧ ∀ x y, T i j l (m + 1) x y → (valV (putK kv4 (pkI tx ty) (.str r)) (pkI x y)).isSome = true := by
                intro r t hr ht
                have nt := ne_of_none e6 ht
                have e7 : upd H' t (.tup [.int tx, .int ty]) D = some (.dT kv4) := by rw [upd_ne nt]; exact e6
                refine ⟨DPut.t (k := pkI tx ty) e7 upd_same (by rw [sizeLine_eq]; omega), k6.trans ((Kp.new ht).trans (Kp.putD rfl e7)), t6.put hr, fun x y h => ?_⟩
                rcases h with h | h
                · exact isSome_put (n6 x y (.inl h))
                · rcases Lx_s hp hq htx hty h with z | z
                  · exact isSome_put (n6 x y (.inr z))
                  · rw [z.1, z.2.1]
                    exact isSome_put_same
              have mx := List.mem_of_getElem? htx
              have my := List.mem_of_getElem? hty
              refine ⟨_, rfl, _, _, _, _, rfl, rfl, SqT.of (k6.tup _ _ ((kH.trans k2).tup _ _ hx)), atI_nat (j := 0) rfl, rfl, _, rfl, ?_⟩
              refine ite2 (fun cc => ?_) (fun cc => ?_)
              · have c' := of_decide_eq_true cc
                injection c' with c'
                refine ⟨_, rfl, _, rfl, _, rfl, (by show 2 ≤ sizeLine; decide), fun t ht => ?_⟩
                obtain ⟨f1, f2, f3, f4⟩ := fin "beside" t (by subst c'; exact .beside hp hq mx my c) ht
                exact ⟨D, _, rfl, f1, _, _, rfl, f2, upd_same, f3, f4⟩
              · have nb : wo ≠ "beside" := fun z => (of_decide_eq_false (Bool.eq_false_iff.mpr cc)) (by rw [z])
                have wt : wo = "then" := (wd_or hwd).resolve_right nb
                refine ⟨_, rfl, _, rfl, _, _, rfl, rfl, _, rfl, ?_⟩
                refine ite2 (fun c2 => ?_) (fun c2 => ?_)
                · have lt := of_decide_eq_true c2
                  refine ⟨_, rfl, _, rfl, _, rfl, (by show 2 ≤ sizeLine; decide), fun t ht => ?_⟩
                  obtain ⟨f1, f2, f3, f4⟩ := fin "before" t (by subst wt; exact .before hp hq mx my (by omega)) ht
                  exact ⟨D, _, rfl, f1, _, _, rfl, f2, upd_same, f3, f4⟩
                · have lt := of_decide_eq_false (Bool.eq_false_iff.mpr c2)
                  refine ⟨_, rfl, _, rfl, _, rfl, (by show 2 ≤ sizeLine; decide), fun t ht => ?_⟩
                  obtain ⟨f1, f2, f3, f4⟩ := fin "after" t (by subst wt; exact .after hp hq mx my (by omega)) ht
                  exact ⟨D, _, rfl, f1, _, _, rfl, f2, upd_same, f3, f4⟩
          · obtain ⟨x7, kv4, rfl, k6, e6, t6, n6⟩ := p
            rw [List.length_map] at n6
            exact ⟨_, _, _, rfl, k6, e6, t6, fun x y h => n6 x y (h.imp_right (Lx_m hq))⟩
        · obtain ⟨x6, x7, kv3, rfl, k5, e5, t5, n5⟩ := p
          rw [List.length_map] at n5
          exact ⟨_, _, _, _, rfl, k5, e5, t5, fun x y h => n5 x y (h.imp_right (Lx_l hp))⟩
      · obtain ⟨x5, x6, x7, kv2, rfl, k4, e4, t4, n4⟩ := p
        refine ⟨_, _, _, _, _, rfl, k4, e4, t4, fun x y h => n4 x y (h.imp_right fun z => by rw [tn]; exact Lx_j z)⟩
    · obtain ⟨x4, x5, x6, x7, kv1, rfl, k3, e3, t3, n3⟩ := p
      refine ⟨_, rfl, q D kv1 H' fD ((kH.trans k2).cut k3 hD) e3 ⟨t3, fun x y r h => n3 x y ?_⟩⟩
      rw [tn]
      cases h with
      | inner h1 h2 h3 h4 => exact .inl ⟨_, _, _, lt_of_some h1, h1, h4⟩
      | beside h1 h2 h3 h4 h5 => exact .inr (Lx_end h1 h2 h3 h4 h5)
      | before h1 h2 h3 h4 h5 => exact .inr (Lx_end h1 h2 h3 h4 (by omega))
      | after h1 h2 h3 h4 h5 => exact .inr (Lx_end h1 h2 h3 h4 (by omega))
theorem oks_related {f g : Addr} {fd gd : FuncData} (F : Fun K "_law_related" "_law_related" sRelated f fd) (B : Bl K mg)
    (G : ∀ n, FnOk P w K mg base CX0 (n + 1) g gd ["plan"] (spTasks n)) (bG : Binds K gd ["plan"] []) (kG : PySem.W.keepIn K (.ref g) = true) (mG : mg "_law_all" = some (.ref g))
    (bF : Binds K fd ["plan"] []) (mF : mg "_law_related" = some (.ref f)) : ∀ n : Nat, FnOk P w K mg base CX0 (n + 1) f fd ["plan"] (spRelated n)
  | 0 => never_ok fun vs H Q E h => by
    obtain ⟨_, _, _, _, _, _, h, _⟩ := h
    exact absurd h (Nat.not_lt_zero _)
  | n + 1 => ok_related F B (G n) bG kG mG (oks_related F B G bG kG mG bF mF n) bF mF
end
end K2

set_option Elab.async false
set_option linter.all false
set_option maxRecDepth 100000
set_option maxHeartbeats 1000000
namespace KG
open PySem L2 KM KJ
/-- what a piece becomes among the parts under w -/
def spr (w : Str) : PyData → List PyData
  | .tuple [.str u, .tuple ps] => if u = w then ps else [.tuple [.str u, .tuple ps]]
  | d => [d]
/-- pieces as one plan -/
def jn (w : Str) : List PyData → PyData
  | [p] => p
  | ps => .tuple [.str w, .tuple ps]
def hasC (C : List Int) (p : PyData) : Bool := (tl p).any fun x => decide (x ∈ C)
mutual
def lft (C : List Int) : PyData → PyData
  | .int i => .int (C.idxOf i : Nat)
  | .tuple [.str w, .tuple ps] => jn w (lftL C w ps)
  | d => d
termination_by d => sizeOf d
def lftL (C : List Int) (w : Str) : List PyData → List PyData
  | [] => []
  | p :: r => (if hasC C p then spr w (lft C p) else []) ++ lftL C w r
termination_by ds => sizeOf ds
end
theorem lft_int (C : List Int) (i : Int) : lft C (.int i) = .int (C.idxOf i : Nat) := by rw [lft]
theorem lft_part (C : List Int) (w : Str) (ps : List PyData) : lft C (.tuple [.str w, .tuple ps]) = jn w (lftL C w ps) := by rw [lft]
theorem lftL_nil (C : List Int) (w : Str) : lftL C w [] = [] := by rw [lftL]
theorem lftL_cons (C : List Int) (w : Str) (p : PyData) (r : List PyData) : lftL C w (p :: r) = (if hasC C p then spr w (lft C p) else []) ++ lftL C w r := by rw [lftL]
theorem lftL_app (C : List Int) (w : Str) : ∀ ps qs : List PyData, lftL C w (ps ++ qs) = lftL C w ps ++ lftL C w qs
  | [], qs => by rw [lftL_nil]; rfl
  | p :: r, qs => by rw [List.cons_append, lftL_cons, lftL_cons, lftL_app C w r qs, List.append_assoc]
/-- the numbers of the chosen ones -/
def num (C l : List Int) : List Int := (l.filter fun x => decide (x ∈ C)).map fun x => ((C.idxOf x : Nat) : Int)
theorem num_app (C l m : List Int) : num C (l ++ m) = num C l ++ num C m := by unfold num; rw [List.filter_append, List.map_append]
theorem num_none {C : List Int} {p : PyData} (h : hasC C p = false) : num C (tl p) = [] := by
  unfold num
  rw [List.map_eq_nil_iff, List.filter_eq_nil_iff]
  intro x hx hc
  unfold hasC at h
  rw [List.any_eq_false] at h
  exact h x hx hc
theorem num_some {C : List Int} {p : PyData} (h : hasC C p = true) : num C (tl p) ≠ [] := by
  unfold hasC at h
  rw [List.any_eq_true] at h
  obtain ⟨x, hx, hc⟩ := h
  intro z
  unfold num at z
  rw [List.map_eq_nil_iff, List.filter_eq_nil_iff] at z
  exact z x hx hc
theorem mem_num {C l : List Int} {x : Int} (hx : x ∈ l) (hc : x ∈ C) : ((C.idxOf x : Nat) : Int) ∈ num C l := List.mem_map.mpr ⟨x, List.mem_filter.mpr ⟨hx, decide_eq_true hc⟩, rfl⟩
theorem wd_ne {w : Str} (h : wd w = true) : w ≠ "" := by
  intro z
  subst z
  revert h
  decide +kernel
theorem formed_int' (i : Int) (o : Str) : formed (.int i) o = some [i] := formed_int i o
theorem formed_node {w o : Str} {ps : List PyData} (hw : wd w = true) (ho : w ≠ o) (h2 : 2 ≤ ps.length) (hp : ∀ p ∈ ps, formed p w = some (tl p)) : formed (.tuple [.str w, .tuple ps]) o = some (tl (.tuple [.str w, .tuple ps])) := by
  rw [formed_parts, if_pos (by simp only [Bool.and_eq_true, Bool.not_eq_true', decide_eq_false_iff_not, decide_eq_true_eq]; exact ⟨⟨hw, ho⟩, h2⟩), tl_part]
  exact formedL_ok hp
theorem formed_any {d : PyData} {o : Str} (h : formed d o = some (tl d)) : formed d "" = some (tl d) := by
  rcases plan_cases h with ⟨i, rfl⟩ | ⟨w, ps, rfl, hw, hwo, h2, hfl, hfm⟩
  · rw [formed_int, tl_int]
  · exact formed_node hw (wd_ne hw) h2 hfm
theorem spr_int (w : Str) (i : Int) : spr w (.int i) = [.int i] := rfl
theorem spr_part (w u : Str) (ps : List PyData) : spr w (.tuple [.str u, .tuple ps]) = if u = w then ps else [.tuple [.str u, .tuple ps]] := rfl
theorem spr_in {d : PyData} {w : Str} (h : formed d w = some (tl d)) : spr w d = [d] := by
  rcases plan_cases h with ⟨i, rfl⟩ | ⟨u, ps, rfl, hw, hwo, h2, hfl, hfm⟩
  · rfl
  · rw [spr_part, if_neg hwo]
theorem spr_ok {d : PyData} {w : Str} (h : formed d "" = some (tl d)) : (∀ q ∈ spr w d, formed q w = some (tl q)) ∧ tlL (spr w d) = tl d ∧ jn w (spr w d) = d ∧ spr w d ≠ [] := by
  rcases plan_cases h with ⟨i, rfl⟩ | ⟨u, ps, rfl, hw, hwo, h2, hfl, hfm⟩
  · rw [spr_int]
    refine ⟨fun q hq => ?_, by rw [tlL_cons, tlL_nil, List.append_nil], rfl, by simp⟩
    rw [List.mem_singleton.mp hq, formed_int, tl_int]
  · rw [spr_part]
    by_cases c : u = w
    · rw [if_pos c]
      subst c
      refine ⟨hfm, (tl_part _ _).symm, ?_, fun z => by rw [z] at h2; exact absurd h2 (by decide)⟩
      match ps, h2 with
      | _ :: _ :: _, _ => rfl
    · rw [if_neg c]
      refine ⟨fun q hq => ?_, by rw [tlL_cons, tlL_nil, List.append_nil], rfl, by simp⟩
      rw [List.mem_singleton.mp hq]
      exact formed_node hw c h2 hfm
theorem jn_ok {w : Str} {qs : List PyData} (hw : wd w = true) (hn : qs ≠ []) (h : ∀ q ∈ qs, formed q w = some (tl q)) : formed (jn w qs) "" = some (tl (jn w qs)) ∧ tl (jn w qs) = tlL qs ∧ spr w (jn w qs) = qs := by
  match qs, hn, h with
  | [q], _, h =>
    have hq := h q List.mem_cons_self
    exact ⟨formed_any hq, by rw [tlL_cons, tlL_nil, List.append_nil]; rfl, spr_in hq⟩
  | a :: b :: r, _, h =>
    refine ⟨formed_node hw (wd_ne hw) (by simp) h, tl_part _ _, ?_⟩
    show spr w (.tuple [.str w, .tuple (a :: b :: r)]) = _
    rw [spr_part, if_pos rfl]
theorem hasC_part {C : List Int} {w : Str} {ps : List PyData} : hasC C (.tuple [.str w, .tuple ps]) = (tlL ps).any fun x => decide (x ∈ C) := by unfold hasC; rw [tl_part]
/-- a row of parts -/
theorem lftL_ok {C : List Int} {w : Str} : ∀ {ps : List PyData}, (∀ p ∈ ps, hasC C p = true → formed (lft C p) "" = some (tl (lft C p)) ∧ tl (lft C p) = num C (tl p)) →
    (∀ q ∈ lftL C w ps, formed q w = some (tl q)) ∧ tlL (lftL C w ps) = num C (tlL ps)
  | [], _ => by
    rw [lftL_nil, tlL_nil]
    exact ⟨fun q hq => absurd hq List.not_mem_nil, rfl⟩
  | p :: r, h => by
    obtain ⟨h1, h2⟩ := lftL_ok (ps := r) (w := w) fun p hp => h p (List.mem_cons_of_mem _ hp)
    rw [lftL_cons, tlL_app, h2, tlL_cons, num_app]
    by_cases c : hasC C p = true
    · obtain ⟨g1, g2⟩ := h p List.mem_cons_self c
      obtain ⟨s1, s2, _, _⟩ := spr_ok (w := w) g1
      rw [if_pos c, s2, g2]
      refine ⟨fun q hq => ?_, rfl⟩
      rcases List.mem_append.mp hq with z | z
      · exact s1 q z
      · exact h1 q z
    · rw [if_neg c, num_none (Bool.eq_false_iff.mpr c), tlL_nil]
      exact ⟨fun q hq => h1 q (by simpa using hq), rfl⟩
theorem lftL_ne {C : List Int} {w : Str} {ps : List PyData} (h : tlL (lftL C w ps) = num C (tlL ps)) (hc : hasC C (.tuple [.str w, .tuple ps]) = true) : lftL C w ps ≠ [] := by
  intro z
  rw [z, tlL_nil] at h
  have := num_some hc
  rw [tl_part] at this
  exact this h.symm
theorem lft_ok (C : List Int) : ∀ (n : Nat) {d : PyData} {o : Str}, d.depth < n → formed d o = some (tl d) → hasC C d = true → formed (lft C d) "" = some (tl (lft C d)) ∧ tl (lft C d) = num C (tl d)
  | 0, _, _, h, _, _ => absurd h (Nat.not_lt_zero _)
  | n + 1, d, o, hd, hf, hc => by
    rcases plan_cases hf with ⟨i, rfl⟩ | ⟨w, ps, rfl, hw, hwo, h2, hfl, hfm⟩
    · rw [lft_int, formed_int, tl_int, tl_int]
      refine ⟨rfl, ?_⟩
      have : i ∈ C := by
        unfold hasC at hc
        rw [tl_int] at hc
        simpa using hc
      unfold num
      rw [List.filter_cons_of_pos (by exact decide_eq_true this)]
      rfl
    · obtain ⟨g1, g2⟩ := lftL_ok (C := C) (w := w) (ps := ps) fun p hp hcp => lft_ok C n (depth_part hd hp) (hfm p hp) hcp
      obtain ⟨j1, j2, _⟩ := jn_ok hw (lftL_ne g2 hc) g1
      rw [lft_part, j2, tl_part]
      rw [j2] at j1
      exact ⟨j1, g2⟩
/-! relations -/
theorem jn_rel {w : Str} {qs : List PyData} {x y : Int} {r : Str} (h : RelD x y (.tuple [.str w, .tuple qs]) r) : RelD x y (jn w qs) r := by
  match qs, h with
  | [], h => exact h
  | [q], h =>
    have one : ∀ {i : Nat} {p : PyData}, [q][i]? = some p → i = 0 ∧ p = q := fun {i p} e => by
      cases i with
      | zero => simp at e; exact ⟨rfl, e.symm⟩
      | succ i => simp at e
    cases h with
    | inner h1 h2 h3 h4 => rw [(one h1).2] at h4; exact h4
    | beside h1 h2 h3 h4 h5 => exact absurd ((one h1).1.trans (one h2).1.symm) h5
    | before h1 h2 h3 h4 h5 => have := (one h1).1; have := (one h2).1; omega
    | after h1 h2 h3 h4 h5 => have := (one h1).1; have := (one h2).1; omega
  | _ :: _ :: _, h => exact h
theorem at_mid {A qs B : List PyData} {i : Nat} {p : PyData} (h : qs[i]? = some p) : (A ++ qs ++ B)[A.length + i]? = some p := by
  have hl := (List.getElem?_eq_some_iff.mp h).1
  rw [List.append_assoc, List.getElem?_append_right (by omega), Nat.add_sub_cancel_left, List.getElem?_append_left hl, h]
theorem mid_rel {w : Str} {A qs B : List PyData} {x y : Int} {r : Str} (h : RelD x y (.tuple [.str w, .tuple qs]) r) : RelD x y (.tuple [.str w, .tuple (A ++ qs ++ B)]) r := by
  cases h with
  | inner h1 h2 h3 h4 => exact .inner (at_mid h1) h2 h3 h4
  | beside h1 h2 h3 h4 h5 => exact .beside (at_mid h1) (at_mid h2) h3 h4 (by omega)
  | before h1 h2 h3 h4 h5 => exact .before (at_mid h1) (at_mid h2) h3 h4 (by omega)
  | after h1 h2 h3 h4 h5 => exact .after (at_mid h1) (at_mid h2) h3 h4 (by omega)
theorem spr_rel {w : Str} {p : PyData} {x y : Int} {r : Str} (h : RelD x y p r) : RelD x y (.tuple [.str w, .tuple (spr w p)]) r := by
  have lone : RelD x y (.tuple [.str w, .tuple [p]]) r := .inner (i := 0) rfl h.mem.1 h.mem.2 h
  unfold spr
  split
  · split
    · rename_i u ps e
      subst e
      exact h
    · exact lone
  · exact lone
theorem split_at {ps : List PyData} {i : Nat} {p : PyData} (h : ps[i]? = some p) : ps = ps.take i ++ p :: ps.drop (i + 1) := by
  obtain ⟨hl, he⟩ := List.getElem?_eq_some_iff.mp h
  have := List.drop_eq_getElem_cons hl
  rw [← he, ← this, List.take_append_drop]
theorem has_of {C : List Int} {p : PyData} {x : Int} (hx : x ∈ tl p) (hc : x ∈ C) : hasC C p = true := List.any_eq_true.mpr ⟨x, hx, decide_eq_true hc⟩
theorem cross {A B : List PyData} {x y : Int} (hx : x ∈ tlL A) (hy : y ∈ tlL B) : ∃ (i j : Nat) (p q : PyData), (A ++ B)[i]? = some p ∧ (A ++ B)[j]? = some q ∧ x ∈ tl p ∧ y ∈ tl q ∧ i < j := by
  obtain ⟨i, p, h1, h2⟩ := mem_tlL hx
  obtain ⟨j, q, g1, g2⟩ := mem_tlL hy
  have hl := (List.getElem?_eq_some_iff.mp h1).1
  exact ⟨i, A.length + j, p, q, by rw [List.getElem?_append_left hl, h1], by rw [List.getElem?_append_right (by omega), Nat.add_sub_cancel_left, g1], h2, g2, by omega⟩
theorem lft_rel (C : List Int) : ∀ (n : Nat) {d : PyData} {o : Str}, d.depth < n → formed d o = some (tl d) → ∀ {x y : Int} {r : Str}, x ∈ C → y ∈ C → RelD x y d r → RelD ((C.idxOf x : Nat) : Int) ((C.idxOf y : Nat) : Int) (lft C d) r
  | 0, _, _, h, _, _, _, _, _, _, _ => absurd h (Nat.not_lt_zero _)
  | n + 1, d, o, hd, hf, x, y, r, hx, hy, h => by
    rcases plan_cases hf with ⟨i, rfl⟩ | ⟨w, ps, rfl, hw, hwo, h2, hfl, hfm⟩
    · cases h
    · have rows : ∀ qs : List PyData, (∀ q ∈ qs, q ∈ ps) → tlL (lftL C w qs) = num C (tlL qs) := fun qs hq =>
        (lftL_ok (C := C) (w := w) (ps := qs) fun p hp hcp => lft_ok C n (depth_part hd (hq p hp)) (hfm p (hq p hp)) hcp).2
      have far : ∀ {i j : Nat} {p q : PyData} {a b : Int}, a ∈ C → b ∈ C → ps[i]? = some p → ps[j]? = some q → a ∈ tl p → b ∈ tl q → i < j → ∃ (i j : Nat) (p q : PyData), (lftL C w ps)[i]? = some p ∧ (lftL C w ps)[j]? = some q ∧ ((C.idxOf a : Nat) : Int) ∈ tl p ∧ ((C.idxOf b : Nat) : Int) ∈ tl q ∧ i < j := by
        intro i j p q a b hx hy h1 h2 h3 h4 h5
        have e : lftL C w ps = lftL C w (ps.take j) ++ lftL C w (ps.drop j) := by rw [← lftL_app, List.take_append_drop]
        rw [e]
        refine cross ?_ ?_
        · rw [rows _ fun q hq => List.mem_of_mem_take hq]
          refine mem_num (tl_mem (p := p) (List.mem_of_getElem? (i := i) ?_) _ h3) hx
          rw [List.getElem?_take_of_lt h5, h1]
        · rw [rows _ fun q hq => List.mem_of_mem_drop hq]
          refine mem_num (tl_mem (p := q) (List.mem_of_getElem? (i := 0) ?_) _ h4) hy
          rw [List.getElem?_drop, Nat.add_zero, h2]
      rw [lft_part]
      refine jn_rel ?_
      cases h with
      | @inner _ _ i p _ h1 g2 h3 h4 =>
        have hm := List.mem_of_getElem? h1
        have ih := lft_rel C n (depth_part hd hm) (hfm p hm) hx hy h4
        have e := split_at h1
        rw [e, lftL_app, lftL_cons, if_pos (has_of g2 hx), ← List.append_assoc]
        exact mid_rel (spr_rel ih)
      | @beside _ i j p q h1 h2 h3 h4 h5 =>
        rcases Nat.lt_or_gt_of_ne h5 with z | z
        · obtain ⟨i', j', p', q', e1, e2, e3, e4, e5⟩ := far hx hy h1 h2 h3 h4 z
          exact .beside e1 e2 e3 e4 (by omega)
        · obtain ⟨i', j', p', q', e1, e2, e3, e4, e5⟩ := far hy hx h2 h1 h4 h3 z
          exact .beside e2 e1 e4 e3 (by omega)
      | before h1 h2 h3 h4 h5 =>
        obtain ⟨i', j', p', q', e1, e2, e3, e4, e5⟩ := far hx hy h1 h2 h3 h4 h5
        exact .before e1 e2 e3 e4 e5
      | after h1 h2 h3 h4 h5 =>
        obtain ⟨i', j', p', q', e1, e2, e3, e4, e5⟩ := far hy hx h2 h1 h4 h3 h5
        exact .after e2 e1 e4 e3 e5
/-! twice -/
theorem lft_jn {S : List Int} {w : Str} {L : List PyData} (hw : wd w = true) (hn : L ≠ []) (hL : ∀ q ∈ L, formed q w = some (tl q)) (hS : hasC S (jn w L) = true)
    (ih : ∀ q ∈ L, hasC S q = true → formed (lft S q) "" = some (tl (lft S q))) : lft S (jn w L) = jn w (lftL S w L) := by
  match L, hn, hL, hS, ih with
  | [q], _, hL, hS, ih =>
    show lft S q = _
    have hq : hasC S q = true := hS
    rw [lftL_cons, lftL_nil, if_pos hq, List.append_nil, (spr_ok (w := w) (ih q List.mem_cons_self hq)).2.2.1]
  | a :: b :: r, _, _, _, _ => exact lft_part S w _
structure Thru (C S SC : List Int) : Prop where
  mem : ∀ x, x ∈ SC ↔ (x ∈ C ∧ ((C.idxOf x : Nat) : Int) ∈ S)
  idx : ∀ x, x ∈ SC → SC.idxOf x = S.idxOf ((C.idxOf x : Nat) : Int)
theorem Thru.has {C S SC : List Int} (t : Thru C S SC) {p : PyData} (h : tl (lft C p) = num C (tl p)) : hasC S (lft C p) = hasC SC p := by
  rw [Bool.eq_iff_iff]
  unfold hasC
  rw [h, List.any_eq_true, List.any_eq_true]
  constructor
  · rintro ⟨z, hz, hc⟩
    obtain ⟨x, hx, rfl⟩ := List.mem_map.mp hz
    obtain ⟨h1, h2⟩ := List.mem_filter.mp hx
    exact ⟨x, h1, decide_eq_true ((t.mem x).mpr ⟨of_decide_eq_true h2, of_decide_eq_true hc⟩)⟩
  · rintro ⟨x, hx, hc⟩
    obtain ⟨h1, h2⟩ := (t.mem x).mp (of_decide_eq_true hc)
    exact ⟨_, mem_num hx h1, decide_eq_true h2⟩
theorem Thru.sub {C S SC : List Int} (t : Thru C S SC) {p : PyData} (h : hasC SC p = true) : hasC C p = true := by
  unfold hasC at h ⊢
  rw [List.any_eq_true] at h ⊢
  obtain ⟨x, hx, hc⟩ := h
  exact ⟨x, hx, decide_eq_true ((t.mem x).mp (of_decide_eq_true hc)).1⟩
theorem lftL_none {S : List Int} {w : Str} : ∀ {qs : List PyData}, (∀ q ∈ qs, hasC S q = false) → lftL S w qs = []
  | [], _ => lftL_nil _ _
  | q :: r, h => by rw [lftL_cons, if_neg (by rw [h q List.mem_cons_self]; decide), lftL_none fun p hp => h p (List.mem_cons_of_mem _ hp)]; rfl
theorem lftL_spr {S : List Int} {w : Str} {t : PyData} (hw : wd w = true) (ht : formed t "" = some (tl t)) :
    lftL S w (spr w t) = if hasC S t then spr w (lft S t) else [] := by
  have base : lftL S w [t] = if hasC S t then spr w (lft S t) else [] := by rw [lftL_cons, lftL_nil, List.append_nil]
  rcases plan_cases ht with ⟨i, rfl⟩ | ⟨u, ps, rfl, hu, huo, h2, hfl, hfm⟩
  · exact base
  · by_cases c : u = w
    · subst c
      rw [spr_part, if_pos rfl]
      by_cases e : hasC S (.tuple [.str u, .tuple ps]) = true
      · have k := lftL_ok (C := S) (w := u) (ps := ps) fun p hp hcp => lft_ok S (p.depth + 1) (Nat.lt_succ_self _) (hfm p hp) hcp
        rw [if_pos e, lft_part, (jn_ok hu (lftL_ne k.2 e) k.1).2.2]
      · rw [if_neg e]
        refine lftL_none fun q hq => ?_
        rw [Bool.eq_false_iff]
        intro z
        refine e ?_
        rw [hasC_part]
        unfold hasC at z
        rw [List.any_eq_true] at z ⊢
        obtain ⟨x, hx, hc⟩ := z
        exact ⟨x, tl_mem hq x hx, hc⟩
    · rw [spr_part, if_neg c]
      exact base
theorem lft_lft {C S SC : List Int} (t : Thru C S SC) : ∀ (n : Nat) {d : PyData} {o : Str}, d.depth < n → formed d o = some (tl d) → hasC SC d = true → lft S (lft C d) = lft SC d
  | 0, _, _, h, _, _ => absurd h (Nat.not_lt_zero _)
  | n + 1, d, o, hd, hf, hc => by
    rcases plan_cases hf with ⟨i, rfl⟩ | ⟨w, ps, rfl, hw, hwo, h2, hfl, hfm⟩
    · have : i ∈ SC := by
        unfold hasC at hc
        rw [tl_int] at hc
        simpa using hc
      rw [lft_int, lft_int, lft_int, t.idx i this]
    · have kC := lftL_ok (C := C) (w := w) (ps := ps) fun p hp hcp => lft_ok C n (depth_part hd hp) (hfm p hp) hcp
      have hcC : hasC C (.tuple [.str w, .tuple ps]) = true := t.sub hc
      have hne := lftL_ne kC.2 hcC
      have hS : hasC S (lft C (.tuple [.str w, .tuple ps])) = true := by
        rw [t.has (lft_ok C (n + 1) hd hf hcC).2]
        exact hc
      rw [lft_part] at hS
      rw [lft_part, lft_jn hw hne kC.1 hS (fun q hq hs => (lft_ok S (q.depth + 1) (Nat.lt_succ_self _) (kC.1 q hq) hs).1), lft_part]
      congr 1
      have main : ∀ qs : List PyData, (∀ q ∈ qs, q ∈ ps) → lftL S w (lftL C w qs) = lftL SC w qs := by
        intro qs
        induction qs with
        | nil => intro _; rw [lftL_nil, lftL_nil, lftL_nil]
        | cons p r ih =>
          intro hq
          rw [lftL_cons, lftL_app, ih fun q h => hq q (List.mem_cons_of_mem _ h), lftL_cons SC]
          congr 1
          have hp := hq p List.mem_cons_self
          by_cases c : hasC C p = true
          · have lo := lft_ok C n (depth_part hd hp) (hfm p hp) c
            rw [if_pos c, lftL_spr hw lo.1, t.has lo.2]
            by_cases e : hasC SC p = true
            · rw [if_pos e, if_pos e, lft_lft t n (depth_part hd hp) (hfm p hp) e]
            · rw [if_neg e, if_neg e]
          · rw [if_neg c, lftL_nil, if_neg fun e => c (t.sub e)]
      exact main ps fun q h => h
/-! all of them -/
theorem lft_id {C : List Int} : ∀ (n : Nat) {d : PyData} {o : Str}, d.depth < n → formed d o = some (tl d) → (∀ x ∈ tl d, x ∈ C ∧ ((C.idxOf x : Nat) : Int) = x) → lft C d = d
  | 0, _, _, h, _, _ => absurd h (Nat.not_lt_zero _)
  | n + 1, d, o, hd, hf, hc => by
    rcases plan_cases hf with ⟨i, rfl⟩ | ⟨w, ps, rfl, hw, hwo, h2, hfl, hfm⟩
    · rw [lft_int, (hc i (by rw [tl_int]; exact List.mem_singleton.mpr rfl)).2]
    · have main : ∀ qs : List PyData, (∀ q ∈ qs, q ∈ ps) → lftL C w qs = qs := by
        intro qs
        induction qs with
        | nil => intro _; exact lftL_nil _ _
        | cons p r ih =>
          intro hq
          have hp := hq p List.mem_cons_self
          have hcp : ∀ x ∈ tl p, x ∈ C ∧ ((C.idxOf x : Nat) : Int) = x := fun x hx => hc x (by rw [tl_part]; exact tl_mem hp x hx)
          have ne : tl p ≠ [] := formed_ne p w _ (hfm p hp)
          obtain ⟨x, hx⟩ := List.exists_mem_of_ne_nil _ ne
          rw [lftL_cons, if_pos (has_of hx (hcp x hx).1), lft_id n (depth_part hd hp) (hfm p hp) hcp, spr_in (hfm p hp), ih fun q h => hq q (List.mem_cons_of_mem _ h)]
          rfl
      rw [lft_part, main ps fun q h => h]
      match ps, h2 with
      | _ :: _ :: _, _ => rfl
end KG

set_option Elab.async false
set_option linter.all false
set_option maxRecDepth 100000
set_option maxHeartbeats 1000000
/-! The joint and the relation (mathematics alone). -/
namespace KG
open PySem L2 KM KJ
theorem pos_lt {l1 l2 : List Int} {a b : Int} {j1 j2 : Nat} (n : (l1 ++ l2).Nodup) (ha : a ∈ l1) (hb : b ∈ l2) (h1 : (l1 ++ l2)[j1]? = some a) (h2 : (l1 ++ l2)[j2]? = some b) : j1 < j2 := by
  obtain ⟨_, _, n3⟩ := List.nodup_append.mp n
  have g1 : j1 < l1.length := by
    apply Classical.byContradiction
    intro c
    rw [List.getElem?_append_right (by omega)] at h1
    exact n3 a ha a (List.mem_of_getElem? h1) rfl
  have g2 : ¬ j2 < l1.length := fun c => by
    rw [List.getElem?_append_left c] at h2
    exact n3 b (List.mem_of_getElem? h2) b hb rfl
  omega
theorem jdL_some {a b : Int} : ∀ {ps : List PyData} {e : PyData}, jdL a b ps = some e → ∃ (i : Nat) (p : PyData), ps[i]? = some p ∧ a ∈ tl p ∧ b ∈ tl p ∧ e = jd a b p
  | [], e, h => by rw [jdL_nil] at h; cases h
  | p :: r, e, h => by
    rw [jdL_cons] at h
    split at h
    · rename_i c
      cases h
      exact ⟨0, p, rfl, c.1, c.2, rfl⟩
    · obtain ⟨i, q, h1, h2⟩ := jdL_some h
      exact ⟨i + 1, q, by simpa using h1, h2⟩
theorem jdL_none' {a b : Int} : ∀ {ps : List PyData}, jdL a b ps = none → ∀ p ∈ ps, ¬ (a ∈ tl p ∧ b ∈ tl p)
  | [], _, p, hp => absurd hp List.not_mem_nil
  | q :: r, h, p, hp => by
    rw [jdL_cons] at h
    split at h
    · cases h
    · rename_i c
      rcases List.mem_cons.mp hp with z | z
      · rw [z]; exact c
      · exact jdL_none' h p z
/-- what the least part tells -/
structure JR (a b : Int) (d : PyData) (we : Str) (pe : List PyData) : Prop where
  eq : jd a b d = .tuple [.str we, .tuple pe]
  far : ∃ (i j : Nat) (p q : PyData), pe[i]? = some p ∧ pe[j]? = some q ∧ a ∈ tl p ∧ b ∈ tl q ∧ i ≠ j
  rel : ∀ r, RelD a b (.tuple [.str we, .tuple pe]) r → RelD a b d r
  wd : wd we = true
  nd : (tlL pe).Nodup
  form : ∀ p ∈ pe, formed p we = some (tl p)
theorem jd_ok {a b : Int} : ∀ (n : Nat) {d : PyData} {o : Str}, d.depth < n → formed d o = some (tl d) → (tl d).Nodup → a ≠ b → a ∈ tl d → b ∈ tl d → ∃ we pe, JR a b d we pe
  | 0, _, _, h, _, _, _, _, _ => absurd h (Nat.not_lt_zero _)
  | n + 1, d, o, hd, hf, hn, hne, ha, hb => by
    rcases plan_cases hf with ⟨i, rfl⟩ | ⟨w, ps, rfl, hw, hwo, h2, hfl, hfm⟩
    · rw [tl_int] at ha hb
      exact absurd ((List.mem_singleton.mp ha).trans (List.mem_singleton.mp hb).symm) hne
    rw [tl_part] at hn ha hb
    cases e : jdL a b ps with
    | some x =>
      obtain ⟨i, p, h1, h2, h3, rfl⟩ := jdL_some e
      have hm := List.mem_of_getElem? h1
      obtain ⟨we, pe, J⟩ := jd_ok n (depth_part hd hm) (hfm p hm) (nodup_part hn hm) hne h2 h3
      refine ⟨we, pe, ⟨?_, J.far, fun r hr => .inner h1 h2 h3 (J.rel r hr), J.wd, J.nd, J.form⟩⟩
      rw [jd_part, e]
      exact J.eq
    | none =>
      refine ⟨w, ps, ⟨by rw [jd_part, e]; rfl, ?_, fun r hr => hr, hw, hn, hfm⟩⟩
      obtain ⟨i, p, h1, h2⟩ := mem_tlL ha
      obtain ⟨j, q, h3, h4⟩ := mem_tlL hb
      refine ⟨i, j, p, q, h1, h3, h2, h4, fun z => ?_⟩
      subst z
      rw [h1] at h3
      cases h3
      exact jdL_none' e p (List.mem_of_getElem? h1) ⟨h2, h4⟩
theorem JR.beside {a b : Int} {d : PyData} {pe : List PyData} (J : JR a b d "beside" pe) : RelD a b d "beside" := by
  obtain ⟨i, j, p, q, h1, h2, h3, h4, h5⟩ := J.far
  exact J.rel _ (.beside h1 h2 h3 h4 h5)
theorem pos_parts {pe : List PyData} {i j : Nat} {p q : PyData} {a b : Int} {j1 j2 : Nat} (n : (tlL pe).Nodup) (h1 : pe[i]? = some p) (h2 : pe[j]? = some q) (h3 : a ∈ tl p) (h4 : b ∈ tl q) (h : i < j) (g1 : (tlL pe)[j1]? = some a) (g2 : (tlL pe)[j2]? = some b) : j1 < j2 := by
  have e : tlL pe = tlL (pe.take j) ++ tlL (pe.drop j) := by rw [← tlL_app, List.take_append_drop]
  rw [e] at n g1 g2
  refine pos_lt n ?_ ?_ g1 g2
  · exact tl_mem (p := p) (List.mem_of_getElem? (i := i) (by rw [List.getElem?_take_of_lt h, h1])) _ h3
  · exact tl_mem (p := q) (List.mem_of_getElem? (i := 0) (by rw [List.getElem?_drop, Nat.add_zero, h2])) _ h4
theorem JR.then {a b : Int} {d : PyData} {we : Str} {pe : List PyData} (J : JR a b d we pe) (hw : we ≠ "beside") {j1 j2 : Nat} (g1 : (tlL pe)[j1]? = some a) (g2 : (tlL pe)[j2]? = some b) :
    (j1 < j2 → RelD a b d "before") ∧ (¬ j1 < j2 → RelD a b d "after") := by
  obtain ⟨i, j, p, q, h1, h2, h3, h4, h5⟩ := J.far
  have ew : we = "then" := by
    have := J.wd
    simp only [KM.wd, Bool.or_eq_true, decide_eq_true_eq] at this
    rcases this with z | z
    · exact z
    · exact absurd z hw
  subst ew
  refine ⟨fun c => ?_, fun c => ?_⟩
  · refine J.rel _ (.before h1 h2 h3 h4 ?_)
    apply Classical.byContradiction
    intro z
    have := pos_parts J.nd h2 h1 h4 h3 (by omega) g2 g1
    omega
  · refine J.rel _ (.after h1 h2 h3 h4 ?_)
    apply Classical.byContradiction
    intro z
    exact c (pos_parts J.nd h1 h2 h3 h4 (by omega) g1 g2)
end KG

set_option Elab.async false
set_option linter.all false
set_option maxRecDepth 100000
set_option maxHeartbeats 1000000
/-! Rules that the hand layer lacks: list.extend(tuple), tuple.index of flat values. -/
namespace KR
open PySem PySem.Spec PyProof.Rows L2 GxR GA KD
theorem list_extend_tup (l : Addr) (items : Array Value) (n : Nat) (b : Addr) (items2 : Array Value) (n2 : Nat) (dd : Option Addr) (sl : Array (Option Value)) (hs0 : ¬(!items.isEmpty && Builtin.List.listTooLong (items.size + items2.size)) = true) (hs1 : items.size ≤ sizeLine) (hs2 : items.size + items2.size ≤ sizeLine + 1) :
    Meets (Builtin.«list.extend» ⟨[.ref l, .ref b], []⟩) (fun _ R s => s.heap.get? l = some { cls := .type "list", dict := none, data := .seq items n, slots := #[] } ∧ s.heap.get? b = some { cls := .type "tuple", dict := dd, data := .seq items2 n2, slots := sl } ∧ R (.ok (.ret Value.none)) { s with heap := s.heap.update l (Obj.mapSeq fun x => x ++ items2), toks := s.toks }) :=
  .of_wp fun prog w A R s h => by
    obtain ⟨hp, g, d, tk, os⟩ := s; obtain ⟨hl, hb, h⟩ := h
    have hz' : (items ++ items2).size ≤ sizeLine + 1 := by rw [Array.size_append]; exact hs2
    wp_walk using (wpAny_updateSeq hl rfl (hz := hs1) (_hz' := hz')), wpAny_loadPart' hl, wpAny_loadPart' hb; exact ⟨_, rfl, h⟩
section
variable {X : Cx}
def rExtendT (K : PySem.W.Frag) : V → List V → Hp → VK → Prop := fun x vs H Q => ∃ l b xs zs, x = .ref l ∧ vs = [.ref b] ∧ H l = some (.lst xs) ∧ SqT K H b zs ∧ xs.length + zs.length ≤ sizeLine ∧ Q .non (upd H l (.lst (xs ++ zs)))
theorem mt_extendT : MtM X "list.extend" (rExtendT X.K) := by
  intro pins s σ H x vs v us Q I rx rv h
  obtain ⟨l, b, xs, zs, rfl, rfl, hH, hB, hz, q⟩ := h
  cases rx
  obtain ⟨u, rfl, ru⟩ := rv.one
  cases ru
  obtain ⟨z, its, n, r, hl, e⟩ := I.lstM hH
  obtain ⟨its2, r2, ⟨⟨cls, dd, data, sl⟩, ho, hc, n2, hd⟩, hz2⟩ := I.tuple hB
  simp only at hc hd
  subst hc hd
  have hl2 := r2.length
  have hsz : its.toArray.size + its2.toArray.size ≤ sizeLine := by rw [List.size_toArray, List.size_toArray]; omega
  have hlong : ¬ (!its.toArray.isEmpty && Builtin.List.listTooLong (its.toArray.size + its2.toArray.size)) = true := by
    rw [notLongL hsz, Bool.and_false]
    exact Bool.false_ne_true
  refine call_meets PySem.F.slot_list_extend ⟨_, e, rfl⟩ PySem.F.entry_list_extend (PySem.F.args_list_extend_2 _ _)
    (list_extend_tup l its.toArray n b its2.toArray n2 dd sl hlong (by rw [List.size_toArray]; omega) (by omega)) ⟨e, ho, ?_⟩
  refine ⟨.non, _, I.lset (its' := its ++ its2) hH e (by simp) (r.append r2) ?_, rfl, q⟩
  rw [List.length_append]
  omega
def rIndexT (K : PySem.W.Frag) : V → List V → Hp → VK → Prop := fun x xs H Q => ∃ (a : Addr) (ys : List V) (y : V) (j : Nat) (z : V), x = V.ref a ∧ xs = [y] ∧ SqT K H a ys ∧ flatV y = true ∧ ys.all flatV = true ∧ ys[j]? = some z ∧ eqV z y = true ∧
  (∀ (m : Nat) (z' : V), m < j → ys[m]? = some z' → eqV z' y = false) ∧ Q (.int (j : Nat)) H
theorem mt_indexT : MtR X "tuple.index" (rIndexT X.K) := by
  intro pins s σ H x xs v us Q I rx rxs h
  obtain ⟨a, ys, y, j, z, rfl, rfl, hs, fy, fys, hz, hzj, hno, q⟩ := h
  cases rx
  cases rxs with
  | cons ry rt =>
    rename_i uy ut
    cases rt
    obtain ⟨its, rv, ⟨⟨cls, dd, data, sl⟩, ho, hc, n, hd⟩, hlen⟩ := I.tuple hs
    simp only at hc hd
    subst hc hd
    obtain ⟨u, hu, ru⟩ := rv.get hz
    obtain ⟨hjl, hje⟩ := List.getElem?_eq_some_iff.mp hu
    have hvl := rv.length
    have hj : j < its.toArray.size := by simpa using hjl
    refine call_meets PySem.F.slot_tuple_index ⟨_, ho, rfl⟩ PySem.F.entry_tuple_index (PySem.F.args_tuple_index_2 _ _)
      (TI.tuple_indexAt a its.toArray n dd sl uy (eqU y) j hj ?_ ?_) ⟨ho, fun u' hu' => mem_eqAt ry fy rv fys u' (by simpa using hu'), ?_⟩
    · have e1 : its.toArray[j] = u := by simpa using hje
      rw [e1, eqU_of ru (flat_at fys hz)]
      exact hzj
    · intro m hm hmj
      have hml : m < its.length := by simpa using hm
      have hmy : m < ys.length := by omega
      have hy' : ys[m]? = some ys[m] := List.getElem?_eq_getElem hmy
      obtain ⟨u2, hu2, ru2⟩ := rv.get hy'
      obtain ⟨_, hme⟩ := List.getElem?_eq_some_iff.mp hu2
      have e1 : its.toArray[m] = u2 := by simpa using hme
      rw [e1, eqU_of ru2 (flat_at fys hy')]
      exact hno m _ hmj hy'
    · exact ⟨.int (j : Nat), H, I.tok _, ⟨_, rfl⟩, q⟩
/-! ### tuples that are known to have no attributes of their own: their methods can be called -/
def FrT (H : Hp) (a : Addr) (xs : List V) : Prop := ∃ o : Obj, H a = some (.frz o (.tup xs)) ∧ o.dict = none
theorem FrT.seq {K : PySem.W.Frag} {H : Hp} {a : Addr} {xs : List V} (h : FrT H a xs) : SqT K H a xs := by
  obtain ⟨o, e, _⟩ := h
  exact .inl (.inr ⟨o, e⟩)
theorem FrT.kp {M : Addr → Prop} {H H' : Hp} {a : Addr} {xs : List V} (k : Kp M H H') (h : FrT H a xs) : FrT H' a xs := by
  obtain ⟨o, e, d⟩ := h
  exact ⟨o, k.frz _ _ _ e, d⟩
theorem FrT.ty {K : PySem.W.Frag} {H : Hp} {a : Addr} {xs : List V} (h : FrT H a xs) : TyX K H (.ref a) (.type "tuple") := by
  obtain ⟨o, e, d⟩ := h
  exact .fTuple e
theorem FrT.dpi {K : PySem.W.Frag} {H : Hp} {a : Addr} {ns : List Int} (h : FrT H a (ns.map V.int)) : Dp K H (.ref a) (.tuple (ns.map PyData.int)) := .tup h.seq (AtL.dp (AtL.ints (M := MN) ns))
theorem FrT.upd {H : Hp} {a b : Addr} {u : HO} {xs : List V} (h : FrT H a xs) (n : a ≠ b) : FrT (upd H b u) a xs := by
  obtain ⟨o, e, d⟩ := h
  exact ⟨o, by rw [upd_ne n]; exact e, d⟩
theorem FrT.ne {H : Hp} {a b : Addr} {xs : List V} (h : FrT H a xs) (n : H b = none) : a ≠ b := by
  obtain ⟨o, e, d⟩ := h
  exact ne_of_none e n
theorem FrT.new {H : Hp} {a : Addr} {o : Obj} {xs : List V} (d : o.dict = none) : FrT (L2.upd H a (.frz o (.tup xs))) a xs := ⟨o, upd_same, d⟩
def rTupF (K : PySem.W.Frag) : List V → Hp → VK → Prop := fun xs H Q => ∃ p ys, xs = [V.ref p] ∧ SqL K H p ys ∧ ∀ (l : Addr) (o : Obj), H l = none → o.dict = none → Q (.ref l) (L2.upd H l (.frz o (.tup ys)))
theorem call_tuple_ofF : CallR X (.type "tuple") (rTupF X.K) := by
  intro pins s σ H xs us Q I r h
  obtain ⟨p, ys, rfl, hq, q⟩ := h
  obtain ⟨u, rfl, rx⟩ := vals1 r
  cases rx
  obtain ⟨its, r', pl, hz⟩ := I.list hq
  have hlen := r'.length
  refine call_tuple_list pl.isList (fun h' kp => ?_) (by simp only [List.size_toArray] <;> omega)
  have I1 : Inv X pins σ H { s with heap := h' } := I.kept (t' := s.toks) kp
  let ob : Obj := { cls := .type "tuple", data := .seq its.toArray }
  have I2 : Inv X pins σ (L2.upd H h'.objs.size (.frz ob (.tup ys))) { s with heap := h'.push { cls := .type "tuple", data := .seq its.toArray } } :=
    I1.laid (t' := s.toks) (fun b o e => Heap.get?_push_of_some _ e) (Nat.le_refl _) (show ObjOk X.prog X.w _ _ _ (.frz ob (.tup ys)) from ⟨Heap.get?_push_size _ rfl, hz, its, r', IsTup.new _ _⟩)
  exact ⟨.ref h'.objs.size, _, I2, rfl, q _ ob (I1.hok.fresh (Nat.le_refl _)) rfl⟩
def tTupF (t : TA) : TE := fun σ H Q => t σ H fun xs H1 => xs.length ≤ sizeLine ∧ ∀ (p : Addr) (o : Obj), H1 p = none → o.dict = none → Q (.ref p) (L2.upd H1 p (.frz o (.tup xs)))
theorem pe_tupF {es : List Expr} {t : TA} {pos : Pos} {x1} (h : PA X es t) : PE X (.Tuple es x1 pos) (tTupF t) := by
  refine ⟨fun pins s σ H Q I hq => ?_⟩
  refine wpAny_Tuple_spliced (thn (h.run pos pins s σ H _ I hq) fun us s1 ⟨xs, H1, I1, r, z, q⟩ => ⟨by rw [← r.length]; exact z, ?_⟩)
  have hf : H1 s1.heap.objs.size = none := I1.hok.fresh (Nat.le_refl _)
  let ob : Obj := { cls := .type "tuple", data := .seq us.toArray }
  refine ⟨.ref s1.heap.objs.size, L2.upd H1 s1.heap.objs.size (.frz ob (.tup xs)), I1.laid (t' := s1.toks) (fun b u e => Heap.get?_push_of_some _ e) (Nat.le_refl _) ?_, rfl, q _ ob hf rfl⟩
  exact ⟨Heap.get?_push_size _ rfl, z, us, r, ⟨_, Heap.get?_push_size _ rfl, rfl, _, rfl⟩⟩
def tBMT (r : V → List V → Hp → VK → Prop) (to : TE) (t : TA) : TE := fun σ H Q => to σ H fun x H1 => (∃ a xs, x = .ref a ∧ FrT H1 a xs) ∧ t σ H1 fun xs H2 => r x xs H2 Q
variable {o e : Expr} {es : List Expr} {to : TE} {t : TA} {name : Str} {apos cpos : Pos} {id : String} {r : V → List V → Hp → VK → Prop}
theorem pe_bmT (pa : PlainAttrs "tuple") (slot : Slot "tuple" name id) (hty : typeOf (.builtin id) = pure (.type "method_descriptor")) (hm : MtR X id r) (ho : PE X o to) (ha : PA X (e :: es) t)
    (hbase : attributeBase o name X.env (eval o X.env) = eval o X.env := by rfl)
    (hfew : ((backTo cpos (starEach (e :: es) X.env)).all (fun x => !x.1) && (backToKw cpos (keywordEach [] X.env)).all (fun x => x.1.isSome)
      && decide ((e :: es).length + ([] : List Keyword).length + (if ([] : List Keyword).isEmpty then 0 else 1) < 30)) = true := by rfl)
    (hline : (apos.endLine == cpos.line) = true := by rfl) (hs : starEach (e :: es) X.env = (false, eval e X.env) :: starEach es X.env := by rfl) (hplain : (backTo cpos (starEach es X.env)).any (·.1) = false := by rfl) :
    PE X (.Call (.Attribute o name apos) (e :: es) [] cpos) (tBMT r to t) := by
  refine ⟨fun pins s σ H Q I h => ?_⟩
  refine wpAny_Call_method_late hbase hfew hline rfl (thn (ho.run pins s σ H _ I h) fun v s1 ⟨x, H1, I1, r1, ⟨a, xs, ex, ob, eo, dn⟩, q1⟩ => ?_)
  subst ex
  obtain rfl : v = Value.ref a := r1
  obtain ⟨g1, _, its, _, ob2, g2, g3, _⟩ := I1.hok a _ eo
  have h1 : s1.TypeIs (.ref a) "tuple" := ⟨ob2, g2, g3⟩
  have h2 : ∀ b, Value.ref a = .ref b → ∃ ob, s1.heap.get? b = some ob ∧ ob.dict = none := fun b e => by
    cases e
    exact ⟨ob, g1, dn⟩
  refine ⟨"tuple", id, pa, slot, hty, h1, h2, ?_⟩
  have hA := ha.run cpos pins s1 σ H1 _ I1 q1
  rw [hs] at hA ⊢
  refine Calls.callWith_builtin (by show (false || (backTo cpos (starEach es X.env)).any (·.1)) = false; rw [hplain] <;> rfl) (Calls.evalArgs_plain ?_)
  exact thn hA fun us s2 ⟨vs, H2, I2, r2, q2⟩ => hm pins s2 σ H2 (.ref a) vs (.ref a) us Q I2 rfl r2 q2
def tTupRgF (te : L2.St → Hp → (Int → Int → Hp → Prop) → Prop) : TE := fun σ H Q => te σ H fun a b H1 => RgOk a b ∧ ∀ (q : Addr) (o : Obj), H1 q = none → o.dict = none → Q (.ref q) (L2.upd H1 q (.frz o (.tup (rgV a b))))
theorem pe_tupRgF {e : Expr} {te : L2.St → Hp → (Int → Int → Hp → Prop) → Prop} {p pos : Pos} (hc : X.calm = true) (hg : Gl X "tuple") (hm : X.mg "tuple" = none) (he : PRg X e te) (na : starEach [e] X.env = (false, eval e X.env) :: starEach [] X.env := by rfl) : PE X (.Call (.Name "tuple" p) [e] [] pos) (tTupRgF te) := by
  refine ⟨fun pins s σ H Q I h => ?_⟩
  refine Call_ (ld_blt I hg hm boot_tuple (PyProof.Rows.callWith_type1 (args_cons (thn (he pins s σ H _ I h) fun x s1 ⟨r, a, b, t, u, v, H1, ex, hr, I1, ok, q⟩ => args_nil ?_) na) na))
  subst ex
  obtain ⟨b1, b2, b3, b4, b5⟩ := ok
  refine call_tuple_range (n := (b - a).toNat) (I1.ok.hd hc) hr (small_one b1 b2 b3 b4) (rangeSize_nat a b) b5 fun h' tk acc hk hi => ?_
  have I2 : Inv X pins σ H1 { s1 with heap := h', toks := tk } := I1.kept hk
  let ob : Obj := { cls := .type "tuple", data := .seq acc }
  refine ⟨.ref h'.objs.size, L2.upd H1 h'.objs.size (.frz ob (.tup (rgV a b))), I2.laid (t' := tk) (fun c o e => Heap.get?_push_of_some _ e) (Nat.le_refl _) (show ObjOk X.prog X.w _ _ _ (.frz ob (.tup (rgV a b))) from ⟨Heap.get?_push_size _ rfl, ?_, acc.toList, vals_rg hi, ?_⟩), rfl, q _ ob (I2.hok.fresh (Nat.le_refl _)) rfl⟩
  · rw [rgV_length, sizeLine_eq]; omega
  · rw [Array.toArray_toList]; exact IsTup.new _ _
theorem idx_at {l : List Int} {c : Int} (hc : c ∈ l) : l[l.idxOf c]? = some c ∧ ∀ (m : Nat) (z : Int), m < l.idxOf c → l[m]? = some z → z ≠ c := by
  have hlt : l.idxOf c < l.length := List.idxOf_lt_length_iff.mpr hc
  refine ⟨?_, fun m z hm hz e => ?_⟩
  · rw [List.getElem?_eq_getElem hlt, List.getElem_idxOf hlt]
  · subst e
    have h2 := List.not_of_lt_findIdx (p := fun x => x == z) (xs := l) (i := m) hm
    obtain ⟨h3, h4⟩ := List.getElem?_eq_some_iff.mp hz
    rw [h4] at h2
    simp at h2
end
end KR

set_option Elab.async false
set_option linter.all false
set_option maxRecDepth 100000
set_option maxHeartbeats 1000000
/-! the relation of two tasks, as the program tells it -/
namespace K2
open PySem L2 GxR GA KD KR KM KJ
open KG (RelD RelD.mem mem_tlL jd_ok JR)
theorem flat_ints (l : List Int) : (l.map V.int).all flatV = true := by
  rw [List.all_eq_true]
  intro x hx
  obtain ⟨i, _, rfl⟩ := List.mem_map.mp hx
  rfl
theorem ix_ints {l : List Int} {c : Int} (hc : c ∈ l) : ∃ j : Nat, l[j]? = some c ∧ (l.map V.int)[j]? = some (.int c) ∧ ∀ (m : Nat) (z' : V), m < j → (l.map V.int)[m]? = some z' → eqV z' (.int c) = false := by
  obtain ⟨j, h1, h2⟩ := first_ix hc
  refine ⟨j, h1, by rw [List.getElem?_map, h1]; rfl, fun m z' hm hz => ?_⟩
  rw [List.getElem?_map] at hz
  obtain ⟨i, hi, rfl⟩ := Option.map_eq_some_iff.mp hz
  have hne := h2 m i hm hi
  show (i == c) = false
  rw [beq_eq_false_iff_ne]
  exact hne
theorem eqV_int (c : Int) : eqV (.int c) (.int c) = true := by
  show (c == c) = true
  exact beq_self_eq_true c
def spRelI : Sp := fun vs H Q _ => ∃ (v : V) (d : PyData) (o : Str) (a b : Int), vs = [v, .int a, .int b] ∧ At MN H v d ∧ Both d o a b ∧ ∀ (r : Str) H', RelD a b d r → Kp MN H H' → Q (.str r) H'
def spRelF (PT : Addr) : Sp := fun vs H Q _ => ∃ (v : V) (d : PyData) (o : Str) (a b : Int), vs = [v, .int a, .int b] ∧ At MN H v d ∧ Both d o a b ∧ SeqAt.shaped d = true ∧ TabG H PT ∧ 0 ≤ a ∧ a < (vdt d : Nat) ∧ 0 ≤ b ∧ b < (vdt d : Nat) ∧
  ∀ (r : Str) H', RelD a b d r → Kp MN H H' → Q (.str r) H'
section
variable {P : Program} {w : World} {K : PySem.W.Frag} {mg : Str → Option Value} {base : Heap}
theorem ok_relI {f g j : Addr} {fd gd jd' : FuncData} (F : Fun K "relation_in" "relation_in" sRelationIn f fd) (B : Bl K mg)
    (G : FnOk P w K mg base CX0 16 g gd ["plan"] (spTasks 15)) (bG : Binds K gd ["plan"] []) (kG : PySem.W.keepIn K (.ref g) = true) (mG : mg "tasks_in" = some (.ref g))
    (J : FnOk P w K mg base CX0 16 j jd' ["plan", "first", "second"] (spJointIn 15)) (bJ : Binds K jd' ["plan", "first", "second"] []) (kJ : PySem.W.keepIn K (.ref j) = true) (mJ : mg "joint_in" = some (.ref j)) :
    FnOk P w K mg base CX0 17 f fd ["plan", "first", "second"] spRelI := by
  refine F.ok scRelationIn (fun vs H Q E h => ?_) (fun cdv A outer s H vs Q E hr h => ?_)
  · obtain ⟨v, d, o, a, b, rfl, _⟩ := h
    rfl
  obtain ⟨v, d, o, a, b, rfl, hA, hB, q⟩ := h
  refine ⟨_, pss_cons (ps_set (i := 3) scRelationIn.nd rfl (Or.inl rfl) (pe_call J hr rfl mJ kJ bJ .nil pass0 (pa_cons (pv 0) (pa_cons (pv 1) (pa_cons (pv 2) pa_nil)))))
    (pss_cons (ps_if (pt_cmpR op_eq (pe_ix ix_tup (pv 3) pe_int (fun _ _ => rfl)) pe_str (nomark _)) (pss_one (ps_ret pe_str)) pss_nil)
    (pss_cons (ps_set (i := 4) scRelationIn.nd rfl (Or.inl rfl) (pe_call G hr rfl mG kG bG .nil pass0 (pa_cons (pv 3) pa_nil)))
    (pss_one (ps_ret (pe_ifExp (pt_cmpR op_lt (pe_bm PySem.F.plainAttrs_list PySem.F.slot_list_index PySem.F.type_list_index mt_index (pv 4) (pa_cons (pv 1) pa_nil)) (pe_bm PySem.F.plainAttrs_list PySem.F.slot_list_index PySem.F.type_list_index mt_index (pv 4) (pa_cons (pv 2) pa_nil)) (nomark _)) pe_str pe_str))))), ?_⟩
  obtain ⟨we, pe, init, o', g1, g2, g3, g4, g5, g6, g7, g8⟩ := hB.good.ex
  obtain ⟨we', pe', JJ⟩ := jd_ok _ (Nat.lt_succ_self d.depth) hB.form hB.nd hB.ne hB.ma hB.mb
  have e0 := JJ.eq
  rw [g1] at e0
  injection e0 with e0
  injection e0 with e1 e0
  injection e1 with e1
  injection e0 with e0 _
  injection e0 with e0
  subst e1 e0
  refine ⟨_, rfl, _, rfl, _, rfl, v, d, o, a, b, rfl, hA, hB.form, hB.dep, hB.len, hB.ne, hB.ma, hB.mb, fun v' H1 a1 k1 => ?_⟩
  have hdep := jd_depth a b d
  rw [g1] at a1 g3 hdep
  obtain ⟨p1, p2, xs, rfl, hx, hx2, hall⟩ := At.parts a1
  refine ⟨_, rfl, _, _, _, _, rfl, rfl, SqT.of hx, atI_nat (j := 0) rfl, rfl, _, rfl, ?_⟩
  refine ite2 (fun cc => ?_) (fun cc => ?_)
  · have c' := of_decide_eq_true cc
    injection c' with c'
    subst c'
    exact q "beside" H1 JJ.beside k1
  have nb : we ≠ "beside" := fun z => (of_decide_eq_false (Bool.eq_false_iff.mpr cc)) (by rw [z])
  refine ⟨_, rfl, _, _, o', rfl, a1, by rw [tl_part]; exact g3, by have := hB.dep; omega, by rw [tl_part]; exact Nat.le_trans g8 hB.len, fun t H2 ht k2 e2 => ?_⟩
  rw [tl_part] at e2
  obtain ⟨j1, i1, h11, h12⟩ := ix_ints g4
  obtain ⟨j2, i2, h21, h22⟩ := ix_ints g5
  obtain ⟨t1, t2⟩ := JJ.then nb i1 i2
  refine ⟨_, rfl, .inl ⟨rfl, _, .inl (.inl e2)⟩, _, rfl, t, _, .int a, j1, .int a, rfl, rfl, SqL.of e2, rfl, flat_ints _, h11, eqV_int a, h12, ?_⟩
  refine ⟨_, rfl, .inl ⟨rfl, _, .inl (.inl e2)⟩, _, rfl, t, _, .int b, j2, .int b, rfl, rfl, SqL.of e2, rfl, flat_ints _, h21, eqV_int b, h22, ?_⟩
  refine ⟨_, _, rfl, rfl, _, rfl, ?_⟩
  refine ite2 (fun cc => ?_) (fun cc => ?_)
  · exact q "before" H2 (t1 (by have := of_decide_eq_true cc; omega)) (k1.trans k2)
  · exact q "after" H2 (t2 (by have := of_decide_eq_false (Bool.eq_false_iff.mpr cc); omega)) (k1.trans k2)
theorem ok_relF {f g j PT : Addr} {fd gd jd' : FuncData} (F : Fun K "relation" "relation" sRelation f fd)
    (G : FnOk P w K mg base CX0 8 g gd ["plan", "first", "second"] (spTwo PT)) (bG : Binds K gd ["plan", "first", "second"] []) (kG : PySem.W.keepIn K (.ref g) = true) (mG : mg "check_two_tasks" = some (.ref g))
    (J : FnOk P w K mg base CX0 17 j jd' ["plan", "first", "second"] spRelI) (bJ : Binds K jd' ["plan", "first", "second"] []) (kJ : PySem.W.keepIn K (.ref j) = true) (mJ : mg "relation_in" = some (.ref j)) :
    FnOk P w K mg base CX0 18 f fd ["plan", "first", "second"] (spRelF PT) := by
  refine F.ok scRelation (fun vs H Q E h => ?_) (fun cdv A outer s H vs Q E hr h => ?_)
  · obtain ⟨v, d, o, a, b, rfl, _⟩ := h
    rfl
  obtain ⟨v, d, o, a, b, rfl, hA, hB, hS, hT, a0, a1, b0, b1, q⟩ := h
  refine ⟨_, pss_cons (ps_expr (pe_call G (hr.mono (by decide)) rfl mG kG bG .nil pass0 (pa_cons (pv 0) (pa_cons (pv 1) (pa_cons (pv 2) pa_nil)))))
    (pss_one (ps_ret (pe_call J hr rfl mJ kJ bJ .nil pass0 (pa_cons (pv 0) (pa_cons (pv 1) (pa_cons (pv 2) pa_nil)))))), ?_⟩
  refine ⟨_, rfl, _, rfl, _, rfl, v, d, a, b, rfl, hA, hS, hT, a0, a1, b0, b1, hB.ne, fun H1 k1 => ?_⟩
  exact ⟨_, rfl, _, rfl, _, rfl, v, d, o, a, b, rfl, hA.kp k1, hB, fun r H' e1 k2 => q r H' e1 (k1.trans k2)⟩
end
end K2

set_option Elab.async false
set_option linter.all false
set_option maxRecDepth 100000
set_option maxHeartbeats 1000000
/-! pieces as parts of one plan (mathematics alone). -/
namespace KG
open PySem L2 KM KJ
def sprL (w : Str) (ds : List PyData) : List PyData := ds.flatMap (spr w)
theorem sprL_nil (w : Str) : sprL w [] = [] := rfl
theorem sprL_cons (w : Str) (d : PyData) (r : List PyData) : sprL w (d :: r) = spr w d ++ sprL w r := List.flatMap_cons
theorem sprL_app (w : Str) (a b : List PyData) : sprL w (a ++ b) = sprL w a ++ sprL w b := List.flatMap_append
theorem sprL_succ {w : Str} {ds : List PyData} {i : Nat} {p : PyData} (h : ds[i]? = some p) : sprL w (ds.take (i + 1)) = sprL w (ds.take i) ++ spr w p := by
  rw [List.take_succ, h, sprL_app]
  show _ ++ sprL w [p] = _
  rw [sprL_cons, sprL_nil, List.append_nil]
theorem sprL_ok {w : Str} : ∀ {ds : List PyData}, (∀ p ∈ ds, formed p "" = some (tl p)) → (∀ q ∈ sprL w ds, formed q w = some (tl q)) ∧ tlL (sprL w ds) = tlL ds ∧ (ds ≠ [] → sprL w ds ≠ [])
  | [], _ => ⟨fun q hq => absurd hq List.not_mem_nil, rfl, fun h => absurd rfl h⟩
  | d :: r, h => by
    obtain ⟨a, b, _⟩ := sprL_ok (w := w) fun p hp => h p (List.mem_cons_of_mem _ hp)
    obtain ⟨s1, s2, _, s4⟩ := spr_ok (w := w) (h d List.mem_cons_self)
    rw [sprL_cons]
    refine ⟨fun q hq => ?_, by rw [tlL_app, tlL_cons, b, s2], fun _ z => ?_⟩
    · rcases List.mem_append.mp hq with z | z
      · exact s1 q z
      · exact a q z
    · exact s4 (List.append_eq_nil_iff.mp z).1
theorem sprL_len {w : Str} {ds : List PyData} (h : ∀ p ∈ ds, formed p "" = some (tl p)) : (sprL w ds).length ≤ (tlL ds).length := by
  obtain ⟨a, b, _⟩ := sprL_ok (w := w) h
  have := formedL_len _ _ _ (formedL_ok a)
  rw [b] at this
  exact this
theorem sprL_take {w : Str} {ds : List PyData} (i : Nat) : (sprL w (ds.take i)).length ≤ (sprL w ds).length := by
  have h : sprL w ds = sprL w (ds.take i) ++ sprL w (ds.drop i) := by rw [← sprL_app, List.take_append_drop]
  rw [h, List.length_append]
  omega
theorem lftL_spr_map (C : List Int) (w : Str) : ∀ ps : List PyData, lftL C w ps = sprL w ((ps.filter (hasC C)).map (lft C))
  | [] => lftL_nil C w
  | p :: r => by
    rw [lftL_cons, lftL_spr_map C w r]
    by_cases c : hasC C p = true
    · rw [if_pos c, List.filter_cons_of_pos c, List.map_cons, sprL_cons]
    · rw [if_neg c, List.filter_cons_of_neg c]
      rfl
theorem num_le (C l : List Int) : (num C l).length ≤ l.length := by
  unfold num
  rw [List.length_map]
  exact List.length_filter_le _ _
theorem tlL_lft {C : List Int} {w : Str} : ∀ {ps : List PyData}, (∀ p ∈ ps, formed p w = some (tl p)) → tlL ((ps.filter (hasC C)).map (lft C)) = num C (tlL ps)
  | [], _ => rfl
  | p :: r, h => by
    have ih := tlL_lft (C := C) (ps := r) fun p hp => h p (List.mem_cons_of_mem _ hp)
    rw [tlL_cons, num_app]
    by_cases c : hasC C p = true
    · rw [List.filter_cons_of_pos c, List.map_cons, tlL_cons, ih, (lft_ok C _ (Nat.lt_succ_self p.depth) (h p List.mem_cons_self) c).2]
    · rw [List.filter_cons_of_neg c, ih, num_none (Bool.eq_false_iff.mpr c)]
      rfl
end KG

set_option Elab.async false
set_option linter.all false
set_option maxRecDepth 100000
set_option maxHeartbeats 1000000
/-! Normal plans: relations tell them (mathematics alone). -/
namespace KG
open PySem L2 KM KJ
/-- the least one -/
def lst : List Int → Int
  | [] => 0
  | x :: r => r.foldl (fun a b => if b < a then b else a) x
theorem lst_fold : ∀ (r : List Int) (x : Int), (r.foldl (fun a b => if b < a then b else a) x = x ∨ r.foldl (fun a b => if b < a then b else a) x ∈ r) ∧ r.foldl (fun a b => if b < a then b else a) x ≤ x ∧ ∀ y ∈ r, r.foldl (fun a b => if b < a then b else a) x ≤ y
  | [], x => ⟨.inl rfl, Int.le_refl _, fun y h => absurd h List.not_mem_nil⟩
  | b :: r, x => by
    rw [List.foldl_cons]
    obtain ⟨h1, h2, h3⟩ := lst_fold r (if b < x then b else x)
    have hx : (if b < x then b else x) ≤ x ∧ (if b < x then b else x) ≤ b := by split <;> omega
    refine ⟨?_, Int.le_trans h2 hx.1, fun y hy => ?_⟩
    · rcases h1 with h | h
      · rw [h]
        by_cases c : b < x
        · rw [if_pos c]
          exact .inr List.mem_cons_self
        · rw [if_neg c]
          exact .inl rfl
      · exact .inr (List.mem_cons_of_mem _ h)
    · rcases List.mem_cons.mp hy with z | z
      · rw [z]
        exact Int.le_trans h2 hx.2
      · exact h3 y z
theorem lst_spec : ∀ {l : List Int}, l ≠ [] → lst l ∈ l ∧ ∀ y ∈ l, lst l ≤ y
  | [], h => absurd rfl h
  | x :: r, _ => by
    obtain ⟨h1, h2, h3⟩ := lst_fold r x
    refine ⟨?_, fun y hy => ?_⟩
    · rcases h1 with h | h
      · show r.foldl _ x ∈ _
        rw [h]
        exact List.mem_cons_self
      · exact List.mem_cons_of_mem _ h
    · rcases List.mem_cons.mp hy with z | z
      · rw [z]
        exact h2
      · exact h3 y z
theorem lst_eq {l : List Int} {m : Int} (h1 : m ∈ l) (h2 : ∀ y ∈ l, m ≤ y) : lst l = m := by
  obtain ⟨g1, g2⟩ := lst_spec (List.ne_nil_of_mem h1)
  have := g2 m h1
  have := h2 _ g1
  omega
def mn (d : PyData) : Int := lst (tl d)
theorem mn_perm {d e : PyData} (h : (tl e).Perm (tl d)) (hn : tl d ≠ []) : mn e = mn d := by
  obtain ⟨g1, g2⟩ := lst_spec hn
  exact lst_eq (h.mem_iff.mpr g1) fun y hy => g2 y (h.mem_iff.mp hy)
theorem mn_mem {d : PyData} {o : Str} (h : formed d o = some (tl d)) : mn d ∈ tl d := (lst_spec (formed_ne _ _ _ h)).1
/-- each "beside" has its parts in the order of their least tasks -/
inductive Normal : PyData → Prop
  | int (i : Int) : Normal (.int i)
  | node {w : Str} {ps : List PyData} : (∀ p ∈ ps, Normal p) → (w = "beside" → ps.Pairwise fun p q => mn p < mn q) → Normal (.tuple [.str w, .tuple ps])
/-- two plans in which all tasks have the same relations -/
structure Eqr (o : Str) (d e : PyData) : Prop where
  form : formed e o = some (tl e)
  perm : (tl e).Perm (tl d)
  rel : ∀ x y r, RelD x y d r → RelD x y e r
theorem Eqr.refl {o : Str} {d : PyData} (h : formed d o = some (tl d)) : Eqr o d d := ⟨h, List.Perm.refl _, fun _ _ _ h => h⟩
theorem Eqr.trans {o : Str} {d e f : PyData} (a : Eqr o d e) (b : Eqr o e f) : Eqr o d f := ⟨b.form, b.perm.trans a.perm, fun x y r h => b.rel x y r (a.rel x y r h)⟩
/-- row by row -/
structure Eqs (w : Str) (ps qs : List PyData) : Prop where
  len : qs.length = ps.length
  at_ : ∀ (i : Nat) (p q : PyData), ps[i]? = some p → qs[i]? = some q → Eqr w p q
theorem Eqs.get {w : Str} {ps qs : List PyData} (h : Eqs w ps qs) {i : Nat} {p : PyData} (e : ps[i]? = some p) : ∃ q, qs[i]? = some q ∧ Eqr w p q := by
  have hl := (List.getElem?_eq_some_iff.mp e).1
  have e2 : qs[i]? = some (qs[i]'(by rw [h.len]; exact hl)) := List.getElem?_eq_getElem _
  exact ⟨_, e2, h.at_ i _ _ e e2⟩
theorem Eqs.nil {w : Str} : Eqs w [] [] := ⟨rfl, fun i p q h => by simp at h⟩
theorem Eqs.tail {w : Str} {p q : PyData} {ps qs : List PyData} (h : Eqs w (p :: ps) (q :: qs)) : Eqr w p q ∧ Eqs w ps qs :=
  ⟨h.at_ 0 _ _ rfl rfl, by simpa using h.len, fun i a b h1 h2 => h.at_ (i + 1) a b (by simpa using h1) (by simpa using h2)⟩
theorem Eqs.perm {w : Str} : ∀ {ps qs : List PyData}, Eqs w ps qs → (tlL qs).Perm (tlL ps)
  | [], [], _ => List.Perm.refl _
  | [], _ :: _, h => absurd h.len (by simp)
  | _ :: _, [], h => absurd h.len (by simp)
  | p :: ps, q :: qs, h => by
    rw [tlL_cons, tlL_cons]
    exact (h.tail.1.perm).append (Eqs.perm h.tail.2)
theorem Eqs.form {w : Str} {ps qs : List PyData} (h : Eqs w ps qs) : ∀ q ∈ qs, formed q w = some (tl q) := fun q hq => by
  obtain ⟨i, hi⟩ := List.getElem?_of_mem hq
  have hl := (List.getElem?_eq_some_iff.mp hi).1
  have e : ps[i]? = some (ps[i]'(by rw [← h.len]; exact hl)) := List.getElem?_eq_getElem _
  exact (h.at_ i _ _ e hi).form
theorem Eqs.node {w o : Str} {ps qs : List PyData} (h : Eqs w ps qs) (hw : wd w = true) (ho : w ≠ o) (h2 : 2 ≤ ps.length) : Eqr o (.tuple [.str w, .tuple ps]) (.tuple [.str w, .tuple qs]) := by
  refine ⟨formed_node hw ho (by rw [h.len]; exact h2) h.form, by rw [tl_part, tl_part]; exact h.perm, fun x y r hr => ?_⟩
  cases hr with
  | inner h1 h2 h3 h4 =>
    obtain ⟨q, g1, g2⟩ := h.get h1
    exact .inner g1 (g2.perm.mem_iff.mpr h2) (g2.perm.mem_iff.mpr h3) (g2.rel _ _ _ h4)
  | beside h1 h2 h3 h4 h5 =>
    obtain ⟨q, g1, g2⟩ := h.get h1
    obtain ⟨q', g3, g4⟩ := h.get h2
    exact .beside g1 g3 (g2.perm.mem_iff.mpr h3) (g4.perm.mem_iff.mpr h4) h5
  | before h1 h2 h3 h4 h5 =>
    obtain ⟨q, g1, g2⟩ := h.get h1
    obtain ⟨q', g3, g4⟩ := h.get h2
    exact .before g1 g3 (g2.perm.mem_iff.mpr h3) (g4.perm.mem_iff.mpr h4) h5
  | after h1 h2 h3 h4 h5 =>
    obtain ⟨q, g1, g2⟩ := h.get h1
    obtain ⟨q', g3, g4⟩ := h.get h2
    exact .after g1 g3 (g2.perm.mem_iff.mpr h3) (g4.perm.mem_iff.mpr h4) h5
theorem tlL_perm {ps qs : List PyData} (h : qs.Perm ps) : (tlL qs).Perm (tlL ps) := by
  induction h with
  | nil => exact List.Perm.refl _
  | cons x _ ih => rw [tlL_cons, tlL_cons]; exact ih.append_left _
  | swap x y l =>
    rw [tlL_cons, tlL_cons, tlL_cons, tlL_cons, ← List.append_assoc, ← List.append_assoc]
    exact List.perm_append_comm.append_right _
  | trans _ _ a b => exact a.trans b
/-- the parts of "beside" in another sequence -/
theorem mix_beside {o : Str} {ps qs : List PyData} (h : qs.Perm ps) (hf : ∀ p ∈ ps, formed p "beside" = some (tl p)) (ho : ("beside" : Str) ≠ o) (h2 : 2 ≤ ps.length) (hn : (tlL ps).Nodup) :
    Eqr o (.tuple [.str "beside", .tuple ps]) (.tuple [.str "beside", .tuple qs]) := by
  refine ⟨formed_node (by decide +kernel) ho (by rw [h.length_eq]; exact h2) fun q hq => hf q (h.mem_iff.mp hq), by rw [tl_part, tl_part]; exact tlL_perm h, fun x y r hr => ?_⟩
  have at_ : ∀ {i : Nat} {p : PyData}, ps[i]? = some p → ∃ j, qs[j]? = some p := fun {i p} e => List.getElem?_of_mem (h.mem_iff.mpr (List.mem_of_getElem? e))
  cases hr with
  | inner h1 h2 h3 h4 =>
    obtain ⟨j, g1⟩ := at_ h1
    exact .inner g1 h2 h3 h4
  | beside h1 h2 h3 h4 h5 =>
    obtain ⟨j, g1⟩ := at_ h1
    obtain ⟨j', g2⟩ := at_ h2
    refine .beside g1 g2 h3 h4 fun z => ?_
    subst z
    rw [g1] at g2
    cases g2
    exact h5 (one_place hn h1 h2 h3 h3)
/-! ### relations tell the normal plan -/
theorem far_kind {x y : Int} {u r : Str} {qs : List PyData} (hn : (tlL qs).Nodup) {i j : Nat} {p q : PyData} (h1 : qs[i]? = some p) (h2 : qs[j]? = some q) (h3 : x ∈ tl p) (h4 : y ∈ tl q) (h5 : i ≠ j) (h : RelD x y (.tuple [.str u, .tuple qs]) r) : r = "beside" ↔ u = "beside" := by
  cases h with
  | inner g1 g2 g3 g4 => exact absurd ((one_place hn h1 g1 h3 g2).trans (one_place hn g1 h2 g3 h4)) h5
  | beside => exact ⟨fun _ => rfl, fun _ => rfl⟩
  | before => exact ⟨fun z => absurd z (by decide +kernel), fun z => absurd z (by decide +kernel)⟩
  | after => exact ⟨fun z => absurd z (by decide +kernel), fun z => absurd z (by decide +kernel)⟩
theorem rel_far {x y : Int} {w : Str} {ps : List PyData} (hw : wd w = true) {i j : Nat} {p q : PyData} (h1 : ps[i]? = some p) (h2 : ps[j]? = some q) (h3 : x ∈ tl p) (h4 : y ∈ tl q) (h5 : i ≠ j) : ∃ r, RelD x y (.tuple [.str w, .tuple ps]) r ∧ (r = "beside" ↔ w = "beside") := by
  by_cases c : w = "beside"
  · subst c
    exact ⟨_, .beside h1 h2 h3 h4 h5, ⟨fun _ => rfl, fun _ => rfl⟩⟩
  · have ew : w = "then" := by
      simp only [KM.wd, Bool.or_eq_true, decide_eq_true_eq] at hw
      exact hw.resolve_right c
    subst ew
    rcases Nat.lt_or_gt_of_ne h5 with z | z
    · exact ⟨_, .before h1 h2 h3 h4 z, ⟨fun z => absurd z (by decide +kernel), fun z => absurd z (by decide +kernel)⟩⟩
    · exact ⟨_, .after h1 h2 h3 h4 z, ⟨fun z => absurd z (by decide +kernel), fun z => absurd z (by decide +kernel)⟩⟩
/-- what is joined by the other word lies in one part -/
theorem within {w u : Str} {ps qs : List PyData} (hw : wd w = true) (h2 : 2 ≤ ps.length) (hf : ∀ p ∈ ps, formed p w = some (tl p)) (hn : (tlL qs).Nodup) (hwu : ¬ (w = "beside" ↔ u = "beside"))
    (hs : ∀ x ∈ tlL ps, x ∈ tlL qs) (hr : ∀ x y r, RelD x y (.tuple [.str w, .tuple ps]) r → RelD x y (.tuple [.str u, .tuple qs]) r) : ∃ (i : Nat) (q : PyData), qs[i]? = some q ∧ ∀ x ∈ tlL ps, x ∈ tl q := by
  have e0 : ps[0]? = some ps[0] := List.getElem?_eq_getElem _
  have e1 : ps[1]? = some ps[1] := List.getElem?_eq_getElem _
  generalize ps[0] = p0 at e0
  generalize ps[1] = p1 at e1
  obtain ⟨x0, hx0⟩ := List.exists_mem_of_ne_nil _ (formed_ne _ _ _ (hf p0 (List.mem_of_getElem? e0)))
  obtain ⟨y0, hy0⟩ := List.exists_mem_of_ne_nil _ (formed_ne _ _ _ (hf p1 (List.mem_of_getElem? e1)))
  have same : ∀ {i j : Nat} {p q : PyData} {x y : Int}, ps[i]? = some p → ps[j]? = some q → x ∈ tl p → y ∈ tl q → i ≠ j → ∀ {k : Nat} {c : PyData}, qs[k]? = some c → x ∈ tl c → y ∈ tl c := by
    intro i j p q x y h1 h2 h3 h4 h5 k c hc hx
    obtain ⟨r, g1, g2⟩ := rel_far hw h1 h2 h3 h4 h5
    obtain ⟨k', c', hc', hy⟩ := mem_tlL (hs y (tl_mem (List.mem_of_getElem? h2) _ h4))
    by_cases e : k = k'
    · subst e
      rw [hc] at hc'
      cases hc'
      exact hy
    · have := far_kind hn hc hc' hx hy e (hr _ _ _ g1)
      exact absurd (g2.symm.trans this) hwu
  obtain ⟨k, c, hc, hxc⟩ := mem_tlL (hs x0 (tl_mem (List.mem_of_getElem? e0) _ hx0))
  have hy0c := same e0 e1 hx0 hy0 (by decide) hc hxc
  refine ⟨k, c, hc, fun z hz => ?_⟩
  obtain ⟨i, p, hi, hp⟩ := mem_tlL hz
  by_cases e : i = 0
  · subst e
    exact same e1 hi hy0 hp (by decide) hc hy0c
  · exact same e0 hi hx0 hp (Ne.symm e) hc hxc
theorem list_eq {α : Type} {R : α → α → Prop} : ∀ {a b : List α}, a.Pairwise R → b.Pairwise R → (∀ x, x ∈ a ↔ x ∈ b) → (∀ x ∈ a, ∀ y ∈ a, R x y → ¬ R y x) → a = b
  | [], [], _, _, _, _ => rfl
  | [], y :: s, _, _, h, _ => absurd ((h y).mpr List.mem_cons_self) List.not_mem_nil
  | x :: r, [], _, _, h, _ => absurd ((h x).mp List.mem_cons_self) List.not_mem_nil
  | x :: r, y :: s, ha, hb, h, as => by
    rw [List.pairwise_cons] at ha hb
    have hy := (h y).mpr List.mem_cons_self
    have e : x = y := by
      rcases List.mem_cons.mp ((h x).mp List.mem_cons_self) with z | z
      · exact z
      · rcases List.mem_cons.mp hy with z' | z'
        · exact z'.symm
        · exact absurd (hb.1 x z) (as x List.mem_cons_self y hy (ha.1 y z'))
    subst e
    have nx : ∀ {l : List α}, (∀ z ∈ l, R x z) → x ∉ l := fun hl m => as x List.mem_cons_self x List.mem_cons_self (hl x m) (hl x m)
    rw [list_eq ha.2 hb.2 (fun k => ⟨fun z => ?_, fun z => ?_⟩) fun p hp q hq => as p (List.mem_cons_of_mem _ hp) q (List.mem_cons_of_mem _ hq)]
    · rcases List.mem_cons.mp ((h k).mp (List.mem_cons_of_mem _ z)) with y | y
      · subst y
        exact absurd z (nx ha.1)
      · exact y
    · rcases List.mem_cons.mp ((h k).mpr (List.mem_cons_of_mem _ z)) with y | y
      · subst y
        exact absurd z (nx hb.1)
      · exact y
theorem two_parts {w : Str} {ps : List PyData} (h2 : 2 ≤ ps.length) (hf : ∀ p ∈ ps, formed p w = some (tl p)) : 2 ≤ (tlL ps).length := Nat.le_trans h2 (formedL_len _ _ _ (formedL_ok hf))
theorem one_only {i : Int} {l : List Int} (hn : l.Nodup) (h : ∀ x ∈ l, x = i) (h2 : 2 ≤ l.length) : False := by
  match l, h2, hn, h with
  | a :: b :: r, _, hn, h =>
    rw [List.nodup_cons] at hn
    exact hn.1 (by rw [h a List.mem_cons_self, ← h b (List.mem_cons_of_mem _ List.mem_cons_self)]; exact List.mem_cons_self)
theorem inner_rel {x y : Int} {u r : Str} {qs : List PyData} (hn : (tlL qs).Nodup) {i : Nat} {q : PyData} (hi : qs[i]? = some q) (hx : x ∈ tl q) (hy : y ∈ tl q) (h : RelD x y (.tuple [.str u, .tuple qs]) r) : RelD x y q r := by
  cases h with
  | inner g1 g2 g3 g4 =>
    have := one_place hn hi g1 hx g2
    subst this
    rw [hi] at g1
    cases g1
    exact g4
  | beside g1 g2 g3 g4 g5 => exact absurd ((one_place hn g1 hi g3 hx).trans (one_place hn hi g2 hy g4)) g5
  | before g1 g2 g3 g4 g5 => exact absurd ((one_place hn g1 hi g3 hx).trans (one_place hn hi g2 hy g4)) (by omega)
  | after g1 g2 g3 g4 g5 => exact absurd ((one_place hn g1 hi g3 hx).trans (one_place hn hi g2 hy g4)) (by omega)
theorem nd_mem {l m : List Int} (h : ∀ x, x ∈ l ↔ x ∈ m) (hl : l.Nodup) (hm : m.Nodup) : l.Perm m := (List.perm_ext_iff_of_nodup hl hm).mpr h
/-- all parts of the one stand in the other -/
theorem parts_in {n : Nat} {w : Str} {ps qs : List PyData} (hw : wd w = true) (h2 : 2 ≤ ps.length) (h2' : 2 ≤ qs.length) (hf : ∀ p ∈ ps, formed p w = some (tl p)) (hg : ∀ p ∈ qs, formed p w = some (tl p)) (hn : (tlL ps).Nodup) (hm : (tlL qs).Nodup)
    (hs : ∀ x, x ∈ tlL ps ↔ x ∈ tlL qs) (hr : ∀ x y r, RelD x y (.tuple [.str w, .tuple ps]) r → RelD x y (.tuple [.str w, .tuple qs]) r) :
    ∀ p ∈ ps, ∃ (i : Nat) (q : PyData), qs[i]? = some q ∧ ∀ x ∈ tl p, x ∈ tl q := by
  intro p hp
  obtain ⟨k, hk⟩ := List.getElem?_of_mem hp
  rcases plan_cases (hf p hp) with ⟨i, rfl⟩ | ⟨u, cs, rfl, hu, huo, c2, hcl, hcf⟩
  · obtain ⟨j, q, h1, h3⟩ := mem_tlL ((hs i).mp (tl_mem hp i (by rw [tl_int]; exact List.mem_singleton.mpr rfl)))
    refine ⟨j, q, h1, fun x hx => ?_⟩
    rw [tl_int] at hx
    rw [List.mem_singleton.mp hx]
    exact h3
  · rw [tl_part]
    have kind : ¬ (u = "beside" ↔ w = "beside") := fun z => by
      rcases (by simpa [KM.wd, Bool.or_eq_true, decide_eq_true_eq] using hu : u = "then" ∨ u = "beside") with a | a <;> rcases (by simpa [KM.wd, Bool.or_eq_true, decide_eq_true_eq] using hw : w = "then" ∨ w = "beside") with b | b
      · exact huo (a.trans b.symm)
      · exact absurd (a.symm.trans (z.mpr b)) (by decide +kernel)
      · exact absurd (b.symm.trans (z.mp a)) (by decide +kernel)
      · exact huo (a.trans b.symm)
    refine within hu c2 hcf hm kind (fun x hx => (hs x).mp (tl_mem hp x (by rw [tl_part]; exact hx))) fun x y r h => ?_
    exact hr x y r (.inner hk h.mem.1 h.mem.2 h)
theorem RelD.ne' {x y : Int} {e : PyData} {r : Str} (h : RelD x y e r) : (tl e).Nodup → x ≠ y := by
  induction h with
  | inner h1 h2 h3 _ ih =>
    intro hn
    rw [tl_part] at hn
    exact ih (nodup_part hn (List.mem_of_getElem? h1))
  | beside h1 h2 h3 h4 h5 =>
    intro hn z
    rw [tl_part] at hn
    subst z
    exact h5 (one_place hn h1 h2 h3 h4)
  | before h1 h2 h3 h4 h5 =>
    intro hn z
    rw [tl_part] at hn
    subst z
    have := one_place hn h1 h2 h3 h4
    omega
  | after h1 h2 h3 h4 h5 =>
    intro hn z
    rw [tl_part] at hn
    subst z
    have := one_place hn h1 h2 h3 h4
    omega
theorem rel_back {d e : PyData} {o : Str} (hd : formed d o = some (tl d)) (he : (tl e).Nodup) (hs : ∀ x, x ∈ tl d ↔ x ∈ tl e) (hr : ∀ x y r, RelD x y d r → RelD x y e r) : ∀ x y r, RelD x y e r → RelD x y d r := fun x y r h => by
  have hm := h.mem
  obtain ⟨r', h'⟩ := RelD.ex _ (Nat.lt_succ_self d.depth) hd ((hs x).mpr hm.1) ((hs y).mpr hm.2) (h.ne' he)
  have := (hr x y r' h').uniq he h
  rw [← this]
  exact h'
theorem uniq : ∀ (n : Nat) {d e : PyData} {o o' : Str}, d.depth < n → formed d o = some (tl d) → formed e o' = some (tl e) → (tl d).Nodup → (tl e).Nodup → (∀ x, x ∈ tl d ↔ x ∈ tl e) → Normal d → Normal e → (∀ x y r, RelD x y d r → RelD x y e r) → d = e
  | 0, _, _, _, _, h, _, _, _, _, _, _, _, _ => absurd h (Nat.not_lt_zero _)
  | n + 1, d, e, o, o', hdep, hd, he, nd, ne, hs, Nd, Ne, hr => by
    rcases plan_cases hd with ⟨i, rfl⟩ | ⟨w, ps, rfl, hw, hwo, h2, hfl, hf⟩
    · rcases plan_cases he with ⟨j, rfl⟩ | ⟨u, qs, rfl, hu, huo, g2, hgl, hg⟩
      · have := (hs i).mp (by rw [tl_int]; exact List.mem_singleton.mpr rfl)
        rw [tl_int] at this
        rw [List.mem_singleton.mp this]
      · rw [tl_part] at ne hs
        refine (one_only (i := i) ne (fun x hx => ?_) (two_parts g2 hg)).elim
        have := (hs x).mpr hx
        rw [tl_int] at this
        exact List.mem_singleton.mp this
    · rw [tl_part] at nd hs
      rcases plan_cases he with ⟨j, rfl⟩ | ⟨u, qs, rfl, hu, huo, g2, hgl, hg⟩
      · refine (one_only (i := j) nd (fun x hx => ?_) (two_parts h2 hf)).elim
        have := (hs x).mp hx
        rw [tl_int] at this
        exact List.mem_singleton.mp this
      · rw [tl_part] at ne hs
        have hr' := rel_back hd (by rw [tl_part]; exact ne) (by rw [tl_part, tl_part]; exact hs) hr
        -- the same word
        have wu : w = u := by
          apply Classical.byContradiction
          intro c
          have kind : ¬ (w = "beside" ↔ u = "beside") := fun z => by
            rcases (by simpa [KM.wd, Bool.or_eq_true, decide_eq_true_eq] using hu : u = "then" ∨ u = "beside") with a | a <;> rcases (by simpa [KM.wd, Bool.or_eq_true, decide_eq_true_eq] using hw : w = "then" ∨ w = "beside") with b | b
            · exact c (b.trans a.symm)
            · exact absurd (a.symm.trans (z.mp b)) (by decide +kernel)
            · exact absurd (b.symm.trans (z.mpr a)) (by decide +kernel)
            · exact c (b.trans a.symm)
          obtain ⟨i, q, hi, hq⟩ := within hw h2 hf ne kind (fun x hx => (hs x).mp hx) hr
          have e0 : qs[0]? = some qs[0] := List.getElem?_eq_getElem _
          have e1 : qs[1]? = some qs[1] := List.getElem?_eq_getElem _
          obtain ⟨x0, hx0⟩ := List.exists_mem_of_ne_nil _ (formed_ne _ _ _ (hg qs[0] (List.getElem_mem _)))
          obtain ⟨x1, hx1⟩ := List.exists_mem_of_ne_nil _ (formed_ne _ _ _ (hg qs[1] (List.getElem_mem _)))
          have a0 := one_place ne e0 hi hx0 (hq _ ((hs x0).mpr (tl_mem (List.getElem_mem _) _ hx0)))
          have a1 := one_place ne e1 hi hx1 (hq _ ((hs x1).mpr (tl_mem (List.getElem_mem _) _ hx1)))
          omega
        subst wu
        have in1 := parts_in (n := 0) hw h2 g2 hf hg nd ne hs hr
        have in2 := parts_in (n := 0) hw g2 h2 hg hf ne nd (fun x => (hs x).symm) hr'
        cases Nd with
        | node Np Nw =>
          cases Ne with
          | node Nq Nw' =>
            -- each part is one of the other's
            have eqs : ∀ p ∈ ps, ∃ q ∈ qs, p = q := fun p hp => by
              obtain ⟨j, q, hj, hpq⟩ := in1 p hp
              have hq := List.mem_of_getElem? hj
              obtain ⟨k, p', hk, hqp⟩ := in2 q hq
              obtain ⟨i, hi⟩ := List.getElem?_of_mem hp
              obtain ⟨x, hx⟩ := List.exists_mem_of_ne_nil _ (formed_ne _ _ _ (hf p hp))
              have ik := one_place nd hi hk hx (hqp x (hpq x hx))
              subst ik
              rw [hi] at hk
              cases hk
              refine ⟨q, hq, uniq n (depth_part hdep hp) (hf p hp) (hg q hq) (nodup_part nd hp) (nodup_part ne hq) (fun x => ⟨hpq x, hqp x⟩) (Np p hp) (Nq q hq) fun x y r h => ?_⟩
              exact inner_rel ne hj (hpq x h.mem.1) (hpq y h.mem.2) (hr x y r (.inner hi h.mem.1 h.mem.2 h))
            have eqs' : ∀ q ∈ qs, q ∈ ps := fun q hq => by
              obtain ⟨k, p, hk, hqp⟩ := in2 q hq
              have hp := List.mem_of_getElem? hk
              obtain ⟨q', hq', e⟩ := eqs p hp
              obtain ⟨x, hx⟩ := List.exists_mem_of_ne_nil _ (formed_ne _ _ _ (hg q hq))
              obtain ⟨i, hi⟩ := List.getElem?_of_mem hq
              obtain ⟨j, hj⟩ := List.getElem?_of_mem hq'
              have hx' : x ∈ tl q' := by rw [← e]; exact hqp x hx
              have := one_place ne hi hj hx hx'
              subst this
              rw [hi] at hj
              cases hj
              rw [← e]
              exact hp
            have mem : ∀ p, p ∈ ps ↔ p ∈ qs := fun p => ⟨fun h => by
              obtain ⟨q, hq, e⟩ := eqs p h
              rw [e]
              exact hq, eqs' p⟩
            have key : ps = qs := by
              by_cases c : w = "beside"
              · exact list_eq (Nw c) (Nw' c) mem fun p _ q _ a b => by omega
              · have ew : w = "then" := by
                  simp only [KM.wd, Bool.or_eq_true, decide_eq_true_eq] at hw
                  exact hw.resolve_right c
                subst ew
                have place : ∀ {i j : Nat} {p : PyData}, qs[i]? = some p → qs[j]? = some p → i = j := fun {i j p} h1 h2 => by
                  obtain ⟨x, hx⟩ := List.exists_mem_of_ne_nil _ (formed_ne _ _ _ (hg p (List.mem_of_getElem? h1)))
                  exact one_place ne h1 h2 hx hx
                have o2 : qs.Pairwise fun p q => ∃ i j : Nat, qs[i]? = some p ∧ qs[j]? = some q ∧ i < j := by
                  rw [List.pairwise_iff_getElem]
                  intro i j hi hj hij
                  exact ⟨i, j, List.getElem?_eq_getElem hi, List.getElem?_eq_getElem hj, hij⟩
                have o1 : ps.Pairwise fun p q => ∃ i j : Nat, qs[i]? = some p ∧ qs[j]? = some q ∧ i < j := by
                  rw [List.pairwise_iff_getElem]
                  intro a b ha hb hab
                  have pa := List.getElem_mem ha
                  have pb := List.getElem_mem hb
                  have ga : ps[a]? = some ps[a] := List.getElem?_eq_getElem ha
                  have gb : ps[b]? = some ps[b] := List.getElem?_eq_getElem hb
                  generalize ps[a] = p at pa ga ⊢
                  generalize ps[b] = q at pb gb ⊢
                  obtain ⟨x, hx⟩ := List.exists_mem_of_ne_nil _ (formed_ne _ _ _ (hf p pa))
                  obtain ⟨y, hy⟩ := List.exists_mem_of_ne_nil _ (formed_ne _ _ _ (hf q pb))
                  have h := hr x y _ (.before ga gb hx hy hab)
                  obtain ⟨i, hi⟩ := List.getElem?_of_mem ((mem p).mp pa)
                  obtain ⟨j, hj⟩ := List.getElem?_of_mem ((mem q).mp pb)
                  refine ⟨i, j, hi, hj, ?_⟩
                  by_cases e : i = j
                  · subst e
                    rw [hi] at hj
                    cases hj
                    have := one_place nd ga gb hx hx
                    omega
                  · cases h with
                    | inner g1 g2 g3 g4 => exact absurd ((one_place ne hi g1 hx g2).trans (one_place ne g1 hj g3 hy)) e
                    | before g1 g2 g3 g4 g5 =>
                      have := one_place ne hi g1 hx g3
                      have := one_place ne hj g2 hy g4
                      omega
                refine list_eq o1 o2 mem fun p hp q hq ⟨i, j, hi, hj, hij⟩ ⟨j', i', hj', hi', hji⟩ => ?_
                have := place hi hi'
                have := place hj hj'
                omega
            rw [key]
end KG

set_option Elab.async false
set_option linter.all false
set_option maxRecDepth 100000
set_option maxHeartbeats 2000000
/-! sorted(list, key=f) where f is a def of the program's own that tells a whole number and keeps what stands. -/
namespace KS
open PySem PySem.Spec PyProof.Rows L2 GxR GA KD
def back (u : Value) : V := (absV u).getD .non
theorem back_of {x : V} {u : Value} (r : RelV x u) : back u = x := by
  unfold back
  rw [r.abs]
  rfl
theorem back_all : ∀ {xs : List V} {us : List Value}, Vals xs us → us.map back = xs
  | _, _, .nil => rfl
  | _, _, .cons r t => by rw [List.map_cons, back_of r, back_all t]
theorem rel_back : ∀ {xs : List V} {us : List Value}, Vals xs us → ∀ u ∈ us, RelV (back u) u
  | _, _, .nil, u, h => absurd h List.not_mem_nil
  | _, _, .cons r t, u, h => by
    rcases List.mem_cons.mp h with z | z
    · subst z
      rw [back_of r]
      exact r
    · exact rel_back t u z
theorem vals_map_back : ∀ {us : List Value}, (∀ u ∈ us, RelV (back u) u) → Vals (us.map back) us
  | [], _ => .nil
  | u :: r, h => .cons (h u List.mem_cons_self) (vals_map_back fun x hx => h x (List.mem_cons_of_mem _ hx))
section
variable {X : Cx} {pins : List (Addr × Obj)} {σ : L2.St} {H : Hp} {s : Shared}
theorem key_tail {D kS : Addr} {e1 : Nat} {its : List Value} {xs : List V} {g : V → Int} {keys : Array Value} {st : SortSt} {P : PySem.Fin → Shared → Prop} {A : Around} {E : Value → Shared → Prop}
    (I : Inv X pins σ H s) (hD : H D = some (.frz (seqObj "list" #[] e1) (.lst []))) (hn : ∀ o' u', X.H_0 D ≠ some (.frz o' u')) (hk : H kS = some (.lst ((xs.map g).map V.int))) (hDk : kS ≠ D) (h64 : xs.length < 64)
    (hp : (arrOf st).Perm (keys.zip its.toArray)) (hs : SortedTo (arrOf st) (arrOf st).size) (hf : failedOf st = none) (hkeys : IntsAre keys.toList (xs.map g)) (rv : Vals xs its)
    (h : ∀ s' ys, Inv X pins σ (upd (upd H kS (.lst [])) D (.lst ys)) s' → ys.Perm xs → ys.Pairwise (fun a b => g a ≤ g b) → P (.done (.ret .none)) s') :
    wpAny (model X.prog X.w) A (ksk_tail D false e1 (.ref kS) st) P E s := by
  obtain ⟨z, ik, nk, rk, hlk, ek⟩ := I.lstM hk
  obtain ⟨gD, _⟩ := I.hok D _ hD
  have I1 : Inv X pins σ (upd H kS (.lst [])) { s with heap := s.heap.update kS (Obj.mapSeq fun _ => #[]), toks := s.toks } := I.lset (its' := []) hk ek rfl .nil (Nat.zero_le _)
  have s1 := Heap.SameBut.update s.heap kS (Obj.mapSeq fun _ => (#[] : Array Value))
  have gD1 : (s.heap.update kS (Obj.mapSeq fun _ => (#[] : Array Value))).get? D = some (seqObj "list" #[] e1) := (s1.2 D hDk.symm).trans gD
  have hD1 : upd H kS (.lst []) D = some (.frz (seqObj "list" #[] e1) (.lst [])) := by rw [upd_ne hDk.symm]; exact hD
  have I2 := I1.unlock hD1 hn
  have hD2 : upd (upd H kS (.lst [])) D (.lst []) D = some (.lst []) := upd_same
  have hlx := rv.length
  obtain ⟨ps, p1, p2, p3⟩ := ksk_out (b := false) hkeys hp hs
  have hmem : ∀ p ∈ ps, p.1 = g (back p.2) ∧ p.2 ∈ its := fun p hp' => by
    have := p1.mem_iff.mp hp'
    rw [← back_all rv, List.map_map] at this
    have e : (its.map (g ∘ back)).zip its = its.map fun u => (g (back u), u) := by
      rw [List.zip_map_left]
      have : its.zip its = its.map fun u => (u, u) := SrtR.zip_self its
      rw [this, List.map_map]
      rfl
    rw [e] at this
    obtain ⟨u, hu, e2⟩ := List.mem_map.mp this
    rw [← e2]
    exact ⟨rfl, hu⟩
  have hout : (ps.map Prod.snd).Perm its := by
    have := p1.map Prod.snd
    rw [List.map_snd_zip (by rw [List.length_map]; omega)] at this
    exact this
  have hrel : ∀ u ∈ ps.map Prod.snd, RelV (back u) u := fun u hu => rel_back rv u (hout.mem_iff.mp hu)
  have hys : ((ps.map Prod.snd).map back).Perm xs := by
    have := hout.map back
    rw [back_all rv] at this
    exact this
  have hsz2 : ((arrOf st).map (·.2)).size = xs.length := by
    have := congrArg List.length p2
    rw [List.length_map] at this
    have e : (((arrOf st).map (·.2)).toList).length = ps.length := this
    rw [Array.length_toList] at e
    rw [e]
    have := hys.length_eq
    rw [List.length_map, List.length_map] at this
    exact this
  have hsrt : ((ps.map Prod.snd).map back).Pairwise (fun a b => g a ≤ g b) := by
    rw [List.pairwise_map, List.pairwise_map]
    refine p3.imp_of_mem fun {a b} ha hb hab => ?_
    have hab' : a.1 ≤ b.1 := hab
    rw [(hmem a ha).1, (hmem b hb).1] at hab'
    exact hab'
  unfold ksk_tail
  try dsimp only
  refine wpAny_bind (listUpdate_at ek rfl ?_ (by rw [List.size_toArray]; omega) (Nat.zero_le _))
  refine wpAny_bind (wpAny_letGo ?_)
  refine wpAny_bind (seqEpoch_at gD1 rfl ?_)
  refine wpAny_bind (listUpdate_at gD1 rfl ?_ (Nat.zero_le _) (by rw [sizeLine_eq]; show ((arrOf st).map (·.2)).size ≤ _; omega))
  rw [hf]
  simp only [bne_self_eq_false, Bool.false_eq_true, if_false]
  refine wpAny_pure ?_
  have I3 := I2.lset (f := fun _ => (arrOf st).map (·.2)) (its := []) (its' := ps.map Prod.snd) (t' := s.toks) hD2 gD1 (by
    have : ((arrOf st).map (·.2)).toList = ps.map Prod.snd := p2
    rw [← this, Array.toArray_toList]) (vals_map_back hrel) (by rw [hys.length_eq, sizeLine_eq]; omega)
  rw [upd_upd] at I3
  exact h _ _ I3 hys hsrt
theorem key_end {D kS : Addr} {e1 : Nat} {its : List Value} {xs : List V} {g : V → Int} {keys : Array Value} {P : PySem.Fin → Shared → Prop} {A : Around} {E : Value → Shared → Prop}
    (I : Inv X pins σ H s) (hD : H D = some (.frz (seqObj "list" #[] e1) (.lst []))) (hn : ∀ o' u', X.H_0 D ≠ some (.frz o' u')) (hk : H kS = some (.lst ((xs.map g).map V.int))) (hDk : kS ≠ D) (h64 : xs.length < 64)
    (hkeys : IntsAre keys.toList (xs.map g)) (rv : Vals xs its)
    (h : ∀ s' ys, Inv X pins σ (upd (upd H kS (.lst [])) D (.lst ys)) s' → ys.Perm xs → ys.Pairwise (fun a b => g a ≤ g b) → P (.done (.ret .none)) s') :
    wpAny (model X.prog X.w) A (ksk_end D false its.toArray e1 (.ref kS) keys) P E s := by
  have hlx := rv.length
  have hsz : keys.size = its.length := by
    have h1 := hkeys.length
    rw [Array.length_toList, List.length_map] at h1
    omega
  have hzs : (keys.zip its.toArray).size = its.length := by rw [Array.size_zip, hsz, List.size_toArray, Nat.min_self]
  unfold ksk_end
  try dsimp only
  simp only [Bool.false_eq_true, if_false]
  by_cases h2 : its.toArray.size < 2
  · rw [if_pos h2, if_pos h2]
    refine wpAny_bind (wpAny_pure ?_)
    rw [StateT.run_pure]
    refine wpAny_bind (wpAny_pure ?_)
    try dsimp only
    refine key_tail (st := SortSt.mk' general' (keys.zip its.toArray) #[] 7 none) I hD hn hk hDk h64 (Array.Perm.refl _) ?_ rfl hkeys rv h
    intro i j hij hj
    have hj2 : j < (keys.zip its.toArray).size := hj
    rw [hzs] at hj2
    rw [List.size_toArray] at h2
    have : i = j := by omega
    subst this
    exact Int.le_refl _
  · rw [if_neg h2, if_neg h2]
    rw [List.size_toArray] at h2
    rw [ksk_kind hkeys (by rw [hsz]; omega)]
    refine wpAny_bind (wpAny_pure ?_)
    refine wpAny_bind (wpAny_mono (wpS_sortRuns (a₀ := keys.zip its.toArray) (st := SortSt.mk' oneType' (keys.zip its.toArray) #[] 7 none)
      (Q := fun _ st' => (arrOf st').Perm (keys.zip its.toArray) ∧ failedOf st' = none ∧ SortedTo (arrOf st') (keys.zip its.toArray).size)
      (ksk_intKeys hkeys) ⟨Array.Perm.refl _, rfl, rfl, rfl⟩ (by rw [hzs]; omega) (by rw [hzs]; omega) fun st' a1 a2 a3 => ⟨a1, a2, a3⟩) ?_ fun _ _ e => e)
    rintro ⟨⟨⟩, st'⟩ s' ⟨rfl, hp, hf, hs⟩
    try dsimp only
    exact key_tail I hD hn hk hDk h64 hp (by rw [hp.size_eq]; exact hs) hf hkeys rv h
variable {k : Nat} {f : Addr} {fd : FuncData} {p : Str} {sp : Sp}
/-- what a key's def is asked -/
def KeyOk (sp : Sp) (H : Hp) (g : V → Int) (x : V) : Prop := ∀ (H' : Hp) (Q' : VK), Kp MN H H' → (∀ H2, Kp MN H' H2 → Q' (.int (g x)) H2) → sp [x] H' Q' E0
theorem key_rest {D kS : Addr} {e1 : Nat} {its : List Value} {xs : List V} {g : V → Int} {P : PySem.Fin → Shared → Prop} {H0 : Hp}
    (F : FnOk X.prog X.w X.K X.mg X.base CX0 k f fd [p] sp) (hr : Room (k + 1) X.A) (hb : Binds X.K fd [p] [])
    (I : Inv X pins σ H s) (k0 : Kp MN H0 H) (hD : H D = some (.frz (seqObj "list" #[] e1) (.lst []))) (hn : ∀ o' u', X.H_0 D ≠ some (.frz o' u')) (hk : H kS = some (.lst [])) (nk : H0 kS = none) (hDk : kS ≠ D) (h64 : xs.length < 64) (rv : Vals xs its)
    (hg : ∀ x ∈ xs, KeyOk sp H0 g x)
    (h : ∀ s' H' ys, Inv X pins σ (upd (upd H' kS (.lst [])) D (.lst ys)) s' → Kp MN H0 H' → H' kS = some (.lst ((xs.map g).map V.int)) → H' D = some (.frz (seqObj "list" #[] e1) (.lst [])) → ys.Perm xs → ys.Pairwise (fun a b => g a ≤ g b) → P (.done (.ret .none)) s') :
    wpAny (model X.prog X.w) X.A.in1.in1 (ksk_rest D (.ref f) false its.toArray e1 (.ref kS)) P X.xe s := by
  have hlx := rv.length
  unfold ksk_rest
  refine wpAny_bind (wpAny_rule ?_)
  first
    | rw [List.forIn_toArray]
    | (rw [← Array.forIn_toList]; simp only [List.toList_toArray])
    | rw [← Array.forIn_toList]
  refine wpAny_bind (ksk_fold (fun i s' => ∃ H', Inv X pins σ H' s' ∧ Kp MN H0 H' ∧ H' D = some (.frz (seqObj "list" #[] e1) (.lst [])) ∧ H' kS = some (.lst (((xs.map g).take i).map V.int))) its 0 s ⟨H, I, k0, hD, by simpa using hk⟩ ?step ?done)
  case step =>
    rintro j u s' hu ⟨H', I', k', hD', hk'⟩
    simp only [Nat.zero_add] at hk' ⊢
    have hj : j < its.length := (List.getElem?_eq_some_iff.mp hu).1
    have hx : xs[j]? = some (xs[j]'(by omega)) := List.getElem?_eq_getElem (by omega)
    obtain ⟨u', hu', ru⟩ := rv.get hx
    rw [hu] at hu'
    cases hu'
    have hm := List.mem_of_getElem? hx
    generalize xs[j]'(by omega) = x at hx ru hm
    have e0 : Env0 X.prog X.w X.K X.mg X.base X.A.in1.in1 X.stack s' H' := I'.env0.in1.in1
    have hr2 : Room k X.A.in1.in1 := ⟨hr.hd, by have := hr.dp; show X.A.depth + 3 * k + 5 < _; omega, by have := hr.un; show X.A.units + 1 + 1 + 16 * k + 200 < _; omega⟩
    have hbb : BindsTo s' fd ⟨[u], []⟩ ([p].zip [u]) := hb s' [u] I'.kIn rfl
    refine wpAny_bind (wpAny_attempt ?_)
    refine wpAny_call (codeAny_mono (F.run X.A.in1.in1 X.stack s' H' ⟨[u], []⟩ [u] [x] (fun v H2 => v = .int (g x) ∧ Kp MN H' H2) E0 hr2 e0 hbb (.cons ru .nil) (hg x hm H' _ k' fun H2 k2 => ⟨rfl, k2⟩)) fun r s2 hq => ?_)
    match r, hq with
    | .error e, hq => exact hq.elim
    | .ok .next, hq => exact hq.elim
    | .ok .brk, hq => exact hq.elim
    | .ok .cont, hq => exact hq.elim
    | .ok (.ret v), hq =>
      obtain ⟨v', H2, I2, rv2, rfl, k2⟩ := I'.after hq
      obtain ⟨t2, rfl⟩ := rv2
      have hD2 := k2.frz _ _ _ hD'
      have hk2 := k2.lst kS _ (fun z => z) hk'
      obtain ⟨z, ik, nkk, rk, hlk, ek⟩ := I2.lstM hk2
      have hlk2 : ik.length ≤ 63 := by
        rw [← hlk, List.length_map, List.length_take, List.length_map]
        omega
      have hkj : (xs.map g)[j]? = some (g x) := by rw [List.getElem?_map, hx]; rfl
      have etk : (xs.map g).take (j + 1) = (xs.map g).take j ++ [g x] := by rw [List.take_succ, hkj]; rfl
      try dsimp only
      refine wpAny_bind (listUpdate_at ek rfl ?_ (by rw [List.size_toArray, sizeLine_eq]; omega) (by rw [Array.size_push, List.size_toArray, sizeLine_eq]; omega))
      refine wpAny_pure ⟨rfl, upd H2 kS (.lst (((xs.map g).take (j + 1)).map V.int)), ?_, ?_, ?_, upd_same⟩
      · refine I2.lset (f := fun a => a.push (.int (g x) t2)) (its' := ik ++ [.int (g x) t2]) (t' := s2.toks) hk2 ek (by simp) ?_ ?_
        · rw [etk, List.map_append]
          exact rk.append (.cons ⟨t2, rfl⟩ .nil)
        · rw [etk, List.length_map, List.length_append, List.length_take, List.length_map, sizeLine_eq]
          show min j xs.length + 1 ≤ _
          omega
      · exact (k'.trans k2).putNew nk hk2
      · rw [upd_ne hDk.symm]
        exact hD2
  case done =>
    rintro s' ⟨H', I', k', hD', hk'⟩
    rw [Nat.zero_add, List.take_of_length_le (by rw [List.length_map]; omega)] at hk'
    obtain ⟨z, ik, nkk, rk, hlk, ek⟩ := I'.lstM hk'
    try dsimp only
    refine wpAny_bind (listItems_at ek rfl ?_)
    refine key_end I' hD' hn hk' hDk h64 ?_ rv fun s2 ys I2 hp hs => h s2 H' ys I2 k' hk' hD' hp hs
    exact rk.ints
theorem key_sort {D : Addr} {its : List Value} {xs : List V} {g : V → Int} {P : PySem.Fin → Shared → Prop} {H0 : Hp} {n : Nat}
    (F : FnOk X.prog X.w X.K X.mg X.base CX0 k f fd [p] sp) (hr : Room (k + 1) X.A) (hb : Binds X.K fd [p] [])
    (I : Inv X pins σ (upd H0 D (.lst xs)) s) (nD : H0 D = none) (ho : s.heap.get? D = some (seqObj "list" its.toArray n)) (h64 : xs.length < 64) (rv : Vals xs its)
    (hg : ∀ x ∈ xs, KeyOk sp H0 g x)
    (h : ∀ s' H' ys, Inv X pins σ H' s' → Kp MN H0 H' → H' D = some (.lst ys) → ys.Perm xs → ys.Pairwise (fun a b => g a ≤ g b) → P (.done (.ret .none)) s') :
    wpAny (model X.prog X.w) X.A.in1.in1 (ksk_tree D (.ref f) false) P X.xe s := by
  have hlx := rv.length
  have s1 := Heap.SameBut.update s.heap D (Obj.mapSeq fun _ => (#[] : Array Value))
  obtain ⟨e1, ho1⟩ : ∃ e1, (s.heap.update D (Obj.mapSeq fun _ => (#[] : Array Value))).get? D = some (seqObj "list" #[] e1) := ⟨_, get?_update_seq ho fun _ => #[]⟩
  have I1 : Inv X pins σ (upd (upd H0 D (.lst xs)) D (.lst [])) { s with heap := s.heap.update D (Obj.mapSeq fun _ => #[]), toks := s.toks } := I.lset (its' := []) upd_same ho rfl .nil (Nat.zero_le _)
  rw [upd_upd] at I1
  have hno := I1.nofrz (d := D) (u := .lst []) upd_same trivial
  obtain ⟨od, I2⟩ := I1.lock (d := D) (u := .lst []) upd_same trivial
  rw [upd_upd] at I2
  have eod : od = seqObj "list" #[] e1 := by
    obtain ⟨g1, _⟩ := I2.hok D _ upd_same
    have g2 : (s.heap.update D (Obj.mapSeq fun _ => (#[] : Array Value))).get? D = some od := g1
    rw [ho1] at g2
    exact (Option.some.inj g2).symm
  subst eod
  unfold ksk_tree
  refine wpAny_bind (listItems_at ho rfl ?_)
  refine wpAny_bind (listUpdate_at ho rfl ?_ (by rw [List.size_toArray, sizeLine_eq]; omega) (Nat.zero_le _))
  refine wpAny_bind (seqEpoch_at ho1 rfl ?_)
  refine wpAny_bind (wpAny_newTuple ?_ (by show its.length ≤ _; rw [sizeLine_eq]; omega))
  refine wpAny_bind (wpAny_newList ?_ (Nat.zero_le _))
  refine wpAny_holding ?_
  have I3 : Inv X pins σ (upd H0 D (.frz (seqObj "list" #[] e1) (.lst []))) { s with heap := (s.heap.update D (Obj.mapSeq fun _ => (#[] : Array Value))).push (seqObj "tuple" its.toArray 0) } := I2.kept (t' := s.toks) fun b u e => Heap.get?_push_of_some _ e
  have I4 := I3.lnew (ys := []) (its := []) (t' := s.toks) .nil (Nat.zero_le _)
  have nkS := I3.fresh
  generalize ekS : ((s.heap.update D (Obj.mapSeq fun _ => (#[] : Array Value))).push (seqObj "tuple" its.toArray 0)).objs.size = kS at *
  have hDk : kS ≠ D := fun z => by
    rw [z, upd_same] at nkS
    cases nkS
  have nk0 : H0 kS = none := by
    rw [upd_ne hDk] at nkS
    exact nkS
  have k0 : Kp MN H0 (upd (upd H0 D (.frz (seqObj "list" #[] e1) (.lst []))) kS (.lst [])) := (Kp.new nD).trans (Kp.new nkS)
  refine key_rest F hr hb I4 k0 (by rw [upd_ne hDk.symm, upd_same]) hno upd_same nk0 hDk h64 rv hg fun s' H' ys I' k' hkS hD hp hs => h s' _ ys I' ?_ upd_same hp hs
  have k1 := k'.putNew (ys := []) nk0 hkS
  have hD2 : upd H' kS (.lst []) D = some (.frz (seqObj "list" #[] e1) (.lst [])) := by rw [upd_ne hDk.symm]; exact hD
  have n : ∀ b u, H0 b = some u → b ≠ D := fun b u e => ne_of_none e nD
  refine ⟨fun b zs e => by rw [upd_ne (n b _ e)]; exact k1.tup b zs e, fun b zs m e => by rw [upd_ne (n b _ e)]; exact k1.lst b zs m e, fun b o u e => by rw [upd_ne (n b _ e)]; exact k1.frz b o u e, fun P hP => ?_, fun b kvs m e => by rw [upd_ne (n b _ e)]; exact k1.dct b kvs m e⟩
  obtain ⟨ps, e, t⟩ := k1.tbl P hP
  exact ⟨ps, by rw [upd_ne (ne_of e hD2 (by intro z; cases z))]; exact e, t⟩
def rSortKey (K : PySem.W.Frag) (f : Addr) (sp : Sp) : List V → List V → Hp → VK → Prop := fun vs zs H Q => ∃ (l : Addr) (xs : List V) (g : V → Int), vs = [V.ref l] ∧ zs = [V.ref f] ∧ SqL K H l xs ∧ xs.length < 64 ∧ (∀ x ∈ xs, KeyOk sp H g x) ∧
  ∀ (D : Addr) (ys : List V) (H' : Hp), H D = none → Kp MN H H' → H' D = some (.lst ys) → ys.Perm xs → ys.Pairwise (fun a b => g a ≤ g b) → Q (.ref D) H'
theorem cr_sortedBy (F : FnOk X.prog X.w X.K X.mg X.base CX0 k f fd [p] sp) (hr : Room (k + 1) X.A) (hb : Binds X.K fd [p] []) : CallRK X (.builtin "sorted") [Str.ofString "key"] (rSortKey X.K f sp) := by
  intro pins s σ H vs zs us ws Q I r rz h
  obtain ⟨l, xs, g, rfl, rfl, hs, h64, hg, q⟩ := h
  obtain rfl := Vals.ref1 r
  obtain ⟨w1, rfl, e1⟩ := vals1 rz
  obtain rfl : w1 = Value.ref f := e1
  obtain ⟨its, rv, hl, hz⟩ := I.list hs
  have hlx := rv.length
  refine call_function_entry_kw kind_sorted plain_sorted entry_sorted (ksk_s1 _ _) ?_
  unfold Builtin.«sorted»
  refine wpAny_bind (m := checkCount "sorted" 1 1 _) (wpAny_pure ?_)
  refine wpAny_bind (collect_list hl.isList ?_ (by rw [sizeLine_eq]; omega))
  refine wpAny_bind (wpAny_newList ?_ (by rw [sizeLine_eq]; omega))
  have hsz : ((s.heap.push (seqObj "list" #[] 0)).update s.heap.objs.size (Obj.mapSeq (· ++ its.toArray))).objs.size = s.heap.objs.size + 1 := by
    rw [Heap.size_update, size_push']
  have hoL : (((s.heap.push (seqObj "list" #[] 0)).update s.heap.objs.size (Obj.mapSeq (· ++ its.toArray))).push (seqObj "list" its.toArray 0)).get? (s.heap.objs.size + 1) = some (seqObj "list" its.toArray 0) := by
    rw [← hsz]; exact Heap.get?_push_size _ rfl
  have keep : ∀ b o, s.heap.get? b = some o → (((s.heap.push (seqObj "list" #[] 0)).update s.heap.objs.size (Obj.mapSeq (· ++ its.toArray))).push (seqObj "list" its.toArray 0)).get? b = some o := fun b o q => by
    have hlt : b < s.heap.objs.size := Heap.lt_size q
    rw [Heap.get?_push_ne _ _ _ (by rw [hsz]; exact Nat.ne_of_lt (Nat.lt_succ_of_lt hlt)), Heap.get?_update_ne _ _ _ _ (Nat.ne_of_lt hlt), Heap.get?_push_ne _ _ _ (Nat.ne_of_lt hlt)]
    exact q
  have nD : H (s.heap.objs.size + 1) = none := I.hok.fresh (Nat.le_succ _)
  have I1 : Inv X pins σ (upd H (s.heap.objs.size + 1) (.lst xs)) { s with heap := ((s.heap.push (seqObj "list" #[] 0)).update s.heap.objs.size (Obj.mapSeq (· ++ its.toArray))).push (seqObj "list" its.toArray 0) } :=
    I.laid (t' := s.toks) keep (Nat.le_succ _) ⟨hz, its, 0, rv, hoL⟩
  show wpAny _ _ _ _ _ { s with heap := ((s.heap.push (seqObj "list" #[] 0)).update s.heap.objs.size (Obj.mapSeq (· ++ its.toArray))).push (seqObj "list" its.toArray 0) }
  rw [hsz]
  generalize s.heap.objs.size + 1 = D at *
  refine wpAny_bind (wpAny_holding (wpAny_call_entry_kw slot_list_sort ⟨_, hoL, rfl⟩ entry_list_sort ?body (ksk_l1 _ _)))
  case body =>
    show wpAny (model X.prog X.w) X.A.in1.in1 (Builtin.«list.sort» ⟨[.ref D], [(Str.ofString "key", .ref f)]⟩) _ _ _
    rw [ksk_t1]
    refine key_sort F hr hb I1 nD hoL h64 rv hg fun s' H' ys I' k' hD hp hss => ⟨_, rfl, ?_⟩
    exact wpAny_pure ⟨_, rfl, .ref D, H', I', rfl, q D ys H' nD k' hD hp hss⟩
end
end KS

set_option Elab.async false
set_option linter.all false
set_option maxRecDepth 100000
set_option maxHeartbeats 1000000
/-! rows of data in another sequence -/
namespace KD
open PySem PySem.Spec PyProof.Rows L2 GxR GA KM KJ
section
variable {M : Addr → Prop} {H : Hp}
mutual
theorem At.det : ∀ {d e : PyData} {v : V}, At M H v d → At M H v e → d = e
  | .none, e, _, h, g => by cases h; cases g; rfl
  | .bool b, e, _, h, g => by cases h; cases g; rfl
  | .int i, e, _, h, g => by cases h; cases g; rfl
  | .str x, e, _, h, g => by cases h; cases g; rfl
  | .list ds, e, _, h, g => by
    cases h with
    | lst e1 n r =>
      cases g with
      | lst e2 n2 r2 =>
        rw [e1] at e2
        cases e2
        rw [AtL.det r r2]
      | tup e2 r2 => rw [e1] at e2; cases e2
  | .tuple ds, e, _, h, g => by
    cases h with
    | tup e1 r =>
      cases g with
      | lst e2 n2 r2 => rw [e1] at e2; cases e2
      | tup e2 r2 =>
        rw [e1] at e2
        cases e2
        rw [AtL.det r r2]
  | .dict _, _, _, h, _ => by cases h
theorem AtL.det : ∀ {ds es : List PyData} {vs : List V}, AtL M H vs ds → AtL M H vs es → ds = es
  | [], es, _, h, g => by cases h; cases g; rfl
  | d :: ds, es, _, h, g => by
    cases h with
    | cons a r =>
      cases g with
      | cons a2 r2 => rw [At.det a a2, AtL.det r r2]
end
theorem AtL.perm {vs ys : List V} (h : vs.Perm ys) : ∀ {es : List PyData}, AtL M H vs es → ∃ fs, AtL M H ys fs ∧ fs.Perm es := by
  induction h with
  | nil => exact fun h => ⟨_, h, List.Perm.refl _⟩
  | cons x _ ih =>
    intro es h
    cases h with
    | cons a r =>
      obtain ⟨fs, h1, h2⟩ := ih r
      exact ⟨_, .cons a h1, h2.cons _⟩
  | swap x y l =>
    intro es h
    cases h with
    | cons a r =>
      cases r with
      | cons b r2 => exact ⟨_, .cons b (.cons a r2), List.Perm.swap _ _ _⟩
  | trans _ _ a b =>
    intro es h
    obtain ⟨fs, h1, h2⟩ := a h
    obtain ⟨gs, h3, h4⟩ := b h1
    exact ⟨gs, h3, h4.trans h2⟩
noncomputable def gOf (H : Hp) (x : V) : Int := by
  classical
  exact if h : ∃ d, At MN H x d then KG.mn (Classical.choose h) else 0
theorem gOf_eq {x : V} {d : PyData} (h : At MN H x d) : gOf H x = KG.mn d := by
  have hx : ∃ d, At MN H x d := ⟨d, h⟩
  unfold gOf
  rw [dif_pos hx, (Classical.choose_spec hx).det h]
theorem pair_mn : ∀ {ys : List V} {fs : List PyData}, AtL MN H ys fs → ys.Pairwise (fun a b => gOf H a ≤ gOf H b) → fs.Pairwise (fun p q => KG.mn p ≤ KG.mn q)
  | _, [], _, _ => List.Pairwise.nil
  | _, f :: fs, h, hp => by
    cases h with
    | cons a r =>
      rw [List.pairwise_cons] at hp ⊢
      refine ⟨fun q hq => ?_, pair_mn r hp.2⟩
      obtain ⟨i, hi⟩ := List.getElem?_of_mem hq
      obtain ⟨v, hv, av⟩ := r.get' hi
      rw [← gOf_eq a, ← gOf_eq av]
      exact hp.1 v (List.mem_of_getElem? hv)
end
end KD
namespace KG
open PySem L2 KM KJ
theorem mn_strict {w : Str} {fs : List PyData} (hf : ∀ p ∈ fs, formed p w = some (tl p)) (hn : (tlL fs).Nodup) (h : fs.Pairwise fun p q => mn p ≤ mn q) : fs.Pairwise fun p q => mn p < mn q := by
  rw [List.pairwise_iff_getElem] at h ⊢
  intro i j hi hj hij
  have := h i j hi hj hij
  have a := mn_mem (hf fs[i] (List.getElem_mem _))
  have b := mn_mem (hf fs[j] (List.getElem_mem _))
  have ne : mn fs[i] ≠ mn fs[j] := fun z => by
    rw [← z] at b
    have := one_place hn (List.getElem?_eq_getElem hi) (List.getElem?_eq_getElem hj) a b
    omega
  omega
end KG

set_option Elab.async false
set_option linter.all false
set_option maxRecDepth 100000
set_option maxHeartbeats 1000000
/-! the normal plan, as the program makes it -/
namespace K2
open PySem L2 GxR GA KD KR KM KJ KS
open KG (RelD RelD.mem mem_tlL nodup_part one_place Eqr Eqs Normal mn mn_mem mn_perm lst lst_eq mix_beside tlL_perm)
abbrev sNormal : Stmt := top 14
abbrev sLeast : Stmt := top 21
abbrev sNormalOf : Stmt := top 24
def spLeast (n : Nat) : Sp := fun vs H Q _ => ∃ (v : V) (d : PyData) (o : Str), vs = [v] ∧ At MN H v d ∧ formed d o = some (tl d) ∧ d.depth < n ∧ (tl d).length ≤ 60 ∧ ∀ H', Kp MN H H' → Q (.int (mn d)) H'
def spNormal (n : Nat) : Sp := fun vs H Q _ => ∃ (v : V) (d : PyData) (o : Str), vs = [v] ∧ At MN H v d ∧ formed d o = some (tl d) ∧ d.depth < n ∧ (tl d).length ≤ 7 ∧ (tl d).Nodup ∧
  ∀ v' e H', At MN H' v' e → Eqr o d e → Normal e → Kp MN H H' → Q v' H'
theorem fine_noL {d : PyData} {o : Str} (h : formed d o = some (tl d)) (h60 : (tl d).length ≤ 60) : noL d = true := (fine _ (Nat.lt_succ_self d.depth) h h60).nol
theorem fine_noLL {w : Str} : ∀ {ds : List PyData}, (∀ p ∈ ds, formed p w = some (tl p)) → (tlL ds).length ≤ 60 → noLL ds = true
  | [], _, _ => by simp [noLL]
  | d :: r, h, h60 => by
    rw [tlL_cons, List.length_append] at h60
    simp [noLL, fine_noL (h d List.mem_cons_self) (by omega), fine_noLL (fun p hp => h p (List.mem_cons_of_mem _ hp)) (by omega)]
/-- a growing row of parts -/
theorem eqs_snoc {w : Str} {ps es : List PyData} {i : Nat} {p e : PyData} (h : Eqs w (ps.take i) es) (hp : ps[i]? = some p) (he : Eqr w p e) : Eqs w (ps.take (i + 1)) (es ++ [e]) := by
  have hl := (List.getElem?_eq_some_iff.mp hp).1
  have hlen := h.len
  rw [List.length_take] at hlen
  have hm : min i ps.length = i := Nat.min_eq_left (by omega)
  rw [hm] at hlen
  refine ⟨by rw [List.length_append, List.length_take, hlen, Nat.min_eq_left (by omega)]; rfl, fun k a b ha hb => ?_⟩
  by_cases c : k < i
  · rw [List.getElem?_take_of_lt (by omega)] at ha
    rw [List.getElem?_append_left (by omega)] at hb
    exact h.at_ k a b (by rw [List.getElem?_take_of_lt c]; exact ha) hb
  · have : k = i := by
      have := (List.getElem?_eq_some_iff.mp hb).1
      rw [List.length_append] at this
      simp at this
      omega
    subst this
    rw [List.getElem?_take_of_lt (by omega), hp] at ha
    cases ha
    rw [List.getElem?_append_right (by omega), hlen, Nat.sub_self] at hb
    cases hb
    exact he
section
variable {P : Program} {w : World} {K : PySem.W.Frag} {mg : Str → Option Value} {base : Heap}
theorem scLeast : FnScope ["plan"] ["plan"] (defScope sLeast) := ⟨rfl, rfl, rfl, by decide +kernel, rfl, by decide +kernel, by decide +kernel⟩
theorem ok_least {n : Nat} {f g : Addr} {fd gd : FuncData} (F : Fun K "least_task" "least_task" sLeast f fd) (mM : mg "min" = none)
    (G : FnOk P w K mg base CX0 (n + 1) g gd ["plan"] (spTasks n)) (bG : Binds K gd ["plan"] []) (kG : PySem.W.keepIn K (.ref g) = true) (mG : mg "tasks_in" = some (.ref g)) :
    FnOk P w K mg base CX0 (n + 2) f fd ["plan"] (spLeast n) := by
  refine F.ok scLeast (fun vs H Q E h => ?_) (fun cdv A outer s H vs Q E hr h => ?_)
  · obtain ⟨v, d, o, rfl, _⟩ := h
    rfl
  obtain ⟨v, d, o, rfl, hA, hf, hd, h60, q⟩ := h
  refine ⟨_, pss_one (ps_ret (pe_callB (cr_min rfl) rfl mM (by decide +kernel) (pa_cons (pe_call G hr rfl mG kG bG .nil pass0 (pa_cons (pv 0) pa_nil)) pa_nil))), ?_⟩
  have hne := formed_ne _ _ _ hf
  refine ⟨_, rfl, v, d, o, rfl, hA, hf, hd, h60, fun t H1 ht k1 e1 => ⟨t, tl d, rfl, SqL.of e1, List.length_pos_iff.mpr hne, fun m h1 h2 => ?_⟩⟩
  have e : mn d = m := lst_eq h1 h2
  rw [← e]
  exact q H1 k1
theorem scNormalOf : FnScope ["plan", "word", "parts", "pieces", "piece"] ["plan"] (defScope sNormalOf) := ⟨rfl, rfl, rfl, by decide +kernel, rfl, by decide +kernel, by decide +kernel⟩
theorem ok_normalOf {n : Nat} {f g : Addr} {fd gd : FuncData} (F : Fun K "normal_of" "normal_of" sNormalOf f fd) (B : Bl K mg)
    (G : FnOk P w K mg base CX0 17 g gd ["plan"] (spLeast 15)) (bG : Binds K gd ["plan"] []) (kG : PySem.W.keepIn K (.ref g) = true) (mG : mg "least_task" = some (.ref g))
    (R : FnOk P w K mg base CX0 (n + 19) f fd ["plan"] (spNormal n)) (bF : Binds K fd ["plan"] []) (mF : mg "normal_of" = some (.ref f)) :
    FnOk P w K mg base CX0 (n + 20) f fd ["plan"] (spNormal (n + 1)) := by
  refine F.ok scNormalOf (fun vs H Q E h => ?_) (fun cdv A outer s H vs Q E hr h => ?_)
  · obtain ⟨v, d, o, rfl, _⟩ := h
    rfl
  obtain ⟨v, d, o, rfl, hA, hf, hd, h7, hnd, q⟩ := h
  have hr18 : Room (17 + 1) _ := hr.mono (by omega)
  refine ⟨_, pss_cons (ps_if (pt_val (pe_callB call_isi rfl B.isinstance (by decide +kernel) (pa_cons (pv 0) (pa_cons (pe_bltn rfl B.int (by decide +kernel) (v := .ty "int") rfl) pa_nil)))) (pss_one (ps_ret (pv 0))) pss_nil)
    (pss_cons (ps_asg (pv 0) (pg_tup rfl (pgs_cons (pg_name (i := 1) scNormalOf.nd rfl (Or.inl rfl)) (pgs_cons (pg_name (i := 2) scNormalOf.nd rfl (Or.inl rfl)) pgs_nil))))
    (pss_cons (ps_setLc (i := 3) (own := [("piece", 4)]) (g := gName 4) (tt := tYes) (te := tCall (spNormal n) [] E0 (tCons (tVar 4) tNil)) (by rfl) scNormalOf.nd rfl rfl (sw_true rfl rfl rfl (by decide +kernel)) (pi_tup (pv 2)) (blkOk_by (own := [("piece", 4)]) (N := ["plan", "word", "parts", "pieces", "piece"]) (sc := defScope sNormalOf) (by decide +kernel))
      (fun _ _ _ _ _ => pg_name (i := 4) scNormalOf.nd rfl (Or.inl rfl)) (fun _ _ _ _ _ => pts_nil) (fun _ _ _ _ _ => pe_call R hr rfl mF F.kp bF .nil pass0 (pa_cons (pv 4) pa_nil)))
    (C8.pss_cut (ps_if (pt_cmpR op_eq (pv 1) pe_str (nomark _))
      (pss_one (ps_set (i := 3) scNormalOf.nd rfl (Or.inl rfl) (pe_callBK (cr_sortedBy G hr18 bG) rfl B.sorted (by decide +kernel) (pa_cons (pv 3) pa_nil) (pk_cons (pe_glob rfl mG (v := .ref g) rfl) pk_nil)))) pss_nil)
    (pss_one (ps_ret (pe_tup (pa_cons (pv 1) (pa_cons (pe_callTy call_tuple_of rfl B.tuple (by decide +kernel) (pa_cons (pv 3) pa_nil)) pa_nil)))))))), ?_⟩
  refine ⟨_, rfl, _, _, _, _, _, rfl, .ty _, hA.ty, kit_int d, _, rfl, ?_⟩
  rcases KG.plan_cases hf with ⟨i, rfl⟩ | ⟨wo, ps, rfl, hwd, hwo, h2, hfl, hfm⟩
  · refine iteT ?_
    exact ⟨_, rfl, q v (.int i) H hA (Eqr.refl hf) (.int i) .refl⟩
  refine iteF ?_
  obtain ⟨a, a2, xs, rfl, hx, hx2, hall⟩ := At.parts hA
  have hl := hall.length
  rw [tl_part] at h7 hnd
  have hps := formedL_len _ _ _ hfl
  refine ⟨_, rfl, a, _, rfl, SqT.of hx, rfl, _, _, rfl, _, _, rfl, rfl, ?_⟩
  refine ⟨_, rfl, a2, rfl, ⟨_, SqT.of hx2⟩, fun D hD => ?_⟩
  have nDH : ∀ zs, H D ≠ some (.lst zs) := fun zs z => by rw [hD] at z; cases z
  refine lc_tup (K := K) (a := a2) (xs := xs) (fun i H' => ∃ vs es, Kp MN H H' ∧ H' D = some (.lst vs) ∧ AtL MN H' vs es ∧ Eqs wo (ps.take i) es ∧ ∀ e ∈ es, Normal e) ⟨[], [], Kp.new hD, upd_same, .nil, Eqs.nil, fun e h => absurd h List.not_mem_nil⟩ (fun i H' _ p => SqT.of (by obtain ⟨_, _, k, _⟩ := p; exact k.tup _ _ hx2)) (fun i x H' hi p => ?_) (fun H1 p => ?_)
  · obtain ⟨vs, es, k, e, al, hE, hN⟩ := p
    obtain ⟨d', hd', ha'⟩ := hall.get hi
    have hm := List.mem_of_getElem? hd'
    have hil := (List.getElem?_eq_some_iff.mp hd').1
    have hal := al.length
    have hel := hE.len
    rw [List.length_take] at hel
    refine ⟨rfl, ?_⟩
    dsimp only [tYes]
    rw [if_pos rfl]
    refine ⟨_, rfl, x, d', wo, rfl, ha'.kp k, hfm d' hm, depth_part hd hm, Nat.le_trans (tl_le hm) h7, nodup_part hnd hm, fun v' e' H5 a5 q5 n5 k5 => ?_⟩
    have e5 := k5.lst D _ (fun z => z) e
    have tk : ∀ b us, H5 b = some (.tup us) → upd H5 D (.lst (vs ++ [v'])) b = some (.tup us) := fun b us z => by
      rw [upd_ne]
      · exact z
      · intro y
        rw [y, e5] at z
        cases z
    have l5 : (tl e').length ≤ 7 := by rw [q5.perm.length_eq]; exact Nat.le_trans (tl_le hm) h7
    have l6 : (tlL es).length ≤ 60 := by
      rw [hE.perm.length_eq]
      exact Nat.le_trans (tlL_take_le ps i) (by omega)
    refine ⟨vs, e5, small1000 (by omega), vs ++ [v'], es ++ [e'], (k.trans k5).putFresh nDH e5, upd_same, AtL.append (AtL.put tk (al.kp k5) (fine_noLL hE.form l6)) (.one (At.put tk a5 (fine_noL q5.form (by omega)))), eqs_snoc hE hd' q5, fun z hz => ?_⟩
    rcases List.mem_append.mp hz with y | y
    · exact hN z y
    · rw [List.mem_singleton.mp y]
      exact n5
  obtain ⟨vs, es, k, e, al, hE, hN⟩ := p
  rw [hl, List.take_length] at hE
  have hel := hE.len
  have hal := al.length
  have hEn : (tlL es).Nodup := hE.perm.symm.nodup hnd
  have hE7 : (tlL es).length ≤ 7 := by rw [hE.perm.length_eq]; exact h7
  -- behind the if
  refine ⟨fun σ' H' => ∃ D' us fs, σ' = [some (.ref a), some (.str wo), some (.ref a2), some (.ref D'), none] ∧ Kp MN H H' ∧ H' D' = some (.lst us) ∧ AtL MN H' us fs ∧ Eqr o (.tuple [.str wo, .tuple ps]) (.tuple [.str wo, .tuple fs]) ∧ Normal (.tuple [.str wo, .tuple fs]), ?_, ?_⟩
  · refine ⟨_, rfl, rfl, _, rfl, ?_⟩
    have E1 : Eqr o (.tuple [.str wo, .tuple ps]) (.tuple [.str wo, .tuple es]) := hE.node hwd hwo h2
    refine ite2 (fun cc => ?_) (fun cc => ?_)
    · have c' := of_decide_eq_true cc
      injection c' with c'
      subst c'
      refine ⟨_, rfl, D, vs, gOf H1, rfl, rfl, SqL.of e, by omega, fun x hx H' Q' k' hq => ?_, fun D2 ys H2 hD2 k2 e2 hp hs => ?_⟩
      · obtain ⟨i, hi⟩ := List.getElem?_of_mem hx
        obtain ⟨d', hd', ax⟩ := al.get hi
        have hm := List.mem_of_getElem? hd'
        have fd' := hE.form d' hm
        have l7 : (tl d').length ≤ 7 := Nat.le_trans (tl_le hm) hE7
        refine ⟨x, d', "beside", rfl, ax.kp k', fd', ?_, by omega, fun H3 k3 => ?_⟩
        · have := (fine _ (Nat.lt_succ_self d'.depth) fd' (by omega)).dep
          omega
        · rw [← gOf_eq ax]
          exact hq H3 k3
      · obtain ⟨fs, af, pf⟩ := al.perm hp.symm
        have hff : ∀ p ∈ fs, formed p "beside" = some (tl p) := fun p hp => hE.form p (pf.mem_iff.mp hp)
        have mx : Eqr o (.tuple [.str "beside", .tuple es]) (.tuple [.str "beside", .tuple fs]) := mix_beside pf hE.form hwo (by rw [hel]; exact h2) hEn
        exact ⟨D2, ys, fs, rfl, k.trans k2, e2, af.kp k2, E1.trans mx, .node (fun p hp => hN p (pf.mem_iff.mp hp)) fun _ => KG.mn_strict hff ((tlL_perm pf).symm.nodup hEn) (pair_mn af hs)⟩
    · have nb : wo ≠ "beside" := fun z => (of_decide_eq_false (Bool.eq_false_iff.mpr cc)) (by rw [z])
      exact ⟨D, vs, es, rfl, k, e, al, E1, .node hN fun z => absurd z nb⟩
  · rintro σ' H' ⟨D', us, fs, rfl, k', e', al', E', N'⟩
    refine ⟨_, rfl, _, rfl, D', us, rfl, .inl ⟨SqL.of e', fun p1 hp1 => ?_⟩⟩
    refine ⟨(by show 2 ≤ sizeLine; decide), fun p2 hp2 => ?_⟩
    have kk : Kp MN H' (upd (upd H' p1 (.tup us)) p2 (.tup [.str wo, .ref p1])) := (Kp.new hp1).trans (Kp.new hp2)
    exact q _ _ _ (.tup upd_same (.cons (.str wo) (.cons (.tup (by rw [upd_ne (ne_of_none upd_same hp2), upd_same]) (al'.kp kk)) .nil))) E' N' (k'.trans kk)
theorem oks_normalOf {f g : Addr} {fd gd : FuncData} (F : Fun K "normal_of" "normal_of" sNormalOf f fd) (B : Bl K mg)
    (G : FnOk P w K mg base CX0 17 g gd ["plan"] (spLeast 15)) (bG : Binds K gd ["plan"] []) (kG : PySem.W.keepIn K (.ref g) = true) (mG : mg "least_task" = some (.ref g))
    (bF : Binds K fd ["plan"] []) (mF : mg "normal_of" = some (.ref f)) : ∀ n : Nat, FnOk P w K mg base CX0 (n + 19) f fd ["plan"] (spNormal n)
  | 0 => never_ok fun vs H Q E h => by
    obtain ⟨_, _, _, _, _, _, h, _⟩ := h
    exact absurd h (Nat.not_lt_zero _)
  | n + 1 => ok_normalOf F B G bG kG mG (oks_normalOf F B G bG kG mG bF mF n) bF mF
def spNorm (PT : Addr) : Sp := fun vs H Q _ => ∃ (v : V) (d : PyData) (o : Str), vs = [v] ∧ At MN H v d ∧ formed d o = some (tl d) ∧ d.depth < 15 ∧ (tl d).length ≤ 7 ∧ (tl d).Nodup ∧ SeqAt.shaped d = true ∧ TabG H PT ∧ 0 < vdt d ∧
  ∀ v' e H', At MN H' v' e → Eqr o d e → Normal e → Kp MN H H' → Q v' H'
theorem scNormal : FnScope ["plan"] ["plan"] (defScope sNormal) := ⟨rfl, rfl, rfl, by decide +kernel, rfl, by decide +kernel, by decide +kernel⟩
theorem ok_normal {f g c PT : Addr} {fd gd cd' : FuncData} (F : Fun K "normal" "normal" sNormal f fd)
    (C : FnOk P w K mg base CX0 7 c cd' ["plan"] (spChecked PT)) (bC : Binds K cd' ["plan"] []) (kC : PySem.W.keepIn K (.ref c) = true) (mC : mg "checked_size" = some (.ref c))
    (G : FnOk P w K mg base CX0 34 g gd ["plan"] (spNormal 15)) (bG : Binds K gd ["plan"] []) (kG : PySem.W.keepIn K (.ref g) = true) (mG : mg "normal_of" = some (.ref g)) :
    FnOk P w K mg base CX0 35 f fd ["plan"] (spNorm PT) := by
  refine F.ok scNormal (fun vs H Q E h => ?_) (fun cdv A outer s H vs Q E hr h => ?_)
  · obtain ⟨v, d, o, rfl, _⟩ := h
    rfl
  obtain ⟨v, d, o, rfl, hA, hf, hd, h7, hnd, hS, hT, hv, q⟩ := h
  refine ⟨_, pss_cons (ps_expr (pe_call C (hr.mono (by decide)) rfl mC kC bC .nil pass0 (pa_cons (pv 0) pa_nil))) (pss_one (ps_ret (pe_call G hr rfl mG kG bG .nil pass0 (pa_cons (pv 0) pa_nil)))), ?_⟩
  exact ⟨_, rfl, v, d, rfl, hA, hS, hT, hv, fun H1 k1 => ⟨_, rfl, v, d, o, rfl, hA.kp k1, hf, hd, h7, hnd, fun v' e H' a' q' n' k' => q v' e H' a' q' n' (k1.trans k')⟩⟩
end
end K2

set_option Elab.async false
set_option linter.all false
set_option maxRecDepth 100000
set_option maxHeartbeats 1000000
/-! the law's normal plan, the law's plan with mixed parts -/
namespace K2
open PySem L2 GxR GA KD KR KM KJ KS
open KG (RelD RelD.mem mem_tlL nodup_part one_place Eqr Eqs Normal mn mn_mem mn_perm lst lst_eq mix_beside tlL_perm)
abbrev sLNormal : Stmt := top 36
abbrev sMixed : Stmt := top 37
def kOf (H : Hp) : V → Int × Int
  | .ref t => match H t with
    | some (.tup [.int a, .int b]) => (a, b)
    | _ => (0, 0)
  | _ => (0, 0)
theorem kOf_eq {H : Hp} {t : Addr} {a b : Int} (h : H t = some (.tup [.int a, .int b])) : kOf H (.ref t) = (a, b) := by
  simp only [kOf, h]
theorem map_get (vs : List V) : (List.range vs.length).map (fun k => vs.getD k .non) = vs := by
  refine List.ext_getElem (by simp) fun i h1 h2 => ?_
  rw [List.getElem_map, List.getElem_range, List.getD_eq_getElem?_getD, List.getElem?_eq_getElem h2]
  rfl
/-- rows of pairs: how little, and where -/
structure Pairs (H : Hp) (es : List PyData) (n : Nat) (ts : List V) : Prop where
  len : ts.length = n
  at_ : ∀ (i : Nat) (x : V), ts[i]? = some x → ∃ t e, x = .ref t ∧ es[i]? = some e ∧ H t = some (.tup [.int (mn e), .int (i : Int)])
theorem Pairs.kp {M : Addr → Prop} {H H' : Hp} {es : List PyData} {n : Nat} {ts : List V} (h : Pairs H es n ts) (k : Kp M H H') : Pairs H' es n ts := ⟨h.len, fun i x hx => by
  obtain ⟨t, e, h1, h2, h3⟩ := h.at_ i x hx
  exact ⟨t, e, h1, h2, k.tup _ _ h3⟩⟩
theorem Pairs.snoc {H : Hp} {es : List PyData} {n : Nat} {ts : List V} {t : Addr} {e : PyData} (h : Pairs H es n ts) (he : es[n]? = some e) (ht : H t = some (.tup [.int (mn e), .int (n : Int)])) : Pairs H es (n + 1) (ts ++ [.ref t]) := by
  refine ⟨by rw [List.length_append, h.len]; rfl, fun i x hx => ?_⟩
  by_cases c : i < n
  · rw [List.getElem?_append_left (by rw [h.len]; exact c)] at hx
    exact h.at_ i x hx
  · have : i = n := by
      have := (List.getElem?_eq_some_iff.mp hx).1
      rw [List.length_append, h.len] at this
      simp at this
      omega
    subst this
    rw [List.getElem?_append_right (by rw [h.len]; exact Nat.le_refl _), h.len, Nat.sub_self] at hx
    cases hx
    exact ⟨t, e, rfl, he, ht⟩
theorem Pairs.map {H : Hp} {es : List PyData} {ts vs : List V} (h : Pairs H es vs.length ts) : ts.map (fun x => vs.getD (kOf H x).2.toNat .non) = vs := by
  have e : ts.map (fun x => vs.getD (kOf H x).2.toNat .non) = (List.range vs.length).map fun k => vs.getD k .non := by
    refine List.ext_getElem (by simp [h.len]) fun i h1 h2 => ?_
    rw [List.getElem_map, List.getElem_map, List.getElem_range]
    have hi : i < ts.length := by simpa using h1
    obtain ⟨t, e, e1, e2, e3⟩ := h.at_ i _ (List.getElem?_eq_getElem hi)
    rw [e1, kOf_eq e3]
    show vs.getD ((i : Int)).toNat .non = _
    rw [Int.toNat_natCast]
  rw [e, map_get]
section
variable {P : Program} {w : World} {K : PySem.W.Frag} {mg : Str → Option Value} {base : Heap}
theorem scLNormal : FnScope ["plan", "parts", "rows", "part", "k", "least"] ["plan"] (defScope sLNormal) := ⟨rfl, rfl, rfl, by decide +kernel, rfl, by decide +kernel, by decide +kernel⟩
theorem ok_lnormal {n : Nat} {f g : Addr} {fd gd : FuncData} (F : Fun K "_law_normal" "_law_normal" sLNormal f fd) (B : Bl K mg) (mM : mg "min" = none)
    (G : FnOk P w K mg base CX0 16 g gd ["plan"] (spTasks 15)) (bG : Binds K gd ["plan"] []) (kG : PySem.W.keepIn K (.ref g) = true) (mG : mg "_law_all" = some (.ref g))
    (R : FnOk P w K mg base CX0 (n + 17) f fd ["plan"] (spNormal n)) (bF : Binds K fd ["plan"] []) (mF : mg "_law_normal" = some (.ref f)) :
    FnOk P w K mg base CX0 (n + 18) f fd ["plan"] (spNormal (n + 1)) := by
  refine F.ok scLNormal (fun vs H Q E h => ?_) (fun cdv A outer s H vs Q E hr h => ?_)
  · obtain ⟨v, d, o, rfl, _⟩ := h
    rfl
  obtain ⟨v, d, o, rfl, hA, hf, hd, h7, hnd, q⟩ := h
  have hr16 : Room 16 _ := hr.mono (by omega)
  refine ⟨_, pss_cons (ps_if (pt_val (pe_callB call_isi rfl B.isinstance (by decide +kernel) (pa_cons (pv 0) (pa_cons (pe_bltn rfl B.int (by decide +kernel) (v := .ty "int") rfl) pa_nil)))) (pss_one (ps_ret (pv 0))) pss_nil)
    (pss_cons (ps_set (i := 1) scLNormal.nd rfl (Or.inr rfl) (pe_lc (own := [("part", 3)]) (g := gName 3) (tt := tYes) (te := tCall (spNormal n) [] E0 (tCons (tVar 3) tNil)) (by rfl) scLNormal.nd (pi_tup (pe_ix ix_tup (pv 0) pe_int (fun _ _ => rfl))) (blkOk_by (own := [("part", 3)]) (N := ["plan", "parts", "rows", "part", "k", "least"]) (sc := defScope sLNormal) (by decide +kernel))
      (fun _ _ _ _ _ => pg_name (i := 3) scLNormal.nd rfl (Or.inl rfl)) (fun _ _ _ _ _ => pts_nil) (fun _ _ _ _ _ => pe_call R hr rfl mF F.kp bF .nil pass0 (pa_cons (pv 3) pa_nil))))
    (C8.pss_cut (ps_if (pt_cmpR op_eq (pe_ix ix_tup (pv 0) pe_int (fun _ _ => rfl)) pe_str (nomark _))
      (pss_cons (ps_set (i := 2) scLNormal.nd rfl (Or.inl rfl) (pe_callB cr_sortedPO rfl B.sorted (by decide +kernel) (pa_cons
        (pe_lc (own := [("k", 4)]) (g := gName 4) (tt := tYes) (te := tTup (tCons (tCB (rMin K) (tCons (tCall (spTasks 15) [] E0 (tCons (tOp (rIxL K) (tVar 1) (tVar 4)) tNil)) tNil)) (tCons (tVar 4) tNil))) rfl scLNormal.nd (pi_range1 rfl B.range (pa_cons (pe_callB call_len_seq rfl B.len PySem.boot_len (pa_cons (pv 1) pa_nil)) pa_nil))
          (blkOk_by (own := [("k", 4)]) (N := ["plan", "parts", "rows", "part", "k", "least"]) (sc := defScope sLNormal) (by decide +kernel)) (fun _ _ _ _ _ => pg_name (i := 4) scLNormal.nd rfl (Or.inl rfl)) (fun _ _ _ _ _ => pts_nil)
          (fun _ _ _ _ _ => pe_tup (pa_cons (pe_callB (cr_min rfl) rfl mM (by decide +kernel) (pa_cons (pe_call G hr16 rfl mG kG bG .nil pass0 (pa_cons (pe_ix ix_list (pv 1) (pv 4) (fun _ _ => rfl)) pa_nil)) pa_nil)) (pa_cons (pv 4) pa_nil)))) pa_nil)))
      (pss_one (ps_set (i := 1) scLNormal.nd rfl (Or.inr rfl) (pe_lc (own := [("least", 5), ("k", 4)]) (g := gTup K 2 (gCons (gName 5) (gCons (gName 4) gNil))) (tt := tYes) (te := tOp (rIxL K) (tVar 1) (tVar 4)) rfl scLNormal.nd (pi_list (pv 2))
          (blkOk_by (own := [("least", 5), ("k", 4)]) (N := ["plan", "parts", "rows", "part", "k", "least"]) (sc := defScope sLNormal) (by decide +kernel)) (fun _ _ _ _ _ => pg_tup rfl (pgs_cons (pg_name (i := 5) scLNormal.nd rfl (Or.inl rfl)) (pgs_cons (pg_name (i := 4) scLNormal.nd rfl (Or.inl rfl)) pgs_nil))) (fun _ _ _ _ _ => pts_nil)
          (fun _ _ _ _ _ => pe_ix ix_list (pv 1) (pv 4) (fun _ _ => rfl)))))) pss_nil)
    (pss_one (ps_ret (pe_tup (pa_cons (pe_ix ix_tup (pv 0) pe_int (fun _ _ => rfl)) (pa_cons (pe_callTy call_tuple_of rfl B.tuple (by decide +kernel) (pa_cons (pv 1) pa_nil)) pa_nil))))))), ?_⟩
  refine ⟨_, rfl, _, _, _, _, _, rfl, .ty _, hA.ty, kit_int d, _, rfl, ?_⟩
  rcases KG.plan_cases hf with ⟨i, rfl⟩ | ⟨wo, ps, rfl, hwd, hwo, h2, hfl, hfm⟩
  · refine iteT ?_
    exact ⟨_, rfl, q v (.int i) H hA (Eqr.refl hf) (.int i) .refl⟩
  refine iteF ?_
  obtain ⟨a, a2, xs, rfl, hx, hx2, hall⟩ := At.parts hA
  have hl := hall.length
  rw [tl_part] at h7 hnd
  have hps := formedL_len _ _ _ hfl
  refine ⟨_, rfl, _, _, _, _, rfl, rfl, SqT.of hx, atI_nat (j := 1) rfl, a2, rfl, ⟨_, SqT.of hx2⟩, fun D hD => ?_⟩
  have nDH : ∀ zs, H D ≠ some (.lst zs) := fun zs z => by rw [hD] at z; cases z
  refine lc_tup (K := K) (a := a2) (xs := xs) (fun i H' => ∃ vs es, Kp MN H H' ∧ H' D = some (.lst vs) ∧ AtL MN H' vs es ∧ Eqs wo (ps.take i) es ∧ ∀ e ∈ es, Normal e) ⟨[], [], Kp.new hD, upd_same, .nil, Eqs.nil, fun e h => absurd h List.not_mem_nil⟩ (fun i H' _ p => SqT.of (by obtain ⟨_, _, k, _⟩ := p; exact k.tup _ _ hx2)) (fun i x H' hi p => ?_) (fun H1 p => ?_)
  · obtain ⟨vs, es, k, e, al, hE, hN⟩ := p
    obtain ⟨d', hd', ha'⟩ := hall.get hi
    have hm := List.mem_of_getElem? hd'
    have hil := (List.getElem?_eq_some_iff.mp hd').1
    have hal := al.length
    have hel := hE.len
    rw [List.length_take] at hel
    refine ⟨rfl, ?_⟩
    dsimp only [tYes]
    rw [if_pos rfl]
    refine ⟨_, rfl, x, d', wo, rfl, ha'.kp k, hfm d' hm, depth_part hd hm, Nat.le_trans (tl_le hm) h7, nodup_part hnd hm, fun v' e' H5 a5 q5 n5 k5 => ?_⟩
    have e5 := k5.lst D _ (fun z => z) e
    have tk : ∀ b us, H5 b = some (.tup us) → upd H5 D (.lst (vs ++ [v'])) b = some (.tup us) := fun b us z => by
      rw [upd_ne]
      · exact z
      · intro y
        rw [y, e5] at z
        cases z
    have l5 : (tl e').length ≤ 7 := by rw [q5.perm.length_eq]; exact Nat.le_trans (tl_le hm) h7
    have l6 : (tlL es).length ≤ 60 := by
      rw [hE.perm.length_eq]
      exact Nat.le_trans (tlL_take_le ps i) (by omega)
    refine ⟨vs, e5, small1000 (by omega), vs ++ [v'], es ++ [e'], (k.trans k5).putFresh nDH e5, upd_same, AtL.append (AtL.put tk (al.kp k5) (fine_noLL hE.form l6)) (.one (At.put tk a5 (fine_noL q5.form (by omega)))), eqs_snoc hE hd' q5, fun z hz => ?_⟩
    rcases List.mem_append.mp hz with y | y
    · exact hN z y
    · rw [List.mem_singleton.mp y]
      exact n5
  obtain ⟨vs, es, k, e, al, hE, hN⟩ := p
  rw [hl, List.take_length] at hE
  have hel := hE.len
  have hal := al.length
  have hEn : (tlL es).Nodup := hE.perm.symm.nodup hnd
  have hE7 : (tlL es).length ≤ 7 := by rw [hE.perm.length_eq]; exact h7
  refine ⟨fun σ' H' => ∃ D' us fs x2, σ' = [some (.ref a), some (.ref D'), x2, none, none, none] ∧ Kp MN H H' ∧ H' D' = some (.lst us) ∧ AtL MN H' us fs ∧ Eqr o (.tuple [.str wo, .tuple ps]) (.tuple [.str wo, .tuple fs]) ∧ Normal (.tuple [.str wo, .tuple fs]), ?_, ?_⟩
  · refine ⟨_, rfl, _, _, _, _, rfl, rfl, SqT.of (k.tup _ _ hx), atI_nat (j := 0) rfl, rfl, _, rfl, ?_⟩
    have E1 : Eqr o (.tuple [.str wo, .tuple ps]) (.tuple [.str wo, .tuple es]) := hE.node hwd hwo h2
    refine ite2 (fun cc => ?_) (fun cc => ?_)
    · have c' := of_decide_eq_true cc
      injection c' with c'
      subst c'
      refine ⟨_, rfl, D, vs, rfl, .inl (SqL.of e), _, rfl, by omega, by omega, fun R hR => ?_⟩
      have nDR := ne_of_none e hR
      have tn : ((vs.length : Int)).toNat = vs.length := by omega
      refine lc_range (lo := 0) (n := ((vs.length : Int)).toNat) (fun i H' => ∃ ts, Kp MN H1 H' ∧ H' R = some (.lst ts) ∧ Pairs H' es i ts) ⟨[], Kp.new hR, upd_same, rfl, fun i x h => by simp at h⟩ (fun i H' hi p => ?_) (fun H2 p => ?_)
      · obtain ⟨ts, k2, e2, pr⟩ := p
        have hi' : i < vs.length := by omega
        have hv : vs[i]? = some vs[i] := List.getElem?_eq_getElem hi'
        obtain ⟨d', hd', ax⟩ := al.get hv
        have hm := List.mem_of_getElem? hd'
        have fd' := hE.form d' hm
        have l7 : (tl d').length ≤ 7 := Nat.le_trans (tl_le hm) hE7
        have dp : d'.depth < 15 := by
          have := (fine _ (Nat.lt_succ_self d'.depth) fd' (by omega)).dep
          omega
        have eD := k2.lst D _ (fun z => z) e
        refine ⟨rfl, ?_⟩
        dsimp only [tYes]
        rw [if_pos rfl]
        refine ⟨_, rfl, _, rfl, D, vs, _, _, rfl, rfl, SqL.of eD, by rw [Int.zero_add]; exact atI_nat hv, ?_⟩
        refine ⟨_, d', "beside", rfl, ax.kp k2, fd', dp, by omega, fun t H3 ht k3 e3 => ⟨t, tl d', rfl, SqL.of e3, List.length_pos_iff.mpr (formed_ne _ _ _ fd'), fun m h1 h2 => ?_⟩⟩
        have em : mn d' = m := lst_eq h1 h2
        subst em
        refine ⟨_, rfl, (by show 2 ≤ sizeLine; decide), fun p hp => ?_⟩
        have e3R := k3.lst R _ (fun z => z) e2
        have npR := ne_of_none e3R hp
        have nRH : ∀ zs, H1 R ≠ some (.lst zs) := fun zs z => by rw [hR] at z; cases z
        have kp := (k2.trans k3).trans (Kp.new (M := MN) hp (o := .tup [.int (mn d'), .int (0 + (i : Int))]))
        have eR : upd H3 p (.tup [.int (mn d'), .int (0 + (i : Int))]) R = some (.lst ts) := by rw [upd_ne npR]; exact e3R
        refine ⟨ts, eR, small1000 (by have := pr.len; omega), ts ++ [.ref p], kp.putFresh nRH eR, upd_same, ?_⟩
        have kk : Kp (MS R) H' (upd (upd H3 p (.tup [.int (mn d'), .int (0 + (i : Int))])) R (.lst (ts ++ [.ref p]))) := (k3.any.trans (Kp.new hp)).trans (Kp.put rfl eR)
        refine (pr.kp kk).snoc hd' ?_
        rw [upd_ne npR.symm, upd_same, Int.zero_add]
      obtain ⟨ts, k2, e2, pr⟩ := p
      rw [tn] at pr
      refine ⟨R, ts, kOf H2, rfl, SqL.of e2, fun x hx' => ?_, fun ys R2 hs hb hR2 => ?_⟩
      · obtain ⟨i, hi⟩ := List.getElem?_of_mem hx'
        obtain ⟨t, e', h1, h3, h4⟩ := pr.at_ i x hi
        subst h1
        exact ⟨t, rfl, by rw [kOf_eq h4]; exact h4⟩
      have hyp : ys.Perm ts := hb.perm
      have k3 : Kp MN H2 (upd H2 R2 (.lst ys)) := Kp.new hR2
      have eR2 : upd H2 R2 (.lst ys) R2 = some (.lst ys) := upd_same
      have kofs : ∀ x ∈ ys, ∃ (t : Addr) (i : Nat) (e' : PyData), x = .ref t ∧ es[i]? = some e' ∧ i < vs.length ∧ H2 t = some (.tup [.int (mn e'), .int (i : Int)]) ∧ kOf H2 x = (mn e', (i : Int)) := fun x hx' => by
        obtain ⟨i, hi⟩ := List.getElem?_of_mem (hyp.mem_iff.mp hx')
        obtain ⟨t, e', h1, h3, h4⟩ := pr.at_ i x hi
        subst h1
        refine ⟨t, i, e', rfl, h3, ?_, h4, kOf_eq h4⟩
        have := (List.getElem?_eq_some_iff.mp hi).1
        rw [pr.len] at this
        exact this
      generalize upd H2 R2 (.lst ys) = H3 at k3 eR2
      refine ⟨_, rfl, R2, rfl, ⟨_, SqL.of eR2⟩, fun D3 hD3 => ?_⟩
      have n23 := ne_of_none eR2 hD3
      have k13 := k2.trans k3
      have nD3 : ∀ zs, H3 D3 ≠ some (.lst zs) := fun zs z => by rw [hD3] at z; cases z
      refine lc_list (K := K) (a := R2) (xs := ys) (fun i H' => Kp MN H3 H' ∧ H' D3 = some (.lst ((ys.take i).map fun x => vs.getD (kOf H2 x).2.toNat .non))) ⟨Kp.new hD3, upd_same⟩ (fun i H' _ p => SqL.of (p.1.lst _ _ (fun z => z) eR2)) (fun i x H' hi p => ?_) (fun H4 p => ?_)
      · obtain ⟨k4, e4⟩ := p
        obtain ⟨t, j, e', rfl, hj, hjl, ht, hk⟩ := kofs x (List.mem_of_getElem? hi)
        have ht4 := (k3.trans k4).tup _ _ ht
        have eD4 := (k13.trans k4).lst D _ (fun z => z) e
        have hyl := hyp.length_eq
        rw [pr.len] at hyl
        have hv : vs[j]? = some vs[j] := List.getElem?_eq_getElem hjl
        refine ⟨t, _, rfl, SqT.of ht4, rfl, _, _, rfl, _, _, rfl, rfl, rfl, ?_⟩
        dsimp only [tYes]
        rw [if_pos rfl]
        refine ⟨_, rfl, _, rfl, D, vs, _, _, rfl, rfl, SqL.of eD4, atI_nat hv, ?_⟩
        refine ⟨_, e4, small1000 (by rw [List.length_map, List.length_take]; omega), k4.putFresh nD3 e4, ?_⟩
        rw [upd_same, List.take_succ, hi, List.map_append]
        have e9 : vs.getD (kOf H2 (.ref t)).2.toNat .non = vs[j] := by
          rw [hk]
          show vs.getD ((j : Int)).toNat .non = _
          rw [Int.toNat_natCast, List.getD_eq_getElem?_getD, hv]
          rfl
        show some (HO.lst (_ ++ [vs[j]])) = some (HO.lst (_ ++ [vs.getD (kOf H2 (.ref t)).2.toNat .non]))
        rw [e9]
      obtain ⟨k4, e4⟩ := p
      rw [List.take_length] at e4
      have hus : (ys.map fun x => vs.getD (kOf H2 x).2.toNat .non).Perm vs := by
        have := hyp.map fun x => vs.getD (kOf H2 x).2.toNat .non
        rw [pr.map] at this
        exact this
      have k14 := k13.trans k4
      obtain ⟨fs, af, pf⟩ := (al.kp k14).perm hus.symm
      have hff : ∀ p ∈ fs, formed p "beside" = some (tl p) := fun p hp => hE.form p (pf.mem_iff.mp hp)
      have mx : Eqr o (.tuple [.str "beside", .tuple es]) (.tuple [.str "beside", .tuple fs]) := mix_beside pf hE.form hwo (by rw [hel]; exact h2) hEn
      refine ⟨D3, _, fs, _, rfl, k.trans k14, e4, af, E1.trans mx, .node (fun p hp => hN p (pf.mem_iff.mp hp)) fun _ => KG.mn_strict hff ((tlL_perm pf).symm.nodup hEn) (pair_mn (H := H4) af ?_)⟩
      rw [List.pairwise_map]
      refine List.Pairwise.imp_of_mem (fun {x y} hx' hy' hxy => ?_) hs
      have key : ∀ z ∈ ys, gOf H4 (vs.getD (kOf H2 z).2.toNat .non) = (kOf H2 z).1 := fun z hz => by
        obtain ⟨t, j, e', rfl, hj, hjl, ht, hk⟩ := kofs z hz
        rw [hk]
        show gOf H4 (vs.getD ((j : Int)).toNat .non) = mn e'
        have hv : vs[j]? = some vs[j] := List.getElem?_eq_getElem hjl
        rw [Int.toNat_natCast, List.getD_eq_getElem?_getD, hv]
        obtain ⟨d', hd', ax⟩ := al.get hv
        rw [hj] at hd'
        cases hd'
        exact gOf_eq (ax.kp k14)
      rw [key x hx', key y hy']
      have := SrtO.lexB_no.mp hxy
      omega
    · have nb : wo ≠ "beside" := fun z => (of_decide_eq_false (Bool.eq_false_iff.mpr cc)) (by rw [z])
      exact ⟨D, vs, es, none, rfl, k, e, al, E1, .node hN fun z => absurd z nb⟩
  · rintro σ' H' ⟨D', us, fs, x2, rfl, k', e', al', E', N'⟩
    refine ⟨_, rfl, _, _, _, _, rfl, rfl, SqT.of (k'.tup _ _ hx), atI_nat (j := 0) rfl, _, rfl, D', us, rfl, .inl ⟨SqL.of e', fun p1 hp1 => ?_⟩⟩
    refine ⟨(by show 2 ≤ sizeLine; decide), fun p2 hp2 => ?_⟩
    have kk : Kp MN H' (upd (upd H' p1 (.tup us)) p2 (.tup [.str wo, .ref p1])) := (Kp.new hp1).trans (Kp.new hp2)
    exact q _ _ _ (.tup upd_same (.cons (.str wo) (.cons (.tup (by rw [upd_ne (ne_of_none upd_same hp2), upd_same]) (al'.kp kk)) .nil))) E' N' (k'.trans kk)
theorem oks_lnormal {f g : Addr} {fd gd : FuncData} (F : Fun K "_law_normal" "_law_normal" sLNormal f fd) (B : Bl K mg) (mM : mg "min" = none)
    (G : FnOk P w K mg base CX0 16 g gd ["plan"] (spTasks 15)) (bG : Binds K gd ["plan"] []) (kG : PySem.W.keepIn K (.ref g) = true) (mG : mg "_law_all" = some (.ref g))
    (bF : Binds K fd ["plan"] []) (mF : mg "_law_normal" = some (.ref f)) : ∀ n : Nat, FnOk P w K mg base CX0 (n + 17) f fd ["plan"] (spNormal n)
  | 0 => never_ok fun vs H Q E h => by
    obtain ⟨_, _, _, _, _, _, h, _⟩ := h
    exact absurd h (Nat.not_lt_zero _)
  | n + 1 => ok_lnormal F B mM G bG kG mG (oks_lnormal F B mM G bG kG mG bF mF n) bF mF
end
end K2

set_option Elab.async false
set_option linter.all false
set_option maxRecDepth 100000
set_option maxHeartbeats 1000000
namespace K2
open PySem L2 GxR GA KD KR KM KJ KS
open KG (RelD RelD.mem mem_tlL nodup_part one_place Eqr Eqs Normal mn mn_mem mn_perm lst lst_eq mix_beside tlL_perm)
def spMixed (n : Nat) : Sp := fun vs H Q _ => ∃ (st c : Addr) (v : V) (d : PyData) (o : Str), vs = [.ref st, v] ∧ StAt st c H ∧ At (MS st) H v d ∧ formed d o = some (tl d) ∧ d.depth < n ∧ (tl d).length ≤ 7 ∧ (tl d).Nodup ∧
  ∀ v' e H', At (MS st) H' v' e → Eqr o d e → Kp (MS st) H H' → StAt st c H' → Q v' H'
theorem rng_map {l : List Int} {vs : List V} (h : l.Perm (rng vs.length)) : (l.map fun k => vs.getD k.toNat .non).Perm vs := by
  have h1 := h.map fun k => vs.getD k.toNat V.non
  have h2 : (rng vs.length).map (fun k => vs.getD k.toNat V.non) = vs := by
    unfold rng
    rw [List.map_map]
    have e : ((fun k : Int => vs.getD k.toNat V.non) ∘ Int.ofNat) = fun k : Nat => vs.getD k .non := by
      funext k
      rfl
    rw [e, map_get]
  rw [h2] at h1
  exact h1
section
variable {P : Program} {w : World} {K : PySem.W.Frag} {mg : Str → Option Value} {base : Heap}
theorem scMixed : FnScope ["stream", "plan", "parts", "part", "k"] ["stream", "plan"] (defScope sMixed) := ⟨rfl, rfl, rfl, by decide +kernel, rfl, by decide +kernel, by decide +kernel⟩
theorem ok_mixed {n : Nat} {f g : Addr} {fd gd : FuncData} (F : Fun K "_law_mixed" "_law_mixed" sMixed f fd) (B : Bl K mg)
    (G : FnOk P w K mg base CX0 2 g gd ["stream", "many"] spOrder) (bG : Binds K gd ["stream", "many"] []) (kG : PySem.W.keepIn K (.ref g) = true) (mG : mg "_law_order" = some (.ref g))
    (R : FnOk P w K mg base CX0 (n + 3) f fd ["stream", "plan"] (spMixed n)) (bF : Binds K fd ["stream", "plan"] []) (mF : mg "_law_mixed" = some (.ref f)) :
    FnOk P w K mg base CX0 (n + 4) f fd ["stream", "plan"] (spMixed (n + 1)) := by
  refine F.ok scMixed (fun vs H Q E h => ?_) (fun cdv A outer s H vs Q E hr h => ?_)
  · obtain ⟨st, c, v, d, o, rfl, _⟩ := h
    rfl
  obtain ⟨st, c, v, d, o, rfl, hst, hA, hf, hd, h7, hnd, q⟩ := h
  have hr2 : Room 2 _ := hr.mono (by omega)
  refine ⟨_, pss_cons (ps_if (pt_val (pe_callB call_isi rfl B.isinstance (by decide +kernel) (pa_cons (pv 1) (pa_cons (pe_bltn rfl B.int (by decide +kernel) (v := .ty "int") rfl) pa_nil)))) (pss_one (ps_ret (pv 1))) pss_nil)
    (pss_cons (ps_set (i := 2) scMixed.nd rfl (Or.inr rfl) (pe_lc (own := [("part", 3)]) (g := gName 3) (tt := tYes) (te := tCall (spMixed n) [] E0 (tCons (tVar 0) (tCons (tVar 3) tNil))) (by rfl) scMixed.nd (pi_tup (pe_ix ix_tup (pv 1) pe_int (fun _ _ => rfl))) (blkOk_by (own := [("part", 3)]) (N := ["stream", "plan", "parts", "part", "k"]) (sc := defScope sMixed) (by decide +kernel))
      (fun _ _ _ _ _ => pg_name (i := 3) scMixed.nd rfl (Or.inl rfl)) (fun _ _ _ _ _ => pts_nil) (fun _ _ _ _ _ => pe_call R hr rfl mF F.kp bF .nil pass0 (pa_cons (pv 0) (pa_cons (pv 3) pa_nil)))))
    (C8.pss_cut (ps_if (pt_cmpR op_eq (pe_ix ix_tup (pv 1) pe_int (fun _ _ => rfl)) pe_str (nomark _))
      (pss_one (ps_set (i := 2) scMixed.nd rfl (Or.inr rfl) (pe_lc (own := [("k", 4)]) (g := gName 4) (tt := tYes) (te := tOp (rIxL K) (tVar 2) (tVar 4)) rfl scMixed.nd
          (pi_tup (pe_call G hr2 rfl mG kG bG .nil pass0 (pa_cons (pv 0) (pa_cons (pe_callB call_len_seq rfl B.len PySem.boot_len (pa_cons (pv 2) pa_nil)) pa_nil))))
          (blkOk_by (own := [("k", 4)]) (N := ["stream", "plan", "parts", "part", "k"]) (sc := defScope sMixed) (by decide +kernel)) (fun _ _ _ _ _ => pg_name (i := 4) scMixed.nd rfl (Or.inl rfl)) (fun _ _ _ _ _ => pts_nil)
          (fun _ _ _ _ _ => pe_ix ix_list (pv 2) (pv 4) (fun _ _ => rfl))))) pss_nil)
    (pss_one (ps_ret (pe_tup (pa_cons (pe_ix ix_tup (pv 1) pe_int (fun _ _ => rfl)) (pa_cons (pe_callTy call_tuple_of rfl B.tuple (by decide +kernel) (pa_cons (pv 2) pa_nil)) pa_nil))))))), ?_⟩
  refine ⟨_, rfl, _, _, _, _, _, rfl, .ty _, hA.ty, kit_int d, _, rfl, ?_⟩
  rcases KG.plan_cases hf with ⟨i, rfl⟩ | ⟨wo, ps, rfl, hwd, hwo, h2, hfl, hfm⟩
  · refine iteT ?_
    exact ⟨_, rfl, q v (.int i) H hA (Eqr.refl hf) .refl hst⟩
  refine iteF ?_
  obtain ⟨a, a2, xs, rfl, hx, hx2, hall⟩ := At.parts hA
  have hl := hall.length
  rw [tl_part] at h7 hnd
  have hps := formedL_len _ _ _ hfl
  refine ⟨_, rfl, _, _, _, _, rfl, rfl, SqT.of hx, atI_nat (j := 1) rfl, a2, rfl, ⟨_, SqT.of hx2⟩, fun D hD => ?_⟩
  have nDH : ∀ zs, H D ≠ some (.lst zs) := fun zs z => by rw [hD] at z; cases z
  have nD := hst.ne hD
  refine lc_tup (K := K) (a := a2) (xs := xs) (fun i H' => ∃ vs es, Kp (MS st) H H' ∧ H' D = some (.lst vs) ∧ AtL (MS st) H' vs es ∧ Eqs wo (ps.take i) es ∧ StAt st c H') ⟨[], [], Kp.new hD, upd_same, .nil, Eqs.nil, hst.new hD⟩ (fun i H' _ p => SqT.of (by obtain ⟨_, _, k, _⟩ := p; exact k.tup _ _ hx2)) (fun i x H' hi p => ?_) (fun H1 p => ?_)
  · obtain ⟨vs, es, k, e, al, hE, s1⟩ := p
    obtain ⟨d', hd', ha'⟩ := hall.get hi
    have hm := List.mem_of_getElem? hd'
    have hil := (List.getElem?_eq_some_iff.mp hd').1
    have hal := al.length
    have hel := hE.len
    rw [List.length_take] at hel
    refine ⟨rfl, ?_⟩
    dsimp only [tYes]
    rw [if_pos rfl]
    refine ⟨_, rfl, _, rfl, st, c, x, d', wo, rfl, s1, ha'.kp k, hfm d' hm, depth_part hd hm, Nat.le_trans (tl_le hm) h7, nodup_part hnd hm, fun v' e' H5 a5 q5 k5 s5 => ?_⟩
    have e5 := k5.lst D _ nD.1 e
    have tk : ∀ b us, H5 b = some (.tup us) → upd H5 D (.lst (vs ++ [v'])) b = some (.tup us) := fun b us z => by
      rw [upd_ne]
      · exact z
      · intro y
        rw [y, e5] at z
        cases z
    have l5 : (tl e').length ≤ 7 := by rw [q5.perm.length_eq]; exact Nat.le_trans (tl_le hm) h7
    have l6 : (tlL es).length ≤ 60 := by
      rw [hE.perm.length_eq]
      exact Nat.le_trans (tlL_take_le ps i) (by omega)
    exact ⟨vs, e5, small1000 (by omega), vs ++ [v'], es ++ [e'], (k.trans k5).putFresh nDH e5, upd_same, AtL.append (AtL.put tk (al.kp k5) (fine_noLL hE.form l6)) (.one (At.put tk a5 (fine_noL q5.form (by omega)))), eqs_snoc hE hd' q5, s5.put nD⟩
  obtain ⟨vs, es, k, e, al, hE, s1⟩ := p
  rw [hl, List.take_length] at hE
  have hel := hE.len
  have hal := al.length
  have hEn : (tlL es).Nodup := hE.perm.symm.nodup hnd
  have hE7 : (tlL es).length ≤ 7 := by rw [hE.perm.length_eq]; exact h7
  refine ⟨fun σ' H' => ∃ D' us fs, σ' = [some (.ref st), some (.ref a), some (.ref D'), none, none] ∧ Kp (MS st) H H' ∧ H' D' = some (.lst us) ∧ AtL (MS st) H' us fs ∧ Eqr o (.tuple [.str wo, .tuple ps]) (.tuple [.str wo, .tuple fs]) ∧ StAt st c H', ?_, ?_⟩
  · refine ⟨_, rfl, _, _, _, _, rfl, rfl, SqT.of (k.tup _ _ hx), atI_nat (j := 0) rfl, rfl, _, rfl, ?_⟩
    have E1 : Eqr o (.tuple [.str wo, .tuple ps]) (.tuple [.str wo, .tuple es]) := hE.node hwd hwo h2
    refine ite2 (fun cc => ?_) (fun cc => ?_)
    · have c' := of_decide_eq_true cc
      injection c' with c'
      subst c'
      refine ⟨_, rfl, _, rfl, D, vs, rfl, .inl (SqL.of e), st, c, vs.length, rfl, s1, by omega, fun p l H2 pl ep k2 s2 => ?_⟩
      refine ⟨p, rfl, ⟨_, SqT.of ep⟩, fun D3 hD3 => ?_⟩
      have nD3 := s2.ne hD3
      have fD3 : ∀ zs, H1 D3 ≠ some (.lst zs) := Kp.noLst (M := MS st) k2 nD3.1 hD3
      have fD4 : ∀ zs, H2 D3 ≠ some (.lst zs) := fun zs z => by rw [hD3] at z; cases z
      refine lc_tup (K := K) (a := p) (xs := l.map V.int) (fun i H' => Kp MN H2 H' ∧ H' D3 = some (.lst ((l.take i).map fun k => vs.getD k.toNat .non))) ⟨Kp.new hD3, upd_same⟩ (fun i H' _ p => SqT.of (p.1.tup _ _ ep)) (fun i x H' hi p => ?_) (fun H4 p => ?_)
      · obtain ⟨k4, e4⟩ := p
        rw [List.getElem?_map] at hi
        obtain ⟨z, hz, rfl⟩ := Option.map_eq_some_iff.mp hi
        have hzr := mem_rng.mp (pl.mem_iff.mp (List.mem_of_getElem? hz))
        have eD4 := (k2.trans k4.any).lst D _ nD.1 e
        have hll := pl.length_eq
        rw [rng_length] at hll
        have hzl : z.toNat < vs.length := by omega
        have hv : vs[z.toNat]? = some vs[z.toNat] := List.getElem?_eq_getElem hzl
        have hat := atI_nat hv
        rw [show ((z.toNat : Nat) : Int) = z by omega] at hat
        refine ⟨rfl, ?_⟩
        dsimp only [tYes]
        rw [if_pos rfl]
        refine ⟨_, rfl, _, rfl, D, vs, _, _, rfl, rfl, SqL.of eD4, hat, ?_⟩
        refine ⟨_, e4, small1000 (by rw [List.length_map, List.length_take]; omega), k4.putFresh fD4 e4, ?_⟩
        have e9 : vs.getD z.toNat .non = vs[z.toNat] := by
          rw [List.getD_eq_getElem?_getD, hv]
          rfl
        rw [upd_same, List.take_succ, hz, List.map_append]
        show some (HO.lst (_ ++ [vs[z.toNat]])) = some (HO.lst (_ ++ [vs.getD z.toNat .non]))
        rw [e9]
      obtain ⟨k4, e4⟩ := p
      rw [List.length_map, List.take_length] at e4
      have k14 := k2.trans k4.any
      obtain ⟨fs, af, pf⟩ := (al.kp k14).perm (rng_map pl).symm
      have mx : Eqr o (.tuple [.str "beside", .tuple es]) (.tuple [.str "beside", .tuple fs]) := mix_beside pf hE.form hwo (by rw [hel]; exact h2) hEn
      exact ⟨D3, _, fs, rfl, k.trans k14, e4, af, E1.trans mx, s2.kp k4⟩
    · exact ⟨D, vs, es, rfl, k, e, al, E1, s1⟩
  · rintro σ' H' ⟨D', us, fs, rfl, k', e', al', E', s'⟩
    refine ⟨_, rfl, _, _, _, _, rfl, rfl, SqT.of (k'.tup _ _ hx), atI_nat (j := 0) rfl, _, rfl, D', us, rfl, .inl ⟨SqL.of e', fun p1 hp1 => ?_⟩⟩
    refine ⟨(by show 2 ≤ sizeLine; decide), fun p2 hp2 => ?_⟩
    have kk : Kp (MS st) H' (upd (upd H' p1 (.tup us)) p2 (.tup [.str wo, .ref p1])) := (Kp.new hp1).trans (Kp.new hp2)
    exact q _ _ _ (.tup upd_same (.cons (.str wo) (.cons (.tup (by rw [upd_ne (ne_of_none upd_same hp2), upd_same]) (al'.kp kk)) .nil))) E' (k'.trans kk) ((s'.new hp1).new hp2)
theorem oks_mixed {f g : Addr} {fd gd : FuncData} (F : Fun K "_law_mixed" "_law_mixed" sMixed f fd) (B : Bl K mg)
    (G : FnOk P w K mg base CX0 2 g gd ["stream", "many"] spOrder) (bG : Binds K gd ["stream", "many"] []) (kG : PySem.W.keepIn K (.ref g) = true) (mG : mg "_law_order" = some (.ref g))
    (bF : Binds K fd ["stream", "plan"] []) (mF : mg "_law_mixed" = some (.ref f)) : ∀ n : Nat, FnOk P w K mg base CX0 (n + 3) f fd ["stream", "plan"] (spMixed n)
  | 0 => never_ok fun vs H Q E h => by
    obtain ⟨_, _, _, _, _, _, _, _, _, h, _⟩ := h
    exact absurd h (Nat.not_lt_zero _)
  | n + 1 => ok_mixed F B G bG kG mG (oks_mixed F B G bG kG mG bF mF n) bF mF
end
end K2

set_option Elab.async false
set_option linter.all false
set_option maxRecDepth 100000
set_option maxHeartbeats 1000000
/-! == of two dicts whose keys are tuples and whose values are flat. -/
namespace KU
open PySem PySem.Spec PyProof.Rows L2 KD
section
variable {prog : Program} {w : World} {K : Type} [DecidableEq K] {knd : HeapKind prog w K} {A : Around} {E : Value → Shared → Prop} {s : Shared}
inductive HitsH {K : Type} [DecidableEq K] (A : Around) (s : Shared) (kb : List (K × Addr × Value)) : List (K × Addr × Value) → Bool → Prop
  | nil : HitsH A s kb [] true
  | miss {k : K} {c : Addr} {v : Value} {r : List (K × Addr × Value)} : atKey kb k = none → HitsH A s kb ((k, c, v) :: r) false
  | hit {k : K} {c c' : Addr} {v y : Value} {r : List (K × Addr × Value)} {e b : Bool} : atKey kb k = some (c', y) → SeqAt.EqAt A s v y e → HitsH A s kb r b → HitsH A s kb ((k, c, v) :: r) (e && b)
theorem HitsH.inv {kb : List (K × Addr × Value)} {k : K} {c : Addr} {v : Value} {r : List (K × Addr × Value)} {b : Bool} (h : HitsH A s kb ((k, c, v) :: r) b) :
    (atKey kb k = none ∧ b = false) ∨ ∃ c' y e b', atKey kb k = some (c', y) ∧ SeqAt.EqAt A s v y e ∧ HitsH A s kb r b' ∧ b = (e && b') := by
  cases h with
  | miss hn => exact .inl ⟨hn, rfl⟩
  | hit hy he hr => exact .inr ⟨_, _, _, _, hy, he, hr, rfl⟩
theorem samePairsH {nm : String} {a b : Addr} {ka kb : List (K × Addr × Value)} {r : Bool} {Q : Bool → Shared → Prop} (hu : knd.room A) (ha : (a == sysModules) = false) (hb : (b == sysModules) = false)
    (da : s.heap.DictOfH knd a ka) (db : s.heap.DictOfH knd b kb) (hits : ka.length = kb.length → HitsH A s kb ka r) (h : Q (ka.length == kb.length && r) s) :
    wpAny (model prog w) A (Builtin.Dict.samePairs nm a b) Q E s := by
  obtain ⟨oa, es, ep, hoa, _, hda, hka, hia, hna⟩ := da
  obtain ⟨ob, es', ep', hob, _, hdb, hkb, hib, hnb⟩ := db
  have hla : ka.length = es.size := (size_of_entries hka).symm
  have hlb : kb.length = es'.size := (size_of_entries hkb).symm
  rw [hla, hlb] at h
  unfold Builtin.Dict.samePairs Builtin.Dict.showsAll
  rw [if_neg (by rw [ha]; exact Bool.false_ne_true), if_neg (by rw [hb]; exact Bool.false_ne_true)]
  refine wpAny_bind (wpAny_pure (wpAny_bind (wpAny_pure ?_)))
  refine wpAny_bind (wpAny_dictEntries hoa hda ?_)
  dsimp only
  refine wpAny_bind (wpAny_dictEntries hob hdb ?_)
  by_cases hsz : es.size = es'.size
  case neg =>
    rw [if_pos (by simpa using hsz)]
    have hbf : (es.size == es'.size) = false := by simpa using hsz
    rw [hbf, Bool.false_and] at h
    exact wpAny_bind (wpAny_rule (wpAny_pure h))
  case pos =>
    have h' : Q r s := by simpa [hsz] using h
    have hits' := hits (by rw [hla, hlb]; exact hsz)
    rw [if_neg (by rw [hsz]; simp)]
    refine wpAny_bind (wpAny_dictEpoch hoa hda ?_)
    refine wpAny_bind ?_
    rw [Std.Legacy.Range.forIn_eq_forIn_range']
    simp only [Std.Legacy.Range.size, Nat.sub_zero, Nat.add_sub_cancel, Nat.div_one]
    refine wpAny_forIn_list _ (fun rest q s' => s' = s ∧ q = (none, ()) ∧ ∃ i, rest = List.range' i (es.size - i) ∧ i ≤ es.size ∧ HitsH A s kb (ka.drop i) r) _ ?_ ?_ _ _ ⟨rfl, rfl, 0, by simp, Nat.zero_le _, hits'⟩
    · rintro x rest q s' ⟨rfl, rfl, i, hr, hi, hpre⟩
      have hlt : i < es.size := by
        rcases Nat.lt_or_ge i es.size with c | c
        · exact c
        · rw [Nat.sub_eq_zero_of_le c] at hr
          simp at hr
      obtain ⟨rfl, hrest⟩ : x = i ∧ rest = List.range' (i + 1) (es.size - (i + 1)) := by
        have e : es.size - i = (es.size - (i + 1)) + 1 := by omega
        rw [e, List.range'_succ] at hr
        injection hr with g1 g2
        exact ⟨g1, g2⟩
      refine wpAny_bind (wpAny_dictEntries hoa hda ?_)
      rw [Array.getElem?_eq_getElem hlt]
      have hlt' : x < ka.length := by rw [hla]; exact hlt
      obtain ⟨k, c, v, hkv⟩ : ∃ k c v, ka[x] = (k, c, v) := ⟨_, _, _, rfl⟩
      have hdrop : ka.drop x = (k, c, v) :: ka.drop (x + 1) := by rw [← hkv]; exact List.drop_eq_getElem_cons hlt'
      have hent : es[x] = entryOfKey knd (k, c, v) := by
        have := entry_at hka x
        rw [Array.getElem?_eq_getElem hlt, List.getElem?_eq_getElem hlt', hkv] at this
        exact Option.some.inj this
      have hkey : knd.is s'.heap k c := hia (k, c, v) (by rw [← hkv]; exact List.getElem_mem hlt')
      rw [hdrop] at hpre
      rw [hent]
      show wpAny _ _ (holding [Value.ref c, v] _ >>= _) _ _ _
      refine wpAny_bind (wpAny_holding (wpAny_bind (wpAny_dictFind_heap hu hkey hob hdb hkb hib hnb (fun hno => ?_) (fun j p hj => ?_))))
      · have hn : atKey kb k = none := atKey_none_of_get hno
        rcases hpre.inv with ⟨_, er⟩ | ⟨_, y, _, _, hy, _⟩
        · rw [er] at h'
          refine wpAny_pure ?_
          show wpAny _ _ (if (!false) = true then _ else _) _ _ _
          rw [if_pos (by decide)]
          exact wpAny_pure (wpAny_pure h')
        · rw [hn] at hy
          exact nomatch hy
      · have hv' : atKey kb k = some p := atKey_of_get hnb hj
        have hjlt : j < es'.size := by
          have := (List.getElem?_eq_some_iff.mp hj).1
          omega
        have hent' : es'[j]? = some (entryOfKey knd (k, p)) := by rw [entry_at hkb, hj]; rfl
        refine wpAny_bind (wpAny_dictEntries hob hdb ?_)
        rw [hent']
        rcases hpre.inv with ⟨hn, _⟩ | ⟨c', y, e, b', hy, he, hrr, er⟩
        · rw [hv'] at hn
          exact nomatch hn
        · have ep2 : p = (c', y) := Option.some.inj (hv'.symm.trans hy)
          subst ep2
          refine wpAny_holding (he prog w _ _ ?_)
          cases e with
          | false =>
            rw [er, Bool.false_and] at h'
            show wpAny _ _ (if (!false) = true then _ else _) _ _ _
            rw [if_pos (by decide)]
            exact wpAny_pure (wpAny_pure h')
          | true =>
            rw [Bool.true_and] at er
            rw [← er] at hrr
            show wpAny _ _ (if (!true) = true then _ else _) _ _ _
            rw [if_neg (by decide)]
            refine wpAny_bind (wpAny_dictEpoch hoa hda ?_)
            rw [if_neg (by simp)]
            exact wpAny_pure ⟨rfl, rfl, x + 1, hrest, hlt, hrr⟩
    · rintro q s' ⟨rfl, rfl, i, hr, hi, hpre⟩
      have hin : i = es.size := by
        rcases Nat.lt_or_ge i es.size with c | c
        · have e : es.size - i = (es.size - (i + 1)) + 1 := by omega
          rw [e, List.range'_succ] at hr
          exact nomatch hr
        · exact Nat.le_antisymm hi c
      refine wpAny_pure ?_
      rw [hin, ← hla, List.drop_length] at hpre
      cases hpre
      exact h'
theorem eq_dictH {a b : Addr} {ka kb : List (K × Addr × Value)} {r : Bool} {Q : Value → Shared → Prop} (hk : knd.room A.in1) (ha : (a == sysModules) = false) (hb : (b == sysModules) = false)
    (da : s.heap.DictOfH knd a ka) (db : s.heap.DictOfH knd b kb) (hu : A.units < cLine) (hits : ka.length = kb.length → HitsH A.in1 s kb ka r) (h : Q (.bool (ka.length == kb.length && r)) s) :
    wpAny (model prog w) A (compareOp .Eq (.ref a) (.ref b)) Q E s := by
  refine wpAny_richCompare_same_room (op := .Eq) da.typeIs db.typeIs PySem.F.slot_dict_eq (wpAny_call_entry PySem.F.slot_dict_eq da.typeIs PySem.F.entry_dict_eq ?_ (PySem.F.args_dict_eq_2 _ _)) hu
  show wpAny _ _ (Builtin.Dict.dictSlotArgs "__eq__" ⟨[.ref a, .ref b], []⟩ >>= _) _ _ s
  refine wpAny_bind ?_
  unfold Builtin.Dict.dictSlotArgs
  refine wpAny_bind (wpAny_notOrdered_dict da.typeIs ?_)
  show wpAny _ _ (pure (Value.ref a, Value.ref b)) _ _ s
  refine wpAny_pure ?_
  refine wpAny_bind (wpAny_isInstance (T := "dict") db.typeIs PySem.F.sub_dict_dict ?_)
  simp only [Bool.not_true, Bool.false_eq_true, if_false]
  refine wpAny_bind (wpAny_pure (wpAny_bind (wpAny_pure ?_)))
  refine wpAny_bind (samePairsH hk ha hb da db hits ?_)
  refine wpAny_pure ⟨_, rfl, ?_, ?_⟩
  · exact fun x => nomatch x
  · simpa using h
end
/-- what == tells of two such dicts of as many entries -/
def sameT (ls : List (List Key × V)) : List (List Key × V) → Bool
  | [] => true
  | p :: r => match valV ls p.1 with
    | none => false
    | some y => eqV p.2 y && sameT ls r
theorem hits_same {A : Around} {s : Shared} {H H' : Hp} {ls : List (List Key × V)} {xb : List (List Key × Addr × Value)} (rb : KT H ls xb) (fb : ∀ p ∈ ls, flatV p.2 = true) : ∀ {ks : List (List Key × V)} {xa : List (List Key × Addr × Value)}, KT H' ks xa → (∀ p ∈ ks, flatV p.2 = true) → HitsH A s xb xa (sameT ls ks) := by
  intro ks xa ra
  induction ra with
  | nil => exact fun _ => .nil
  | @cons p q ps qs h t ih =>
    intro hp
    obtain ⟨k, c, v⟩ := q
    obtain ⟨h1, h2, h3⟩ := h
    have ih' := ih fun x hx => hp x (List.mem_cons_of_mem _ hx)
    have rv := rb.val p.1
    simp only at h1 h3
    subst h1
    unfold sameT
    cases e : valV ls p.1 with
    | none =>
      rw [e] at rv
      cases e2 : atKey xb p.1 with
      | none => exact .miss e2
      | some y =>
        rw [e2] at rv
        exact rv.elim
    | some y =>
      rw [e] at rv
      cases e2 : atKey xb p.1 with
      | none =>
        rw [e2] at rv
        exact rv.elim
      | some yy =>
        obtain ⟨c', y'⟩ := yy
        rw [e2] at rv
        have ry : RelV y y' := rv
        have fy : flatV y = true := by
          unfold valV at e
          obtain ⟨z, hz, ez⟩ := Option.map_eq_some_iff.mp e
          rw [← ez]
          exact fb z (List.mem_of_find?_eq_some hz)
        exact .hit e2 (eqAt_V h3 ry (hp p List.mem_cons_self) fy) ih'
section
variable {X : Cx}
def rEqT : R2 := fun x y H Q => ∃ (a b : Addr) (ks ls : List (List Key × V)), x = .ref a ∧ y = .ref b ∧ H a = some (.dT ks) ∧ H b = some (.dT ls) ∧ (∀ p ∈ ks, flatV p.2 = true) ∧ (∀ p ∈ ls, flatV p.2 = true) ∧ Q (.bl (decide (ks.length = ls.length) && sameT ls ks)) H
theorem op_eqT (hu : X.A.units + 1 < cLine) : OpR X (compareOp .Eq) rEqT := by
  intro pins s σ H x y v u Q I rx ry h
  obtain ⟨a, b, ks, ls, rfl, rfl, ea, eb, fa, fb, q⟩ := h
  obtain rfl : v = Value.ref a := rx
  obtain rfl : u = Value.ref b := ry
  obtain ⟨za, ya, xa, ra, da⟩ := dt_of I.hok ea
  obtain ⟨zb, yb, xb, rb, db⟩ := dt_of I.hok eb
  have la : xa.length = ks.length := (Paired.length ra).symm
  have lb : xb.length = ls.length := (Paired.length rb).symm
  refine eq_dictH (tupleKind_room_in1 hu) ya yb da db (by omega) (fun _ => hits_same rb fb ra fa) ?_
  refine ⟨.bl _, H, I, ?_, q⟩
  show Value.bool _ = Value.bool _
  rw [la, lb]
  congr 1
end
end KU

set_option Elab.async false
set_option linter.all false
set_option maxRecDepth 100000
set_option maxHeartbeats 1000000
/-! the same relations: the dicts are equal, the normal plans are equal. -/
namespace KU
open PySem L2 KD KM KJ KG
theorem same_all {ls : List (List Key × V)} : ∀ {ks : List (List Key × V)}, sameT ls ks = true ↔ ∀ p ∈ ks, ∃ y, valV ls p.1 = some y ∧ eqV p.2 y = true
  | [] => ⟨fun _ p h => absurd h List.not_mem_nil, fun _ => rfl⟩
  | p :: r => by
    unfold sameT
    cases e : valV ls p.1 with
    | none =>
      refine ⟨fun z => absurd z Bool.false_ne_true, fun h => ?_⟩
      obtain ⟨y, h1, _⟩ := h p List.mem_cons_self
      rw [e] at h1
      cases h1
    | some y =>
      show (eqV p.2 y && sameT ls r) = true ↔ _
      rw [Bool.and_eq_true, same_all (ls := ls) (ks := r)]
      refine ⟨fun h q hq => ?_, fun h => ⟨?_, fun q hq => h q (List.mem_cons_of_mem _ hq)⟩⟩
      · rcases List.mem_cons.mp hq with z | z
        · rw [z]
          exact ⟨y, e, h.1⟩
        · exact h.2 q z
      · obtain ⟨y', h1, h2⟩ := h p List.mem_cons_self
        rw [e] at h1
        cases h1
        exact h2
theorem RelTab.flat {d : PyData} {kvs : List (List Key × V)} (t : RelTab d kvs) : ∀ p ∈ kvs, flatV p.2 = true := fun p hp => by
  obtain ⟨x, y, r, e, _⟩ := t.tb.mem p hp
  rw [e]
  rfl
theorem eqV_str {a b : Str} : eqV (.str a) (.str b) = true ↔ a = b := by
  show (a == b) = true ↔ _
  exact beq_iff_eq
theorem tabs_same {d e : PyData} {o o' : Str} {ls ks : List (List Key × V)} (hd : formed d o = some (tl d)) (he : formed e o' = some (tl e)) (nd : (tl d).Nodup) (ne : (tl e).Nodup) (hs : ∀ x, x ∈ tl e ↔ x ∈ tl d) (td : RelTab d ls) (te : RelTab e ks) :
    (decide (ks.length = ls.length) && sameT ls ks) = true ↔ ∀ x y r, RelD x y e r → RelD x y d r := by
  rw [Bool.and_eq_true, decide_eq_true_eq, same_all]
  refine ⟨fun ⟨_, h⟩ x y r hr => ?_, fun h => ⟨?_, fun p hp => ?_⟩⟩
  · obtain ⟨y', h1, h2⟩ := h _ (valV_mem (te.val ne hr))
    obtain ⟨x2, y2, r2, e2, z⟩ := td.tb.mem _ (valV_mem h1)
    have e3 : pkI x y = pkI x2 y2 := congrArg Prod.fst e2
    have e4 : y' = V.str r2 := congrArg Prod.snd e2
    obtain ⟨rfl, rfl⟩ := pkI_inj e3
    subst e4
    rw [eqV_str.mp h2]
    exact z
  · have p : (ks.map (·.1)).Perm (ls.map (·.1)) := by
      rw [List.perm_ext_iff_of_nodup te.tb.nd td.tb.nd]
      intro k
      refine ⟨fun hk => ?_, fun hk => ?_⟩
      · obtain ⟨q, hq, rfl⟩ := List.mem_map.mp hk
        obtain ⟨x, y, r, e2, z⟩ := te.tb.mem q hq
        rw [e2]
        exact List.mem_map.mpr ⟨_, valV_mem (td.val nd (h x y r z)), rfl⟩
      · obtain ⟨q, hq, rfl⟩ := List.mem_map.mp hk
        obtain ⟨x, y, r, e2, z⟩ := td.tb.mem q hq
        rw [e2]
        obtain ⟨r', hr'⟩ := RelD.ex _ (Nat.lt_succ_self e.depth) he ((hs x).mpr z.mem.1) ((hs y).mpr z.mem.2) (z.ne' nd)
        exact List.mem_map.mpr ⟨_, valV_mem (te.val ne hr'), rfl⟩
    have := p.length_eq
    rw [List.length_map, List.length_map] at this
    exact this
  · obtain ⟨x, y, r, e2, z⟩ := te.tb.mem p hp
    rw [e2]
    exact ⟨_, td.val nd (h x y r z), eqV_str.mpr rfl⟩
-- == of two plans
mutual
theorem eqv_plan : ∀ (d : PyData) (o : Str), formed d o = some (tl d) → ∀ (e : PyData) (o' : Str), formed e o' = some (tl e) → (PyData.eqv d e = true ↔ d = e)
  | .int i, o, h, e, o', h' => by
    rcases plan_cases h' with ⟨j, rfl⟩ | ⟨w, ps, rfl, _⟩
    · simp [PyData.eqv]
    · simp [PyData.eqv]
  | .tuple [.str w, .tuple ps], o, h, e, o', h' => by
    have hp : ∀ p ∈ ps, formed p w = some (tl p) := by
      rcases plan_cases h with ⟨j, z⟩ | ⟨w2, ps2, z, _, _, _, _, hm⟩
      · cases z
      · cases z
        exact hm
    rcases plan_cases h' with ⟨j, rfl⟩ | ⟨u, qs, rfl, _, _, _, _, hq⟩
    · simp [PyData.eqv]
    · simp only [PyData.eqv, PyData.eqvAll, Bool.and_eq_true, Bool.and_true, beq_iff_eq]
      rw [eqv_plans ps w hp qs u hq]
      constructor
      · rintro ⟨rfl, rfl⟩
        rfl
      · intro z
        injection z with z
        injection z with z1 z2
        injection z1 with z1
        injection z2 with z2 _
        injection z2 with z2
        exact ⟨z1, z2⟩
  | .none, _, h, _, _, _ => by simp [formed] at h
  | .bool _, _, h, _, _, _ => by simp [formed] at h
  | .str _, _, h, _, _, _ => by simp [formed] at h
  | .list _, _, h, _, _, _ => by simp [formed] at h
  | .dict _, _, h, _, _, _ => by simp [formed] at h
  | .tuple [], _, h, _, _, _ => by simp [formed] at h
  | .tuple [_], _, h, _, _, _ => by simp [formed] at h
  | .tuple (.str _ :: .none :: _), _, h, _, _, _ => by simp [formed] at h
  | .tuple (.str _ :: .bool _ :: _), _, h, _, _, _ => by simp [formed] at h
  | .tuple (.str _ :: .int _ :: _), _, h, _, _, _ => by simp [formed] at h
  | .tuple (.str _ :: .str _ :: _), _, h, _, _, _ => by simp [formed] at h
  | .tuple (.str _ :: .list _ :: _), _, h, _, _, _ => by simp [formed] at h
  | .tuple (.str _ :: .dict _ :: _), _, h, _, _, _ => by simp [formed] at h
  | .tuple (.none :: _ :: _), _, h, _, _, _ => by simp [formed] at h
  | .tuple (.bool _ :: _ :: _), _, h, _, _, _ => by simp [formed] at h
  | .tuple (.int _ :: _ :: _), _, h, _, _, _ => by simp [formed] at h
  | .tuple (.tuple _ :: _ :: _), _, h, _, _, _ => by simp [formed] at h
  | .tuple (.list _ :: _ :: _), _, h, _, _, _ => by simp [formed] at h
  | .tuple (.dict _ :: _ :: _), _, h, _, _, _ => by simp [formed] at h
  | .tuple (.str _ :: .tuple _ :: _ :: _), _, h, _, _, _ => by simp [formed] at h
theorem eqv_plans : ∀ (ps : List PyData) (w : Str), (∀ p ∈ ps, formed p w = some (tl p)) → ∀ (qs : List PyData) (u : Str), (∀ q ∈ qs, formed q u = some (tl q)) → (PyData.eqvAll ps qs = true ↔ ps = qs)
  | [], _, _, qs, _, _ => by
    cases qs with
    | nil => simp [PyData.eqvAll]
    | cons q r => simp [PyData.eqvAll]
  | p :: r, w, hp, qs, u, hq => by
    cases qs with
    | nil => simp [PyData.eqvAll]
    | cons q s =>
      simp only [PyData.eqvAll, Bool.and_eq_true]
      rw [eqv_plan p w (hp p List.mem_cons_self) q u (hq q List.mem_cons_self), eqv_plans r w (fun x hx => hp x (List.mem_cons_of_mem _ hx)) s u fun x hx => hq x (List.mem_cons_of_mem _ hx)]
      simp
end
/-- normal plans are equal if the relations are -/
theorem norm_same {d e d' e' : PyData} {o : Str} (hd : formed d o = some (tl d)) (he : formed e o = some (tl e)) (nd : (tl d).Nodup) (ne : (tl e).Nodup) (hs : ∀ x, x ∈ tl e ↔ x ∈ tl d) (qd : Eqr o d d') (qe : Eqr o e e') (Nd : Normal d') (Ne : Normal e') :
    e' = d' ↔ ∀ x y r, RelD x y e r → RelD x y d r := by
  have nd' := qd.perm.symm.nodup nd
  have ne' := qe.perm.symm.nodup ne
  have bd := rel_back hd nd' (fun x => (qd.perm.mem_iff).symm) qd.rel
  have be := rel_back he ne' (fun x => (qe.perm.mem_iff).symm) qe.rel
  refine ⟨fun z x y r h => ?_, fun h => ?_⟩
  · subst z
    exact bd x y r (qe.rel x y r h)
  · exact uniq _ (Nat.lt_succ_self e'.depth) qe.form qd.form ne' nd' (fun x => by rw [qe.perm.mem_iff, qd.perm.mem_iff, hs x]) Ne Nd fun x y r hr => qd.rel x y r (h x y r (be x y r hr))
end KU

set_option Elab.async false
set_option linter.all false
set_option maxRecDepth 100000
set_option maxHeartbeats 4000000
namespace K2
open PySem L2 GxR GA KD KR KM KJ KS
open KG (RelD RelD.mem mem_tlL nodup_part one_place Eqr Eqs Normal mn rel_back)
open KU (RelTab Sm pkI op_eqT tabs_same norm_same eqv_plan)
def spLaw (K : PySem.W.Frag) (p1 : Addr) : Sp := fun vs H Q _ => ∃ (a : Addr) (ns : List Int), vs = [.ref a] ∧ SqL K H a (ns.map V.int) ∧ ns.length ≤ 63 ∧ TabG H p1 ∧ ∀ H', Q (.bl true) H'
abbrev LN : List Str := ["script", "stream", "size", "plan", "mixed", "other", "due", "found", "one", "two"]
theorem rng_nodup (n : Nat) : (rng n).Nodup := by
  unfold rng List.Nodup
  rw [List.pairwise_map]
  exact List.nodup_range.imp fun h e => h (by injection e)
/-- a drawn plan -/
structure Drawn (d : PyData) (n : Nat) : Prop where
  form : formed d "" = some (tl d)
  perm : (tl d).Perm (rng n)
theorem Drawn.nd {d : PyData} {n : Nat} (h : Drawn d n) : (tl d).Nodup := h.perm.symm.nodup (rng_nodup n)
theorem Drawn.len {d : PyData} {n : Nat} (h : Drawn d n) : (tl d).length = n := by rw [h.perm.length_eq, rng_length]
theorem Drawn.fine {d : PyData} {n : Nat} (h : Drawn d n) (n7 : n ≤ 7) : Fine d := K2.fine _ (Nat.lt_succ_self d.depth) h.form (by rw [h.len]; omega)
theorem Drawn.dep {d : PyData} {n : Nat} (h : Drawn d n) (n7 : n ≤ 7) : d.depth < 15 := by have := (h.fine n7).dep; rw [h.len] at this; omega
theorem Drawn.sh {d : PyData} {n : Nat} (h : Drawn d n) (n7 : n ≤ 7) : SeqAt.shaped d = true := (h.fine n7).shaped (by rw [h.len]; omega)
theorem Drawn.vd {d : PyData} {n : Nat} (h : Drawn d n) (n7 : n ≤ 7) : vdt d = n := vdt_plan h.form h.perm n7
theorem Drawn.sm {d : PyData} {n : Nat} (h : Drawn d n) (n7 : n ≤ 7) : Sm d := fun x hx => by
  have := mem_rng.mp (h.perm.mem_iff.mp hx)
  omega
theorem Drawn.eqr {d e : PyData} {n : Nat} (h : Drawn d n) (q : Eqr "" d e) : Drawn e n := ⟨q.form, q.perm.trans h.perm⟩
theorem Drawn.of {d : PyData} {w : Str} {ts : List Int} {n : Nat} (pD : PlanD d w ts) (hwo : wd w = true) (perm : ts.Perm (rng n)) : Drawn d n := by
  obtain ⟨l, hf0, hl⟩ := pD.form "" fun z => absurd hwo (by rw [← z]; decide +kernel)
  have etl := formed_tl _ _ _ hf0
  rw [← etl] at hf0 hl
  exact ⟨hf0, hl.trans perm⟩
theorem Drawn.both {d : PyData} {n : Nat} (h : Drawn d n) (n7 : n ≤ 7) {a b : Int} (hab : a ≠ b) (ha : 0 ≤ a ∧ a < n) (hb : 0 ≤ b ∧ b < n) : Both d "" a b := ⟨h.form, h.dep n7, by rw [h.len]; omega, h.nd, hab, h.perm.mem_iff.mpr (mem_rng.mpr ha), h.perm.mem_iff.mpr (mem_rng.mpr hb)⟩
section
variable {P : Program} {w : World} {K : PySem.W.Frag} {mg : Str → Option Value} {base : Heap}
theorem scLaw : FnScope LN ["script"] (defScope sLaw) := ⟨rfl, rfl, rfl, by decide +kernel, rfl, by decide +kernel, by decide +kernel⟩
theorem ok_law {f g1 g2 g3 g4 g5 g6 g7 g8 g9 gb p1 : Addr} {fd d1 d2 d3 d4 d5 d6 d7 d8 d9 db : FuncData} (F : Fun K "law" "law" sLaw f fd) (B : Bl K mg)
    (G1 : FnOk P w K mg base CX0 1 g1 d1 ["script"] (spStream K)) (b1 : Binds K d1 ["script"] []) (k1 : PySem.W.keepIn K (.ref g1) = true) (m1 : mg "_law_stream" = some (.ref g1))
    (G2 : FnOk P w K mg base CX0 1 g2 d2 ["stream", "many"] spNext) (b2 : Binds K d2 ["stream", "many"] []) (k2 : PySem.W.keepIn K (.ref g2) = true) (m2 : mg "_law_next" = some (.ref g2))
    (G3 : FnOk P w K mg base CX0 10 g3 d3 ["stream", "size"] spPlan) (b3 : Binds K d3 ["stream", "size"] []) (k3 : PySem.W.keepIn K (.ref g3) = true) (m3 : mg "_law_plan" = some (.ref g3))
    (G4 : FnOk P w K mg base CX0 18 g4 d4 ["stream", "plan"] (spMixed 15)) (b4 : Binds K d4 ["stream", "plan"] []) (k4 : PySem.W.keepIn K (.ref g4) = true) (m4 : mg "_law_mixed" = some (.ref g4))
    (G5 : FnOk P w K mg base CX0 32 g5 d5 ["plan"] (spNormal 15)) (b5 : Binds K d5 ["plan"] []) (k5 : PySem.W.keepIn K (.ref g5) = true) (m5 : mg "_law_normal" = some (.ref g5))
    (G6 : FnOk P w K mg base CX0 35 g6 d6 ["plan"] (spNorm p1)) (b6 : Binds K d6 ["plan"] []) (k6 : PySem.W.keepIn K (.ref g6) = true) (m6 : mg "normal" = some (.ref g6))
    (G7 : FnOk P w K mg base CX0 7 g7 d7 ["value", "size"] (spIsPlan p1)) (b7 : Binds K d7 ["value", "size"] []) (k7 : PySem.W.keepIn K (.ref g7) = true) (m7 : mg "is_plan" = some (.ref g7))
    (G8 : FnOk P w K mg base CX0 20 g8 d8 ["actual", "due"] (spEq 19)) (b8 : Binds K d8 ["actual", "due"] []) (k8 : PySem.W.keepIn K (.ref g8) = true) (m8 : mg "_law_equal" = some (.ref g8))
    (G9 : FnOk P w K mg base CX0 16 g9 d9 ["plan"] (spRelated 15)) (b9 : Binds K d9 ["plan"] []) (k9 : PySem.W.keepIn K (.ref g9) = true) (m9 : mg "_law_related" = some (.ref g9))
    (GB : FnOk P w K mg base CX0 18 gb db ["plan", "first", "second"] (spRelF p1)) (bB : Binds K db ["plan", "first", "second"] []) (kB : PySem.W.keepIn K (.ref gb) = true) (mB : mg "relation" = some (.ref gb)) :
    FnOk P w K mg base CX0 36 f fd ["script"] (spLaw K p1) := by
  refine F.ok scLaw (fun vs H Q E h => ?_) (fun cdv A outer s H vs Q E hr h => ?_)
  · obtain ⟨a, ns, rfl, _⟩ := h
    rfl
  obtain ⟨a, ns, rfl, hS, h63, hT, q⟩ := h
  have r1 : Room 1 _ := hr.mono (by decide)
  have r7 : Room 7 _ := hr.mono (by decide)
  have r10 : Room 10 _ := hr.mono (by decide)
  have r16 : Room 16 _ := hr.mono (by decide)
  have r18 : Room 18 _ := hr.mono (by decide)
  have r20 : Room 20 _ := hr.mono (by decide)
  have r32 : Room 32 _ := hr.mono (by decide)
  refine ⟨_, pss_cons (ps_set (i := 1) scLaw.nd rfl (Or.inl rfl) (pe_call G1 r1 rfl m1 k1 b1 .nil pass0 (pa_cons (pv 0) pa_nil)))
    (pss_cons (ps_set (i := 2) scLaw.nd rfl (Or.inl rfl) (pe_op op_add pe_int (pe_call G2 r1 rfl m2 k2 b2 .nil pass0 (pa_cons (pv 1) (pa_cons pe_int pa_nil)))))
    (pss_cons (ps_set (i := 3) scLaw.nd rfl (Or.inl rfl) (pe_call G3 r10 rfl m3 k3 b3 .nil pass0 (pa_cons (pv 1) (pa_cons (pv 2) pa_nil))))
    (pss_cons (ps_set (i := 4) scLaw.nd rfl (Or.inl rfl) (pe_call G4 r18 rfl m4 k4 b4 .nil pass0 (pa_cons (pv 1) (pa_cons (pv 3) pa_nil))))
    (pss_cons (ps_set (i := 5) scLaw.nd rfl (Or.inl rfl) (pe_call G3 r10 rfl m3 k3 b3 .nil pass0 (pa_cons (pv 1) (pa_cons (pv 2) pa_nil))))
    (pss_cons (ps_set (i := 6) scLaw.nd rfl (Or.inl rfl) (pe_call G5 r32 rfl m5 k5 b5 .nil pass0 (pa_cons (pv 3) pa_nil)))
    (pss_cons (ps_if (pt_not (pt_val (pe_call G8 r20 rfl m8 k8 b8 .nil pass0 (pa_cons (pe_lst (pa_cons (pe_call G6 hr rfl m6 k6 b6 .nil pass0 (pa_cons (pv 3) pa_nil)) (pa_cons (pe_call G6 hr rfl m6 k6 b6 .nil pass0 (pa_cons (pv 4) pa_nil))
          (pa_cons (pe_call G6 hr rfl m6 k6 b6 .nil pass0 (pa_cons (pv 6) pa_nil)) (pa_cons (pe_call G7 r7 rfl m7 k7 b7 .nil pass0 (pa_cons (pv 6) (pa_cons (pv 2) pa_nil))) pa_nil)))))
        (pa_cons (pe_lst (pa_cons (pv 6) (pa_cons (pv 6) (pa_cons (pv 6) (pa_cons pe_bl pa_nil))))) pa_nil))))) (pss_one (ps_ret pe_bl)) pss_nil)
    (pss_cons (ps_set (i := 7) scLaw.nd rfl (Or.inl rfl) (pe_call G9 r16 rfl m9 k9 b9 .nil pass0 (pa_cons (pv 3) pa_nil)))
    (pss_cons (ps_for PassesOwn.never rfl (pi_range1 rfl B.range (pa_cons (pv 2) pa_nil)) (pg_name (i := 8) scLaw.nd rfl (Or.inl rfl))
      (pss_one (ps_for PassesOwn.never rfl (pi_range1 rfl B.range (pa_cons (pv 2) pa_nil)) (pg_name (i := 9) scLaw.nd rfl (Or.inl rfl))
        (pss_one (ps_if (PW.pt (pw_and (pt_cmpR op_ne (pv 8) (pv 9) (nomark _)) (pw_and1 (pt_not (pt_val (pe_call G8 r20 rfl m8 k8 b8 .nil pass0 (pa_cons (pe_lst
              (pa_cons (pe_call GB r18 rfl mB kB bB .nil pass0 (pa_cons (pv 3) (pa_cons (pv 8) (pa_cons (pv 9) pa_nil)))) (pa_cons (pe_call GB r18 rfl mB kB bB .nil pass0 (pa_cons (pv 4) (pa_cons (pv 8) (pa_cons (pv 9) pa_nil))))
              (pa_cons (pe_call GB r18 rfl mB kB bB .nil pass0 (pa_cons (pv 6) (pa_cons (pv 8) (pa_cons (pv 9) pa_nil)))) pa_nil))))
            (pa_cons (pe_op op_rep (pe_lst (pa_cons (pe_dget (hu_of hr) (pv 7) (pe_tup (pa_cons (pv 8) (pa_cons (pv 9) pa_nil))) (fun _ _ => rfl)) pa_nil)) pe_int) pa_nil)))))))) (pss_one (ps_ret pe_bl)) pss_nil)))))
    (pss_one (ps_ret (pe_cmpR op_eq (pe_cmpR (op_eqD hr.units) (pe_call G6 hr rfl m6 k6 b6 .nil pass0 (pa_cons (pv 5) pa_nil)) (pv 6) (nomark _)) (pe_cmpR (op_eqT (hu_of hr)) (pe_call G9 r16 rfl m9 k9 b9 .nil pass0 (pa_cons (pv 5) pa_nil)) (pv 7) (nomark _)) (nomark _)))))))))))), ?_⟩
  refine ⟨_, rfl, a, ns, rfl, hS, h63, fun st c H1 hst k1' s1 => ?_⟩
  refine ⟨_, rfl, st, c, 7, rfl, s1, by decide, by decide, fun d0 H2 d00 d01 k2' s2 => ?_⟩
  refine ⟨1, d0, rfl, rfl, ?_⟩
  obtain ⟨n, en⟩ : ∃ n : Nat, (1 : Int) + d0 = (n : Int) := ⟨(1 + d0).toNat, by omega⟩
  have n1 : 1 ≤ n := by omega
  have n7 : n ≤ 7 := by omega
  dsimp only
  rw [en]
  refine ⟨_, rfl, _, rfl, st, c, n, rfl, s2, n1, n7, fun v d wo ts H3 aP pD hwo perm k3' s3 => ?_⟩
  have hd := Drawn.of pD hwo perm
  refine ⟨_, rfl, _, rfl, st, c, v, d, "", rfl, s3, aP, hd.form, hd.dep n7, by rw [hd.len]; exact n7, hd.nd, fun vm m H4 aM qM k4' s4 => ?_⟩
  have hm := hd.eqr qM
  refine ⟨_, rfl, _, rfl, st, c, n, rfl, s4, n1, n7, fun vo e wo2 ts2 H5 aO pO hwo2 perm2 k5' s5 => ?_⟩
  have he := Drawn.of pO hwo2 perm2
  have kk5 := ((k1'.any (M := MS st)).trans (k2'.trans (k3'.trans (k4'.trans k5'))))
  have a5 := ((aP.kp k4').kp k5').mn
  have m5' := (aM.kp k5').mn
  have o5 := aO.mn
  refine ⟨_, rfl, v, d, "", rfl, a5, hd.form, hd.dep n7, by rw [hd.len]; exact n7, hd.nd, fun vu u H6 aU qU nU k6' => ?_⟩
  have hu := hd.eqr qU
  have T6 : TabG H6 p1 := (kk5.trans k6'.any).tbl _ hT
  have bM : ∀ x y r, RelD x y m r → RelD x y d r := rel_back hd.form hm.nd (fun x => (qM.perm.mem_iff).symm) qM.rel
  have bU : ∀ x y r, RelD x y u r → RelD x y d r := rel_back hd.form hu.nd (fun x => (qU.perm.mem_iff).symm) qU.rel
  -- the three normal plans
  refine ⟨_, rfl, v, d, "", rfl, a5.kp k6', hd.form, hd.dep n7, by rw [hd.len]; exact n7, hd.nd, hd.sh n7, T6, by rw [hd.vd n7]; omega, fun v1 u1 H7 a1 q1 nn1 k7' => ?_⟩
  refine ⟨_, rfl, vm, m, "", rfl, (m5'.kp k6').kp k7', hm.form, hm.dep n7, by rw [hm.len]; exact n7, hm.nd, hm.sh n7, k7'.tbl _ T6, by rw [hm.vd n7]; omega, fun v2 u2 H8 a2 q2 nn2 k8' => ?_⟩
  refine ⟨_, rfl, vu, u, "", rfl, (aU.kp k7').kp k8', hu.form, hu.dep n7, by rw [hu.len]; exact n7, hu.nd, hu.sh n7, k8'.tbl _ (k7'.tbl _ T6), by rw [hu.vd n7]; omega, fun v3 u3 H9 a3 q3 nn3 k9' => ?_⟩
  have e1 : u1 = u := (norm_same hd.form hd.form hd.nd hd.nd (fun _ => Iff.rfl) qU q1 nU nn1).2 fun _ _ _ h => h
  have e2 : u2 = u := (norm_same hd.form hm.form hd.nd hm.nd (fun x => qM.perm.mem_iff) qU q2 nU nn2).2 bM
  have e3 : u3 = u := (norm_same hd.form hu.form hd.nd hu.nd (fun x => qU.perm.mem_iff) qU q3 nU nn3).2 bU
  subst e1 e2
  have e3 := e3
  subst e3
  have k79 := k7'.trans (k8'.trans k9')
  have aU9 := aU.kp k79
  refine ⟨_, rfl, _, rfl, vu, .int (n : Int), u3, .int (n : Int), rfl, aU9, .int _, hu.sh n7, k79.tbl _ T6, fun H10 k10' => ?_⟩
  have hPl : isPl u3 (.int (n : Int)) = true := by
    show (decide (1 ≤ (n : Int) ∧ (n : Int) ≤ 7) && decide ((vdt u3 : Int) = (n : Int))) = true
    rw [hu.vd n7, decide_eq_true (by omega), decide_eq_true rfl]
    rfl
  rw [hPl]
  have k710 := k79.trans k10'
  have aU10 := aU.kp k710
  refine ⟨(by show 4 ≤ sizeLine; decide), fun p hp => ?_⟩
  have kp1 : Kp MN H10 (upd H10 p (.lst [v1, v2, v3, .bl true])) := Kp.new hp
  have al1 : AtL MN (upd H10 p (.lst [v1, v2, v3, .bl true])) [v1, v2, v3, .bl true] [u3, u3, u3, .bool true] :=
    (AtL.cons (((a1.kp k8').kp k9').kp k10') (.cons ((a2.kp k9').kp k10') (.cons (a3.kp k10') (.cons (.bl true) .nil)))).kp kp1
  have ep : upd H10 p (.lst [v1, v2, v3, .bl true]) p = some (.lst [v1, v2, v3, .bl true]) := upd_same
  generalize upd H10 p (.lst [v1, v2, v3, .bl true]) = H11 at kp1 al1 ep
  refine ⟨_, rfl, _, rfl, _, rfl, (by show 4 ≤ sizeLine; decide), fun p2 hp2 => ?_⟩
  have kp2 : Kp MN H11 (upd H11 p2 (.lst [vu, vu, vu, .bl true])) := Kp.new hp2
  have aU11 := (aU10.kp kp1).kp kp2
  have fu := hu.fine n7
  have du := hu.dep n7
  refine ⟨_, _, .list [u3, u3, u3, .bool true], .list [u3, u3, u3, .bool true], rfl, (At.lst ep (fun z => z) al1).kp kp2, .lst upd_same (fun z => z) (.cons aU11 (.cons aU11 (.cons aU11 (.cons (.bl true) .nil)))), ?_, ?_, fun H12 k12' => ⟨_, rfl, ?_⟩⟩
  · simp only [PyData.depth, PyData.depthAll]
    omega
  · simp [slim, slimL, fu.slm]
  rw [leq_refl _ (by simp [PyData.canLay0, PyData.canLayAll0, fu.lay])]
  refine iteF ?_
  have k612 := k710.trans (kp1.trans (kp2.trans k12'))
  have k512 := k6'.trans k612
  have a12 := a5.kp k512
  have m12 := m5'.kp k512
  have o12 := o5.kp k512
  have aU12 := aU.kp k612
  have T12 := k612.tbl _ T6
  -- the relations
  refine ⟨_, rfl, v, d, "", rfl, a12, hd.form, hd.dep n7, by rw [hd.len]; exact n7, hd.nd, hd.sm n7, fun Fd kvs H13 hFd k13' e13 tab => ?_⟩
  refine ⟨_, rfl, _, rfl, by omega, by omega, ?_⟩
  have tn : ((n : Int)).toNat = n := by omega
  have a13 := a12.kp k13'
  have m13 := m12.kp k13'
  have o13 := o12.kp k13'
  have aU13 := aU12.kp k13'
  have T13 := k13'.tbl _ T12
  refine for_range (lo := 0) (n := ((n : Int)).toNat) (fun i σ H' => ∃ x8 x9, σ = [some (.ref a), some (.ref st), some (.int n), some v, some vm, some vo, some vu, some (.ref Fd), x8, x9] ∧ Kp MN H13 H')
    ⟨none, none, rfl, .refl⟩ (fun i σ H' hi p => ?_) (fun σ H14 p => ?_)
  · obtain ⟨x8, x9, rfl, k⟩ := p
    refine ⟨_, rfl, _, rfl, by omega, by omega, ?_⟩
    refine for_range (lo := 0) (n := ((n : Int)).toNat) (fun j σ H' => ∃ x9, σ = [some (.ref a), some (.ref st), some (.int n), some v, some vm, some vo, some vu, some (.ref Fd), some (.int (0 + (i : Int))), x9] ∧ Kp MN H13 H')
      ⟨x9, rfl, k⟩ (fun j σ H' hj p => ?_) (fun σ H' p => ?_)
    · obtain ⟨x9, rfl, k⟩ := p
      refine ⟨_, rfl, _, rfl, rfl, _, rfl, ?_⟩
      by_cases c1 : i = j
      · subst c1
        have : (!decide (V.int (0 + (i : Int)) = V.int (0 + (i : Int)))) = false := by rw [decide_eq_true rfl]; rfl
        rw [this]
        refine iteF ?_
        exact ⟨_, rfl, k⟩
      · have : (!decide (V.int (0 + (i : Int)) = V.int (0 + (j : Int)))) = true := by
          rw [decide_eq_false fun z => by injection z with z; omega]; rfl
        rw [this]
        refine iteT ?_
        have hij : (0 + (i : Int)) ≠ 0 + (j : Int) := by omega
        have hir : 0 ≤ (0 + (i : Int)) ∧ (0 + (i : Int)) < n := by omega
        have hjr : 0 ≤ (0 + (j : Int)) ∧ (0 + (j : Int)) < n := by omega
        have vD := hd.vd n7
        have vM := hm.vd n7
        have vU := hu.vd n7
        refine ⟨_, rfl, _, rfl, _, rfl, v, d, "", _, _, rfl, a13.kp k, hd.both n7 hij hir hjr, hd.sh n7, k.tbl _ T13, by omega, by omega, by omega, by omega, fun r H14 hr1 k14 => ?_⟩
        have kA := k.trans k14
        refine ⟨_, rfl, _, rfl, _, rfl, vm, m, "", _, _, rfl, m13.kp kA, hm.both n7 hij hir hjr, hm.sh n7, kA.tbl _ T13, by omega, by omega, by omega, by omega, fun r2 H15 hr2 k15 => ?_⟩
        have er2 : r2 = r := (bM _ _ _ hr2).uniq hd.nd hr1
        subst er2
        have kB' := kA.trans k15
        refine ⟨_, rfl, _, rfl, _, rfl, vu, u3, "", _, _, rfl, aU13.kp kB', hu.both n7 hij hir hjr, hu.sh n7, kB'.tbl _ T13, by omega, by omega, by omega, by omega, fun r3 H16 hr3 k16 => ?_⟩
        have er3 : r3 = r2 := (bU _ _ _ hr3).uniq hd.nd hr1
        subst er3
        have kC := kB'.trans k16
        refine ⟨(by show 3 ≤ sizeLine; decide), fun q1 hq1 => ?_⟩
        have kq1 : Kp MN H16 (upd H16 q1 (.lst [.str r3, .str r3, .str r3])) := Kp.new hq1
        have eq1 : upd H16 q1 (.lst [.str r3, .str r3, .str r3]) q1 = some (.lst [.str r3, .str r3, .str r3]) := upd_same
        generalize upd H16 q1 (.lst [.str r3, .str r3, .str r3]) = H17 at kq1 eq1
        have kD := kC.trans kq1
        refine ⟨_, rfl, _, rfl, _, rfl, (by show 2 ≤ sizeLine; decide), fun t ht => ?_⟩
        have eF := kD.dct _ _ (fun z => z) e13
        have nFt := ne_of_none eF ht
        have kt : Kp MN H17 (upd H17 t (.tup [.int (0 + (i : Int)), .int (0 + (j : Int))])) := Kp.new ht
        refine ⟨Fd, .str r3, rfl, ?_, ?_⟩
        · have := DGet.t (k := pkI (0 + (i : Int)) (0 + (j : Int))) (H := upd H17 t (.tup [.int (0 + (i : Int)), .int (0 + (j : Int))])) (a := Fd) (b := t) (kvs := kvs) (by rw [upd_ne nFt]; exact eF) upd_same
          rw [tab.val hd.nd hr1] at this
          exact this
        · generalize upd H17 t (.tup [.int (0 + (i : Int)), .int (0 + (j : Int))]) = H18 at kt
          refine ⟨(by show 1 ≤ sizeLine; decide), fun q2 hq2 => ?_⟩
          have kq2 : Kp MN H18 (upd H18 q2 (.lst [.str r3])) := Kp.new hq2
          refine ⟨q2, 3, [.str r3], rfl, rfl, upd_same, by decide, by decide, (by show 3 ≤ sizeLine; decide), fun q3 hq3 => ?_⟩
          have kq3 : Kp MN (upd H18 q2 (.lst [.str r3])) (upd (upd H18 q2 (.lst [.str r3])) q3 (.lst [.str r3, .str r3, .str r3])) := Kp.new hq3
          have kE := kt.trans (kq2.trans kq3)
          refine ⟨_, _, .list [.str r3, .str r3, .str r3], .list [.str r3, .str r3, .str r3], rfl, (At.lst eq1 (fun z => z) (.cons (.str _) (.cons (.str _) (.cons (.str _) .nil)))).kp kE, .lst upd_same (fun z => z) (.cons (.str _) (.cons (.str _) (.cons (.str _) .nil))), ?_, ?_, fun H19 k19 => ⟨_, rfl, ?_⟩⟩
          · simp [PyData.depth, PyData.depthAll]
          · simp [slim, slimL]
          · have : leq (.list [.str r3, .str r3, .str r3]) (.list [.str r3, .str r3, .str r3]) = true := by simp [leq, leqL]
            rw [this]
            refine iteF ?_
            exact ⟨_, rfl, kD.trans (kE.trans k19)⟩
    · obtain ⟨x9, rfl, k⟩ := p
      exact ⟨_, _, rfl, k⟩
  obtain ⟨x8, x9, rfl, k14'⟩ := p
  have o14 := o13.kp k14'
  have T14 := k14'.tbl _ T13
  refine ⟨_, rfl, vo, e, "", rfl, o14, he.form, he.dep n7, by rw [he.len]; exact n7, he.nd, he.sh n7, T14, by rw [he.vd n7]; omega, fun vn w1 H15 an qn nnn k15' => ?_⟩
  have hw1 := he.eqr qn
  refine ⟨_, rfl, w1, u3, an.dp, ((aU13.kp k14').kp k15').dp, hw1.sh n7, hu.sh n7, ?_⟩
  refine ⟨_, rfl, vo, e, "", rfl, o14.kp k15', he.form, he.dep n7, by rw [he.len]; exact n7, he.nd, he.sm n7, fun Fo kvo H16 hFo k16' e16 tabo => ?_⟩
  have e16F := ((k14'.trans k15').trans k16').dct _ _ (fun z => z) e13
  refine ⟨_, rfl, Fo, Fd, kvo, kvs, rfl, rfl, e16, e16F, tabo.flat, tab.flat, ?_⟩
  refine ⟨rfl, ?_⟩
  have hs : ∀ x, x ∈ tl e ↔ x ∈ tl d := fun x => by rw [he.perm.mem_iff, hd.perm.mem_iff]
  have t1 := tabs_same hd.form he.form hd.nd he.nd hs tab tabo
  have t2 := norm_same hd.form he.form hd.nd he.nd hs qU qn nU nnn
  have t3 := eqv_plan w1 "" hw1.form u3 "" hu.form
  have key : PyData.eqv w1 u3 = (decide (kvo.length = kvs.length) && KU.sameT kvs kvo) := by
    rw [Bool.eq_iff_iff, t3, t1]
    exact t2
  rw [key, decide_eq_true rfl]
  exact q H16
end
end K2

set_option Elab.async false
set_option linter.all false
set_option maxRecDepth 100000
set_option maxHeartbeats 4000000
/-! ### the program's top -/
namespace K2
open PySem L2 GxR GA KD KR KM KJ PyProof.Rows
/-- the def x stands at f, its code at cd -/
structure Stands (K : PySem.W.Frag) (x : Str) (st : Stmt) (f : Addr) (cd : Value) : Prop where
  ns : PySem.W.nsIn K mainGlobals x = some (some (.ref f))
  ex : ∃ (oc : Value) (od : Option Addr) (kV doc pm : Value) (an : Option Addr) (ct : Value) (osl : Array (Option Value)), K.lookup f = some ⟨oc, od, .func (PySem.W.fnOf x x (defArgs st) (defBody st) (defScope st) .none kV doc pm an cd ct), osl⟩
  cd : PySem.W.codeIn K cd x = true
  kp : PySem.W.keepIn K (.ref f) = true
theorem stands_mk {K : PySem.W.Frag} {x : Str} {st : Stmt} {f : Addr} {cd oc kV doc pm ct : Value} {od an : Option Addr} {osl : Array (Option Value)} (a : PySem.W.nsIn K mainGlobals x = some (some (.ref f)))
    (l : K.lookup f = some ⟨oc, od, .func (PySem.W.fnOf x x (defArgs st) (defBody st) (defScope st) .none kV doc pm an cd ct), osl⟩) (c : PySem.W.codeIn K cd x = true) (k : PySem.W.keepIn K (.ref f) = true) : Stands K x st f cd := ⟨a, ⟨oc, od, kV, doc, pm, an, ct, osl, l⟩, c, k⟩
theorem code_mk {K : PySem.W.Frag} {c PT : Addr} {e : Value} {dd : Option Addr} {vs : Array Value} {sl : Array (Option Value)} (l : K.lookup c = some ⟨e, dd, .fields vs, sl⟩) (p : vs[11]? = some (.ref PT)) :
    ∃ (e : Value) (dd : Option Addr) (vs : Array Value) (sl : Array (Option Value)), K.lookup c = some ⟨e, dd, .fields vs, sl⟩ ∧ vs[11]? = some (.ref PT) := ⟨e, dd, vs, sl, l, p⟩
def WordsT (K : PySem.W.Frag) (aw : Addr) : Prop := ∃ (cl : Value) (dd : Option Addr) (n : Nat) (u1 u2 : Tok) (sl : Array (Option Value)), K.lookup aw = some ⟨cl, dd, .seq #[.str "then" u1, .str "beside" u2] n, sl⟩ ∧ cl = .type "tuple"
theorem words_mk {K : PySem.W.Frag} {aw : Addr} {cl : Value} {dd : Option Addr} {n : Nat} {u1 u2 : Tok} {sl : Array (Option Value)} (l : K.lookup aw = some ⟨cl, dd, .seq #[.str "then" u1, .str "beside" u2] n, sl⟩) (p : cl = .type "tuple") : WordsT K aw := ⟨cl, dd, n, u1, u2, sl, l, p⟩
def RelsT (K : PySem.W.Frag) (aw : Addr) : Prop := ∃ (cl : Value) (dd : Option Addr) (n : Nat) (u1 u2 u3 : Tok) (sl : Array (Option Value)), K.lookup aw = some ⟨cl, dd, .seq #[.str "before" u1, .str "beside" u2, .str "after" u3] n, sl⟩ ∧ cl = .type "tuple"
theorem rels_mk {K : PySem.W.Frag} {aw : Addr} {cl : Value} {dd : Option Addr} {n : Nat} {u1 u2 u3 : Tok} {sl : Array (Option Value)} (l : K.lookup aw = some ⟨cl, dd, .seq #[.str "before" u1, .str "beside" u2, .str "after" u3] n, sl⟩) (p : cl = .type "tuple") : RelsT K aw := ⟨cl, dd, n, u1, u2, u3, sl, l, p⟩
def OppsT (K : PySem.W.Frag) (w : World) (a : Addr) : Prop := KDct K w a "before" (.str "after") ∧ KDct K w a "beside" (.str "beside") ∧ KDct K w a "after" (.str "before")
theorem opps_mk {K : PySem.W.Frag} {w : World} {a : Addr} {cl : Value} {dd : Option Addr} {es : Array DictEntry} {n : Nat} {sl : Array (Option Value)} {u1 u2 u3 : Tok} (l : K.lookup a = some ⟨cl, dd, .dict es n, sl⟩) (p1 : cl = .type "dict") (p2 : dd = none) (p3 : sl = #[])
    (k : PySem.W.KeysLit w.params es.toList) (g1 : PySem.W.nsIn K a "before" = some (some (.str "after" u1))) (g2 : PySem.W.nsIn K a "beside" = some (some (.str "beside" u2))) (g3 : PySem.W.nsIn K a "after" = some (some (.str "before" u3))) : OppsT K w a := by
  subst p1 p2 p3
  exact ⟨⟨es, n, _, l, k, g1, _, rfl⟩, ⟨es, n, _, l, k, g2, _, rfl⟩, ⟨es, n, _, l, k, g3, _, rfl⟩⟩
theorem Stands.out {K : PySem.W.Frag} {x : Str} {st : Stmt} {f : Addr} {cd : Value} (S : Stands K x st f cd) {ps : List Str}
    (h : ∀ (kV doc pm : Value) (an : Option Addr) (cdv ct : Value) (us : List Value), us.length = ps.length → bindArgs (PySem.W.fnOf x x (defArgs st) (defBody st) (defScope st) .none kV doc pm an cdv ct) ⟨us, []⟩ = pure (ps.zip us)) :
    ∃ fd : FuncData, Fun K x x st f fd ∧ Binds K fd ps [] ∧ ∀ c, cd = .ref c → FunT K x x st f fd c := by
  obtain ⟨oc, od, kV, doc, pm, an, ct, osl, e⟩ := S.ex
  have F := fun_mk e S.cd S.kp
  refine ⟨_, F, F.binds h, fun c ec => ?_⟩
  subst ec
  exact funT_mk e S.cd S.kp
theorem Stands.mg {K : PySem.W.Frag} {x : Str} {st : Stmt} {f : Addr} {cd : Value} {h : Heap} {mg : Str → Option Value} (S : Stands K x st f cd) (X : K.In h) (G : h.Ns mainGlobals mg) : mg x = some (.ref f) := PySem.W.mg_of X G S.ns
/-- the table of the def nm is empty at the head's end -/
def TabOf (nm : Str) (mg : Str → Option Value) (h : Heap) : Prop := ∃ (a : Addr) (o : Obj) (fd : FuncData) (c P : Addr), mg nm = some (.ref a) ∧ h.get? a = some o ∧ o.data = .func fd ∧ fd.code = .ref c ∧ h.IsCode c P #[] ∧ h.TableAt c P #[]
theorem TabOf.at_ {K : PySem.W.Frag} {x : Str} {st : Stmt} {f c PT : Addr} {h : Heap} {mg : Str → Option Value} (T : TabOf x mg h) (X : K.In h) (G : h.Ns mainGlobals mg) (S : Stands K x st f (.ref c))
    (hc : ∃ (e : Value) (dd : Option Addr) (vs : Array Value) (sl : Array (Option Value)), K.lookup c = some ⟨e, dd, .fields vs, sl⟩ ∧ vs[11]? = some (.ref PT)) : h.get? PT = some { cls := .none, data := .fields #[] } ∧ PySem.W.CodeHd h c PT := by
  obtain ⟨a, o, fd, c', P', h1, h2, h3, h4, h5, h6⟩ := T
  obtain ⟨oc, od, kV, doc, pm, an, ct, osl, e⟩ := S.ex
  rw [S.mg X G] at h1
  cases h1
  rw [X _ _ e] at h2
  cases h2
  cases h3
  cases h4
  obtain ⟨e1, dd, vs, sl, k1, k2⟩ := hc
  have hh := h6
  obtain ⟨⟨o2, v2, g1, g2, g3, g4⟩, hP⟩ := h6
  rw [X _ _ k1] at g1
  cases g1
  cases g3
  rw [k2] at g4
  cases g4
  exact ⟨hP, PySem.W.CodeHd.of h5 hh⟩
theorem walk_tabs {l : PySem.W.OpenLaw} {q : Program} {loose : List Str} {XP : (Str → Option Value) → Heap → Prop} {YP : World → Heap → Prop} {d : DefRec} {K : Params → PySem.W.Frag} {k : Nat} (nms : List Str) (hk : Room k callerA)
    (hn : l.most = some 63) (hdf : d.params.defaults = []) (hrec : (nms.all fun nm => (recsOf q).any fun e => e.name == nm) = true) (hY : ∀ (w : World) (h : Heap), YP w h → (K w.params).In h)
    (F : ∀ (w : World) (mg : Str → Option Value) (fa : Addr) (h : Heap), (K w.params).In h → h.Ns mainGlobals mg → mg d.name = some (.ref fa) → (∀ nm ∈ nms, TabOf nm mg h) → LamX.LawAtS l w (K w.params) CX0 k 63 "script" mg fa h) :
    PySem.W.WalkO q loose XP YP l.row.toRowW d [] (fun f vs => PySem.call f vs) := by
  refine Att.attach_callB hn hdf fun w s₀ s₁ mg mb fa o pm cd doc a vs ns G Y _ _ _ hmg hobj hints hlen hbits hg => ?_
  have tab : ∀ nm ∈ nms, TabOf nm mg s₁.heap := fun nm hnm => by
    obtain ⟨r, hm, hr⟩ := List.any_eq_true.mp (List.all_eq_true.mp hrec nm hnm)
    have er : r.name = nm := beq_iff_eq.mp hr
    have t := G.T.tab r hm
    rw [er] at t
    exact t
  obtain ⟨fd, cs, sp, t1, t2, t3, hb, hsp, hF⟩ := F w mg fa _ (hY w _ Y) G.T.g hmg tab
  exact LamX.law_callTs (hY w _ Y) G.T.g G.T.b G.T.builtins G.T.nolimit hg t1 t2 t3 G.T.bmain hobj hints (Nat.le_trans hlen (by decide)) hk hF hb
    (fun H hH hS => hsp H a ns hlen hbits hH hS) fun _ _ _ z => z
theorem all_mk {l : PySem.W.OpenLaw} {w : World} {K : PySem.W.Frag} {h : Heap} {mg : Str → Option Value} {fa p1 cq09 gq05 gq06 gq07 gq08 gq09 gq10 gq13 gq14 gq15 gq16 gq17 gq18 gq19 gq20 gq21 gq22 gq23 gq24 gq26 gq27 gq28 gq29 gq30 gq31 gq32 gq33 gq34 gq35 gq36 gq37 gq38 aw : Addr} {cq05 cq06 cq07 cq08 cq10 cq13 cq14 cq15 cq16 cq17 cq18 cq19 cq20 cq21 cq22 cq23 cq24 cq26 cq27 cq28 cq29 cq30 cq31 cq32 cq33 cq34 cq35 cq36 cq37 cq38 : Value} {t7 : Tok}
    (X : K.In h) (G : h.Ns mainGlobals mg) (hfa : mg "law" = some (.ref fa)) (T : ∀ nm ∈ (["are_indexes"] : List Str), TabOf nm mg h)
    (sq05 : Stands K "require" sRequire gq05 cq05)
    (sq06 : Stands K "is_integer" sIsInt gq06 cq06)
    (sq07 : Stands K "is_size" sIsSize gq07 cq07)
    (sq08 : Stands K "is_index" sIsTask gq08 cq08)
    (sq09 : Stands K "are_indexes" sAreTasks gq09 (.ref cq09))
    (sq10 : Stands K "is_order" sIsOrder gq10 cq10)
    (sq13 : Stands K "is_plan" sIsPlan gq13 cq13)
    (sq14 : Stands K "normal" sNormal gq14 cq14)
    (sq15 : Stands K "relation" sRelation gq15 cq15)
    (sq16 : Stands K "size_of" sSizeOf gq16 cq16)
    (sq17 : Stands K "has_parts" sHasParts gq17 cq17)
    (sq18 : Stands K "checked_size" sChecked gq18 cq18)
    (sq19 : Stands K "check_two_tasks" sTwo gq19 cq19)
    (sq20 : Stands K "tasks_in" sTasksIn gq20 cq20)
    (sq21 : Stands K "least_task" sLeast gq21 cq21)
    (sq22 : Stands K "joint_in" sJointIn gq22 cq22)
    (sq23 : Stands K "relation_in" sRelationIn gq23 cq23)
    (sq24 : Stands K "normal_of" sNormalOf gq24 cq24)
    (sq26 : Stands K "_law_stream" sStream gq26 cq26)
    (sq27 : Stands K "_law_next" sNext gq27 cq27)
    (sq28 : Stands K "_law_is_integer" sLIsInt gq28 cq28)
    (sq29 : Stands K "_law_equal" sEqual gq29 cq29)
    (sq30 : Stands K "_law_pick" sPick gq30 cq30)
    (sq31 : Stands K "_law_order" sOrder gq31 cq31)
    (sq32 : Stands K "_law_grown" sGrown gq32 cq32)
    (sq33 : Stands K "_law_plan" sPlan gq33 cq33)
    (sq34 : Stands K "_law_all" sAll gq34 cq34)
    (sq35 : Stands K "_law_related" sRelated gq35 cq35)
    (sq36 : Stands K "_law_normal" sLNormal gq36 cq36)
    (sq37 : Stands K "_law_mixed" sMixed gq37 cq37)
    (sq38 : Stands K "law" sLaw gq38 cq38)
    (hcq09 : ∃ (e : Value) (dd : Option Addr) (vs : Array Value) (sl : Array (Option Value)), K.lookup cq09 = some ⟨e, dd, .fields vs, sl⟩ ∧ vs[11]? = some (.ref p1)) (hpq09 : K.lookup p1 = none)
    (nM : PySem.W.nsIn K mainGlobals "MOST_TASKS" = some (some (.int 7 t7)))
    (nW : PySem.W.nsIn K mainGlobals "WORDS" = some (some (.ref aw))) (lW : WordsT K aw)
    (z1 : PySem.W.nsIn K mainGlobals "isinstance" = some none)
    (z2 : PySem.W.nsIn K mainGlobals "int" = some none)
    (z3 : PySem.W.nsIn K mainGlobals "bool" = some none)
    (z4 : PySem.W.nsIn K mainGlobals "tuple" = some none)
    (z5 : PySem.W.nsIn K mainGlobals "list" = some none)
    (z6 : PySem.W.nsIn K mainGlobals "str" = some none)
    (z7 : PySem.W.nsIn K mainGlobals "len" = some none)
    (z8 : PySem.W.nsIn K mainGlobals "sorted" = some none)
    (z9 : PySem.W.nsIn K mainGlobals "range" = some none)
    (z10 : PySem.W.nsIn K mainGlobals "all" = some none)
    (z11 : PySem.W.nsIn K mainGlobals "any" = some none)
    (z12 : PySem.W.nsIn K mainGlobals "abs" = some none)
    (z13 : PySem.W.nsIn K mainGlobals "min" = some none) :
    LamX.LawAtS l w K CX0 36 63 "script" mg fa h := by
  have eq := hfa.symm.trans (sq38.mg X G)
  cases eq
  obtain ⟨dq05, Fq05, bq05, FTq05⟩ := sq05.out (ps := ["holds", "name"]) fun _ _ _ _ _ _ us hl => match us, hl with | [_, _], _ => rfl
  obtain ⟨dq06, Fq06, bq06, FTq06⟩ := sq06.out (ps := ["value"]) fun _ _ _ _ _ _ us hl => match us, hl with | [_], _ => rfl
  obtain ⟨dq07, Fq07, bq07, FTq07⟩ := sq07.out (ps := ["value"]) fun _ _ _ _ _ _ us hl => match us, hl with | [_], _ => rfl
  obtain ⟨dq08, Fq08, bq08, FTq08⟩ := sq08.out (ps := ["value", "many"]) fun _ _ _ _ _ _ us hl => match us, hl with | [_, _], _ => rfl
  obtain ⟨dq09, Fq09, bq09, FTq09⟩ := sq09.out (ps := ["value", "many"]) fun _ _ _ _ _ _ us hl => match us, hl with | [_, _], _ => rfl
  obtain ⟨dq10, Fq10, bq10, FTq10⟩ := sq10.out (ps := ["value", "many"]) fun _ _ _ _ _ _ us hl => match us, hl with | [_, _], _ => rfl
  obtain ⟨dq13, Fq13, bq13, FTq13⟩ := sq13.out (ps := ["value", "size"]) fun _ _ _ _ _ _ us hl => match us, hl with | [_, _], _ => rfl
  obtain ⟨dq14, Fq14, bq14, FTq14⟩ := sq14.out (ps := ["plan"]) fun _ _ _ _ _ _ us hl => match us, hl with | [_], _ => rfl
  obtain ⟨dq15, Fq15, bq15, FTq15⟩ := sq15.out (ps := ["plan", "first", "second"]) fun _ _ _ _ _ _ us hl => match us, hl with | [_, _, _], _ => rfl
  obtain ⟨dq16, Fq16, bq16, FTq16⟩ := sq16.out (ps := ["value"]) fun _ _ _ _ _ _ us hl => match us, hl with | [_], _ => rfl
  obtain ⟨dq17, Fq17, bq17, FTq17⟩ := sq17.out (ps := ["value"]) fun _ _ _ _ _ _ us hl => match us, hl with | [_], _ => rfl
  obtain ⟨dq18, Fq18, bq18, FTq18⟩ := sq18.out (ps := ["plan"]) fun _ _ _ _ _ _ us hl => match us, hl with | [_], _ => rfl
  obtain ⟨dq19, Fq19, bq19, FTq19⟩ := sq19.out (ps := ["plan", "first", "second"]) fun _ _ _ _ _ _ us hl => match us, hl with | [_, _, _], _ => rfl
  obtain ⟨dq20, Fq20, bq20, FTq20⟩ := sq20.out (ps := ["plan"]) fun _ _ _ _ _ _ us hl => match us, hl with | [_], _ => rfl
  obtain ⟨dq21, Fq21, bq21, FTq21⟩ := sq21.out (ps := ["plan"]) fun _ _ _ _ _ _ us hl => match us, hl with | [_], _ => rfl
  obtain ⟨dq22, Fq22, bq22, FTq22⟩ := sq22.out (ps := ["plan", "first", "second"]) fun _ _ _ _ _ _ us hl => match us, hl with | [_, _, _], _ => rfl
  obtain ⟨dq23, Fq23, bq23, FTq23⟩ := sq23.out (ps := ["plan", "first", "second"]) fun _ _ _ _ _ _ us hl => match us, hl with | [_, _, _], _ => rfl
  obtain ⟨dq24, Fq24, bq24, FTq24⟩ := sq24.out (ps := ["plan"]) fun _ _ _ _ _ _ us hl => match us, hl with | [_], _ => rfl
  obtain ⟨dq26, Fq26, bq26, FTq26⟩ := sq26.out (ps := ["script"]) fun _ _ _ _ _ _ us hl => match us, hl with | [_], _ => rfl
  obtain ⟨dq27, Fq27, bq27, FTq27⟩ := sq27.out (ps := ["stream", "many"]) fun _ _ _ _ _ _ us hl => match us, hl with | [_, _], _ => rfl
  obtain ⟨dq28, Fq28, bq28, FTq28⟩ := sq28.out (ps := ["actual"]) fun _ _ _ _ _ _ us hl => match us, hl with | [_], _ => rfl
  obtain ⟨dq29, Fq29, bq29, FTq29⟩ := sq29.out (ps := ["actual", "due"]) fun _ _ _ _ _ _ us hl => match us, hl with | [_, _], _ => rfl
  obtain ⟨dq30, Fq30, bq30, FTq30⟩ := sq30.out (ps := ["stream", "rows"]) fun _ _ _ _ _ _ us hl => match us, hl with | [_, _], _ => rfl
  obtain ⟨dq31, Fq31, bq31, FTq31⟩ := sq31.out (ps := ["stream", "many"]) fun _ _ _ _ _ _ us hl => match us, hl with | [_, _], _ => rfl
  obtain ⟨dq32, Fq32, bq32, FTq32⟩ := sq32.out (ps := ["stream", "tasks", "word"]) fun _ _ _ _ _ _ us hl => match us, hl with | [_, _, _], _ => rfl
  obtain ⟨dq33, Fq33, bq33, FTq33⟩ := sq33.out (ps := ["stream", "size"]) fun _ _ _ _ _ _ us hl => match us, hl with | [_, _], _ => rfl
  obtain ⟨dq34, Fq34, bq34, FTq34⟩ := sq34.out (ps := ["plan"]) fun _ _ _ _ _ _ us hl => match us, hl with | [_], _ => rfl
  obtain ⟨dq35, Fq35, bq35, FTq35⟩ := sq35.out (ps := ["plan"]) fun _ _ _ _ _ _ us hl => match us, hl with | [_], _ => rfl
  obtain ⟨dq36, Fq36, bq36, FTq36⟩ := sq36.out (ps := ["plan"]) fun _ _ _ _ _ _ us hl => match us, hl with | [_], _ => rfl
  obtain ⟨dq37, Fq37, bq37, FTq37⟩ := sq37.out (ps := ["stream", "plan"]) fun _ _ _ _ _ _ us hl => match us, hl with | [_, _], _ => rfl
  obtain ⟨oc, od, kV, doc, pm, an, ct, osl, eL⟩ := sq38.ex
  have RL := fun_mk eL sq38.cd sq38.kp
  have no : ∀ {x : Str}, PySem.W.nsIn K mainGlobals x = some none → mg x = none := fun e => PySem.W.mg_none_of X G e
  have B : Bl K mg := ⟨no z1, no z2, no z3, no z4, no z5, no z6, no z7, no z8, no z9, no z10, no z11, no z12, ⟨t7, PySem.W.mg_of X G nM⟩, aw, PySem.W.mg_of X G nW, fun H => by
    obtain ⟨cl, dd, n, u1, u2, sl, k1, k2⟩ := lW
    subst k2
    exact .inr ⟨_, _, n, k1, rfl, rfl, (by show 2 ≤ sizeLine; decide), .cons ⟨_, rfl⟩ (.cons ⟨_, rfl⟩ .nil)⟩⟩
  obtain ⟨hPq09, hCq09⟩ := (T "are_indexes" (by simp)).at_ X G sq09 hcq09
  have each : ∀ (Pp : Addr × Addr → Prop), Pp (cq09, p1) → ∀ p ∈ ([(cq09, p1)] : List (Addr × Addr)), Pp p := fun Pp q0 p hp => by
    simp only [List.mem_cons, List.not_mem_nil, or_false] at hp
    subst hp; exact q0
  refine ⟨PySem.W.fnOf "law" "law" (defArgs sLaw) (defBody sLaw) (defScope sLaw) .none kV doc pm an cq38 ct, [(cq09, p1)], spLaw K p1, each _ hPq09, each _ hpq09, each _ hCq09, fun s v => .of_eq rfl, fun H a ns hl _ hH hS => ⟨a, ns, rfl, hS, hl, ⟨#[], hH (cq09, p1) (by simp), trivial⟩, fun _ => rfl⟩, fun base _ _ hTB => ?_⟩
  have TBq09 := hTB (cq09, p1) (by simp)
  have Aq05 := ok_require (P := l.prog) (w := w) (mg := mg) (base := base) Fq05 
  have Aq06 := ok_isInt (P := l.prog) (w := w) (mg := mg) (base := base) Fq06 B
  have Aq07 := ok_isSize (P := l.prog) (w := w) (mg := mg) (base := base) Fq07 B Aq06 bq06 sq06.kp (sq06.mg X G)
  have Aq08 := ok_isTask (P := l.prog) (w := w) (mg := mg) (base := base) Fq08 B Aq06 bq06 sq06.kp (sq06.mg X G)
  have Aq09 := ok_areTasks (P := l.prog) (w := w) (mg := mg) (base := base) (FTq09 _ rfl) ⟨TBq09.code, TBq09.bm, TBq09.gP⟩ B Aq08 bq08 sq08.kp (sq08.mg X G)
  have Aq10 := ok_isOrder (P := l.prog) (w := w) (mg := mg) (base := base) Fq10 B Aq09 bq09 sq09.kp (sq09.mg X G)
  have Aq17 := ok_hasParts (P := l.prog) (w := w) (mg := mg) (base := base) Fq17 B
  have Aq16 := ok_sizeOf (P := l.prog) (w := w) (mg := mg) (base := base) Fq16 B Aq08 bq08 sq08.kp (sq08.mg X G) Aq17 bq17 sq17.kp (sq17.mg X G) Aq10 bq10 sq10.kp (sq10.mg X G)
  have Aq13 := ok_isPlan (P := l.prog) (w := w) (mg := mg) (base := base) Fq13 B Aq07 bq07 sq07.kp (sq07.mg X G) Aq16 bq16 sq16.kp (sq16.mg X G)
  have Aq18 := ok_checked (P := l.prog) (w := w) (mg := mg) (base := base) Fq18 Aq16 bq16 sq16.kp (sq16.mg X G) Aq05 bq05 sq05.kp (sq05.mg X G)
  have Aq19 := ok_two (P := l.prog) (w := w) (mg := mg) (base := base) Fq19 Aq18 bq18 sq18.kp (sq18.mg X G) Aq08 bq08 sq08.kp (sq08.mg X G) Aq05 bq05 sq05.kp (sq05.mg X G)
  have ASq20 := oks_tasksIn (P := l.prog) (w := w) (mg := mg) (base := base) Fq20 B bq20 (sq20.mg X G)
  have Aq20 := ASq20 15
  have ASq22 := oks_jointIn (P := l.prog) (w := w) (mg := mg) (base := base) Fq22 B ASq20 bq20 sq20.kp (sq20.mg X G) bq22 (sq22.mg X G)
  have Aq22 := ASq22 15
  have Aq23 := ok_relI (P := l.prog) (w := w) (mg := mg) (base := base) Fq23 B Aq20 bq20 sq20.kp (sq20.mg X G) Aq22 bq22 sq22.kp (sq22.mg X G)
  have Aq15 := ok_relF (P := l.prog) (w := w) (mg := mg) (base := base) Fq15 Aq19 bq19 sq19.kp (sq19.mg X G) Aq23 bq23 sq23.kp (sq23.mg X G)
  have Aq21 := ok_least (P := l.prog) (w := w) (mg := mg) (base := base) Fq21 (no z13) Aq20 bq20 sq20.kp (sq20.mg X G)
  have ASq24 := oks_normalOf (P := l.prog) (w := w) (mg := mg) (base := base) Fq24 B Aq21 bq21 sq21.kp (sq21.mg X G) bq24 (sq24.mg X G)
  have Aq24 := ASq24 15
  have Aq14 := ok_normal (P := l.prog) (w := w) (mg := mg) (base := base) Fq14 Aq18 bq18 sq18.kp (sq18.mg X G) Aq24 bq24 sq24.kp (sq24.mg X G)
  have Aq26 := ok_stream (P := l.prog) (w := w) (mg := mg) (base := base) Fq26 B
  have Aq27 := ok_next (P := l.prog) (w := w) (mg := mg) (base := base) Fq27 B
  have Aq28 := ok_lIsInt (P := l.prog) (w := w) (mg := mg) (base := base) Fq28 B
  have ASq29 := oks_equal (P := l.prog) (w := w) (mg := mg) (base := base) Fq29 B Aq28 bq28 sq28.kp (sq28.mg X G) bq29 (sq29.mg X G)
  have Aq29 := ASq29 19
  have Aq30 := ok_pick (P := l.prog) (w := w) (mg := mg) (base := base) Fq30 B Aq27 bq27 sq27.kp (sq27.mg X G)
  have Aq31 := ok_order (P := l.prog) (w := w) (mg := mg) (base := base) Fq31 B Aq27 bq27 sq27.kp (sq27.mg X G)
  have ASq32 := oks_grown (P := l.prog) (w := w) (mg := mg) (base := base) Fq32 B Aq27 bq27 sq27.kp (sq27.mg X G) bq32 (sq32.mg X G)
  have Aq32 := ASq32 7
  have Aq33 := ok_plan (P := l.prog) (w := w) (mg := mg) (base := base) Fq33 B Aq32 bq32 sq32.kp (sq32.mg X G) Aq31 bq31 sq31.kp (sq31.mg X G) Aq30 bq30 sq30.kp (sq30.mg X G)
  have ASq34 := oks_all (P := l.prog) (w := w) (mg := mg) (base := base) Fq34 B bq34 (sq34.mg X G)
  have Aq34 := ASq34 15
  have ASq35 := oks_related (P := l.prog) (w := w) (mg := mg) (base := base) Fq35 B ASq34 bq34 sq34.kp (sq34.mg X G) bq35 (sq35.mg X G)
  have Aq35 := ASq35 15
  have ASq36 := oks_lnormal (P := l.prog) (w := w) (mg := mg) (base := base) Fq36 B (no z13) Aq34 bq34 sq34.kp (sq34.mg X G) bq36 (sq36.mg X G)
  have Aq36 := ASq36 15
  have ASq37 := oks_mixed (P := l.prog) (w := w) (mg := mg) (base := base) Fq37 B Aq31 bq31 sq31.kp (sq31.mg X G) bq37 (sq37.mg X G)
  have Aq37 := ASq37 15
  exact ok_law RL B Aq26 bq26 sq26.kp (sq26.mg X G) Aq27 bq27 sq27.kp (sq27.mg X G) Aq33 bq33 sq33.kp (sq33.mg X G) Aq37 bq37 sq37.kp (sq37.mg X G) Aq36 bq36 sq36.kp (sq36.mg X G) Aq14 bq14 sq14.kp (sq14.mg X G) Aq13 bq13 sq13.kp (sq13.mg X G) Aq29 bq29 sq29.kp (sq29.mg X G) Aq35 bq35 sq35.kp (sq35.mg X G) Aq15 bq15 sq15.kp (sq15.mg X G)
end K2

set_option Elab.async false
set_option linter.all false
open PySem PySem.W PyProof.Rows
set_option maxRecDepth 100000 in
set_option maxHeartbeats 0 in
theorem PySem.Challenge.cw_thenbeside_k02_whole_normal_plans_holds : PySem.Challenge.rw_thenbeside_k02_whole_normal_plans.Holds := by
  w_on; o_law; k_head; (case hw => w_witness2)
  k_fill
  refine K2.walk_tabs (l := PySem.Challenge.rw_thenbeside_k02_whole_normal_plans) (k := 36) ["are_indexes"] ⟨rfl, by decide, by decide⟩ rfl rfl (by rfl) (fun w h Y => PySem.W.kIn_of Y) ?F
  case F =>
    intro w mg fa h KX G hmg T
    refine' K2.all_mk KX G hmg T ?sq05 ?sq06 ?sq07 ?sq08 ?sq09 ?sq10 ?sq13 ?sq14 ?sq15 ?sq16 ?sq17 ?sq18 ?sq19 ?sq20 ?sq21 ?sq22 ?sq23 ?sq24 ?sq26 ?sq27 ?sq28 ?sq29 ?sq30 ?sq31 ?sq32 ?sq33 ?sq34 ?sq35 ?sq36 ?sq37 ?sq38 ?hcq09 ?hpq09 ?nM ?nW ?lW ?z1 ?z2 ?z3 ?z4 ?z5 ?z6 ?z7 ?z8 ?z9 ?z10 ?z11 ?z12 ?z13
    (case sq05 => (refine' K2.stands_mk ?a ?l ?c ?k; (case a => k_is); (case l => k_is); (case c => k_is); (case k => k_is)))
    (case sq06 => (refine' K2.stands_mk ?a ?l ?c ?k; (case a => k_is); (case l => k_is); (case c => k_is); (case k => k_is)))
    (case sq07 => (refine' K2.stands_mk ?a ?l ?c ?k; (case a => k_is); (case l => k_is); (case c => k_is); (case k => k_is)))
    (case sq08 => (refine' K2.stands_mk ?a ?l ?c ?k; (case a => k_is); (case l => k_is); (case c => k_is); (case k => k_is)))
    (case sq09 => (refine' K2.stands_mk ?a ?l ?c ?k; (case a => k_is); (case l => k_is); (case c => k_is); (case k => k_is)))
    (case sq10 => (refine' K2.stands_mk ?a ?l ?c ?k; (case a => k_is); (case l => k_is); (case c => k_is); (case k => k_is)))
    (case sq13 => (refine' K2.stands_mk ?a ?l ?c ?k; (case a => k_is); (case l => k_is); (case c => k_is); (case k => k_is)))
    (case sq14 => (refine' K2.stands_mk ?a ?l ?c ?k; (case a => k_is); (case l => k_is); (case c => k_is); (case k => k_is)))
    (case sq15 => (refine' K2.stands_mk ?a ?l ?c ?k; (case a => k_is); (case l => k_is); (case c => k_is); (case k => k_is)))
    (case sq16 => (refine' K2.stands_mk ?a ?l ?c ?k; (case a => k_is); (case l => k_is); (case c => k_is); (case k => k_is)))
    (case sq17 => (refine' K2.stands_mk ?a ?l ?c ?k; (case a => k_is); (case l => k_is); (case c => k_is); (case k => k_is)))
    (case sq18 => (refine' K2.stands_mk ?a ?l ?c ?k; (case a => k_is); (case l => k_is); (case c => k_is); (case k => k_is)))
    (case sq19 => (refine' K2.stands_mk ?a ?l ?c ?k; (case a => k_is); (case l => k_is); (case c => k_is); (case k => k_is)))
    (case sq20 => (refine' K2.stands_mk ?a ?l ?c ?k; (case a => k_is); (case l => k_is); (case c => k_is); (case k => k_is)))
    (case sq21 => (refine' K2.stands_mk ?a ?l ?c ?k; (case a => k_is); (case l => k_is); (case c => k_is); (case k => k_is)))
    (case sq22 => (refine' K2.stands_mk ?a ?l ?c ?k; (case a => k_is); (case l => k_is); (case c => k_is); (case k => k_is)))
    (case sq23 => (refine' K2.stands_mk ?a ?l ?c ?k; (case a => k_is); (case l => k_is); (case c => k_is); (case k => k_is)))
    (case sq24 => (refine' K2.stands_mk ?a ?l ?c ?k; (case a => k_is); (case l => k_is); (case c => k_is); (case k => k_is)))
    (case sq26 => (refine' K2.stands_mk ?a ?l ?c ?k; (case a => k_is); (case l => k_is); (case c => k_is); (case k => k_is)))
    (case sq27 => (refine' K2.stands_mk ?a ?l ?c ?k; (case a => k_is); (case l => k_is); (case c => k_is); (case k => k_is)))
    (case sq28 => (refine' K2.stands_mk ?a ?l ?c ?k; (case a => k_is); (case l => k_is); (case c => k_is); (case k => k_is)))
    (case sq29 => (refine' K2.stands_mk ?a ?l ?c ?k; (case a => k_is); (case l => k_is); (case c => k_is); (case k => k_is)))
    (case sq30 => (refine' K2.stands_mk ?a ?l ?c ?k; (case a => k_is); (case l => k_is); (case c => k_is); (case k => k_is)))
    (case sq31 => (refine' K2.stands_mk ?a ?l ?c ?k; (case a => k_is); (case l => k_is); (case c => k_is); (case k => k_is)))
    (case sq32 => (refine' K2.stands_mk ?a ?l ?c ?k; (case a => k_is); (case l => k_is); (case c => k_is); (case k => k_is)))
    (case sq33 => (refine' K2.stands_mk ?a ?l ?c ?k; (case a => k_is); (case l => k_is); (case c => k_is); (case k => k_is)))
    (case sq34 => (refine' K2.stands_mk ?a ?l ?c ?k; (case a => k_is); (case l => k_is); (case c => k_is); (case k => k_is)))
    (case sq35 => (refine' K2.stands_mk ?a ?l ?c ?k; (case a => k_is); (case l => k_is); (case c => k_is); (case k => k_is)))
    (case sq36 => (refine' K2.stands_mk ?a ?l ?c ?k; (case a => k_is); (case l => k_is); (case c => k_is); (case k => k_is)))
    (case sq37 => (refine' K2.stands_mk ?a ?l ?c ?k; (case a => k_is); (case l => k_is); (case c => k_is); (case k => k_is)))
    (case sq38 => (refine' K2.stands_mk ?a ?l ?c ?k; (case a => k_is); (case l => k_is); (case c => k_is); (case k => k_is)))
    (case hcq09 => (refine' K2.code_mk ?lc1 ?pc1; (case lc1 => k_is); (case pc1 => rfl)))
    (case hpq09 => kernel_rfl)
    (case nM => k_is)
    (case nW => k_is)
    (case lW => (refine' K2.words_mk ?lw1 ?pw1; (case lw1 => k_is); (case pw1 => rfl)))
    (case z1 => k_is)
    (case z2 => k_is)
    (case z3 => k_is)
    (case z4 => k_is)
    (case z5 => k_is)
    (case z6 => k_is)
    (case z7 => k_is)
    (case z8 => k_is)
    (case z9 => k_is)
    (case z10 => k_is)
    (case z11 => k_is)
    (case z12 => k_is)
    (case z13 => k_is)
