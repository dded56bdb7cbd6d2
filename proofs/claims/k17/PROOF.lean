import PyProof.Rows.All
import Wide.All
import OpenK.AllK
import Wide.FinOn
import HandS.ForMost
import HandS.IsInst
import HandS.EndTab
import HandS.Wide
import HandS.TupAny
import HandS.Conv
import HandS.Deep
import HandS.Style
import HandS.SortInts
import HandS.RaiseMore
import HandS.GenList
import HandS.AnyAll
import KE.KRevSl
import HandS.Strs
import PyProof.AutoSeq1
import HandS.ExcInit
import HandS.ExcField
import HandS.ExcOwn
import HandS.WordsExc
import HandS.More
import HandS.SetFor
import HandS.Small
import HandS.TupMul
import PySem.Challenge.RW_thenbeside_k17_forms_of_problems
import HandS.Codes
set_option Elab.async false
set_option linter.all false
set_option maxRecDepth 100000
set_option maxHeartbeats 4000000
/-! any, all of a generator expression over anything that PI serves, its element any expression that raises nothing. -/
namespace GA
open PySem PySem.Spec PyProof.Rows L2 GenW GxR

/-- the context of a generator expression's frame -/
abbrev gcx (X : Cx) (A' : Around) (s : Shared) (H : Hp) (cenv : Env) (fp : List Addr) : Cx :=
  { X with A := A', s_0 := s, H_0 := H, env := cenv, outer := X.stack, stack := cenv :: X.stack, ex := fp, fn := fun _ => false, calm := true, pn := [], xe := fun _ _ => False }
/-- its scope: its own names with their places, captured ones -/
structure GOk (N : List Str) (sc scope : Scope) (own : List (Str × Nat)) : Prop where
  kind : scope.kind = .function
  co : scope.isCoroutine = false
  cell : ∀ y ∈ scope.names, y.2 ≠ .cell
  dot : scope.names.lookup (".0" : Str) = some NameKind.local
  uniq : ∀ y ∈ scope.names, scope.names.lookup y.1 = some y.2
  ix : ∀ p ∈ own, N[p.2]? = some p.1
  free : ∀ y ∈ scope.names, y.2 = .free → sc.names.lookup y.1 = some .cell ∨ sc.names.lookup y.1 = some .free
  own : ∀ y ∈ scope.names, y.2 = .local → y.1 ∈ own.map (·.1) ∨ y.1 ∉ N
def gokC (N : List Str) (sc scope : Scope) (own : List (Str × Nat)) : Bool :=
  (match scope.kind with | .function => true | _ => false) && !scope.isCoroutine && decide (scope.names.lookup (".0" : Str) = some NameKind.local) && (scope.names.all fun y => decide (scope.names.lookup y.1 = some y.2)) && (own.all fun p => decide (N[p.2]? = some p.1)) &&
    (scope.names.all fun y => match y.2 with
      | .free => (match sc.names.lookup y.1 with | some .cell => true | some .free => true | _ => false)
      | .local => decide (y.1 ∈ own.map (·.1)) || decide (y.1 ∉ N)
      | .cell => false
      | _ => true)
theorem gok_by {N : List Str} {sc scope : Scope} {own : List (Str × Nat)} (h : gokC N sc scope own = true) : GOk N sc scope own := by
  unfold gokC at h
  simp only [Bool.and_eq_true, List.all_eq_true, decide_eq_true_eq] at h
  obtain ⟨⟨⟨⟨⟨h1, h1b⟩, h1c⟩, h2⟩, h3⟩, h4⟩ := h
  refine ⟨?_, by simpa using h1b, fun y hy e => ?_, h1c, h2, h3, fun y hy e => ?_, fun y hy e => ?_⟩
  · split at h1
    · assumption
    · cases h1
  · have q := h4 y hy
    rw [e] at q
    cases q
  · have q := h4 y hy
    rw [e] at q
    simp only at q
    split at q
    · rename_i k; exact .inl k
    · rename_i k; exact .inr k
    · cases q
  · have q := h4 y hy
    rw [e] at q
    simp only [Bool.or_eq_true, decide_eq_true_eq] at q
    exact q

section
variable {X : Cx} {pins : List (Addr × Obj)} {σ : L2.St} {H : Hp} {s : Shared}
/-- other generators, other tokens: the same heap -/
theorem inv_gens {s' : Shared} (I : Inv X pins σ H s) (hh : s'.heap = s.heap) (ho : s'.os = s.os) (hb : AllBare s'.gens) : Inv X pins σ H s' := by
  obtain ⟨h', g', d', t', o'⟩ := s'
  simp only at hh ho
  subst hh ho
  exact ⟨I.ok, I.os, hb, I.base, I.loc, I.cell, I.free, I.freeC, I.pin, I.hok, I.len⟩
theorem cl_mem {scope : Scope} (I : Inv X pins σ H s) (hfree : ∀ y ∈ scope.names, y.2 = .free → ∃ c, X.env.cells.lookup y.1 = some c) {y : Str} {c : Addr} (h : (cloFrom X.env.cells scope.names []).lookup y = some c) : X.env.cells.lookup y = some c := by
  rcases cloFrom_mem (PySem.mem_of_lookup h) with hm | ⟨h1, rfl⟩
  · cases hm
  · obtain ⟨c, hc⟩ := hfree _ h1 rfl
    rw [hc]
    rfl
/-- the generator is made: its frame and its object are laid -/
theorem gen_start {A' : Around} {scope : Scope} {own : List (Str × Nat)} {fp : List Addr} {code : Value} {h5 : Heap} {m0 : Str → Option Value} {go : Obj} {G5 : Array GenState} {t5 : Nat}
    (I : Inv X pins σ H s) (ok : GOk X.N X.env.scope scope own) (hN : X.N.Nodup) (hfp : ∀ b ∈ fp, FpOk X pins H b ∧ b < s.heap.objs.size)
    (hA : A'.handled = none) (hfr : A'.frames = some (genEnv scope (cloFrom X.env.cells scope.names []) s.heap.objs.size code builtinsNs X.env :: X.stack))
    (hk : ∀ b o, s.heap.get? b = some o → h5.get? b = some o) (hn : h5.Ns s.heap.objs.size m0) (hgo : h5.get? (s.heap.objs.size + 1) = some go) (hgd : ∀ v, go.data ≠ .cell v) (hb : AllBare G5) :
    Inv (gcx X A' s H (genEnv scope (cloFrom X.env.cells scope.names []) s.heap.objs.size code builtinsNs X.env) fp) [(s.heap.objs.size + 1, go)] (wipe σ (own.map (·.2))) H { s with heap := h5, gens := G5, toks := t5 } := by
  have hfree : ∀ y ∈ scope.names, y.2 = .free → ∃ c, X.env.cells.lookup y.1 = some c := fun y hy e => by
    rcases ok.free y hy e with k | k
    · exact I.ok.has _ (.inl k)
    · exact I.ok.has _ (.inr k)
  have cm : ∀ {y c}, (cloFrom X.env.cells scope.names []).lookup y = some c → X.env.cells.lookup y = some c := fun {y c} h => cl_mem I hfree h
  have clt : ∀ {y c}, X.env.cells.lookup y = some c → c < s.heap.objs.size := fun {y c} h => by
    obtain ⟨v, z⟩ := I.cell y c h
    exact z.lt
  have look : ∀ {y}, scope.names.lookup y = some .free → ∃ c, (cloFrom X.env.cells scope.names []).lookup y = some c ∧ X.env.cells.lookup y = some c := fun {y} hl => by
    have hy : (y, NameKind.free) ∈ scope.names := PySem.mem_of_lookup hl
    obtain ⟨c', e'⟩ := mem_lookup (cloFrom_has (cells := X.env.cells) (acc := []) hy)
    exact ⟨c', e', cm e'⟩
  have stk_lt : ∀ b ∈ frs X.stack, b < s.heap.objs.size := fun b hb => by
    obtain ⟨_, o, ho, _⟩ := I.stack.mem hb
    exact Heap.lt_size ho
  have okG : (gcx X A' s H (genEnv scope (cloFrom X.env.cells scope.names []) s.heap.objs.size code builtinsNs X.env) fp).Ok := by
    refine ⟨I.ok.mod, ok.kind, I.ok.glob, rfl, Nat.le_refl _, fun y z c e1 e2 => I.ok.inj y z c (cm e1) (cm e2), fun y hy => ?_, fun y c z e => (Bool.noConfusion z), fun _ => hA, hfr, .inr ⟨rfl, rfl⟩,
      fun b hb => ⟨Nat.ne_of_lt (hfp b hb).2, fun y c e z => (hfp b hb).1.2.2.2.2.1 y c (cm e) z⟩, I.bs, Nat.le_trans I.ok.bsz I.sz, fun b o e hb => ?_, fun b hb z => ?_, I.stack, I.stkFree⟩
    · rcases hy with hy | hy
      · exact absurd rfl (ok.cell _ (PySem.mem_of_lookup (show scope.names.lookup y = some .cell from hy)))
      · obtain ⟨c, h1, _⟩ := look (show scope.names.lookup y = some .free from hy)
        exact ⟨c, h1⟩
    · rcases (hfp b hb).1.2.2.2.1 with z | z
      · exact I.ok.noex b o e z
      · exact absurd (Nat.lt_of_lt_of_le (Heap.lt_size e) (Nat.le_trans I.ok.bsz z)) (Nat.lt_irrefl _)
    · rcases List.mem_cons.mp (I.stkSub b z) with z | z
      · exact (hfp b hb).1.2.1 z
      · exact (hfp b hb).1.2.2.1 z
  refine ⟨okG, rfl, hb, Un.kept hk, ⟨m0, hn, fun i y av e1 e2 e3 => ?_⟩, fun y c e => ?_, I.hok.fresh (Nat.le_refl _), fun y c e => I.freeC y c (cm e), fun p hp => ?_, I.hok.kept hk, by rw [wipe_length]; exact I.len⟩
  · obtain ⟨e2, hne⟩ := wipe_some e2
    have hfr : scope.names.lookup y = some .free := by
      rcases e3 with e | e | e
      · have e : scope.names.lookup y = some .local := e
        rcases ok.own _ (PySem.mem_of_lookup e) rfl with e' | e'
        · obtain ⟨p, hp, hpy⟩ := List.mem_map.mp e'
          have e3 := ok.ix p hp
          have : p.1 = y := hpy
          rw [this] at e3
          exact absurd (List.mem_map.mpr ⟨p, hp, nodup_ix hN e3 e1⟩) hne
        · exact absurd (List.mem_of_getElem? e1) e'
      · exact absurd rfl (ok.cell _ (PySem.mem_of_lookup (show scope.names.lookup y = some .cell from e)))
      · exact e
    obtain ⟨m, hn', hl⟩ := I.loc
    have hvis : Vis X.env.scope y := (ok.free _ (PySem.mem_of_lookup hfr) rfl).elim (fun k => .inr (.inl k)) (fun k => .inr (.inr k))
    obtain ⟨w, r, q⟩ := hl i y av e1 e2 hvis
    obtain ⟨c, h1, h2⟩ := look hfr
    refine ⟨w, r, .inr ⟨.inr hfr, c, h1, ?_⟩⟩
    rcases q with ⟨k, _⟩ | ⟨_, c', e', z⟩
    · have k : X.env.scope.names.lookup y = some .local := k
      rcases ok.free _ (PySem.mem_of_lookup hfr) rfl with k' | k' <;> rw [show X.env.scope.names.lookup y = _ from k'] at k <;> cases k
    · rw [h2] at e'; cases e'
      exact z.keeps hk
  · obtain ⟨v, z⟩ := I.cell y c (cm e)
    exact ⟨v, z.keeps hk⟩
  · have hp' : p = (s.heap.objs.size + 1, go) := by simpa using hp
    subst hp'
    refine ⟨hgo, I.hok.fresh (Nat.le_succ _), Nat.succ_ne_self _, fun z => ?_, hgd⟩
    exact absurd (stk_lt _ z) (Nat.not_lt.mpr (Nat.le_succ _))
end

/-! ### the generator's turns -/
/-- awake again: nothing of the heap has changed -/
def Woke (s s' : Shared) : Prop := s'.heap = s.heap ∧ s'.os = s.os ∧ AllBare s'.gens
def YA (X' : Cx) (pn : List (Addr × Obj)) (σw : L2.St) (stop : Bool) (Qf : Hp → Prop) : Protocol := fun _ _ v s kap =>
  ∃ (b : Bool) (H : Hp), v = .bool b ∧ Inv X' pn σw H s ∧ ((b = stop ∧ Qf H) ∨ (b = !stop ∧ ∀ s'', Woke s s'' → kap (.send .none) s''))
def PA' (X' : Cx) (pn : List (Addr × Obj)) (σw : L2.St) (Qe : Hp → Prop) : Nat → Shared → Shared → Prop := fun _ _ s => ∃ H, Inv X' pn σw H s ∧ Qe H

/-- what a turn asks -/
def TurnG (J : It) (g : TG) (te : TE) (σw : L2.St) (vs : List Nat) (stop : Bool) (Qf Qe : Hp → Prop) (W : Nat → Nat → Hp → Prop) : Prop := ∀ i m H, W i m H →
  (J.stop i H ∧ Qe H) ∨ (J.go i H ∧ ∃ Nx : Hp → Prop, (∀ H', Nx H' → ∃ m', m' < m ∧ W (i + 1) m' H') ∧ ∀ x H', J.yld i H x H' → g x σw H' fun σ2 H2 => wipe σ2 vs = σw ∧ te σ2 H2 fun y H3 => ∃ b, y = .bl b ∧ (b = stop → Qf H3) ∧ (b = !stop → Nx H3))

section
variable {X' : Cx} {A : Around} {elt tg iter : Expr} {scope : Scope} {pos : Pos} {it : Addr} {fp : List Addr} {tn : Nat → Heap → Prop} {J : It} {g : TG} {te : TE} {σw : L2.St} {vs : List Nat} {stop : Bool} {Qf Qe : Hp → Prop} {W : Nat → Nat → Hp → Prop} {pn : List (Addr × Obj)}
theorem seg_turns (hA : A.over (.compLoop (.GeneratorExp elt [⟨tg, iter, [], 0⟩] scope pos) 0 (.ref it) .none X'.env) [] = X'.A) (hex : X'.ex = fp) (hpn0 : X'.pn = []) (hxe : X'.xe = fun _ _ => False) (hcalm : X'.calm = true)
    (hco : X'.env.scope.isCoroutine = false) (T : Turn X'.prog X'.w X'.K tg J fp it tn) (hpf : ∀ p ∈ pn, p.1 ∉ fp) (pg : PG X' tg g) (pe : PE X' elt te) (turn : TurnG J g te σw vs stop Qf Qe W) :
    ∀ (n : Nat) (s₀ s : Shared) (i m : Nat) (H : Hp), m < n → Inv X' pn σw H s → tn i s.heap → (∀ b ∈ fp, H b = none) → W i m H →
      Seg (model X'.prog X'.w) A (fun n s₀ r s₁ => r = .ok .next ∧ PA' X' pn σw Qe n s₀ s₁) (YA X' pn σw stop Qf) n s₀
        (.compLoop (.GeneratorExp elt [⟨tg, iter, [], 0⟩] scope pos) 0 (.ref it) .none X'.env)
        ((model X'.prog X'.w).den (.compLoop (.GeneratorExp elt [⟨tg, iter, [], 0⟩] scope pos) 0 (.ref it) .none X'.env)) [] s := by
  have stat : ∀ {σ' : L2.St} {H' : Hp} {s' : Shared}, Inv X' pn σ' H' s' → (∀ b ∈ fp, H' b = none) → ∀ b ∈ fp, FpOk X' pn H' b := fun {σ' H' s'} I' hn b hb =>
    ⟨hn b hb, (I'.ok.exf b (by rw [hex]; exact hb)).1, I'.ok.exfs b (by rw [hex]; exact hb), .inl (by rw [hex]; exact hb), fun x c e => (I'.ok.exf b (by rw [hex]; exact hb)).2 x c e, fun p hp => by
      rw [hpn0] at hp
      intro z
      exact hpf p (by simpa using hp) (by rw [z]; exact hb)⟩
  intro n
  induction n with
  | zero => intro s₀ s i m H hm; exact absurd hm (Nat.not_lt_zero _)
  | succ n ih =>
    intro s₀ s i m H hm I st nn w
    show Seg _ A _ _ _ s₀ _ ((compTurn (.GeneratorExp elt [⟨tg, iter, [], 0⟩] scope pos) 0 (.ref it) .none X'.env).onRaise (leaving X'.env)) [] s
    rw [compTurn_gen, Sem.onRaise_eq_wrap]
    refine seg_bind_wrap (wpAny_standAt ?_)
    rcases turn i m H w with ⟨hstop, qe⟩ | ⟨hgo, Nx, hNx, step⟩
    · refine seg_bind_wrap ?_
      rw [hA]
      refine thnF (T.done X' rfl rfl rfl hcalm i pn s σw H (fun _ _ => False) I (stat I nn) st hstop) fun r s1 ⟨hr, I1⟩ => ?_
      subst hr
      exact seg_end (.ok .next) ⟨rfl, H, I1, qe⟩
    · refine seg_bind_wrap ?_
      rw [hA]
      refine thnF (T.item X' rfl rfl rfl hcalm i pn s σw H (fun _ _ => False) I (stat I nn) st hgo) fun r s1 ⟨u, hr, h1⟩ => ?_
      subst hr
      refine seg_bind_wrap ?_
      rw [hA]
      refine thnF h1 fun _ s2 ⟨x, H2, I2, r2, y2, st2, n2⟩ => ?_
      have I2' := I2.pinned (stat I2 n2) (T.obj _ _ st2)
      refine seg_bind_wrap ?_
      rw [hA]
      have pgr := pg.run _ s2 _ H2 x u _ I2' r2 (step x H2 y2)
      rw [hxe] at pgr
      refine thnF pgr fun _ s3 ⟨σ3, H3, I3, hw3, q3⟩ => ?_
      simp only [List.forIn_nil]
      refine seg_bind_wrap (wpAny_pure ?_)
      simp only [if_true]
      have hy : ∀ v, yieldOut X'.env v = yieldValue v := fun v => by simp only [yieldOut, hco, Bool.false_eq_true, if_false]
      simp only [hy]
      rw [Sem.bind_eq_wrap', Sem.bind_eq_wrap', Sem.wrap_wrap, Sem.wrap_wrap]
      refine seg_wrap ?_
      rw [hA]
      have per := pe.run _ s3 σ3 H3 _ I3 q3
      rw [hxe] at per
      refine thnF per fun yv s4 ⟨yV, H4, I4, r4, b, hyb, q4⟩ => ?_
      subst hyb
      have r4' : yv = Value.bool b := r4
      subst r4'
      have pin' : ∀ b ∈ fp, ∀ o, s2.heap.get? b = some o → s4.heap.get? b = some o ∧ H4 b = none := fun b hb o e =>
        let z := I4.pin (b, o) (List.mem_append_right _ (List.mem_append_right _ (mem_pinsAt hb e)))
        ⟨z.1, z.2.1⟩
      have hl : σw.length = σ3.length := by rw [← hw3, wipe_length]
      have I5 : Inv X' pn σw H4 s4 := (I4.unpinned (pins := pn)).weak hl fun j v e => by
        rw [← hw3] at e
        exact (wipe_some e).1
      have st5 : tn (i + 1) s4.heap := T.keep _ _ _ st2 fun b hb o e => (pin' b hb o e).1
      have n5 : ∀ b ∈ fp, H4 b = none := fun b hb => by
        obtain ⟨o, e, _⟩ := T.obj _ _ st2 b hb
        exact (pin' b hb o e).2
      refine seg_at (seg_yield rfl rfl rfl ⟨b, H4, rfl, I5, ?_⟩)
      by_cases hb : b = stop
      · exact .inl ⟨hb, q4.1 hb⟩
      · have hb' : b = !stop := by
          cases b <;> cases stop <;> first | rfl | exact absurd rfl hb
        obtain ⟨m', hm', w'⟩ := hNx _ (q4.2 hb')
        refine .inr ⟨hb', fun s'' ⟨z1, z2, z3⟩ => ?_⟩
        refine seg_again rfl (ih s'' s'' (i + 1) m' H4 (by omega) (inv_gens I5 z1 z2 z3) (by rw [z1]; exact st5) n5 w')
theorem seg_first (hA : A.over (.compLoop (.GeneratorExp elt [⟨tg, iter, [], 0⟩] scope pos) 0 (.ref it) .none X'.env) [] = X'.A) (hex : X'.ex = fp) (hpn0 : X'.pn = []) (hxe : X'.xe = fun _ _ => False) (hcalm : X'.calm = true)
    (hco : X'.env.scope.isCoroutine = false) (T : Turn X'.prog X'.w X'.K tg J fp it tn) (hpf : ∀ p ∈ pn, p.1 ∉ fp) (pg : PG X' tg g) (pe : PE X' elt te) (turn : TurnG J g te σw vs stop Qf Qe W)
    (n : Nat) (s₀ s : Shared) (m : Nat) (H : Hp) (hm : m < n) (I : Inv X' pn σw H s) (st : tn 0 s.heap) (nn : ∀ b ∈ fp, H b = none) (w : W 0 m H) :
      Seg (model X'.prog X'.w) A (fun n s₀ r s₁ => r = .ok .next ∧ PA' X' pn σw Qe n s₀ s₁) (YA X' pn σw stop Qf) n s₀
        (.compStart (.GeneratorExp elt [⟨tg, iter, [], 0⟩] scope pos) 0 (.ref it) .none X'.env)
        ((model X'.prog X'.w).den (.compStart (.GeneratorExp elt [⟨tg, iter, [], 0⟩] scope pos) 0 (.ref it) .none X'.env)) [] s := by
  have loop := seg_turns hA hex hpn0 hxe hcalm hco T hpf pg pe turn n s₀ s 0 m H hm I st nn w
  show Seg _ A _ _ _ s₀ _ ((compStart (.GeneratorExp elt [⟨tg, iter, [], 0⟩] scope pos) 0 (.ref it) .none X'.env).onRaise (leaving X'.env)) [] s
  unfold compStart
  rw [Sem.onRaise_eq_wrap]
  show Seg _ A _ _ _ s₀ _ ((ask >>= _).wrap _ _ _ _) [] s
  refine seg_bind_wrap (wpAny_askSetting ?_)
  split
  · exact seg_again rfl loop
  · first
      | exact seg_bind_wrap (wpAny_rule (seg_bind_wrap (wpAny_standAt (seg_bind_wrap (T.self _ 0 s _ _ st (seg_again rfl loop))))))
      | (refine seg_bind_wrap (wpAny_rule ?_); show Seg _ A _ _ _ s₀ _ ((standAt iter.pos >>= _).wrap _ _ _ _) [] s; exact seg_bind_wrap (wpAny_standAt (seg_bind_wrap (T.self _ 0 s _ _ st (seg_again rfl loop)))))
end
end GA

set_option Elab.async false
set_option linter.all false
set_option maxRecDepth 100000
set_option maxHeartbeats 4000000
namespace GA
open PySem PySem.Spec PyProof.Rows L2 GenW GxR

theorem room_gen {k : Nat} {A : Around} {e : Expr} {gs : List Comprehension} {sc : Scope} {p : Pos} {it acc : Value} {env : Env} (r : Room (k + 1) A) :
    Room k (A.in1.in1.over (.compLoop (.GeneratorExp e gs sc p) 0 it acc env) []) := by
  have h1 := r.dp
  have h2 := r.un
  have e1 : (A.in1.in1.over (.compLoop (.GeneratorExp e gs sc p) 0 it acc env) []).depth = A.depth + 1 := rfl
  have e2 : (A.in1.in1.over (.compLoop (.GeneratorExp e gs sc p) 0 it acc env) []).units = A.units + 5 := rfl
  exact ⟨r.hd, by rw [e1]; omega, by rw [e2]; omega⟩
theorem frames_gen {A : Around} {l : List Env} {e : Expr} {gs : List Comprehension} {sc : Scope} {p : Pos} {it acc : Value} {env : Env} (h : A.frames = some l) :
    (A.in1.in1.over (.compLoop (.GeneratorExp e gs sc p) 0 it acc env) []).frames = some (env :: l) := by
  have e1 : (A.in1.in1.over (.compLoop (.GeneratorExp e gs sc p) 0 it acc env) []).frames = A.frames.map ([env] ++ ·) := rfl
  rw [e1, h]
  rfl

section
variable {X' : Cx} {A : Around} {σw : L2.St} {Qf Qe : Hp → Prop} {pn : List (Addr × Obj)} {a : Addr} {g : Nat} {go : Obj} {R' : Result → Shared → Prop}
theorem all_loop (hh : A.handled = none) (hd : A.depth < recursionLimit) (hpn : (a, go) ∈ pn) (hgen : ∀ h : Heap, h.get? a = some go → h.IsGen a g)
    (hR : ∀ (b : Bool) (H : Hp) (s' : Shared), Inv X' pn σw H s' → (b = true → Qe H) → (b = false → Qf H) → R' (.ok (.ret (.bool b))) s') :
    ∀ (n : Nat) (s : Shared) (gs : GenState), s.heap.IsGen a g → s.heap.NoLimit → s.gens[g]? = some gs →
      gs.Goes (model X'.prog X'.w) A.in1.in1 (fun n s₀ r s₁ => r = .ok .next ∧ PA' X' pn σw Qe n s₀ s₁) (YA X' pn σw false Qf) n (.send .none) (s.setGen g .running) →
      codeAny (model X'.prog X'.w) A (.builtin "all.loop" ⟨[.ref a], []⟩) R' s := by
  intro n
  induction n using Nat.strongRecOn with
  | ind n ih =>
    intro s gs hg hl hgs hgo
    have hgl : g < s.gens.size := (Array.getElem?_eq_some_iff.mp hgs).1
    refine codeAny_builtin F.entry_all_loop ?_
    rw [Around.under_plainId F.plain_all_loop _]
    show wpAny _ A.in1 (pyNext (.ref a) >>= _) _ _ s
    refine wpAny_bind (wpAny_gsz (n := g + 1) hgl (wpAny_pyNext_genexpQ (A := A.in1) hh hl hd hg hgs hgo (fun v s₁ gs' hbare hv => ?_) (fun s₁ hp h' hk => ?_)))
    · intro hsz
      obtain ⟨b, H1, rfl, I1, q⟩ := hv
      have I2 : Inv X' pn σw H1 (s₁.setGen g gs') := inv_gens I1 rfl rfl (allBare_setGen I1.bare hbare)
      have hsz1 : g < s₁.gens.size := by
        have q : (s₁.setGen g gs').gens.size = s₁.gens.size := setGen_size _ _ _
        have hsz' : g + 1 ≤ (s₁.setGen g gs').gens.size := hsz
        omega
      have hg2 : (s₁.setGen g gs').heap.IsGen a g := hgen _ (I2.pin (a, go) (List.mem_append_right _ hpn)).1
      refine wpAny_bind (wpAny_holding (wpAny_truthy_bool ?_))
      refine wpAny_bind (wpAny_letGo ?_)
      cases b with
      | true =>
        simp only [if_true]
        rcases q with ⟨hb, _⟩ | ⟨_, hk⟩
        · cases hb
        cases n with
        | zero => exact False.elim (hk _ ⟨rfl, rfl, I1.bare⟩)
        | succ m =>
          refine wpAny_pure ⟨plainId_quiet F.plain_all_loop _, ih m (Nat.lt_succ_self m) _ gs' hg2 I2.nolimit (setGen_at hsz1) ?_⟩
          exact hk _ ⟨rfl, rfl, allBare_setGen (s := s₁.setGen g gs') I2.bare rfl⟩
      | false =>
        simp only [Bool.false_eq_true, if_false]
        rcases q with ⟨_, qf⟩ | ⟨hb, _⟩
        · exact wpAny_bind (wpAny_rule (wpAny_pure (hR false H1 _ I2 (fun z => by cases z) fun _ => qf)))
        · cases hb
    · intro _
      obtain ⟨H1, I1, qe⟩ := hp
      have I2 : Inv X' pn σw H1 { s₁.setGen g .finished with heap := h' } := inv_gens (s := { s₁ with heap := h' }) (I1.kept (t' := s₁.toks) hk) rfl rfl (allBare_setGen I1.bare rfl)
      exact wpAny_bind (wpAny_rule (wpAny_pure (hR true H1 _ I2 (fun _ => qe) fun z => by cases z)))
theorem any_loop (hh : A.handled = none) (hd : A.depth < recursionLimit) (hpn : (a, go) ∈ pn) (hgen : ∀ h : Heap, h.get? a = some go → h.IsGen a g)
    (hR : ∀ (b : Bool) (H : Hp) (s' : Shared), Inv X' pn σw H s' → (b = false → Qe H) → (b = true → Qf H) → R' (.ok (.ret (.bool b))) s') :
    ∀ (n : Nat) (s : Shared) (gs : GenState), s.heap.IsGen a g → s.heap.NoLimit → s.gens[g]? = some gs →
      gs.Goes (model X'.prog X'.w) A.in1.in1 (fun n s₀ r s₁ => r = .ok .next ∧ PA' X' pn σw Qe n s₀ s₁) (YA X' pn σw true Qf) n (.send .none) (s.setGen g .running) →
      codeAny (model X'.prog X'.w) A (.builtin "any.loop" ⟨[.ref a], []⟩) R' s := by
  intro n
  induction n using Nat.strongRecOn with
  | ind n ih =>
    intro s gs hg hl hgs hgo
    have hgl : g < s.gens.size := (Array.getElem?_eq_some_iff.mp hgs).1
    refine codeAny_builtin F.entry_any_loop ?_
    rw [Around.under_plainId F.plain_any_loop _]
    show wpAny _ A.in1 (pyNext (.ref a) >>= _) _ _ s
    refine wpAny_bind (wpAny_gsz (n := g + 1) hgl (wpAny_pyNext_genexpQ (A := A.in1) hh hl hd hg hgs hgo (fun v s₁ gs' hbare hv => ?_) (fun s₁ hp h' hk => ?_)))
    · intro hsz
      obtain ⟨b, H1, rfl, I1, q⟩ := hv
      have I2 : Inv X' pn σw H1 (s₁.setGen g gs') := inv_gens I1 rfl rfl (allBare_setGen I1.bare hbare)
      have hsz1 : g < s₁.gens.size := by
        have q : (s₁.setGen g gs').gens.size = s₁.gens.size := setGen_size _ _ _
        have hsz' : g + 1 ≤ (s₁.setGen g gs').gens.size := hsz
        omega
      have hg2 : (s₁.setGen g gs').heap.IsGen a g := hgen _ (I2.pin (a, go) (List.mem_append_right _ hpn)).1
      refine wpAny_bind (wpAny_holding (wpAny_truthy_bool ?_))
      refine wpAny_bind (wpAny_letGo ?_)
      cases b with
      | false =>
        simp only [Bool.false_eq_true, if_false]
        rcases q with ⟨hb, _⟩ | ⟨_, hk⟩
        · cases hb
        cases n with
        | zero => exact False.elim (hk _ ⟨rfl, rfl, I1.bare⟩)
        | succ m =>
          refine wpAny_pure ⟨plainId_quiet F.plain_any_loop _, ih m (Nat.lt_succ_self m) _ gs' hg2 I2.nolimit (setGen_at hsz1) ?_⟩
          exact hk _ ⟨rfl, rfl, allBare_setGen (s := s₁.setGen g gs') I2.bare rfl⟩
      | true =>
        simp only [if_true]
        rcases q with ⟨_, qf⟩ | ⟨hb, _⟩
        · exact wpAny_bind (wpAny_rule (wpAny_pure (hR true H1 _ I2 (fun z => by cases z) fun _ => qf)))
        · cases hb
    · intro _
      obtain ⟨H1, I1, qe⟩ := hp
      have I2 : Inv X' pn σw H1 { s₁.setGen g .finished with heap := h' } := inv_gens (s := { s₁ with heap := h' }) (I1.kept (t' := s₁.toks) hk) rfl rfl (allBare_setGen I1.bare rfl)
      exact wpAny_bind (wpAny_rule (wpAny_pure (hR false H1 _ I2 (fun _ => qe) fun z => by cases z)))
end

/-- the generator has been made; stop: what ends its consumer ahead of the end -/
def MadeG (X : Cx) (pins : List (Addr × Obj)) (σ : L2.St) (stop : Bool) (Qf Qe : Hp → Prop) (u : Value) (s5 : Shared) : Prop :=
  ∃ (a : Addr) (g n : Nat) (gs : GenState) (go : Obj) (X' : Cx) (pn : List (Addr × Obj)) (σw : L2.St), u = .ref a ∧ X'.prog = X.prog ∧ X'.w = X.w ∧ (a, go) ∈ pn ∧ (∀ h : Heap, h.get? a = some go → h.IsGen a g) ∧ s5.heap.IsGen a g ∧ s5.heap.NoLimit ∧ s5.gens[g]? = some gs ∧
    gs.Goes (model X.prog X.w) X.A.in1.in1 (fun n s₀ r s₁ => r = .ok .next ∧ PA' X' pn σw Qe n s₀ s₁) (YA X' pn σw stop Qf) n (.send .none) (s5.setGen g .running) ∧
    ∀ H' s', Inv X' pn σw H' s' → Inv X pins σ H' s'

section
variable {X : Cx} {pins : List (Addr × Obj)} {σ : L2.St} {H : Hp} {s : Shared}
theorem gen_make {c P : Addr} {elt tg iter : Expr} {gpos : Pos} {scope : Scope} {own : List (Str × Nat)} {wi : TI} {g : TG} {te : TE} {k : Nat} {stop : Bool} {Qf Qe : Hp → Prop} {Q' : Value → Shared → Prop}
    (hr : Room (k + 1) X.A) (TB : TabB X.base X.mg c P) (hcode : X.env.code = .ref c) (hN : X.N.Nodup) (ok : GOk X.N X.env.scope scope own) (hi : PI X tg iter wi)
    (hg : ∀ (A' : Around) (s : Shared) (H : Hp) (C : Addr) (code : Value) (fp : List Addr), PG (gcx X A' s H (genEnv scope (cloFrom X.env.cells scope.names []) C code builtinsNs X.env) fp) tg g)
    (he : ∀ (A' : Around) (s : Shared) (H : Hp) (C : Addr) (code : Value) (fp : List Addr), Room k A' → PE (gcx X A' s H (genEnv scope (cloFrom X.env.cells scope.names []) C code builtinsNs X.env) fp) elt te)
    (hs : ∀ v, genFold iter X.env v = pure v) (I : Inv X pins σ H s)
    (h : wi σ H fun J H1 => TabG H1 P ∧ ∀ H2, Tabbed P H1 H2 → ∃ W : Nat → Nat → Hp → Prop, (∃ m, W 0 m H2) ∧ TurnG J g te (wipe σ (own.map (·.2))) (own.map (·.2)) stop Qf Qe W)
    (hQ : ∀ u s5, MadeG X pins σ stop Qf Qe u s5 → Q' u s5) :
    wpAny (model X.prog X.w) X.A (eval (.GeneratorExp elt [⟨tg, iter, [], 0⟩] scope gpos) X.env) Q' X.xe s := by
  have hfree : ∀ y ∈ scope.names, y.2 = .free → ∃ c, X.env.cells.lookup y.1 = some c := fun y hy e => by
    rcases ok.free y hy e with k | k
    · exact I.ok.has _ (.inl k)
    · exact I.ok.has _ (.inr k)
  refine wpAny_GeneratorExp_make ok.co (closure_ok hfree) ok.cell ok.dot ok.kind (by have := hr.dp; omega) ?_ hs
  refine thn (hi.run pins s σ H _ I h) fun xv s1 hx => thn hx fun itv s2 h2 => ?_
  obtain ⟨it, fp, tn, J, H2, e, I2, T, st2, f2, ⟨ps, hP, ht⟩, q⟩ := h2
  subst e
  refine ⟨I2.nolimit, ?_⟩
  have hPs : s2.heap.get? P = some { cls := .none, data := .fields ps } := I2.hok P _ hP
  have cd : PySem.W.CodeHd s2.heap c P := TB.code.keeps I2.bk
  have fpP : ∀ b ∈ fp, b ≠ P := fun b hb z => by
    have := (f2 b hb).1
    rw [z, hP] at this
    cases this
  have cont : ∀ (code : Value) (h3 : Heap) (tk : Nat) (ps' : Array Value), Heap.ExtBut P s2.heap h3 → h3.get? P = some { cls := .none, data := .fields ps' } → (∃ more, ps' = ps ++ more) → TriplesOk ps'.toList →
      wpAny (model X.prog X.w) X.A (builtinsFor X.env.globals X.env.builtins) (fun bi s₄ =>
        ∀ h', h'.Ns s₄.heap.objs.size (fun y => if y = ".0" then some (Value.ref it) else none) → Heap.SameBut s₄.heap.objs.size (s₄.heap.push { cls := .type "frame", data := .dict #[] }) h' →
          Q' (.ref h'.objs.size) { s₄ with
            gens := s₄.gens.push (.fresh (.compStart (.GeneratorExp elt [⟨tg, iter, [], 0⟩] scope gpos) 0 (.ref it) .none (genEnv scope (cloFrom X.env.cells scope.names []) s₄.heap.objs.size code bi X.env))),
            toks := s₄.toks + 1 + 1 + 1,
            heap := h'.push { cls := .type "generator", data := .fields #[.int s₄.gens.size 0, .str "<genexpr>" (s₄.toks + 1), .str (X.env.qual ++ "<genexpr>") (s₄.toks + 1 + 1)] } }) X.xe { s2 with heap := h3, toks := tk } := by
    intro code h3 tk ps' hx hP3 hmore ht3
    obtain ⟨bm, ob, e1, e2, e3, e4, e5, e6, e7, e8⟩ := TB.bm
    have keep3 : ∀ b u, b ≠ P → s2.heap.get? b = some u → h3.get? b = some u := fun b u hb e => hx b u hb e
    refine wpAny_builtinsFor (m := X.mg) (by rw [I2.ok.glob]; exact (I2.mod.glob.keeps I2.bk).extBut hx TB.gP) e1 e2 (keep3 _ _ e4 (I2.bk _ _ e5)) e6 e7 e8 ?_
    obtain ⟨more, em⟩ := hmore
    have J3 := inv_tab (more := more) (h' := h3) (g' := s2.gens) (d' := s2.drawn) (t' := tk) I2 hP (fun b u hb e => keep3 b u hb e) (by rw [← em]; exact hP3) I2.bare
    obtain ⟨W, ⟨m, w⟩, turn⟩ := q (upd H2 P (.tbl (ps ++ more))) ⟨⟨ps ++ more, upd_same, by rw [← em]; exact ht3⟩, fun b hb => upd_ne hb⟩
    intro h' hn' hs'
    generalize hs4 : ({ s2 with heap := h3, gens := s2.gens, drawn := s2.drawn, toks := tk } : Shared) = s4 at J3
    have hs4' : ({ s2 with heap := h3, toks := tk } : Shared) = s4 := hs4
    try rw [hs4'] at hn'
    try rw [hs4'] at hs'
    try rw [hs4']
    have eh : s4.heap = h3 := by rw [← hs4]
    have szh : h'.objs.size = s4.heap.objs.size + 1 := by rw [hs'.1, Heap.size_push]
    have keep' : ∀ b o, s4.heap.get? b = some o → h'.get? b = some o := fun b o e => hs'.extBut b o (Nat.ne_of_lt (Heap.lt_size e)) (Heap.get?_push_of_some _ e)
    have st4 : tn 0 s4.heap := T.keep _ _ _ st2 fun b hb o e => by rw [eh]; exact keep3 b o (fpP b hb) e
    have f4 : ∀ b ∈ fp, FpOk X pins (upd H2 P (.tbl (ps ++ more))) b ∧ b < s4.heap.objs.size := fun b hb => by
      obtain ⟨o, e, _⟩ := T.obj _ _ st4 b hb
      exact ⟨⟨by rw [upd_ne (fpP b hb)]; exact (f2 b hb).1, (f2 b hb).2⟩, Heap.lt_size e⟩
    have keep5 : ∀ b o, s4.heap.get? b = some o → (h'.push { cls := .type "generator", data := .fields #[.int s4.gens.size 0, .str "<genexpr>" (s4.toks + 1), .str (X.env.qual ++ "<genexpr>") (s4.toks + 1 + 1)] }).get? b = some o :=
      fun b o e => Heap.get?_push_of_some _ (keep' b o e)
    have hgo : (h'.push { cls := .type "generator", data := .fields #[.int s4.gens.size 0, .str "<genexpr>" (s4.toks + 1), .str (X.env.qual ++ "<genexpr>") (s4.toks + 1 + 1)] }).get? (s4.heap.objs.size + 1) =
        some { cls := .type "generator", data := .fields #[.int s4.gens.size 0, .str "<genexpr>" (s4.toks + 1), .str (X.env.qual ++ "<genexpr>") (s4.toks + 1 + 1)] } := by
      rw [← szh]
      exact Heap.get?_push_size _ rfl
    generalize hA' : X.A.in1.in1.over (.compLoop (.GeneratorExp elt [⟨tg, iter, [], 0⟩] scope gpos) 0 (.ref it) .none (genEnv scope (cloFrom X.env.cells scope.names []) s4.heap.objs.size code builtinsNs X.env)) [] = A'
    have rA : Room k A' := by rw [← hA']; exact room_gen hr
    have fA : A'.frames = some (genEnv scope (cloFrom X.env.cells scope.names []) s4.heap.objs.size code builtinsNs X.env :: X.stack) := by rw [← hA']; exact frames_gen I2.ok.frames
    have I5 := gen_start (A' := A') (code := code) (go := { cls := .type "generator", data := .fields #[.int s4.gens.size 0, .str "<genexpr>" (s4.toks + 1), .str (X.env.qual ++ "<genexpr>") (s4.toks + 1 + 1)] })
      (G5 := s4.gens.push (.fresh (.compStart (.GeneratorExp elt [⟨tg, iter, [], 0⟩] scope gpos) 0 (.ref it) .none (genEnv scope (cloFrom X.env.cells scope.names []) s4.heap.objs.size code builtinsNs X.env)))) (t5 := s4.toks + 1 + 1 + 1)
      J3 ok hN f4 rA.hd fA keep5 (hn'.push _) hgo (fun v z => by cases z) (J3.bare.push rfl)
    have nfp : ∀ b ∈ fp, (upd H2 P (.tbl (ps ++ more))) b = none := fun b hb => (f4 b hb).1.1
    refine hQ _ _ ⟨h'.objs.size, s4.gens.size, m + 1, _, { cls := .type "generator", data := .fields #[.int s4.gens.size 0, .str "<genexpr>" (s4.toks + 1), .str (X.env.qual ++ "<genexpr>") (s4.toks + 1 + 1)] },
      gcx X A' s4 (upd H2 P (.tbl (ps ++ more))) (genEnv scope (cloFrom X.env.cells scope.names []) s4.heap.objs.size code builtinsNs X.env) fp,
      [(s4.heap.objs.size + 1, { cls := .type "generator", data := .fields #[.int s4.gens.size 0, .str "<genexpr>" (s4.toks + 1), .str (X.env.qual ++ "<genexpr>") (s4.toks + 1 + 1)] })], wipe σ (own.map (·.2)), rfl, rfl, rfl, ?_, ?_, ?_, I5.nolimit, Array.getElem?_push_size .., ?_, ?_⟩
    · rw [szh]; exact List.mem_singleton.mpr rfl
    · exact fun h hh => ⟨_, _, _, hh, rfl, rfl, rfl⟩
    · rw [szh]; exact ⟨_, _, _, hgo, rfl, rfl, rfl⟩
    · refine ⟨rfl, ?_⟩
      have I6 := inv_gens (s' := ({ s4 with
            gens := s4.gens.push (.fresh (.compStart (.GeneratorExp elt [⟨tg, iter, [], 0⟩] scope gpos) 0 (.ref it) .none (genEnv scope (cloFrom X.env.cells scope.names []) s4.heap.objs.size code builtinsNs X.env))),
            toks := s4.toks + 1 + 1 + 1,
            heap := h'.push { cls := .type "generator", data := .fields #[.int s4.gens.size 0, .str "<genexpr>" (s4.toks + 1), .str (X.env.qual ++ "<genexpr>") (s4.toks + 1 + 1)] } } : Shared).setGen s4.gens.size .running) I5 rfl rfl (allBare_setGen I5.bare rfl)
      exact seg_first (X' := gcx X A' s4 (upd H2 P (.tbl (ps ++ more))) (genEnv scope (cloFrom X.env.cells scope.names []) s4.heap.objs.size code builtinsNs X.env) fp) (A := X.A.in1.in1) hA' rfl rfl rfl rfl ok.co T
        (fun p hp z => by
          have e : p = _ := List.mem_singleton.mp hp
          rw [e] at z
          exact absurd (f4 _ z).2 (Nat.not_lt.mpr (Nat.le_succ _))) (hg A' s4 _ _ code fp) (he A' s4 _ _ code fp rA) turn (m + 1) _ _ m _ (Nat.lt_succ_self m) I6
        (T.keep _ _ _ st4 fun b _ o e => keep5 b o e) nfp w
    · intro H' s' J
      exact J3.call' (ch := fp) J.os J.base J.hok J.bare fun b hb => ⟨(f4 b hb).1.2.2.2.1, (f4 b hb).1.2.1, (f4 b hb).1.2.2.2.2.1, (f4 b hb).1.2.2.2.2.2⟩
  cases hf : codeAmong gpos ps.toList with
  | none =>
    refine wpAny_genexprCodeX hcode (cd.code hPs ht) (cd.tab hPs) hf fun c' h' tk hx hge hlt hco' _ htab' _ => ?_
    obtain ⟨o1, vs, f1, tf, fl, tg, inF, tx, tt, op, _, _, _, _, _, _, _, _, _, htr, _⟩ := hco'
    exact cont _ h' tk _ hx htab'.2 ⟨_, rfl⟩ htr
  | some cv =>
    refine wpAny_genexprCode_hit hcode (cd.code hPs ht) hf ?_
    exact cont cv s2.heap s2.toks ps (Heap.ExtBut.refl _ _) hPs ⟨#[], by simp⟩ ht
end

/-! ### any, all -/
/-- the reading: the walked thing, then the table may have grown; W by the turn and a measure -/
def tGen (stop : Bool) (P : Addr) (wi : TI) (g : TG) (te : TE) (vs : List Nat) : TE := fun σ H Q => wi σ H fun J H1 => TabG H1 P ∧ ∀ H2, Tabbed P H1 H2 → ∃ W : Nat → Nat → Hp → Prop, (∃ m, W 0 m H2) ∧
  TurnG J g te (wipe σ vs) vs stop (fun H' => Q (.bl stop) H') (fun H' => Q (.bl (!stop)) H') W
section
variable {X : Cx} {c P : Addr} {elt tg iter : Expr} {p pos gpos : Pos} {scope : Scope} {own : List (Str × Nat)} {wi : TI} {g : TG} {te : TE} {k : Nat}
theorem pe_all (hr : Room (k + 1) X.A) (hgl : Gl X "all") (hm : X.mg "all" = none) (TB : TabB X.base X.mg c P) (hcode : X.env.code = .ref c) (hN : X.N.Nodup) (ok : GOk X.N X.env.scope scope own) (hi : PI X tg iter wi)
    (hg : ∀ (A' : Around) (s : Shared) (H : Hp) (C : Addr) (code : Value) (fp : List Addr), PG (gcx X A' s H (genEnv scope (cloFrom X.env.cells scope.names []) C code builtinsNs X.env) fp) tg g)
    (he : ∀ (A' : Around) (s : Shared) (H : Hp) (C : Addr) (code : Value) (fp : List Addr), Room k A' → PE (gcx X A' s H (genEnv scope (cloFrom X.env.cells scope.names []) C code builtinsNs X.env) fp) elt te)
    (hs : ∀ v, genFold iter X.env v = pure v := by intro _; rfl)
    (hst : starEach [.GeneratorExp elt [⟨tg, iter, [], 0⟩] scope gpos] X.env = (false, eval (.GeneratorExp elt [⟨tg, iter, [], 0⟩] scope gpos) X.env) :: starEach [] X.env := by rfl) :
    PE X (.Call (.Name "all" p) [.GeneratorExp elt [⟨tg, iter, [], 0⟩] scope gpos] [] pos) (tGen false P wi g te (own.map (·.2))) := by
  refine ⟨fun pins s σ H Q I h => ?_⟩
  refine wpAny_Call_Name_kw (ld_blt I hgl hm (show bootBuiltins "all" = some (.builtin "all") by decide +kernel) ?_)
  refine PyProof.Rows.callWith_builtin1 ?_ hst (by rfl)
  rw [hst]
  show wpAny _ _ (spliced ((false, eval (.GeneratorExp elt [⟨tg, iter, [], 0⟩] scope gpos) X.env) :: backTo pos (starEach [] X.env))) _ _ s
  refine Calls.spliced_cons (gen_make hr TB hcode hN ok hi hg he hs I h fun u s5 hG => ?_)
  obtain ⟨a, gn, n, gs, go, X', pn, σw, rfl, e1, e2, hpn, hgen, hig, hl, hgs, hgo, back⟩ := hG
  refine Calls.spliced_nil ?_
  refine call_function_tree F.kind_all F.plain_all F.entry_all (F.args_all1 _) ?_
  unfold Builtin.«all»
  refine wpAny_bind (m := oneArg "all" _) (wpAny_pure ?_)
  refine wpAny_bind (wpAny_pyIter_gen hig ?_)
  refine wpAny_pure ⟨plainId_quiet F.plain_all_loop _, ?_⟩
  rw [← e1, ← e2] at hgo ⊢
  refine all_loop (X' := X') (A := X.A) hr.hd (by have := hr.dp; omega) hpn hgen (fun b H' s' J q1 q2 => ?_) n s5 gs hig hl hgs hgo
  refine ⟨.bl b, H', back H' s' J, rfl, ?_⟩
  cases b with
  | true => exact q1 rfl
  | false => exact q2 rfl
theorem pe_any (hr : Room (k + 1) X.A) (hgl : Gl X "any") (hm : X.mg "any" = none) (TB : TabB X.base X.mg c P) (hcode : X.env.code = .ref c) (hN : X.N.Nodup) (ok : GOk X.N X.env.scope scope own) (hi : PI X tg iter wi)
    (hg : ∀ (A' : Around) (s : Shared) (H : Hp) (C : Addr) (code : Value) (fp : List Addr), PG (gcx X A' s H (genEnv scope (cloFrom X.env.cells scope.names []) C code builtinsNs X.env) fp) tg g)
    (he : ∀ (A' : Around) (s : Shared) (H : Hp) (C : Addr) (code : Value) (fp : List Addr), Room k A' → PE (gcx X A' s H (genEnv scope (cloFrom X.env.cells scope.names []) C code builtinsNs X.env) fp) elt te)
    (hs : ∀ v, genFold iter X.env v = pure v := by intro _; rfl)
    (hst : starEach [.GeneratorExp elt [⟨tg, iter, [], 0⟩] scope gpos] X.env = (false, eval (.GeneratorExp elt [⟨tg, iter, [], 0⟩] scope gpos) X.env) :: starEach [] X.env := by rfl) :
    PE X (.Call (.Name "any" p) [.GeneratorExp elt [⟨tg, iter, [], 0⟩] scope gpos] [] pos) (tGen true P wi g te (own.map (·.2))) := by
  refine ⟨fun pins s σ H Q I h => ?_⟩
  refine wpAny_Call_Name_kw (ld_blt I hgl hm boot_any ?_)
  refine PyProof.Rows.callWith_builtin1 ?_ hst (by rfl)
  rw [hst]
  show wpAny _ _ (spliced ((false, eval (.GeneratorExp elt [⟨tg, iter, [], 0⟩] scope gpos) X.env) :: backTo pos (starEach [] X.env))) _ _ s
  refine Calls.spliced_cons (gen_make hr TB hcode hN ok hi hg he hs I h fun u s5 hG => ?_)
  obtain ⟨a, gn, n, gs, go, X', pn, σw, rfl, e1, e2, hpn, hgen, hig, hl, hgs, hgo, back⟩ := hG
  refine Calls.spliced_nil ?_
  refine call_function_tree F.kind_any F.plain_any F.entry_any (F.args_any1 _) ?_
  unfold Builtin.«any»
  refine wpAny_bind (m := oneArg "any" _) (wpAny_pure ?_)
  refine wpAny_bind (wpAny_pyIter_gen hig ?_)
  refine wpAny_pure ⟨plainId_quiet F.plain_any_loop _, ?_⟩
  rw [← e1, ← e2] at hgo ⊢
  refine any_loop (X' := X') (A := X.A) hr.hd (by have := hr.dp; omega) hpn hgen (fun b H' s' J q1 q2 => ?_) n s5 gs hig hl hgs hgo
  refine ⟨.bl b, H', back H' s' J, rfl, ?_⟩
  cases b with
  | false => exact q1 rfl
  | true => exact q2 rfl
end

/-! ### the forms one uses: over a tuple, a list, a range -/
section
variable {K : PySem.W.Frag} {g : TG} {te : TE} {σw : L2.St} {vs : List Nat} {stop : Bool} {Qf Qe : Hp → Prop}
theorem gen_tup {a : Addr} {xs : List V} {H2 : Hp} (Pv : Nat → Hp → Prop) (h0 : Pv 0 H2) (hl : ∀ i H, i ≤ xs.length → Pv i H → SqT K H a xs)
    (hs : ∀ i x H, xs[i]? = some x → Pv i H → g x σw H fun σ2 H2 => wipe σ2 vs = σw ∧ te σ2 H2 fun y H3 => ∃ b, y = .bl b ∧ (b = stop → Qf H3) ∧ (b = !stop → Pv (i + 1) H3))
    (hd : ∀ H, Pv xs.length H → Qe H) : ∃ W : Nat → Nat → Hp → Prop, (∃ m, W 0 m H2) ∧ TurnG (Itt K a) g te σw vs stop Qf Qe W := by
  refine ⟨fun i m H => m = xs.length - i ∧ i ≤ xs.length ∧ Pv i H, ⟨xs.length, by simp, Nat.zero_le _, h0⟩, ?_⟩
  rintro i m H ⟨rfl, hi, p⟩
  have q := hl i H hi p
  by_cases hlt : i < xs.length
  · refine .inr ⟨⟨xs, xs[i], q, by simp [hlt]⟩, Pv (i + 1), fun H' p' => ⟨xs.length - (i + 1), by omega, rfl, hlt, p'⟩, fun x H' y => ?_⟩
    obtain ⟨e, y⟩ := y
    subst e
    exact hs i x _ (y xs q) p
  · have e : i = xs.length := by omega
    subst e
    exact .inl ⟨⟨xs, q, Nat.le_refl _⟩, hd H p⟩
theorem gen_list {a : Addr} {xs : List V} {H2 : Hp} (Pv : Nat → Hp → Prop) (h0 : Pv 0 H2) (hl : ∀ i H, i ≤ xs.length → Pv i H → SqL K H a xs)
    (hs : ∀ i x H, xs[i]? = some x → Pv i H → g x σw H fun σ2 H2 => wipe σ2 vs = σw ∧ te σ2 H2 fun y H3 => ∃ b, y = .bl b ∧ (b = stop → Qf H3) ∧ (b = !stop → Pv (i + 1) H3))
    (hd : ∀ H, Pv xs.length H → Qe H) : ∃ W : Nat → Nat → Hp → Prop, (∃ m, W 0 m H2) ∧ TurnG (Itl K a) g te σw vs stop Qf Qe W := by
  refine ⟨fun i m H => m = xs.length - i ∧ i ≤ xs.length ∧ Pv i H, ⟨xs.length, by simp, Nat.zero_le _, h0⟩, ?_⟩
  rintro i m H ⟨rfl, hi, p⟩
  have q := hl i H hi p
  by_cases hlt : i < xs.length
  · refine .inr ⟨⟨xs, xs[i], q, by simp [hlt]⟩, Pv (i + 1), fun H' p' => ⟨xs.length - (i + 1), by omega, rfl, hlt, p'⟩, fun x H' y => ?_⟩
    obtain ⟨e, y⟩ := y
    subst e
    exact hs i x _ (y xs q) p
  · have e : i = xs.length := by omega
    subst e
    exact .inl ⟨⟨xs, q, Nat.le_refl _⟩, hd H p⟩
theorem gen_range {lo : Int} {n : Nat} {H2 : Hp} (Pv : Nat → Hp → Prop) (h0 : Pv 0 H2)
    (hs : ∀ i H, i < n → Pv i H → g (.int (lo + i)) σw H fun σ2 H2 => wipe σ2 vs = σw ∧ te σ2 H2 fun y H3 => ∃ b, y = .bl b ∧ (b = stop → Qf H3) ∧ (b = !stop → Pv (i + 1) H3))
    (hd : ∀ H, Pv n H → Qe H) : ∃ W : Nat → Nat → Hp → Prop, (∃ m, W 0 m H2) ∧ TurnG (Itr lo n) g te σw vs stop Qf Qe W := by
  refine ⟨fun i m H => m = n - i ∧ i ≤ n ∧ Pv i H, ⟨n, by simp, Nat.zero_le _, h0⟩, ?_⟩
  rintro i m H ⟨rfl, hi, p⟩
  by_cases hlt : i < n
  · refine .inr ⟨hlt, Pv (i + 1), fun H' p' => ⟨n - (i + 1), by omega, rfl, hlt, p'⟩, fun x H' y => ?_⟩
    obtain ⟨e, y⟩ := y
    subst e y
    exact hs i _ hlt p
  · have e : i = n := by omega
    subst e
    exact .inl ⟨Nat.le_refl _, hd H p⟩
end

/-! ### a def whose code's table is known -/
structure FunT (K : PySem.W.Frag) (x qual : Str) (st : Stmt) (f : Addr) (fd : FuncData) (c : Addr) : Prop where
  ex : ∃ (oc : Value) (od : Option Addr) (kV doc pm : Value) (an : Option Addr) (ct : Value) (osl : Array (Option Value)),
    fd = PySem.W.fnOf x qual (defArgs st) (defBody st) (defScope st) .none kV doc pm an (.ref c) ct ∧ K.lookup f = some ⟨oc, od, .func fd, osl⟩ ∧ PySem.W.codeIn K (.ref c) qual = true
  kp : PySem.W.keepIn K (.ref f) = true
section
variable {P : Program} {w : World} {K : PySem.W.Frag} {mg : Str → Option Value} {base : Heap}
theorem FunT.toFun {x qual : Str} {st : Stmt} {f : Addr} {fd : FuncData} {c : Addr} (F : FunT K x qual st f fd c) : Fun K x qual st f fd := by
  obtain ⟨oc, od, kV, doc, pm, an, ct, osl, rfl, lk, hcd⟩ := F.ex
  exact ⟨⟨oc, od, kV, doc, pm, an, _, ct, osl, rfl, lk, hcd⟩, F.kp⟩
theorem FunT.ok {x qual : Str} {st : Stmt} {f : Addr} {fd : FuncData} {c : Addr} {N ps : List Str} {k : Nat} {sp : Sp} (F : FunT K x qual st f fd c) (S : FnScope N ps (defScope st)) (len : ∀ vs H Q E, sp vs H Q E → vs.length = ps.length)
    (hbody : ∀ (A : Around) (outer : List Env) (s : Shared) (H : Hp) (vs : List V) (Q : VK) (E : XK), Room k (A.deeper (envOfC qual (defScope st) s.heap.objs.size f (.ref c))) → sp vs H Q E →
      ∃ t, PSs (cxOf CX0 P w K mg base N qual (defScope st) f (.ref c) A outer s H E).nox (defBody st) t ∧ t { nx := fun _ H' => Q .non H', rt := Q } (start N vs) H) : FnOk P w K mg base CX0 (k + 1) f fd ps sp := by
  obtain ⟨oc, od, kV, doc, pm, an, ct, osl, rfl, lk, hcd⟩ := F.ex
  refine fn_of lk hcd S len fun A outer s H vs Q E hr hsp => ?_
  obtain ⟨t, h, q⟩ := hbody A outer s H vs Q E hr hsp
  exact ⟨t, h.nox, q⟩
theorem funT_mk {x qual : Str} {st : Stmt} {f : Addr} {oc : Value} {od an : Option Addr} {osl : Array (Option Value)} {kV doc pm ct : Value} {c : Addr} (l : K.lookup f = some ⟨oc, od, .func (PySem.W.fnOf x qual (defArgs st) (defBody st) (defScope st) .none kV doc pm an (.ref c) ct), osl⟩)
    (hc : PySem.W.codeIn K (.ref c) qual = true) (k : PySem.W.keepIn K (.ref f) = true) : FunT K x qual st f (PySem.W.fnOf x qual (defArgs st) (defBody st) (defScope st) .none kV doc pm an (.ref c) ct) c := ⟨⟨oc, od, kV, doc, pm, an, ct, osl, rfl, l, hc⟩, k⟩
end
end GA

set_option Elab.async false
set_option linter.all false
set_option maxRecDepth 100000
set_option maxHeartbeats 4000000
/-! Data of any depth in the abstract heap; what a call keeps; the law's stream. -/
namespace KD
open PySem PySem.Spec PyProof.Rows L2 GxR GA

/-! ### data in the heap: lists that stand at M may change, so no datum is at one -/
mutual
inductive At (M : Addr → Prop) (H : Hp) : V → PyData → Prop
  | non : At M H .non .none
  | bl (b : Bool) : At M H (.bl b) (.bool b)
  | int (i : Int) : At M H (.int i) (.int i)
  | str (x : Str) : At M H (.str x) (.str x)
  | lst {a : Addr} {xs : List V} {ds : List PyData} : H a = some (.lst xs) → ¬ M a → AtL M H xs ds → At M H (.ref a) (.list ds)
  | tup {a : Addr} {xs : List V} {ds : List PyData} : H a = some (.tup xs) → AtL M H xs ds → At M H (.ref a) (.tuple ds)
inductive AtL (M : Addr → Prop) (H : Hp) : List V → List PyData → Prop
  | nil : AtL M H [] []
  | cons {v : V} {vs : List V} {d : PyData} {ds : List PyData} : At M H v d → AtL M H vs ds → AtL M H (v :: vs) (d :: ds)
end
/-- what a call keeps -/
structure Kp (M : Addr → Prop) (H H' : Hp) : Prop where
  tup : ∀ b xs, H b = some (.tup xs) → H' b = some (.tup xs)
  lst : ∀ b xs, ¬ M b → H b = some (.lst xs) → H' b = some (.lst xs)
  frz : ∀ b o u, H b = some (.frz o u) → H' b = some (.frz o u)
  tbl : ∀ P, TabG H P → TabG H' P
  dct : ∀ b kvs, ¬ M b → H b = some (.dT kvs) → H' b = some (.dT kvs)
abbrev MN : Addr → Prop := fun _ => False
section
variable {M M' : Addr → Prop} {H H' H2 : Hp}
theorem Kp.refl : Kp M H H := ⟨fun _ _ h => h, fun _ _ _ h => h, fun _ _ _ h => h, fun _ h => h, fun _ _ _ h => h⟩
theorem Kp.trans (a : Kp M H H') (b : Kp M H' H2) : Kp M H H2 := ⟨fun c xs h => b.tup c xs (a.tup c xs h), fun c xs n h => b.lst c xs n (a.lst c xs n h), fun c o u h => b.frz c o u (a.frz c o u h), fun P h => b.tbl P (a.tbl P h), fun c kvs n h => b.dct c kvs n (a.dct c kvs n h)⟩
theorem Kp.mono (a : Kp M H H') (h : ∀ b, M b → M' b) : Kp M' H H' := ⟨a.tup, fun b xs n => a.lst b xs fun z => n (h b z), a.frz, a.tbl, fun b xs n => a.dct b xs fun z => n (h b z)⟩
theorem Kp.any (a : Kp MN H H') : Kp M H H' := a.mono fun _ z => z.elim
theorem Kp.new {p : Addr} {o : HO} (h : H p = none) : Kp M H (upd H p o) := by
  have n : ∀ b u, H b = some u → b ≠ p := fun b u e => ne_of_none e h
  refine ⟨fun b xs e => by rw [upd_ne (n b _ e)]; exact e, fun b xs _ e => by rw [upd_ne (n b _ e)]; exact e, fun b o u e => by rw [upd_ne (n b _ e)]; exact e, fun P ⟨ps, e, t⟩ => ⟨ps, by rw [upd_ne (n P _ e)]; exact e, t⟩, fun b kvs _ e => by rw [upd_ne (n b _ e)]; exact e⟩
theorem Kp.put {a : Addr} {xs ys : List V} (hm : M a) (h : H a = some (.lst xs)) : Kp M H (upd H a (.lst ys)) := by
  refine ⟨fun b zs e => by rw [upd_ne (ne_of e h (by intro z; cases z))]; exact e, fun b zs n e => ?_, fun b o u e => by rw [upd_ne (ne_of e h (by intro z; cases z))]; exact e, fun P ⟨ps, e, t⟩ => ⟨ps, by rw [upd_ne (ne_of e h (by intro z; cases z))]; exact e, t⟩, fun b kvs _ e => by rw [upd_ne (ne_of e h (by intro z; cases z))]; exact e⟩
  rw [upd_ne (fun z => n (by rw [z]; exact hm))]
  exact e
theorem Kp.tabbed {P : Addr} (hP : TabG H P) (h : Tabbed P H H') : Kp M H H' := by
  obtain ⟨ps, e, t⟩ := hP
  have n : ∀ b u, H b = some u → (∀ q, u ≠ .tbl q) → b ≠ P := fun b u z q y => by
    rw [y, e] at z
    exact q ps (Option.some.inj z).symm
  refine ⟨fun b xs z => by rw [h.2 b (n b _ z (by intro q y; cases y))]; exact z, fun b xs _ z => by rw [h.2 b (n b _ z (by intro q y; cases y))]; exact z, fun b o u z => by rw [h.2 b (n b _ z (by intro q y; cases y))]; exact z, fun P' ⟨ps', e', t'⟩ => ?_, fun b kvs _ z => by rw [h.2 b (n b _ z (by intro q y; cases y))]; exact z⟩
  by_cases hb : P' = P
  · rw [hb]; exact h.1
  · exact ⟨ps', by rw [h.2 P' hb]; exact e', t'⟩
/-- a write to a list that stood nowhere at the beginning -/
theorem Kp.putNew {a : Addr} {xs ys : List V} (k : Kp M H H') (hn : H a = none) (h : H' a = some (.lst xs)) : Kp M H (upd H' a (.lst ys)) := by
  have n : ∀ b u, H b = some u → b ≠ a := fun b u e => ne_of_none e hn
  refine ⟨fun b zs e => by rw [upd_ne (n b _ e)]; exact k.tup b zs e, fun b zs m e => by rw [upd_ne (n b _ e)]; exact k.lst b zs m e, fun b o u e => by rw [upd_ne (n b _ e)]; exact k.frz b o u e, fun P hP => ?_, fun b kvs m e => by rw [upd_ne (n b _ e)]; exact k.dct b kvs m e⟩
  obtain ⟨ps, e, t⟩ := k.tbl P hP
  exact ⟨ps, by rw [upd_ne (ne_of e h (by intro z; cases z))]; exact e, t⟩
theorem Kp.putFresh {a : Addr} {xs ys : List V} (k : Kp M H H') (hn : ∀ zs, H a ≠ some (.lst zs)) (h : H' a = some (.lst xs)) : Kp M H (upd H' a (.lst ys)) := by
  refine ⟨fun b zs e => ?_, fun b zs m e => ?_, fun b o u e => ?_, fun P hP => ?_, fun b kvs m e => by rw [upd_ne (ne_of (k.dct b kvs m e) h (by intro z; cases z))]; exact k.dct b kvs m e⟩
  · have e' := k.tup b zs e
    rw [upd_ne (ne_of e' h (by intro z; cases z))]; exact e'
  · rw [upd_ne (fun z => hn zs (by rw [← z]; exact e))]; exact k.lst b zs m e
  · have e' := k.frz b o u e
    rw [upd_ne (ne_of e' h (by intro z; cases z))]; exact e'
  · obtain ⟨ps, e, t⟩ := k.tbl P hP
    exact ⟨ps, by rw [upd_ne (ne_of e h (by intro z; cases z))]; exact e, t⟩
/-- a dict that may change -/
theorem Kp.putD {a : Addr} {xs ys : List (List Key × V)} (hm : M a) (h : H a = some (.dT xs)) : Kp M H (upd H a (.dT ys)) :=
  ⟨fun b zs e => by rw [upd_ne (ne_of e h (by intro z; cases z))]; exact e, fun b zs _ e => by rw [upd_ne (ne_of e h (by intro z; cases z))]; exact e, fun b o u e => by rw [upd_ne (ne_of e h (by intro z; cases z))]; exact e,
    fun P ⟨ps, e, t⟩ => ⟨ps, by rw [upd_ne (ne_of e h (by intro z; cases z))]; exact e, t⟩, fun b zs n e => by rw [upd_ne (fun z => n (by rw [z]; exact hm))]; exact e⟩
/-- what changes stood nowhere at the beginning -/
theorem Kp.cut {a : Addr} (k : Kp M H H') (k2 : Kp (fun b => b = a) H' H2) (hn : H a = none) : Kp M H H2 := by
  have n : ∀ b u, H b = some u → b ≠ a := fun b u e => ne_of_none e hn
  exact ⟨fun b zs e => k2.tup b zs (k.tup b zs e), fun b zs m e => k2.lst b zs (n b _ e) (k.lst b zs m e), fun b o u e => k2.frz b o u (k.frz b o u e), fun P hP => k2.tbl P (k.tbl P hP), fun b zs m e => k2.dct b zs (n b _ e) (k.dct b zs m e)⟩
theorem Kp.noLst {a : Addr} (k : Kp M H H') (hm : ¬ M a) (h : H' a = none) : ∀ zs, H a ≠ some (.lst zs) := fun zs e => by
  rw [k.lst a zs hm e] at h
  cases h
theorem Kp.seqL {K : PySem.W.Frag} {a : Addr} {xs : List V} (k : Kp M H H') (hm : ¬ M a) (h : SqL K H a xs) : SqL K H' a xs := by
  rcases h with (h | ⟨o, h⟩) | h
  · exact .inl (.inl (k.lst _ _ hm h))
  · exact .inl (.inr ⟨o, k.frz _ _ _ h⟩)
  · exact .inr h
theorem Kp.seqT {K : PySem.W.Frag} {a : Addr} {xs : List V} (k : Kp M H H') (h : SqT K H a xs) : SqT K H' a xs := by
  rcases h with (h | ⟨o, h⟩) | h
  · exact .inl (.inl (k.tup _ _ h))
  · exact .inl (.inr ⟨o, k.frz _ _ _ h⟩)
  · exact .inr h
mutual
theorem At.kp (k : Kp M H H') : ∀ {d : PyData} {v : V}, At M H v d → At M H' v d
  | .none, _, h => by cases h; exact .non
  | .bool b, _, h => by cases h; exact .bl b
  | .int i, _, h => by cases h; exact .int i
  | .str x, _, h => by cases h; exact .str x
  | .list ds, _, h => by
    cases h with
    | lst e n r => exact .lst (k.lst _ _ n e) n (AtL.kp k r)
  | .tuple ds, _, h => by
    cases h with
    | tup e r => exact .tup (k.tup _ _ e) (AtL.kp k r)
  | .dict _, _, h => by cases h
theorem AtL.kp (k : Kp M H H') : ∀ {ds : List PyData} {vs : List V}, AtL M H vs ds → AtL M H' vs ds
  | [], _, h => by cases h; exact .nil
  | d :: ds, _, h => by
    cases h with
    | cons a r => exact .cons (At.kp k a) (AtL.kp k r)
end
mutual
theorem At.weak (w : ∀ a, M' a → M a) : ∀ {d : PyData} {v : V}, At M H v d → At M' H v d
  | .none, _, h => by cases h; exact .non
  | .bool b, _, h => by cases h; exact .bl b
  | .int i, _, h => by cases h; exact .int i
  | .str x, _, h => by cases h; exact .str x
  | .list ds, _, h => by
    cases h with
    | lst e n r => exact .lst e (fun z => n (w _ z)) (AtL.weak w r)
  | .tuple ds, _, h => by
    cases h with
    | tup e r => exact .tup e (AtL.weak w r)
  | .dict _, _, h => by cases h
theorem AtL.weak (w : ∀ a, M' a → M a) : ∀ {ds : List PyData} {vs : List V}, AtL M H vs ds → AtL M' H vs ds
  | [], _, h => by cases h; exact .nil
  | d :: ds, _, h => by
    cases h with
    | cons a r => exact .cons (At.weak w a) (AtL.weak w r)
end
theorem At.mn {d : PyData} {v : V} (h : At M H v d) : At MN H v d := h.weak fun _ z => z.elim
theorem AtL.mn {d : List PyData} {v : List V} (h : AtL M H v d) : AtL MN H v d := h.weak fun _ z => z.elim
mutual
theorem At.dp {K : PySem.W.Frag} : ∀ {d : PyData} {v : V}, At M H v d → Dp K H v d
  | .none, _, h => by cases h; exact .non
  | .bool b, _, h => by cases h; exact .bl b
  | .int i, _, h => by cases h; exact .int i
  | .str x, _, h => by cases h; exact .str x
  | .list ds, _, h => by
    cases h with
    | lst e n r => exact .lst (SqL.of e) (AtL.dp r)
  | .tuple ds, _, h => by
    cases h with
    | tup e r => exact .tup (SqT.of e) (AtL.dp r)
  | .dict _, _, h => by cases h
theorem AtL.dp {K : PySem.W.Frag} : ∀ {ds : List PyData} {vs : List V}, AtL M H vs ds → DpAll K H vs ds
  | [], _, h => by cases h; exact .nil
  | d :: ds, _, h => by
    cases h with
    | cons a r => exact .cons (At.dp a) (AtL.dp r)
end
theorem AtL.length : ∀ {ds : List PyData} {vs : List V}, AtL M H vs ds → vs.length = ds.length
  | [], _, h => by cases h; rfl
  | d :: ds, _, h => by
    cases h with
    | cons a r => exact congrArg (· + 1) (AtL.length r)
theorem AtL.get : ∀ {ds : List PyData} {vs : List V} {i : Nat} {v : V}, AtL M H vs ds → vs[i]? = some v → ∃ d, ds[i]? = some d ∧ At M H v d
  | [], _, i, v, h, e => by cases h; simp at e
  | d :: ds, _, 0, v, h, e => by
    cases h with
    | cons a r => simp at e; subst e; exact ⟨d, rfl, a⟩
  | d :: ds, _, i + 1, v, h, e => by
    cases h with
    | cons a r =>
      obtain ⟨d', h1, h2⟩ := AtL.get (i := i) r (by simpa using e)
      exact ⟨d', by simpa using h1, h2⟩
theorem AtL.get' {ds : List PyData} {vs : List V} {i : Nat} {d : PyData} (h : AtL M H vs ds) (e : ds[i]? = some d) : ∃ v, vs[i]? = some v ∧ At M H v d := by
  have hl := h.length
  obtain ⟨h1, _⟩ := List.getElem?_eq_some_iff.mp e
  have hv : vs[i]? = some (vs[i]'(by omega)) := List.getElem?_eq_getElem (by omega)
  obtain ⟨d', h2, h3⟩ := h.get hv
  rw [e] at h2; cases h2
  exact ⟨_, hv, h3⟩
theorem AtL.append : ∀ {ds es : List PyData} {vs us : List V}, AtL M H vs ds → AtL M H us es → AtL M H (vs ++ us) (ds ++ es)
  | [], _, _, _, h, g => by cases h; exact g
  | d :: ds, _, _, _, h, g => by
    cases h with
    | cons a r => exact .cons a (AtL.append r g)
theorem AtL.one {d : PyData} {v : V} (h : At M H v d) : AtL M H [v] [d] := .cons h .nil
theorem AtL.drop : ∀ {ds : List PyData} {vs : List V} (n : Nat), AtL M H vs ds → AtL M H (vs.drop n) (ds.drop n)
  | _, _, 0, h => h
  | [], _, n + 1, h => by cases h; exact .nil
  | d :: ds, _, n + 1, h => by
    cases h with
    | cons a r => exact AtL.drop n r
theorem AtL.take : ∀ {ds : List PyData} {vs : List V} (n : Nat), AtL M H vs ds → AtL M H (vs.take n) (ds.take n)
  | _, _, 0, h => .nil
  | [], _, n + 1, h => by cases h; exact .nil
  | d :: ds, _, n + 1, h => by
    cases h with
    | cons a r => exact .cons a (AtL.take n r)
theorem AtL.rev : ∀ {ds : List PyData} {vs : List V}, AtL M H vs ds → AtL M H vs.reverse ds.reverse
  | [], _, h => by cases h; exact .nil
  | d :: ds, _, h => by
    cases h with
    | cons a r => rw [List.reverse_cons, List.reverse_cons]; exact (AtL.rev r).append (.one a)
theorem AtL.ints : ∀ ns : List Int, AtL M H (ns.map V.int) (ns.map PyData.int)
  | [] => .nil
  | n :: r => .cons (.int n) (AtL.ints r)
theorem AtL.bls : ∀ ns : List Bool, AtL M H (ns.map V.bl) (ns.map PyData.bool)
  | [] => .nil
  | n :: r => .cons (.bl n) (AtL.bls r)
/-- a datum's value tells its scalar -/
theorem At.int_of {v : V} {i : Int} (h : At M H v (.int i)) : v = .int i := by cases h; rfl
theorem At.str_of {v : V} {i : Str} (h : At M H v (.str i)) : v = .str i := by cases h; rfl
theorem At.tup_of {v : V} {ds : List PyData} (h : At M H v (.tuple ds)) : ∃ a xs, v = .ref a ∧ H a = some (.tup xs) ∧ AtL M H xs ds := by
  cases h with
  | tup e r => exact ⟨_, _, rfl, e, r⟩
theorem At.lst_of {v : V} {ds : List PyData} (h : At M H v (.list ds)) : ∃ a xs, v = .ref a ∧ H a = some (.lst xs) ∧ ¬ M a ∧ AtL M H xs ds := by
  cases h with
  | lst e n r => exact ⟨_, _, rfl, e, n, r⟩
end

/-! ### the kind of a value -/
def isI : PyData → Bool
  | .int _ => true
  | _ => false
def isTup : PyData → Bool
  | .tuple _ => true
  | _ => false
def isLst : PyData → Bool
  | .list _ => true
  | _ => false
def isB : PyData → Bool
  | .bool _ => true
  | _ => false
def isS : PyData → Bool
  | .str _ => true
  | _ => false
def tyD : PyData → String
  | .none => "NoneType"
  | .bool _ => "bool"
  | .int _ => "int"
  | .str _ => "str"
  | .list _ => "list"
  | .tuple _ => "tuple"
  | .dict _ => "dict"
theorem At.ty {K : PySem.W.Frag} {M : Addr → Prop} {H : Hp} {v : V} {d : PyData} (h : At M H v d) : TyX K H v (.type (tyD d)) := by
  cases h with
  | non => exact .base .non
  | bl b => exact .base (.bl b)
  | int i => exact .base (.int i)
  | str x => exact .base (.str x)
  | lst e n r => exact .base (.lst e)
  | tup e r => exact .base (.tup e)
/-- isinstance(v, int) and the like -/
theorem kit_int {K : PySem.W.Frag} (d : PyData) : PySem.W.kitOne K (.type (tyD d)) (.type "int") = some (isI d || isB d) := by
  cases d <;> (refine kit_ty ?_; simp only [tyD, isI, isB, isS, isTup, isLst]; decide +kernel)
theorem kit_bool {K : PySem.W.Frag} (d : PyData) : PySem.W.kitOne K (.type (tyD d)) (.type "bool") = some (isB d) := by
  cases d <;> (refine kit_ty ?_; simp only [tyD, isI, isB, isS, isTup, isLst]; decide +kernel)
theorem kit_tup {K : PySem.W.Frag} (d : PyData) : PySem.W.kitOne K (.type (tyD d)) (.type "tuple") = some (isTup d) := by
  cases d <;> (refine kit_ty ?_; simp only [tyD, isI, isB, isS, isTup, isLst]; decide +kernel)
theorem kit_lst {K : PySem.W.Frag} (d : PyData) : PySem.W.kitOne K (.type (tyD d)) (.type "list") = some (isLst d) := by
  cases d <;> (refine kit_ty ?_; simp only [tyD, isI, isB, isS, isTup, isLst]; decide +kernel)
theorem kit_str {K : PySem.W.Frag} (d : PyData) : PySem.W.kitOne K (.type (tyD d)) (.type "str") = some (isS d) := by
  cases d <;> (refine kit_ty ?_; simp only [tyD, isI, isB, isS, isTup, isLst]; decide +kernel)
end KD

set_option Elab.async false
set_option linter.all false
set_option maxRecDepth 100000
set_option maxHeartbeats 4000000
/-! Rules that the hand layer lacks: sorted(tuple of ints), x in tuple of data, t[::-1]. -/
namespace KR
open PySem PySem.Spec PyProof.Rows L2 GxR GA KD
section
variable {prog : Program} {w : World} {A : Around} {E : Value → Shared → Prop} {s : Shared}
theorem sorted_tup {t : Addr} {vs : List Value} {ns : List Int} {Q : Value → Shared → Prop} (ht : IsTup s.heap t vs.toArray) (hI : IntsAre vs ns) (h64 : vs.length < 64)
    (h : ∀ (out : List Value) (ns' : List Int) (h1 h' : Heap) (a : Addr) (e : Nat), IntsAre out ns' → ns'.Perm ns → ns'.Pairwise (· ≤ ·) → (∀ b o, s.heap.get? b = some o → h1.get? b = some o) → (∀ b o, h1.get? b = some o → h'.get? b = some o) → h1.objs.size ≤ a → h'.get? a = some (seqObj "list" out.toArray e) → Q (.ref a) { s with heap := h' }) :
    wpAny (model prog w) A (call (.builtin "sorted") [.ref t]) Q E s := by
  obtain ⟨o, ho, hc, n, hd⟩ := id ht
  refine Calls.call_function_entry kind_sorted plain_sorted entry_sorted (args_sorted1 _) ?_
  unfold Builtin.«sorted»
  refine wpAny_bind (m := checkCount "sorted" 1 1 _) (wpAny_pure ?_)
  refine wpAny_bind (wpAny_collect_seq t (.inr rfl) ho hc hd (fun h1 k1 => ?_) (by rw [List.size_toArray]; exact small64 h64))
  refine wpAny_bind (wpAny_newList ?_ (by show _ ≤ _; exact small64 h64))
  have hoL : (h1.push (seqObj "list" vs.toArray 0)).get? h1.objs.size = some (seqObj "list" vs.toArray 0) := Heap.get?_push_size _ rfl
  have k2 : ∀ b o, h1.get? b = some o → b < h1.objs.size ∧ (h1.push (seqObj "list" vs.toArray 0)).get? b = some o := fun b o e => ⟨Heap.lt_size e, Heap.get?_push_of_some _ e⟩
  refine wpAny_bind (wpAny_holding (wpAny_call_entry slot_list_sort ⟨_, hoL, rfl⟩ entry_list_sort (list_sort_tree hoL hI h64 fun out ns' a1 a2 a3 => ⟨_, rfl, ?_⟩) (args_list_sort _)))
  refine wpAny_pure ⟨_, rfl, ?_⟩
  obtain ⟨e, he⟩ := sortedHeap_at (out := out) hoL
  refine h out.toList ns' h1 _ _ e a1 a2 a3 k1 (fun b o q => ?_) (Nat.le_refl _) (by simpa using he)
  obtain ⟨q1, q2⟩ := k2 b o q
  rw [sortedHeap_old (Nat.ne_of_lt q1) (by rw [size_push']; exact Nat.lt_succ_of_lt q1)]
  exact q2
end
section
variable {X : Cx}
def rSortedTp (K : PySem.W.Frag) : List V → Hp → VK → Prop := fun vs H Q => ∃ (a : Addr) (ns : List Int), vs = [V.ref a] ∧ SqT K H a (ns.map V.int) ∧ ns.length < 64 ∧ ∀ (ns' : List Int) (p : Addr), ns'.Perm ns → ns'.Pairwise (· ≤ ·) → H p = none → Q (.ref p) (upd H p (.lst (ns'.map V.int)))
theorem cr_sortedTp : CallR X (.builtin "sorted") (rSortedTp X.K) := by
  intro pins s σ H vs us Q I r h
  obtain ⟨a, ns, rfl, hs, h64, q⟩ := h
  obtain ⟨its, rv, hl, _⟩ := I.tuple hs
  rw [Vals.ref1 r]
  have hi := rv.ints
  refine sorted_tup hl hi (by rw [hi.length]; exact h64) fun out ns' hh h' p e h1 h2 h3 hk0 hk hp he => ?_
  have I1 := I.kept (t' := s.toks) hk0
  have hlen : (ns'.map V.int).length ≤ sizeLine := by rw [List.length_map, h2.length_eq]; exact small64 h64
  exact ⟨.ref _, upd H p (.lst (ns'.map V.int)), I1.laid (t' := s.toks) hk hp ⟨hlen, out, e, vals_of_ints h1, he⟩, rfl, q ns' _ h2 h3 (I1.hok.fresh hp)⟩
def rInT (K : PySem.W.Frag) (neg : Bool) : R2 := fun x y H Q => ∃ d ds, Dp K H x d ∧ Dp K H y (.tuple ds) ∧ SeqAt.shaped d = true ∧ SeqAt.shaped (.tuple ds) = true ∧ Q (.bl (if neg then !(ds.any fun z => PyData.eqv z d) else ds.any fun z => PyData.eqv z d)) H
theorem op_inT (hu : X.A.units + 65 < cLine) : OpR X (compareOp .In) (rInT X.K false) := by
  intro pins s σ H x y v u Q I rx ry h
  obtain ⟨d, ds, hd, he, sd, se, q⟩ := h
  obtain ⟨as, r1⟩ := Dp.reads I d x v hd rx
  obtain ⟨bs, r2⟩ := Dp.reads I (.tuple ds) y u he ry
  exact SeqAt.in_tuple_reads r2 r1 (SeqAt.canLay_of_shaped se) (SeqAt.canLay_of_shaped sd) (room_in_shaped sd hu) ⟨.bl _, H, I, rfl, q⟩
theorem op_notInT (hu : X.A.units + 65 < cLine) : OpR X (compareOp .NotIn) (rInT X.K true) := by
  intro pins s σ H x y v u Q I rx ry h
  obtain ⟨d, ds, hd, he, sd, se, q⟩ := h
  obtain ⟨as, r1⟩ := Dp.reads I d x v hd rx
  obtain ⟨bs, r2⟩ := Dp.reads I (.tuple ds) y u he ry
  exact SeqAt.notIn_tuple_reads r2 r1 (SeqAt.canLay_of_shaped se) (SeqAt.canLay_of_shaped sd) (room_in_shaped sd hu) ⟨.bl _, H, I, rfl, q⟩
end

/-! ### t[::-1] -/
section
variable {prog : Program} {w : World} {A : Around} {E : Value → Shared → Prop} {s : Shared}
theorem getItem_tuple_rev {t sl : Addr} {items : Array Value} {vs : Value} {Q : Value → Shared → Prop} (ht : IsTup s.heap t items) (hs : s.heap.IsSliceOf sl .none .none vs) (ps : IsPart vs (some (-1)))
    (h : Q (.ref s.heap.objs.size) { s with heap := s.heap.push { cls := .type "tuple", data := .seq items.toList.reverse.toArray } })
    (hsz : items.size ≤ sizeLine) : wpAny (model prog w) A (getItem (.ref t) (.ref sl)) Q E s := by
  have htake : sizeOk (.seq items.toList.reverse.toArray) := by
    show items.toList.reverse.toArray.size ≤ sizeLine
    rw [List.size_toArray, List.length_reverse, Array.length_toList]
    omega
  obtain ⟨os, hos, hcs, hds⟩ := id hs
  have hTs : s.TypeIs (.ref sl) "slice" := ⟨os, hos, hcs⟩
  unfold getItem
  try with_reducible refine wpAny_holding ?_
  first | refine wpAny_bind (wpAny_pure ?_) | skip
  refine wpAny_bind (wpAny_sequenceKey ht.typeIs (by decide) ?_)
  refine wpAny_bind (wpAny_callSpecial?_slot (name := Str.ofString "__getitem__") ht.typeIs PyProof.Rows.slot_tuple_getitem
    (wpAny_call_entry PyProof.Rows.slot_tuple_getitem ht.typeIs entry_tuple_getitem ?_ (args_tuple_getitem _ _)))
  show wpAny _ _ (Builtin.Tuple.tupleItemsOf (.ref t) >>= _) _ _ s
  refine wpAny_bind (tupleItemsOf_ ht ?_)
  refine wpAny_bind (wpAny_typeOf hTs ?_)
  rw [if_pos (by decide)]
  have adj : Builtin.Slice.sliceAdjust none none (-1) (items.size : Int) = ((items.size : Int) - 1, -1) := by
    unfold Builtin.Slice.sliceAdjust
    simp
  have plc : Builtin.Slice.slicePlaces ((items.size : Int) - 1) (-1) (-1) = items.size := by
    unfold Builtin.Slice.slicePlaces
    simp
    try omega
  refine wpAny_bind ?_
  unfold Builtin.Slice.sliceApplied Builtin.Slice.sliceFields
  refine wpAny_bind (wpAny_bind (wpAny_field hos hds (x := .none) rfl (wpAny_bind (wpAny_field hos hds (x := .none) rfl (wpAny_bind (wpAny_field hos hds (x := vs) rfl (wpAny_pure ?_)))))))
  refine wpAny_bind (HT.slicePart_ ps ?_)
  show wpAny _ _ (if ((-1 : Int) == 0) = true then _ else _) _ _ s
  rw [if_neg (by decide)]
  refine wpAny_bind (HT.slicePart_ .none (wpAny_bind (HT.slicePart_ .none (wpAny_bind (wpAny_pure ?_)))))
  show wpAny _ _ (match Builtin.Slice.sliceAdjust none none (-1) (items.size : Int) with | (lo, hi) => pure (lo, (-1 : Int), Builtin.Slice.slicePlaces lo hi (-1))) _ _ s
  rw [adj]
  show wpAny _ _ (pure ((items.size : Int) - 1, (-1 : Int), Builtin.Slice.slicePlaces ((items.size : Int) - 1) (-1) (-1))) _ _ s
  rw [plc]
  refine wpAny_pure ?_
  show wpAny _ _ (if (((items.size : Int) - 1) == 0 && (-1 : Int) == 1 && items.size == items.size) = true then _ else _) _ _ s
  rw [if_neg (by
    intro q
    rw [Bool.and_eq_true, Bool.and_eq_true] at q
    exact absurd q.1.2 (by decide))]
  have pick : ((List.range items.size).filterMap fun (m : Nat) => items[((items.size : Int) - 1 + (m : Int) * (-1)).toNat]?).toArray = items.toList.reverse.toArray := by
    have e : (List.range items.size).filterMap (fun (m : Nat) => items[((items.size : Int) - 1 + (m : Int) * (-1)).toNat]?) = ((List.range items.size).map fun k => items.size - 1 - k).filterMap (items[·]?) := by
      rw [List.filterMap_map]
      have ef : (fun (m : Nat) => items[((items.size : Int) - 1 + (m : Int) * (-1)).toNat]?) = ((fun x => items[x]?) ∘ fun k => items.size - 1 - k) := by
        funext m
        have : ((items.size : Int) - 1 + (m : Int) * (-1)).toNat = items.size - 1 - m := by omega
        show items[((items.size : Int) - 1 + (m : Int) * (-1)).toNat]? = items[items.size - 1 - m]?
        rw [this]
      rw [ef]
    rw [e, PySem.W.krv_range, List.filterMap_reverse, PySem.W.krv_all]
  rw [pick]
  first
    | exact wpAny_bind (m := Builtin.Tuple.tupleExact _) (wpAny_newObj_type (wpAny_pure ⟨_, rfl, wpAny_pure h⟩) htake)
    | exact wpAny_bind (m := Builtin.Tuple.tupleExact _) (wpAny_newObj_type (wpAny_bind (wpAny_pure (wpAny_pure ⟨_, rfl, wpAny_pure h⟩))) htake)
    | exact wpAny_bind (wpAny_bind (m := Builtin.Tuple.tupleExact _) (wpAny_newObj_type (wpAny_pure (wpAny_pure ⟨_, rfl, wpAny_pure h⟩)) htake))
    | exact wpAny_bind (wpAny_bind (m := Builtin.Tuple.tupleExact _) (wpAny_newObj_type (wpAny_pure ⟨_, rfl, wpAny_pure h⟩) htake))
end
section
variable {X : Cx}
def tRevT (K : PySem.W.Frag) (te : TE) : TE := fun σ H Q => te σ H fun x H1 => ∃ a xs, x = .ref a ∧ SqT K H1 a xs ∧ ∀ p, H1 p = none → Q (.ref p) (upd H1 p (.tup xs.reverse))
theorem pe_revT {e : Expr} {te : TE} {k : Nat} {p1 p2 p3 pos : Pos} (he : PE X e te) : PE X (.Subscript e (.Slice none none (some (.UnaryOp .USub (.Constant (.int 1) k p1) p2)) p3) pos) (tRevT X.K te) := by
  refine ⟨fun pins s σ H Q I h => ?_⟩
  refine Subscript_ (thn (he.run pins s σ H _ I h) fun v s1 ⟨x, H1, I1, r1, q1⟩ => ?_)
  obtain ⟨a, xs, ex, hx, q⟩ := q1
  subst ex
  cases r1
  have hst : PO X (some (.UnaryOp .USub (.Constant (.int 1) k p1) p2)) (tPart (tUn (rU fun i => .int (-i)) (tC (.int 1)))) := po_some (pe_un un_neg pe_int)
  refine wpAny_Slice (thn (po_none.run pins s1 σ H1 (fun o H2 => o = none ∧ H2 = H1) I1 ⟨rfl, rfl⟩) fun vl s2 ⟨l, H2, I2, pl, el, e2⟩ => ?_)
  subst el e2
  refine thn (po_none.run pins s2 σ H2 (fun o H3 => o = none ∧ H3 = H2) I2 ⟨rfl, rfl⟩) fun vu s3 ⟨u, H3, I3, pu, eu, e3⟩ => ?_
  subst eu e3
  refine thn (hst.run pins s3 σ H3 (fun o H4 => o = some (-1) ∧ H4 = H3) I3 ⟨1, rfl, -1, rfl, rfl, rfl⟩) fun vs s4 ⟨o, H4, I4, ps, eo, e4⟩ => ?_
  subst eo e4
  cases pl
  cases pu
  have I5 : Inv X pins σ H4 { s4 with heap := s4.heap.push { cls := .type "slice", data := .fields #[.none, .none, vs] } } := I4.kept (t' := s4.toks) fun b ob q => Heap.get?_push_of_some _ q
  obtain ⟨its, r, ht, hz⟩ := I5.tuple hx
  have hlen := r.length
  show wpAny (model X.prog X.w) X.A (subscriptTail e (.Slice none none (some (.UnaryOp .USub (.Constant (.int 1) k p1) p2)) p3) (.ref a) (.ref s4.heap.objs.size)) (EP X pins σ Q) X.xe { s4 with heap := s4.heap.push { cls := .type "slice", data := .fields #[.none, .none, vs] } }
  refine tail_any (ops := [.ref a, .ref s4.heap.objs.size]) ht.typeIs PyProof.Rows.slot_tuple_getitem.lookup ?_ (by with_unfolding_all rfl)
  refine getItem_tuple_rev ht (Heap.IsSliceOf.new _ .none .none vs) ps ?_ (by rw [List.size_toArray]; omega)
  refine ⟨.ref _, _, I5.laid (t' := s4.toks) (o := .tup xs.reverse) (fun b ob q => Heap.get?_push_of_some _ q) (Nat.le_refl _) ?_, rfl, q _ (I5.hok.fresh (Nat.le_refl _))⟩
  exact ⟨by rw [List.length_reverse]; exact hz, _, r.reverse, IsTup.new _ _⟩
end
end KR

set_option Elab.async false
set_option linter.all false
set_option maxRecDepth 100000
set_option maxHeartbeats 1000000
/-! Rules that the hand layer lacks: list.extend(tuple), tuple.index of flat values. -/
namespace KR
open PySem PySem.Spec PyProof.Rows L2 GxR GA KD
theorem list_extend_tup (l : Addr) (items : Array Value) (n : Nat) (b : Addr) (items2 : Array Value) (n2 : Nat) (dd : Option Addr) (sl : Array (Option Value)) (hs0 : ¬(!items.isEmpty && Builtin.List.listTooLong (items.size + items2.size)) = true) (hs1 : items.size ≤ sizeLine) (hs2 : items.size + items2.size ≤ sizeLine + 1) :
    Meets (Builtin.«list.extend» ⟨[.ref l, .ref b], []⟩) (fun _ R s => s.heap.get? l = some { cls := .type "list", dict := none, data := .seq items n, slots := #[] } ∧ s.heap.get? b = some { cls := .type "tuple", dict := dd, data := .seq items2 n2, slots := sl } ∧ R (.ok (.ret Value.none)) { s with heap := s.heap.update l (Obj.mapSeq fun x => x ++ items2), toks := s.toks }) :=
  .of_wp fun prog w A R s h => by
    obtain ⟨hp, g, d, tk, os⟩ := s; obtain ⟨hl, hb, h⟩ := h
    have hz' : (items ++ items2).size ≤ sizeLine + 1 := by rw [Array.size_append]; exact hs2
    wp_walk using (wpAny_updateSeq hl rfl (hz := hs1) (_hz' := hz')), wpAny_loadPart' hl, wpAny_loadPart' hb; exact ⟨_, rfl, h⟩
section
variable {X : Cx}
def rExtendT (K : PySem.W.Frag) : V → List V → Hp → VK → Prop := fun x vs H Q => ∃ l b xs zs, x = .ref l ∧ vs = [.ref b] ∧ H l = some (.lst xs) ∧ SqT K H b zs ∧ xs.length + zs.length ≤ sizeLine ∧ Q .non (upd H l (.lst (xs ++ zs)))
theorem mt_extendT : MtM X "list.extend" (rExtendT X.K) := by
  intro pins s σ H x vs v us Q I rx rv h
  obtain ⟨l, b, xs, zs, rfl, rfl, hH, hB, hz, q⟩ := h
  cases rx
  obtain ⟨u, rfl, ru⟩ := rv.one
  cases ru
  obtain ⟨z, its, n, r, hl, e⟩ := I.lstM hH
  obtain ⟨its2, r2, ⟨⟨cls, dd, data, sl⟩, ho, hc, n2, hd⟩, hz2⟩ := I.tuple hB
  simp only at hc hd
  subst hc hd
  have hl2 := r2.length
  have hsz : its.toArray.size + its2.toArray.size ≤ sizeLine := by rw [List.size_toArray, List.size_toArray]; omega
  have hlong : ¬ (!its.toArray.isEmpty && Builtin.List.listTooLong (its.toArray.size + its2.toArray.size)) = true := by
    rw [notLongL hsz, Bool.and_false]
    exact Bool.false_ne_true
  refine call_meets PySem.F.slot_list_extend ⟨_, e, rfl⟩ PySem.F.entry_list_extend (PySem.F.args_list_extend_2 _ _)
    (list_extend_tup l its.toArray n b its2.toArray n2 dd sl hlong (by rw [List.size_toArray]; omega) (by omega)) ⟨e, ho, ?_⟩
  refine ⟨.non, _, I.lset (its' := its ++ its2) hH e (by simp) (r.append r2) ?_, rfl, q⟩
  rw [List.length_append]
  omega
def rIndexT (K : PySem.W.Frag) : V → List V → Hp → VK → Prop := fun x xs H Q => ∃ (a : Addr) (ys : List V) (y : V) (j : Nat) (z : V), x = V.ref a ∧ xs = [y] ∧ SqT K H a ys ∧ flatV y = true ∧ ys.all flatV = true ∧ ys[j]? = some z ∧ eqV z y = true ∧
  (∀ (m : Nat) (z' : V), m < j → ys[m]? = some z' → eqV z' y = false) ∧ Q (.int (j : Nat)) H
theorem mt_indexT : MtR X "tuple.index" (rIndexT X.K) := by
  intro pins s σ H x xs v us Q I rx rxs h
  obtain ⟨a, ys, y, j, z, rfl, rfl, hs, fy, fys, hz, hzj, hno, q⟩ := h
  cases rx
  cases rxs with
  | cons ry rt =>
    rename_i uy ut
    cases rt
    obtain ⟨its, rv, ⟨⟨cls, dd, data, sl⟩, ho, hc, n, hd⟩, hlen⟩ := I.tuple hs
    simp only at hc hd
    subst hc hd
    obtain ⟨u, hu, ru⟩ := rv.get hz
    obtain ⟨hjl, hje⟩ := List.getElem?_eq_some_iff.mp hu
    have hvl := rv.length
    have hj : j < its.toArray.size := by simpa using hjl
    refine call_meets PySem.F.slot_tuple_index ⟨_, ho, rfl⟩ PySem.F.entry_tuple_index (PySem.F.args_tuple_index_2 _ _)
      (TI.tuple_indexAt a its.toArray n dd sl uy (eqU y) j hj ?_ ?_) ⟨ho, fun u' hu' => mem_eqAt ry fy rv fys u' (by simpa using hu'), ?_⟩
    · have e1 : its.toArray[j] = u := by simpa using hje
      rw [e1, eqU_of ru (flat_at fys hz)]
      exact hzj
    · intro m hm hmj
      have hml : m < its.length := by simpa using hm
      have hmy : m < ys.length := by omega
      have hy' : ys[m]? = some ys[m] := List.getElem?_eq_getElem hmy
      obtain ⟨u2, hu2, ru2⟩ := rv.get hy'
      obtain ⟨_, hme⟩ := List.getElem?_eq_some_iff.mp hu2
      have e1 : its.toArray[m] = u2 := by simpa using hme
      rw [e1, eqU_of ru2 (flat_at fys hy')]
      exact hno m _ hmj hy'
    · exact ⟨.int (j : Nat), H, I.tok _, ⟨_, rfl⟩, q⟩
/-! ### tuples that are known to have no attributes of their own: their methods can be called -/
def FrT (H : Hp) (a : Addr) (xs : List V) : Prop := ∃ o : Obj, H a = some (.frz o (.tup xs)) ∧ o.dict = none
theorem FrT.seq {K : PySem.W.Frag} {H : Hp} {a : Addr} {xs : List V} (h : FrT H a xs) : SqT K H a xs := by
  obtain ⟨o, e, _⟩ := h
  exact .inl (.inr ⟨o, e⟩)
theorem FrT.kp {M : Addr → Prop} {H H' : Hp} {a : Addr} {xs : List V} (k : Kp M H H') (h : FrT H a xs) : FrT H' a xs := by
  obtain ⟨o, e, d⟩ := h
  exact ⟨o, k.frz _ _ _ e, d⟩
theorem FrT.ty {K : PySem.W.Frag} {H : Hp} {a : Addr} {xs : List V} (h : FrT H a xs) : TyX K H (.ref a) (.type "tuple") := by
  obtain ⟨o, e, d⟩ := h
  exact .fTuple e
theorem FrT.dpi {K : PySem.W.Frag} {H : Hp} {a : Addr} {ns : List Int} (h : FrT H a (ns.map V.int)) : Dp K H (.ref a) (.tuple (ns.map PyData.int)) := .tup h.seq (AtL.dp (AtL.ints (M := MN) ns))
theorem FrT.upd {H : Hp} {a b : Addr} {u : HO} {xs : List V} (h : FrT H a xs) (n : a ≠ b) : FrT (upd H b u) a xs := by
  obtain ⟨o, e, d⟩ := h
  exact ⟨o, by rw [upd_ne n]; exact e, d⟩
theorem FrT.ne {H : Hp} {a b : Addr} {xs : List V} (h : FrT H a xs) (n : H b = none) : a ≠ b := by
  obtain ⟨o, e, d⟩ := h
  exact ne_of_none e n
theorem FrT.new {H : Hp} {a : Addr} {o : Obj} {xs : List V} (d : o.dict = none) : FrT (L2.upd H a (.frz o (.tup xs))) a xs := ⟨o, upd_same, d⟩
def rTupF (K : PySem.W.Frag) : List V → Hp → VK → Prop := fun xs H Q => ∃ p ys, xs = [V.ref p] ∧ SqL K H p ys ∧ ∀ (l : Addr) (o : Obj), H l = none → o.dict = none → Q (.ref l) (L2.upd H l (.frz o (.tup ys)))
theorem call_tuple_ofF : CallR X (.type "tuple") (rTupF X.K) := by
  intro pins s σ H xs us Q I r h
  obtain ⟨p, ys, rfl, hq, q⟩ := h
  obtain ⟨u, rfl, rx⟩ := vals1 r
  cases rx
  obtain ⟨its, r', pl, hz⟩ := I.list hq
  have hlen := r'.length
  refine call_tuple_list pl.isList (fun h' kp => ?_) (by simp only [List.size_toArray] <;> omega)
  have I1 : Inv X pins σ H { s with heap := h' } := I.kept (t' := s.toks) kp
  let ob : Obj := { cls := .type "tuple", data := .seq its.toArray }
  have I2 : Inv X pins σ (L2.upd H h'.objs.size (.frz ob (.tup ys))) { s with heap := h'.push { cls := .type "tuple", data := .seq its.toArray } } :=
    I1.laid (t' := s.toks) (fun b o e => Heap.get?_push_of_some _ e) (Nat.le_refl _) (show ObjOk X.prog X.w _ _ _ (.frz ob (.tup ys)) from ⟨Heap.get?_push_size _ rfl, hz, its, r', IsTup.new _ _⟩)
  exact ⟨.ref h'.objs.size, _, I2, rfl, q _ ob (I1.hok.fresh (Nat.le_refl _)) rfl⟩
def tTupF (t : TA) : TE := fun σ H Q => t σ H fun xs H1 => xs.length ≤ sizeLine ∧ ∀ (p : Addr) (o : Obj), H1 p = none → o.dict = none → Q (.ref p) (L2.upd H1 p (.frz o (.tup xs)))
theorem pe_tupF {es : List Expr} {t : TA} {pos : Pos} {x1} (h : PA X es t) : PE X (.Tuple es x1 pos) (tTupF t) := by
  refine ⟨fun pins s σ H Q I hq => ?_⟩
  refine wpAny_Tuple_spliced (thn (h.run pos pins s σ H _ I hq) fun us s1 ⟨xs, H1, I1, r, z, q⟩ => ⟨by rw [← r.length]; exact z, ?_⟩)
  have hf : H1 s1.heap.objs.size = none := I1.hok.fresh (Nat.le_refl _)
  let ob : Obj := { cls := .type "tuple", data := .seq us.toArray }
  refine ⟨.ref s1.heap.objs.size, L2.upd H1 s1.heap.objs.size (.frz ob (.tup xs)), I1.laid (t' := s1.toks) (fun b u e => Heap.get?_push_of_some _ e) (Nat.le_refl _) ?_, rfl, q _ ob hf rfl⟩
  exact ⟨Heap.get?_push_size _ rfl, z, us, r, ⟨_, Heap.get?_push_size _ rfl, rfl, _, rfl⟩⟩
def tBMT (r : V → List V → Hp → VK → Prop) (to : TE) (t : TA) : TE := fun σ H Q => to σ H fun x H1 => (∃ a xs, x = .ref a ∧ FrT H1 a xs) ∧ t σ H1 fun xs H2 => r x xs H2 Q
variable {o e : Expr} {es : List Expr} {to : TE} {t : TA} {name : Str} {apos cpos : Pos} {id : String} {r : V → List V → Hp → VK → Prop}
theorem pe_bmT (pa : PlainAttrs "tuple") (slot : Slot "tuple" name id) (hty : typeOf (.builtin id) = pure (.type "method_descriptor")) (hm : MtR X id r) (ho : PE X o to) (ha : PA X (e :: es) t)
    (hbase : attributeBase o name X.env (eval o X.env) = eval o X.env := by rfl)
    (hfew : ((backTo cpos (starEach (e :: es) X.env)).all (fun x => !x.1) && (backToKw cpos (keywordEach [] X.env)).all (fun x => x.1.isSome)
      && decide ((e :: es).length + ([] : List Keyword).length + (if ([] : List Keyword).isEmpty then 0 else 1) < 30)) = true := by rfl)
    (hline : (apos.endLine == cpos.line) = true := by rfl) (hs : starEach (e :: es) X.env = (false, eval e X.env) :: starEach es X.env := by rfl) (hplain : (backTo cpos (starEach es X.env)).any (·.1) = false := by rfl) :
    PE X (.Call (.Attribute o name apos) (e :: es) [] cpos) (tBMT r to t) := by
  refine ⟨fun pins s σ H Q I h => ?_⟩
  refine wpAny_Call_method_late hbase hfew hline rfl (thn (ho.run pins s σ H _ I h) fun v s1 ⟨x, H1, I1, r1, ⟨a, xs, ex, ob, eo, dn⟩, q1⟩ => ?_)
  subst ex
  obtain rfl : v = Value.ref a := r1
  obtain ⟨g1, _, its, _, ob2, g2, g3, _⟩ := I1.hok a _ eo
  have h1 : s1.TypeIs (.ref a) "tuple" := ⟨ob2, g2, g3⟩
  have h2 : ∀ b, Value.ref a = .ref b → ∃ ob, s1.heap.get? b = some ob ∧ ob.dict = none := fun b e => by
    cases e
    exact ⟨ob, g1, dn⟩
  refine ⟨"tuple", id, pa, slot, hty, h1, h2, ?_⟩
  have hA := ha.run cpos pins s1 σ H1 _ I1 q1
  rw [hs] at hA ⊢
  refine Calls.callWith_builtin (by show (false || (backTo cpos (starEach es X.env)).any (·.1)) = false; rw [hplain] <;> rfl) (Calls.evalArgs_plain ?_)
  exact thn hA fun us s2 ⟨vs, H2, I2, r2, q2⟩ => hm pins s2 σ H2 (.ref a) vs (.ref a) us Q I2 rfl r2 q2
def tTupRgF (te : L2.St → Hp → (Int → Int → Hp → Prop) → Prop) : TE := fun σ H Q => te σ H fun a b H1 => RgOk a b ∧ ∀ (q : Addr) (o : Obj), H1 q = none → o.dict = none → Q (.ref q) (L2.upd H1 q (.frz o (.tup (rgV a b))))
theorem pe_tupRgF {e : Expr} {te : L2.St → Hp → (Int → Int → Hp → Prop) → Prop} {p pos : Pos} (hc : X.calm = true) (hg : Gl X "tuple") (hm : X.mg "tuple" = none) (he : PRg X e te) (na : starEach [e] X.env = (false, eval e X.env) :: starEach [] X.env := by rfl) : PE X (.Call (.Name "tuple" p) [e] [] pos) (tTupRgF te) := by
  refine ⟨fun pins s σ H Q I h => ?_⟩
  refine Call_ (ld_blt I hg hm boot_tuple (PyProof.Rows.callWith_type1 (args_cons (thn (he pins s σ H _ I h) fun x s1 ⟨r, a, b, t, u, v, H1, ex, hr, I1, ok, q⟩ => args_nil ?_) na) na))
  subst ex
  obtain ⟨b1, b2, b3, b4, b5⟩ := ok
  refine call_tuple_range (n := (b - a).toNat) (I1.ok.hd hc) hr (small_one b1 b2 b3 b4) (rangeSize_nat a b) b5 fun h' tk acc hk hi => ?_
  have I2 : Inv X pins σ H1 { s1 with heap := h', toks := tk } := I1.kept hk
  let ob : Obj := { cls := .type "tuple", data := .seq acc }
  refine ⟨.ref h'.objs.size, L2.upd H1 h'.objs.size (.frz ob (.tup (rgV a b))), I2.laid (t' := tk) (fun c o e => Heap.get?_push_of_some _ e) (Nat.le_refl _) (show ObjOk X.prog X.w _ _ _ (.frz ob (.tup (rgV a b))) from ⟨Heap.get?_push_size _ rfl, ?_, acc.toList, vals_rg hi, ?_⟩), rfl, q _ ob (I2.hok.fresh (Nat.le_refl _)) rfl⟩
  · rw [rgV_length, sizeLine_eq]; omega
  · rw [Array.toArray_toList]; exact IsTup.new _ _
theorem idx_at {l : List Int} {c : Int} (hc : c ∈ l) : l[l.idxOf c]? = some c ∧ ∀ (m : Nat) (z : Int), m < l.idxOf c → l[m]? = some z → z ≠ c := by
  have hlt : l.idxOf c < l.length := List.idxOf_lt_length_iff.mpr hc
  refine ⟨?_, fun m z hm hz e => ?_⟩
  · rw [List.getElem?_eq_getElem hlt, List.getElem_idxOf hlt]
  · subst e
    have h2 := List.not_of_lt_findIdx (p := fun x => x == z) (xs := l) (i := m) hm
    obtain ⟨h3, h4⟩ := List.getElem?_eq_some_iff.mp hz
    rw [h4] at h2
    simp at h2
end
end KR

set_option Elab.async false
set_option linter.all false
set_option maxRecDepth 100000
set_option maxHeartbeats 1000000
/-! The value layer: a def's body read as a computation on data. Here: the computations, data in the heap, the slots. -/
namespace VL
open PySem PySem.Spec PyProof.Rows L2 GxR GA

/-! ### computations: demonic, with errors -/
structure Er where
  cls : Str
  fs : List (Str × PyData)
structure W (α : Type) where
  run : (α → Prop) → (Er → Prop) → Prop
  mono : ∀ {Q Q' : α → Prop} {E E' : Er → Prop}, (∀ a, Q a → Q' a) → (∀ e, E e → E' e) → run Q E → run Q' E'
namespace W
variable {α β γ : Type}
theorem ext {m n : W α} (h : ∀ Q E, m.run Q E ↔ n.run Q E) : m = n := by
  cases m with
  | mk r1 m1 =>
    cases n with
    | mk r2 m2 =>
      have e : r1 = r2 := funext fun Q => funext fun E => propext (h Q E)
      subst e
      rfl
def ret (a : α) : W α := ⟨fun Q _ => Q a, fun h _ q => h _ q⟩
def bind (m : W α) (f : α → W β) : W β := ⟨fun Q E => m.run (fun a => (f a).run Q E) E, fun h g q => m.mono (fun a => (f a).mono h g) g q⟩
def fail : W α := ⟨fun _ _ => False, fun _ _ q => q⟩
def throw (e : Er) : W α := ⟨fun _ E => E e, fun _ g q => g _ q⟩
def chk (p : Prop) : W Unit := ⟨fun Q _ => p ∧ Q (), fun h _ q => ⟨q.1, h _ q.2⟩⟩
def any (p : α → Prop) : W α := ⟨fun Q _ => ∀ a, p a → Q a, fun h _ q a pa => h _ (q a pa)⟩
def opt : Option α → W α
  | some a => ret a
  | none => fail
/-- no error leaves -/
def nox (m : W α) : W α := ⟨fun Q _ => m.run Q fun _ => False, fun h _ q => m.mono h (fun _ z => z) q⟩
def catch_ (m : W α) (h : Er → W α) : W α := ⟨fun Q E => m.run Q fun e => (h e).run Q E, fun a b q => m.mono a (fun e => (h e).mono a b) q⟩
@[simp] theorem ret_bind (a : α) (f : α → W β) : bind (ret a) f = f a := rfl
@[simp] theorem bind_ret (m : W α) : bind m ret = m := rfl
@[simp] theorem bind_assoc (m : W α) (f : α → W β) (g : β → W γ) : bind (bind m f) g = bind m fun a => bind (f a) g := rfl
@[simp] theorem fail_bind (f : α → W β) : bind fail f = fail := rfl
@[simp] theorem throw_bind (e : Er) (f : α → W β) : bind (throw e) f = throw e := rfl
@[simp] theorem opt_some (a : α) : opt (some a) = ret a := rfl
@[simp] theorem opt_none : opt (none : Option α) = fail := rfl
@[simp] theorem nox_ret (a : α) : nox (ret a) = ret a := rfl
theorem run_bind {m : W α} {f : α → W β} {Q : β → Prop} {E : Er → Prop} : (bind m f).run Q E ↔ m.run (fun a => (f a).run Q E) E := Iff.rfl
theorem run_ret {a : α} {Q : α → Prop} {E : Er → Prop} : (ret a).run Q E ↔ Q a := Iff.rfl
theorem chk_bind {p : Prop} (h : p) (f : Unit → W β) : bind (chk p) f = f () := ext fun Q E => ⟨fun q => q.2, fun q => ⟨h, q⟩⟩
end W

/-! ### what a step keeps -/
def fixO : HO → Bool
  | .tup _ => true
  | .frz _ _ => true
  | _ => false
def mutO : HO → Bool
  | .lst _ => true
  | .dK _ => true
  | .dT _ => true
  | _ => false
structure Kp (M : Addr → Prop) (H H' : Hp) : Prop where
  fx : ∀ b o, fixO o = true → H b = some o → H' b = some o
  mu : ∀ b o, mutO o = true → ¬ M b → H b = some o → H' b = some o
  tb : ∀ P, TabG H P → TabG H' P
  al : ∀ b, H b ≠ none → H' b ≠ none
abbrev MN : Addr → Prop := fun _ => False
section
variable {M M' : Addr → Prop} {H H' H2 : Hp}
theorem Kp.refl : Kp M H H := ⟨fun _ _ _ h => h, fun _ _ _ _ h => h, fun _ h => h, fun _ h => h⟩
theorem Kp.trans (a : Kp M H H') (b : Kp M H' H2) : Kp M H H2 := ⟨fun c o f h => b.fx c o f (a.fx c o f h), fun c o f n h => b.mu c o f n (a.mu c o f n h), fun P h => b.tb P (a.tb P h), fun c h => b.al c (a.al c h)⟩
theorem Kp.mono (a : Kp M H H') (h : ∀ b, M b → M' b) : Kp M' H H' := ⟨a.fx, fun b o f n => a.mu b o f fun z => n (h b z), a.tb, a.al⟩
theorem Kp.any (a : Kp MN H H') : Kp M H H' := a.mono fun _ z => z.elim
theorem Kp.tup (k : Kp M H H') {b : Addr} {xs : List V} (h : H b = some (.tup xs)) : H' b = some (.tup xs) := k.fx b _ rfl h
theorem Kp.frz (k : Kp M H H') {b : Addr} {o : Obj} {u : HO} (h : H b = some (.frz o u)) : H' b = some (.frz o u) := k.fx b _ rfl h
theorem Kp.lst (k : Kp M H H') {b : Addr} {xs : List V} (n : ¬ M b) (h : H b = some (.lst xs)) : H' b = some (.lst xs) := k.mu b _ rfl n h
theorem Kp.dT (k : Kp M H H') {b : Addr} {xs : List (List Key × V)} (n : ¬ M b) (h : H b = some (.dT xs)) : H' b = some (.dT xs) := k.mu b _ rfl n h
theorem Kp.dK (k : Kp M H H') {b : Addr} {xs : List (Key × V)} (n : ¬ M b) (h : H b = some (.dK xs)) : H' b = some (.dK xs) := k.mu b _ rfl n h
theorem Kp.new {p : Addr} {o : HO} (h : H p = none) : Kp M H (upd H p o) := by
  have n : ∀ b u, H b = some u → b ≠ p := fun b u e => ne_of_none e h
  refine ⟨fun b u _ e => by rw [upd_ne (n b _ e)]; exact e, fun b u _ _ e => by rw [upd_ne (n b _ e)]; exact e, fun P ⟨ps, e, t⟩ => ⟨ps, by rw [upd_ne (n P _ e)]; exact e, t⟩, fun b e => ?_⟩
  cases q : H b with
  | none => exact absurd q e
  | some u => rw [upd_ne (n b _ q), q]; exact fun z => by cases z
theorem Kp.put {a : Addr} {o o' : HO} (hm : M a) (h : H a = some o) (f : mutO o = true) : Kp M H (upd H a o') := by
  have nf : fixO o = false := by cases o <;> first | rfl | cases f
  have nt : ∀ q, o ≠ .tbl q := fun q z => by rw [z] at f; cases f
  refine ⟨fun b u fu e => by rw [upd_ne (ne_of e h fun z => by rw [z, nf] at fu; cases fu)]; exact e, fun b u _ n e => by rw [upd_ne (fun z => n (by rw [z]; exact hm))]; exact e,
    fun P ⟨ps, e, t⟩ => ⟨ps, by rw [upd_ne (ne_of e h fun z => nt ps z.symm)]; exact e, t⟩, fun b e => ?_⟩
  by_cases hb : b = a
  · rw [hb, upd_same]; exact fun z => by cases z
  · rw [upd_ne hb]; exact e
/-- a thing that did not stand at the beginning is written -/
theorem Kp.putNew {a : Addr} {o o' : HO} (k : Kp M H H') (hn : H a = none) (h : H' a = some o) (f : mutO o = true) : Kp M H (upd H' a o') := by
  have n : ∀ b u, H b = some u → b ≠ a := fun b u e => ne_of_none e hn
  refine ⟨fun b u fu e => by rw [upd_ne (n b _ e)]; exact k.fx b u fu e, fun b u fu m e => by rw [upd_ne (n b _ e)]; exact k.mu b u fu m e, fun P hP => ?_, fun b e => ?_⟩
  · obtain ⟨ps, e, t⟩ := k.tb P hP
    exact ⟨ps, by rw [upd_ne (ne_of e h fun z => by rw [← z] at f; cases f)]; exact e, t⟩
  · cases q : H b with
    | none => exact absurd q e
    | some u => rw [upd_ne (n b _ q)]; exact k.al b e
theorem Kp.tabbed {P : Addr} (hP : TabG H P) (h : Tabbed P H H') : Kp M H H' := by
  obtain ⟨ps, e, t⟩ := hP
  have n : ∀ b u, H b = some u → (∀ q, u ≠ .tbl q) → b ≠ P := fun b u z q y => by
    rw [y, e] at z
    exact q ps (Option.some.inj z).symm
  refine ⟨fun b u f z => by rw [h.2 b (n b _ z fun q y => by rw [y] at f; cases f)]; exact z, fun b u f _ z => by rw [h.2 b (n b _ z fun q y => by rw [y] at f; cases f)]; exact z, fun P' ⟨ps', e', t'⟩ => ?_, fun b z => ?_⟩
  · by_cases hb : P' = P
    · rw [hb]; exact h.1
    · exact ⟨ps', by rw [h.2 P' hb]; exact e', t'⟩
  · by_cases hb : b = P
    · rw [hb]
      obtain ⟨ps', e', _⟩ := h.1
      rw [e']; exact fun z => by cases z
    · rw [h.2 b hb]; exact z
/-- a new thing at p is seen by nobody -/
theorem Kp.seqT {K : PySem.W.Frag} {a : Addr} {xs : List V} (k : Kp M H H') (h : SqT K H a xs) : SqT K H' a xs := by
  rcases h with (h | ⟨o, h⟩) | h
  · exact .inl (.inl (k.tup h))
  · exact .inl (.inr ⟨o, k.frz h⟩)
  · exact .inr h
end
/-- a step: what is at M may have changed, M may have lost some and got new ones -/
structure Stp (M : Addr → Prop) (H : Hp) (M' : Addr → Prop) (H' : Hp) : Prop where
  k : Kp M H H'
  sub : ∀ a, M' a → M a ∨ H a = none
section
variable {M M' M2 : Addr → Prop} {H H' H2 : Hp}
theorem Stp.refl : Stp M H M H := ⟨.refl, fun _ h => .inl h⟩
theorem Stp.of (k : Kp M H H') : Stp M H M H' := ⟨k, fun _ h => .inl h⟩
theorem Stp.less (h : ∀ a, M' a → M a) : Stp M H M' H := ⟨.refl, fun a z => .inl (h a z)⟩
theorem Stp.trans (a : Stp M H M' H') (b : Stp M' H' M2 H2) : Stp M H M2 H2 := by
  refine ⟨⟨fun c o f h => b.k.fx c o f (a.k.fx c o f h), fun c o f n h => b.k.mu c o f (fun z => ?_) (a.k.mu c o f n h), fun P h => b.k.tb P (a.k.tb P h), fun c h => b.k.al c (a.k.al c h)⟩, fun c h => ?_⟩
  · rcases a.sub c z with y | y
    · exact n y
    · rw [y] at h; cases h
  · rcases b.sub c h with y | y
    · exact a.sub c y
    · cases q : H c with
      | none => exact .inr rfl
      | some u => exact absurd y (a.k.al c (by rw [q]; exact fun z => by cases z))
end

/-! ### data in the heap -/
def kD : Key → PyData
  | .inl i => .int i
  | .inr x => .str x
/-- a tuple; with ix, one whose object is known to have no attributes of its own -/
def TupQ (ix : Bool) (K : PySem.W.Frag) (H : Hp) (a : Addr) (xs : List V) : Prop :=
  SqT K H a xs ∧ (ix = true → (∃ o : Obj, H a = some (.frz o (.tup xs)) ∧ o.dict = none) ∨ ∃ o : Obj, K.lookup a = some o ∧ o.cls = .type "tuple" ∧ o.dict = none)
mutual
inductive At (ix : Bool) (K : PySem.W.Frag) (M : Addr → Prop) (H : Hp) : V → PyData → Prop
  | non : At ix K M H .non .none
  | bl (b : Bool) : At ix K M H (.bl b) (.bool b)
  | int (i : Int) : At ix K M H (.int i) (.int i)
  | str (x : Str) : At ix K M H (.str x) (.str x)
  | lst {a : Addr} {xs : List V} {ds : List PyData} : H a = some (.lst xs) → ¬ M a → AtL ix K M H xs ds → At ix K M H (.ref a) (.list ds)
  | tup {a : Addr} {xs : List V} {ds : List PyData} : TupQ ix K H a xs → AtL ix K M H xs ds → At ix K M H (.ref a) (.tuple ds)
  | dT {a : Addr} {kvs : List (List Key × V)} {es : List PyData} {ds : List (PyData × PyData)} : H a = some (.dT kvs) → ¬ M a → AtL ix K M H (kvs.map (·.2)) es → ds = (kvs.map fun p => PyData.tuple (p.1.map kD)).zip es → At ix K M H (.ref a) (.dict ds)
  | dK {a : Addr} {kvs : List (Key × V)} {es : List PyData} {ds : List (PyData × PyData)} : Rd H a (.dK kvs) → ¬ M a → AtL ix K M H (kvs.map (·.2)) es → ds = (kvs.map fun p => kD p.1).zip es → At ix K M H (.ref a) (.dict ds)
inductive AtL (ix : Bool) (K : PySem.W.Frag) (M : Addr → Prop) (H : Hp) : List V → List PyData → Prop
  | nil : AtL ix K M H [] []
  | cons {v : V} {vs : List V} {d : PyData} {ds : List PyData} : At ix K M H v d → AtL ix K M H vs ds → AtL ix K M H (v :: vs) (d :: ds)
end
section
variable {ix : Bool} {K : PySem.W.Frag} {M M' : Addr → Prop} {H H' : Hp} {v : V} {d : PyData} {vs : List V} {ds : List PyData}
theorem TupQ.kp {a : Addr} {xs : List V} (k : Kp M H H') (h : TupQ ix K H a xs) : TupQ ix K H' a xs := by
  refine ⟨k.seqT h.1, fun e => ?_⟩
  rcases h.2 e with ⟨o, z, y⟩ | z
  · exact .inl ⟨o, k.frz z, y⟩
  · exact .inr z
theorem Rd.kpK {a : Addr} {kvs : List (Key × V)} (k : Kp M H H') (n : ¬ M a) (h : Rd H a (.dK kvs)) : Rd H' a (.dK kvs) := by
  rcases h with h | ⟨o, h⟩
  · exact .inl (k.dK n h)
  · exact .inr ⟨o, k.frz h⟩
theorem Rd.ex {a : Addr} {o : HO} (h : Rd H a o) : H a ≠ none := by
  rcases h with h | ⟨o', h⟩ <;> rw [h] <;> exact fun z => by cases z
/-- what data are stays, through a step -/
theorem At.stp (s : Stp M H M' H') (h : At ix K M H v d) : At ix K M' H' v d := by
  have nm : ∀ a, ¬ M a → H a ≠ none → ¬ M' a := fun a n e z => by
    rcases s.sub a z with y | y
    · exact n y
    · exact e y
  refine At.rec (motive_1 := fun v d _ => At ix K M' H' v d) (motive_2 := fun vs ds _ => AtL ix K M' H' vs ds) .non .bl .int .str ?_ ?_ ?_ ?_ .nil (fun _ _ a b => .cons a b) h
  · exact fun e n _ ih => .lst (s.k.lst n e) (nm _ n (by rw [e]; exact fun z => by cases z)) ih
  · exact fun q _ ih => .tup (q.kp s.k) ih
  · exact fun e n _ z ih => .dT (s.k.dT n e) (nm _ n (by rw [e]; exact fun z => by cases z)) ih z
  · exact fun e n _ z ih => .dK (Rd.kpK s.k n e) (nm _ n (Rd.ex e)) ih z
theorem AtL.stp (s : Stp M H M' H') (h : AtL ix K M H vs ds) : AtL ix K M' H' vs ds := by
  have nm : ∀ a, ¬ M a → H a ≠ none → ¬ M' a := fun a n e z => by
    rcases s.sub a z with y | y
    · exact n y
    · exact e y
  refine AtL.rec (motive_1 := fun v d _ => At ix K M' H' v d) (motive_2 := fun vs ds _ => AtL ix K M' H' vs ds) .non .bl .int .str ?_ ?_ ?_ ?_ .nil (fun _ _ a b => .cons a b) h
  · exact fun e n _ ih => .lst (s.k.lst n e) (nm _ n (by rw [e]; exact fun z => by cases z)) ih
  · exact fun q _ ih => .tup (q.kp s.k) ih
  · exact fun e n _ z ih => .dT (s.k.dT n e) (nm _ n (by rw [e]; exact fun z => by cases z)) ih z
  · exact fun e n _ z ih => .dK (Rd.kpK s.k n e) (nm _ n (Rd.ex e)) ih z
theorem At.kp (k : Kp M H H') (h : At ix K M H v d) : At ix K M H' v d := h.stp (.of k)
theorem AtL.kp (k : Kp M H H') (h : AtL ix K M H vs ds) : AtL ix K M H' vs ds := h.stp (.of k)
theorem At.less (w : ∀ a, M' a → M a) (h : At ix K M H v d) : At ix K M' H v d := h.stp (.less w)
theorem AtL.less (w : ∀ a, M' a → M a) (h : AtL ix K M H vs ds) : AtL ix K M' H vs ds := h.stp (.less w)
theorem AtL.length : ∀ {vs : List V} {ds : List PyData}, AtL ix K M H vs ds → vs.length = ds.length
  | [], _, h => by cases h; rfl
  | v :: vs, _, h => by
    cases h with
    | cons _ r => exact congrArg (· + 1) (AtL.length r)
theorem AtL.get : ∀ {vs : List V} {ds : List PyData} {i : Nat} {v : V}, AtL ix K M H vs ds → vs[i]? = some v → ∃ d, ds[i]? = some d ∧ At ix K M H v d
  | [], _, i, v, h, e => by cases h; simp at e
  | _ :: _, _, 0, v, h, e => by
    cases h with
    | cons a r => simp at e; subst e; exact ⟨_, rfl, a⟩
  | _ :: vs, _, i + 1, v, h, e => by
    cases h with
    | cons a r =>
      obtain ⟨d', h1, h2⟩ := AtL.get (i := i) r (by simpa using e)
      exact ⟨d', by simpa using h1, h2⟩
theorem AtL.get' {vs : List V} {ds : List PyData} {i : Nat} {d : PyData} (h : AtL ix K M H vs ds) (e : ds[i]? = some d) : ∃ v, vs[i]? = some v ∧ At ix K M H v d := by
  have hl := h.length
  obtain ⟨h1, _⟩ := List.getElem?_eq_some_iff.mp e
  have hv : vs[i]? = some (vs[i]'(by omega)) := List.getElem?_eq_getElem (by omega)
  obtain ⟨d', h2, h3⟩ := h.get hv
  rw [e] at h2; cases h2
  exact ⟨_, hv, h3⟩
theorem AtL.append : ∀ {vs us : List V} {ds es : List PyData}, AtL ix K M H vs ds → AtL ix K M H us es → AtL ix K M H (vs ++ us) (ds ++ es)
  | [], _, _, _, h, g => by cases h; exact g
  | _ :: _, _, _, _, h, g => by
    cases h with
    | cons a r => exact .cons a (AtL.append r g)
theorem AtL.one (h : At ix K M H v d) : AtL ix K M H [v] [d] := .cons h .nil
theorem AtL.drop : ∀ {vs : List V} {ds : List PyData} (n : Nat), AtL ix K M H vs ds → AtL ix K M H (vs.drop n) (ds.drop n)
  | _, _, 0, h => h
  | [], _, n + 1, h => by cases h; exact .nil
  | _ :: _, _, n + 1, h => by
    cases h with
    | cons a r => exact AtL.drop n r
theorem AtL.take : ∀ {vs : List V} {ds : List PyData} (n : Nat), AtL ix K M H vs ds → AtL ix K M H (vs.take n) (ds.take n)
  | _, _, 0, h => .nil
  | [], _, n + 1, h => by cases h; exact .nil
  | _ :: _, _, n + 1, h => by
    cases h with
    | cons a r => exact .cons a (AtL.take n r)
theorem AtL.rev : ∀ {vs : List V} {ds : List PyData}, AtL ix K M H vs ds → AtL ix K M H vs.reverse ds.reverse
  | [], _, h => by cases h; exact .nil
  | _ :: _, _, h => by
    cases h with
    | cons a r => rw [List.reverse_cons, List.reverse_cons]; exact (AtL.rev r).append (.one a)
theorem AtL.set : ∀ {vs : List V} {ds : List PyData} (i : Nat), AtL ix K M H vs ds → At ix K M H v d → AtL ix K M H (vs.set i v) (ds.set i d)
  | [], _, _, h, _ => by cases h; exact .nil
  | _ :: _, _, 0, h, g => by
    cases h with
    | cons a r => exact .cons g r
  | _ :: _, _, i + 1, h, g => by
    cases h with
    | cons a r => exact .cons a (AtL.set i r g)
theorem AtL.erase : ∀ {vs : List V} {ds : List PyData} (i : Nat), AtL ix K M H vs ds → AtL ix K M H (vs.eraseIdx i) (ds.eraseIdx i)
  | [], _, _, h => by cases h; exact .nil
  | _ :: _, _, 0, h => by
    cases h with
    | cons a r => exact r
  | _ :: _, _, i + 1, h => by
    cases h with
    | cons a r => exact .cons a (AtL.erase i r)
theorem AtL.rep (h : AtL ix K M H vs ds) : ∀ k : Nat, AtL ix K M H (List.replicate k vs).flatten (List.replicate k ds).flatten
  | 0 => .nil
  | k + 1 => by
    rw [List.replicate_succ, List.replicate_succ, List.flatten_cons, List.flatten_cons]
    exact h.append (AtL.rep h k)
theorem AtL.ints : ∀ ns : List Int, AtL ix K M H (ns.map V.int) (ns.map PyData.int)
  | [] => .nil
  | n :: r => .cons (.int n) (AtL.ints r)
theorem AtL.of_ints : ∀ {ns : List Int} {vs : List V}, AtL ix K M H vs (ns.map PyData.int) → vs = ns.map V.int
  | [], _, h => by cases h; rfl
  | n :: r, _, h => by
    cases h with
    | cons a t =>
      cases a
      rw [AtL.of_ints t]
      rfl
theorem At.dp (h : At ix K M H v d) (n : SeqAt.shaped d = true) : Dp K H v d := by
  have key : ∀ d : PyData, d.canLay0 = true → ∀ v, At ix K M H v d → Dp K H v d := by
    intro d
    refine PyData.rec (motive_1 := fun d => d.canLay0 = true → ∀ v, At ix K M H v d → Dp K H v d) (motive_2 := fun ds => PyData.canLayAll0 ds = true → ∀ vs, AtL ix K M H vs ds → DpAll K H vs ds) (motive_3 := fun _ => True) (motive_4 := fun _ => True)
      ?_ ?_ ?_ ?_ ?_ ?_ ?_ ?_ ?_ ?_ ?_ ?_ d
    · intro _ v h; cases h; exact .non
    · intro b _ v h; cases h; exact .bl b
    · intro i _ v h; cases h; exact .int i
    · intro x _ v h; cases h; exact .str x
    · intro xs ih c v h
      cases h with
      | lst e n a => exact .lst (SqL.of e) (ih (by simpa [PyData.canLay0] using c) _ a)
    · intro xs ih c v h
      cases h with
      | tup q a => exact .tup q.1 (ih (by simpa [PyData.canLay0] using c) _ a)
    · intro kvs _ c
      simp [PyData.canLay0] at c
    · intro _ vs h; cases h; exact .nil
    · intro x xs ih1 ih2 c vs h
      simp only [PyData.canLayAll0, Bool.and_eq_true] at c
      cases h with
      | cons a r => exact .cons (ih1 c.1 _ a) (ih2 c.2 _ r)
    · trivial
    · intros; trivial
    · intros; trivial
  refine key d ?_ v h
  unfold SeqAt.shaped at n
  exact ((Bool.and_eq_true _ _).mp n).1
end
end VL

set_option Elab.async false
set_option linter.all false
set_option maxRecDepth 100000
set_option maxHeartbeats 1000000
/-! The value layer: slots, the state of a running def, the reading of expressions. -/
namespace VL
open PySem PySem.Spec PyProof.Rows L2 GxR GA

/-! ### the law's stream -/
def StAt (st l : Addr) (H : Hp) : Prop := ∃ (b k : Int) (ns : List Int), H st = some (.lst [.ref l, .int b, .int k]) ∧ H l = some (.lst (ns.map V.int)) ∧ l ≠ st ∧ 0 ≤ b ∧ 0 ≤ k
abbrev MS (st : Addr) : Addr → Prop := fun a => a = st
theorem StAt.kp {st l : Addr} {H H' : Hp} (h : StAt st l H) (k : Kp MN H H') : StAt st l H' := by
  obtain ⟨b, c, ns, h1, h2, h3, h4, h5⟩ := h
  exact ⟨b, c, ns, k.lst (fun z => z) h1, k.lst (fun z => z) h2, h3, h4, h5⟩

/-! ### slots -/
inductive Sl where
  | no
  /-- data -/
  | d (x : PyData)
  /-- a list of one's own, of data; of lists of one's own; a dict of one's own -/
  | l (xs : List PyData)
  | ll (xss : List (List PyData))
  | t (kvs : List (List Key × PyData))
  /-- the stream -/
  | s
abbrev En := List Sl
def sAt (env : En) (i : Nat) : Sl := env.getD i .no
inductive LLs (ix : Bool) (K : PySem.W.Frag) (M : Addr → Prop) (H : Hp) : List Addr → List (List PyData) → Prop
  | nil : LLs ix K M H [] []
  | cons {b : Addr} {vs : List V} {xs : List PyData} {as : List Addr} {xss : List (List PyData)} : H b = some (.lst vs) → AtL ix K M H vs xs → M b → LLs ix K M H as xss → LLs ix K M H (b :: as) (xs :: xss)
/-- what stands in a slot, the addresses of one's own things -/
inductive SlAt (ix : Bool) (K : PySem.W.Frag) (S : Option (Addr × Addr)) (M : Addr → Prop) (H : Hp) : Option V → Sl → List Addr → Prop
  | no {o : Option V} : SlAt ix K S M H o .no []
  | d {v : V} {x : PyData} : At ix K M H v x → SlAt ix K S M H (some v) (.d x) []
  | l {a : Addr} {vs : List V} {xs : List PyData} : H a = some (.lst vs) → AtL ix K M H vs xs → M a → SlAt ix K S M H (some (.ref a)) (.l xs) [a]
  | ll {a : Addr} {as : List Addr} {xss : List (List PyData)} : H a = some (.lst (as.map V.ref)) → LLs ix K M H as xss → M a → SlAt ix K S M H (some (.ref a)) (.ll xss) (a :: as)
  | t {a : Addr} {cvs : List (List Key × V)} {es : List PyData} {kvs : List (List Key × PyData)} : H a = some (.dT cvs) → AtL ix K M H (cvs.map (·.2)) es → kvs = (cvs.map (·.1)).zip es → M a → SlAt ix K S M H (some (.ref a)) (.t kvs) [a]
  | s {a l : Addr} : S = some (a, l) → SlAt ix K S M H (some (.ref a)) .s []
section
variable {ix : Bool} {K : PySem.W.Frag} {S : Option (Addr × Addr)} {M M' : Addr → Prop} {H H' : Hp} {ov : Option V} {sl : Sl} {os : List Addr}
theorem LLs.mem {as : List Addr} {xss : List (List PyData)} (h : LLs ix K M H as xss) : ∀ a ∈ as, M a := by
  induction h with
  | nil => exact fun a z => nomatch z
  | cons e _ m _ ih =>
    intro a z
    rcases List.mem_cons.mp z with y | y
    · rw [y]; exact m
    · exact ih a y
theorem SlAt.mem (h : SlAt ix K S M H ov sl os) : ∀ a ∈ os, M a := by
  cases h with
  | no => exact fun a z => nomatch z
  | d _ => exact fun a z => nomatch z
  | l e _ m =>
    intro a z
    rw [List.mem_singleton.mp z]; exact m
  | ll e q m =>
    intro a z
    rcases List.mem_cons.mp z with y | y
    · rw [y]; exact m
    · exact q.mem a y
  | t e _ _ m =>
    intro a z
    rw [List.mem_singleton.mp z]; exact m
  | s _ => exact fun a z => nomatch z
/-- through a step that leaves one's own things as they are, with M' -/
theorem LLs.stp {as : List Addr} {xss : List (List PyData)} (s : Stp M H M' H') (h : LLs ix K M H as xss) (own : ∀ a ∈ as, M' a ∧ H' a = H a) : LLs ix K M' H' as xss := by
  induction h with
  | nil => exact .nil
  | cons e q m _ ih => exact .cons (by rw [(own _ List.mem_cons_self).2]; exact e) (q.stp s) (own _ List.mem_cons_self).1 (ih fun a z => own a (List.mem_cons_of_mem _ z))
theorem SlAt.stp (s : Stp M H M' H') (h : SlAt ix K S M H ov sl os) (own : ∀ a ∈ os, M' a ∧ H' a = H a) : SlAt ix K S M' H' ov sl os := by
  cases h with
  | no => exact .no
  | d h => exact .d (h.stp s)
  | l e q m =>
    obtain ⟨m', e'⟩ := own _ List.mem_cons_self
    exact .l (by rw [e']; exact e) (q.stp s) m'
  | ll e q m =>
    obtain ⟨m', e'⟩ := own _ List.mem_cons_self
    exact .ll (by rw [e']; exact e) (q.stp s fun a z => own a (List.mem_cons_of_mem _ z)) m'
  | t e q z m =>
    obtain ⟨m', e'⟩ := own _ List.mem_cons_self
    exact .t (by rw [e']; exact e) (q.stp s) z m'
  | s e => exact .s e
end

/-! ### the state of a running def -/
/-- fixed through a run: the heap at its entry, what the callers keep for themselves, the stream -/
structure Ctx (T : List Addr) (ix : Bool) where
  H0 : Hp
  Mx : Addr → Prop
  S : Option (Addr × Addr)
abbrev Ctx.M0 {T : List Addr} {ix : Bool} (c : Ctx T ix) : Addr → Prop := fun a => ∃ l, c.S = some (a, l)
abbrev Tmp := List (Addr × List V)
structure Rp {T : List Addr} {ix : Bool} (K : PySem.W.Frag) (c : Ctx T ix) (σ : L2.St) (M : Addr → Prop) (H : Hp) (env : En) (X : Tmp) : Prop where
  len : env.length = σ.length
  own : ∃ o : Nat → List Addr, (∀ i, SlAt ix K c.S M H (σ.getD i none) (sAt env i) (o i)) ∧ (∀ i j a, a ∈ o i → a ∈ o j → i = j) ∧ (∀ i, (o i).Nodup) ∧ ∀ i a, a ∈ o i → c.H0 a = none ∧ ∀ p ∈ X, p.1 ≠ a
  tmp : ∀ p ∈ X, H p.1 = some (.lst p.2) ∧ M p.1 ∧ c.H0 p.1 = none
  nd : (X.map (·.1)).Nodup
  mx : ∀ a, c.Mx a → M a ∧ c.H0 a ≠ none
  al : ∀ a, M a → H a ≠ none
  kp : Kp c.M0 c.H0 H
  tb : ∀ P ∈ T, TabG H P
  st : ∀ a l, c.S = some (a, l) → StAt a l H ∧ M a ∧ c.H0 a ≠ none ∧ c.H0 l ≠ none ∧ ¬ M l
section
variable {T : List Addr} {ix : Bool} {K : PySem.W.Frag} {c : Ctx T ix} {σ : L2.St} {M M' : Addr → Prop} {H H' : Hp} {env : En} {X : Tmp}
/-- nothing that stands is changed -/
theorem Rp.kp1 (r : Rp K c σ M H env X) (k : Kp MN H H') : Rp K c σ M H' env X := by
  obtain ⟨o, h1, h2, h3, h4⟩ := r.own
  have same : ∀ i a, a ∈ o i → M a ∧ H' a = H a := fun i a z => by
    have m := (h1 i).mem a z
    refine ⟨m, ?_⟩
    have key : ∀ (ov : Option V) (sl : Sl) (os : List Addr), SlAt ix K c.S M H ov sl os → a ∈ os → ∃ u, mutO u = true ∧ H a = some u := by
      intro ov sl os h z
      have lk : ∀ {as : List Addr} {xss : List (List PyData)}, LLs ix K M H as xss → a ∈ as → ∃ u, mutO u = true ∧ H a = some u := by
        intro as xss q
        induction q with
        | nil => exact fun z => nomatch z
        | cons e _ _ _ ih =>
          intro z
          rcases List.mem_cons.mp z with y | y
          · rw [y]; exact ⟨_, rfl, e⟩
          · exact ih y
      cases h with
      | no => cases z
      | d _ => cases z
      | l e _ _ => rw [List.mem_singleton.mp z]; exact ⟨_, rfl, e⟩
      | ll e q _ =>
        rcases List.mem_cons.mp z with y | y
        · rw [y]; exact ⟨_, rfl, e⟩
        · exact lk q y
      | t e _ _ _ => rw [List.mem_singleton.mp z]; exact ⟨_, rfl, e⟩
      | s _ => cases z
    obtain ⟨u, f, e⟩ := key _ _ _ (h1 i) z
    rw [e]
    exact k.mu a u f (fun z => z) e
  refine ⟨r.len, ⟨o, fun i => (h1 i).stp (.of k.any) (same i), h2, h3, h4⟩, fun p hp => ?_, r.nd, r.mx, fun a m => k.al a (r.al a m), r.kp.trans k.any, fun P hP => k.tb P (r.tb P hP), fun a l e => ?_⟩
  · obtain ⟨e, m, n⟩ := r.tmp p hp
    exact ⟨k.lst (fun z => z) e, m, n⟩
  · obtain ⟨s, m⟩ := r.st a l e
    exact ⟨s.kp k, m⟩
/-- a call with the stream -/
theorem Rp.kpS {st l : Addr} (r : Rp K c σ M H env X) (hS : c.S = some (st, l)) (k : Kp (MS st) H H') (s : StAt st l H') : Rp K c σ M H' env X := by
  obtain ⟨o, h1, h2, h3, h4⟩ := r.own
  have hst := r.st st l hS
  have nst : ∀ i a, a ∈ o i → a ≠ st := fun i a z y => hst.2.2.1 (by rw [← y]; exact (h4 i a z).1)
  have same : ∀ i a, a ∈ o i → M a ∧ H' a = H a := fun i a z => by
    have m := (h1 i).mem a z
    refine ⟨m, ?_⟩
    have key : ∀ (ov : Option V) (sl : Sl) (os : List Addr), SlAt ix K c.S M H ov sl os → a ∈ os → ∃ u, mutO u = true ∧ H a = some u := by
      intro ov sl os h z
      have lk : ∀ {as : List Addr} {xss : List (List PyData)}, LLs ix K M H as xss → a ∈ as → ∃ u, mutO u = true ∧ H a = some u := by
        intro as xss q
        induction q with
        | nil => exact fun z => nomatch z
        | cons e _ _ _ ih =>
          intro z
          rcases List.mem_cons.mp z with y | y
          · rw [y]; exact ⟨_, rfl, e⟩
          · exact ih y
      cases h with
      | no => cases z
      | d _ => cases z
      | l e _ _ => rw [List.mem_singleton.mp z]; exact ⟨_, rfl, e⟩
      | ll e q _ =>
        rcases List.mem_cons.mp z with y | y
        · rw [y]; exact ⟨_, rfl, e⟩
        · exact lk q y
      | t e _ _ _ => rw [List.mem_singleton.mp z]; exact ⟨_, rfl, e⟩
      | s _ => cases z
    obtain ⟨u, f, e⟩ := key _ _ _ (h1 i) z
    rw [e]
    exact k.mu a u f (nst i a z) e
  have km : Kp M H H' := k.mono fun b z => by rw [z]; exact hst.2.1
  refine ⟨r.len, ⟨o, fun i => (h1 i).stp (.of km) (same i), h2, h3, h4⟩, fun p hp => ?_, r.nd, r.mx, fun a m => k.al a (r.al a m), r.kp.trans (k.mono fun b z => ⟨l, by rw [z]; exact hS⟩), fun P hP => k.tb P (r.tb P hP), fun a l' e => ?_⟩
  · obtain ⟨e, m, n⟩ := r.tmp p hp
    exact ⟨k.lst (fun z => hst.2.2.1 (by rw [← z]; exact n)) e, m, n⟩
  · rw [hS] at e
    cases e
    exact ⟨s, hst.2⟩
theorem Rp.stpS {st l : Addr} (r : Rp K c σ M H env X) (hS : c.S = some (st, l)) (k : Kp (MS st) H H') : Stp M H M H' := .of (k.mono fun b z => by rw [z]; exact (r.st st l hS).2.1)
/-- a new list of one's own, not in a slot yet -/
theorem Rp.tmpNew {p : Addr} {vs : List V} (r : Rp K c σ M H env X) (hp : H p = none) : Rp K c σ (fun a => M a ∨ a = p) (upd H p (.lst vs)) env ((p, vs) :: X) := by
  have k : Kp MN H (upd H p (.lst vs)) := .new hp
  have r1 := r.kp1 k
  obtain ⟨o, h1, h2, h3, h4⟩ := r.own
  have np : ∀ a, M a → a ≠ p := fun a m z => r.al a m (by rw [z]; exact hp)
  have h0 : c.H0 p = none := by
    cases q : c.H0 p with
    | none => rfl
    | some u => exact absurd hp (r.kp.al p (by rw [q]; exact fun z => by cases z))
  have s : Stp M H (fun a => M a ∨ a = p) (upd H p (.lst vs)) := ⟨k.any, fun a z => z.elim .inl fun y => .inr (by rw [y]; exact hp)⟩
  refine ⟨r.len, ⟨o, fun i => (h1 i).stp s fun a z => ⟨.inl ((h1 i).mem a z), upd_ne (np a ((h1 i).mem a z))⟩, h2, h3, fun i a z => ⟨(h4 i a z).1, fun q hq => ?_⟩⟩, fun q hq => ?_, ?_, fun a z => ⟨.inl (r.mx a z).1, (r.mx a z).2⟩, fun a z => ?_, r1.kp, r1.tb, fun a l e => ?_⟩
  · rcases List.mem_cons.mp hq with y | y
    · rw [y]; exact fun w => np a ((h1 i).mem a z) w.symm
    · exact (h4 i a z).2 q y
  · rcases List.mem_cons.mp hq with y | y
    · rw [y]; exact ⟨upd_same, .inr rfl, h0⟩
    · obtain ⟨e, m, n⟩ := r1.tmp q y
      exact ⟨e, .inl m, n⟩
  · rw [List.map_cons, List.nodup_cons]
    refine ⟨fun z => ?_, r.nd⟩
    obtain ⟨q, hq, e⟩ := List.mem_map.mp z
    exact np q.1 (r.tmp q hq).2.1 e
  · rcases z with y | y
    · exact r1.al a y
    · rw [y, upd_same]; exact fun w => by cases w
  · obtain ⟨s1, m, n1, n2, n3⟩ := r1.st a l e
    exact ⟨s1, .inl m, n1, n2, fun z => z.elim n3 fun y => n2 (by rw [y]; exact h0)⟩
theorem Stp.tmpNew {p : Addr} {o : HO} (hp : H p = none) : Stp M H (fun a => M a ∨ a = p) (upd H p o) := ⟨(Kp.new hp), fun a z => z.elim .inl fun y => .inr (by rw [y]; exact hp)⟩
/-- the newest list of one's own becomes data -/
theorem Rp.tmpDrop {p : Addr} {vs : List V} (r : Rp K c σ M H env ((p, vs) :: X)) : Rp K c σ (fun a => M a ∧ a ≠ p) H env X := by
  obtain ⟨o, h1, h2, h3, h4⟩ := r.own
  have hp := r.tmp (p, vs) List.mem_cons_self
  have s : Stp M H (fun a => M a ∧ a ≠ p) H := .less fun a z => z.1
  have nd := r.nd
  rw [List.map_cons, List.nodup_cons] at nd
  refine ⟨r.len, ⟨o, fun i => (h1 i).stp s fun a z => ⟨⟨(h1 i).mem a z, fun y => (h4 i a z).2 _ List.mem_cons_self y.symm⟩, rfl⟩, h2, h3, fun i a z => ⟨(h4 i a z).1, fun q hq => (h4 i a z).2 q (List.mem_cons_of_mem _ hq)⟩⟩,
    fun q hq => ?_, nd.2, fun a z => ⟨⟨(r.mx a z).1, fun y => (r.mx a z).2 (by rw [y]; exact hp.2.2)⟩, (r.mx a z).2⟩, fun a z => r.al a z.1, r.kp, r.tb, fun a l e => ?_⟩
  · obtain ⟨e, m, n⟩ := r.tmp q (List.mem_cons_of_mem _ hq)
    exact ⟨e, ⟨m, fun y => nd.1 (List.mem_map.mpr ⟨q, hq, y⟩)⟩, n⟩
  · obtain ⟨s1, m, n1, n2, n3⟩ := r.st a l e
    exact ⟨s1, ⟨m, fun y => n1 (by rw [y]; exact hp.2.2)⟩, n1, n2, fun z => n3 z.1⟩
theorem Rp.tmpAt {p : Addr} {vs : List V} {ds : List PyData} (r : Rp K c σ M H env ((p, vs) :: X)) (a : AtL ix K M H vs ds) : At ix K (fun a => M a ∧ a ≠ p) H (.ref p) (.list ds) :=
  .lst (r.tmp _ List.mem_cons_self).1 (fun z => z.2 rfl) (a.less fun _ z => z.1)
end

/-! ### expressions -/
abbrev Mo (α : Type) := En → W (α × En)
namespace Mo
variable {α β : Type}
def ret (a : α) : Mo α := fun env => W.ret (a, env)
def fail : Mo α := fun _ => W.fail
def bind (m : Mo α) (f : α → Mo β) : Mo β := fun env => (m env).bind fun r => f r.1 r.2
def lift (w : W α) : Mo α := fun env => w.bind fun a => W.ret (a, env)
@[simp] theorem ret_bind (a : α) (f : α → Mo β) : bind (ret a) f = f a := rfl
theorem bind_assoc {γ : Type} (m : Mo α) (f : α → Mo β) (g : β → Mo γ) : bind (bind m f) g = bind m fun a => bind (f a) g := rfl
end Mo
/-- an error's object -/
def ErAt (mg : Str → Option Value) (e : Er) (cls : Value) (dd : Option Addr) (H : Hp) : Prop :=
  ∃ (C d : Addr) (fs : List (Str × V)), cls = .ref C ∧ mg e.cls = some (.ref C) ∧ dd = some d ∧ H d = some (.xd fs) ∧ ∃ s : List (Str × Str), fs = s.map (fun p => (p.1, V.str p.2)) ∧ e.fs = s.map fun p => (p.1, PyData.str p.2)
section
variable {T : List Addr} {ix : Bool}
def EX (mg : Str → Option Value) (c : Ctx T ix) (EK : XK) (e : Er) : Prop := ∀ cls dd H', ErAt mg e cls dd H' → Kp c.M0 c.H0 H' → (∀ a l, c.S = some (a, l) → StAt a l H') → EK cls dd H'
def tV (K : PySem.W.Frag) (mg : Str → Option Value) (c : Ctx T ix) (EK : XK) (m : Mo PyData) : TE := fun σ H Q => ∃ M env X, Rp K c σ M H env X ∧
  (m env).run (fun r => ∀ v M' H', Stp M H M' H' → Rp K c σ M' H' r.2 X → At ix K M' H' v r.1 → Q v H') (EX mg c EK)
def tA (K : PySem.W.Frag) (mg : Str → Option Value) (c : Ctx T ix) (EK : XK) (m : Mo (List PyData)) : TA := fun σ H Q => ∃ M env X, Rp K c σ M H env X ∧
  (m env).run (fun r => ∀ vs M' H', Stp M H M' H' → Rp K c σ M' H' r.2 X → AtL ix K M' H' vs r.1 → Q vs H') (EX mg c EK)
def tT (K : PySem.W.Frag) (mg : Str → Option Value) (c : Ctx T ix) (EK : XK) (m : Mo Bool) : TT := fun σ H Q => ∃ M env X, Rp K c σ M H env X ∧
  (m env).run (fun r => ∀ M' H', Stp M H M' H' → Rp K c σ M' H' r.2 X → Q r.1 H') (EX mg c EK)
/-- a fresh list of one's own -/
def tF (K : PySem.W.Frag) (mg : Str → Option Value) (c : Ctx T ix) (EK : XK) (m : Mo (List PyData)) : TE := fun σ H Q => ∃ M env X, Rp K c σ M H env X ∧
  (m env).run (fun r => ∀ a vs M' H', Stp M H M' H' → Rp K c σ M' H' r.2 ((a, vs) :: X) → AtL ix K M' H' vs r.1 → Q (.ref a) H') (EX mg c EK)
structure VE (X : Cx) (c : Ctx T ix) (EK : XK) (e : Expr) (m : Mo PyData) : Prop where
  pe : PE X e (tV X.K X.mg c EK m)
structure VA (X : Cx) (c : Ctx T ix) (EK : XK) (es : List Expr) (m : Mo (List PyData)) : Prop where
  pa : PA X es (tA X.K X.mg c EK m)
  len : ∀ (env : En) (Q : List PyData × En → Prop) (E : Er → Prop), (m env).run Q E → (m env).run (fun r => r.1.length = es.length ∧ Q r) E
structure VT (X : Cx) (c : Ctx T ix) (EK : XK) (e : Expr) (m : Mo Bool) : Prop where
  pt : PT X e (tT X.K X.mg c EK m)
structure VW (X : Cx) (c : Ctx T ix) (EK : XK) (e : Expr) (m : Mo Bool) : Prop where
  pw : PW X e (tT X.K X.mg c EK m)
structure VF (X : Cx) (c : Ctx T ix) (EK : XK) (e : Expr) (m : Mo (List PyData)) : Prop where
  pe : PE X e (tF X.K X.mg c EK m)
theorem PE.imp {X : Cx} {e : Expr} {t t' : TE} (h : PE X e t) (i : ∀ σ H Q, t' σ H Q → t σ H Q) : PE X e t' := ⟨fun pins s σ H Q I q => h.run pins s σ H Q I (i _ _ _ q)⟩
theorem PA.imp {X : Cx} {e : List Expr} {t t' : TA} (h : PA X e t) (i : ∀ σ H Q, t' σ H Q → t σ H Q) : PA X e t' := ⟨fun pos pins s σ H Q I q => h.run pos pins s σ H Q I (i _ _ _ q)⟩
theorem PT.imp {X : Cx} {e : Expr} {t t' : TT} (h : PT X e t) (i : ∀ σ H Q, t' σ H Q → t σ H Q) : PT X e t' := ⟨fun pins s σ H Q I q => h.run pins s σ H Q I (i _ _ _ q)⟩
theorem PW.imp {X : Cx} {e : Expr} {t t' : TT} (h : PW X e t) (i : ∀ σ H Q, t' σ H Q → t σ H Q) : PW X e t' := ⟨fun wh pins s σ H Q I q => h.run wh pins s σ H Q I (i _ _ _ q)⟩
end
section
variable {T : List Addr} {ix : Bool} {X : Cx} {c : Ctx T ix} {EK : XK}
/-! #### constants, names -/
theorem ve_const {e : Expr} {v : V} {d : PyData} (h : PE X e (tC v)) (a : ∀ M H, At ix X.K M H v d) : VE X c EK e (Mo.ret d) :=
  ⟨PE.imp h fun σ H Q ⟨M, env, Y, rp, q⟩ => q v M H .refl rp (a M H)⟩
theorem ve_int {i : Int} {j pos} : VE X c EK (.Constant (.int i) j pos) (Mo.ret (.int i)) := ve_const pe_int fun _ _ => .int i
theorem ve_bl {b : Bool} {j pos} : VE X c EK (.Constant (.bool b) j pos) (Mo.ret (.bool b)) := ve_const pe_bl fun _ _ => .bl b
theorem ve_non {j pos} : VE X c EK (.Constant .none j pos) (Mo.ret .none) := ve_const pe_non fun _ _ => .non
theorem ve_str {x : Str} {j pos} : VE X c EK (.Constant (.str x) j pos) (Mo.ret (.str x)) := ve_const pe_str fun _ _ => .str x
/-- a constant of the module -/
theorem ve_glob {x : Str} {v : V} {u : Value} {d : PyData} {pos : Pos} (hg : Gl X x) (hm : X.mg x = some u) (r : RelV v u) (a : ∀ M H, (∀ z, M z → H z ≠ none) → At ix X.K M H v d) (hd : (x == ("__debug__" : Str)) = false := by decide) : VE X c EK (.Name x pos) (Mo.ret d) :=
  ⟨PE.imp (pe_glob hg hm r hd) fun σ H Q ⟨M, env, Y, rp, q⟩ => q v M H .refl rp (a M H rp.al)⟩
/-- a name: what is one's own is given away as data -/
def eVar (i : Nat) : Mo PyData := fun env => match sAt env i with
  | .d x => W.ret (x, env)
  | .l xs => W.ret (.list xs, env.set i (.d (.list xs)))
  | .ll xss => W.ret (.list (xss.map .list), env.set i (.d (.list (xss.map .list))))
  | .t kvs => W.ret (.dict (kvs.map fun p => (.tuple (p.1.map kD), p.2)), env.set i (.d (.dict (kvs.map fun p => (.tuple (p.1.map kD), p.2)))))
  | _ => W.fail
theorem sAt_set {env : En} {i j : Nat} {s : Sl} (hi : i < env.length) : sAt (env.set i s) j = if j = i then s else sAt env j := by
  unfold sAt
  by_cases h : j = i
  · rw [if_pos h, h]
    simp [List.getD_eq_getElem?_getD, List.getElem?_set, hi]
  · rw [if_neg h]
    simp [List.getD_eq_getElem?_getD, List.getElem?_set, Ne.symm h]
theorem sAt_lt {env : En} {i : Nat} (h : sAt env i ≠ .no) : i < env.length := by
  by_cases q : i < env.length
  · exact q
  · unfold sAt at h
    rw [List.getD_eq_getElem?_getD, List.getElem?_eq_none (by omega)] at h
    exact absurd rfl h
theorem slot_val {σ : L2.St} {i : Nat} {v : V} (h : σ.getD i none = some v) : σ[i]? = some (some v) := by
  rw [List.getD_eq_getElem?_getD] at h
  cases q : σ[i]? with
  | none => rw [q] at h; cases h
  | some o => rw [q] at h; exact congrArg some h
/-- the slot's own things become data: M' without them -/
theorem Rp.give {σ : L2.St} {K : PySem.W.Frag} {M : Addr → Prop} {H : Hp} {env : En} {Y : Tmp} {i : Nat} {x : PyData} {v : V} (r : Rp K c σ M H env Y) (hi : i < env.length) (hv : σ.getD i none = some v) (os : List Addr)
    (ho : ∀ os', SlAt ix K c.S M H (σ.getD i none) (sAt env i) os' → os' = os) (ha : ∀ M', (∀ a, M' a → M a ∧ a ∉ os) → At ix K M' H v x) :
    Rp K c σ (fun a => M a ∧ a ∉ os) H (env.set i (.d x)) Y := by
  obtain ⟨o, h1, h2, h3, h4⟩ := r.own
  have eo := ho _ (h1 i)
  have s : Stp M H (fun a => M a ∧ a ∉ os) H := .less fun a z => z.1
  refine ⟨by rw [List.length_set]; exact r.len, ⟨fun j => if j = i then [] else o j, fun j => ?_, fun j k a => ?_, fun j => ?_, fun j a z => ?_⟩, fun p hp => ?_, r.nd, fun a z => ?_, fun a z => r.al a z.1, r.kp, r.tb, fun a l e => ?_⟩
  · rw [sAt_set hi]
    dsimp only
    by_cases e : j = i
    · rw [if_pos e, if_pos e, e, hv]
      exact .d (ha _ fun a z => z)
    · rw [if_neg e, if_neg e]
      exact (h1 j).stp s fun a z => ⟨⟨(h1 j).mem a z, fun y => e (h2 j i a z (by rw [eo]; exact y))⟩, rfl⟩
  · dsimp only
    by_cases e : j = i
    · rw [if_pos e]; exact fun z => nomatch z
    · rw [if_neg e]
      by_cases e' : k = i
      · rw [if_pos e']; exact fun _ z => nomatch z
      · rw [if_neg e']; exact h2 j k a
  · dsimp only
    by_cases e : j = i
    · rw [if_pos e]; exact List.nodup_nil
    · rw [if_neg e]; exact h3 j
  · dsimp only at z
    by_cases e : j = i
    · rw [if_pos e] at z; cases z
    · rw [if_neg e] at z; exact h4 j a z
  · obtain ⟨e, m, n⟩ := r.tmp p hp
    exact ⟨e, ⟨m, fun y => (h4 i p.1 (by rw [eo]; exact y)).2 p hp rfl⟩, n⟩
  · exact ⟨⟨(r.mx a z).1, fun y => (r.mx a z).2 (h4 i a (by rw [eo]; exact y)).1⟩, (r.mx a z).2⟩
  · obtain ⟨s1, m, n1, n2, n3⟩ := r.st a l e
    exact ⟨s1, ⟨m, fun y => n1 (h4 i a (by rw [eo]; exact y)).1⟩, n1, n2, fun z => n3 z.1⟩
theorem LLs.give {K : PySem.W.Frag} {M M' : Addr → Prop} {H : Hp} {as : List Addr} {xss : List (List PyData)} (h : LLs ix K M H as xss) (w : ∀ a, M' a → M a) (n : ∀ a ∈ as, ¬ M' a) : AtL ix K M' H (as.map V.ref) (xss.map PyData.list) := by
  induction h with
  | nil => exact .nil
  | cons e q m _ ih => exact .cons (.lst e (n _ List.mem_cons_self) (q.less w)) (ih fun a z => n a (List.mem_cons_of_mem _ z))
theorem LLs.uniq {as bs : List Addr} (e : as.map V.ref = bs.map V.ref) : as = bs := by
  have : ∀ l : List Addr, (l.map V.ref).filterMap (fun v => match v with | .ref a => some a | _ => none) = l := by
    intro l
    induction l with
    | nil => rfl
    | cons a r ih => simp [ih]
  rw [← this as, ← this bs, e]
theorem zip_map_key {cvs : List (List Key × V)} {es : List PyData} : ((cvs.map (·.1)).zip es).map (fun p => (PyData.tuple (p.1.map kD), p.2)) = (cvs.map fun p => PyData.tuple (p.1.map kD)).zip es := by
  induction cvs generalizing es with
  | nil => rfl
  | cons x r ih =>
    cases es with
    | nil => rfl
    | cons y es => simp [ih]
theorem ve_var {i : Nat} {x : Str} {pos : Pos} (h : PE X (.Name x pos) (tVar i)) : VE X c EK (.Name x pos) (eVar i) := by
  refine ⟨PE.imp h fun σ H Q ⟨M, env, Y, rp, q⟩ => ?_⟩
  obtain ⟨o, h1, h2, h3, h4⟩ := rp.own
  have hs := h1 i
  unfold eVar at q
  cases e : sAt env i with
  | no => rw [e] at q; exact q.elim
  | s => rw [e] at q; exact q.elim
  | d y =>
    rw [e] at q hs
    generalize hv : σ.getD i none = ov at hs
    generalize o i = os at hs
    cases hs with
    | d a => exact ⟨_, slot_val hv, q _ M H .refl rp a⟩
  | l xs =>
    rw [e] at q
    have hl : i < env.length := sAt_lt (by rw [e]; exact fun z => by cases z)
    rw [e] at hs
    generalize hv : σ.getD i none = ov at hs
    generalize ho : o i = os at hs
    cases hs with
    | @l a vs _ ea al m =>
      have al' : ∀ M', (∀ b, M' b → M b ∧ b ∉ [a]) → At ix X.K M' H (.ref a) (.list xs) := fun M' w => .lst ea (fun z => (w a z).2 List.mem_cons_self) (al.less fun b z => (w b z).1)
      have r2 := rp.give (i := i) (x := .list xs) hl hv [a] (fun os' h => by
        rw [e, hv] at h
        cases h
        rfl) al'
      exact ⟨_, slot_val hv, q _ _ H (.less fun b z => z.1) r2 (al' _ fun b z => z)⟩
  | ll xss =>
    rw [e] at q
    have hl : i < env.length := sAt_lt (by rw [e]; exact fun z => by cases z)
    rw [e] at hs
    generalize hv : σ.getD i none = ov at hs
    generalize ho : o i = os at hs
    cases hs with
    | @ll a as _ ea al m =>
      have al' : ∀ M', (∀ b, M' b → M b ∧ b ∉ a :: as) → At ix X.K M' H (.ref a) (.list (xss.map .list)) := fun M' w =>
        .lst ea (fun z => (w a z).2 List.mem_cons_self) (al.give (fun b z => (w b z).1) fun b hb z => (w b z).2 (List.mem_cons_of_mem _ hb))
      have r2 := rp.give (i := i) (x := .list (xss.map .list)) hl hv (a :: as) (fun os' h => by
        rw [e, hv] at h
        cases h with
        | ll ea' _ _ =>
          rw [ea] at ea'
          injection ea' with z
          injection z with z
          rw [LLs.uniq z]) al'
      exact ⟨_, slot_val hv, q _ _ H (.less fun b z => z.1) r2 (al' _ fun b z => z)⟩
  | t kvs =>
    rw [e] at q
    have hl : i < env.length := sAt_lt (by rw [e]; exact fun z => by cases z)
    rw [e] at hs
    generalize hv : σ.getD i none = ov at hs
    generalize ho : o i = os at hs
    cases hs with
    | @t a cvs es _ ea al z m =>
      have al' : ∀ M', (∀ b, M' b → M b ∧ b ∉ [a]) → At ix X.K M' H (.ref a) (.dict (kvs.map fun p => (.tuple (p.1.map kD), p.2))) := fun M' w =>
        .dT ea (fun z => (w a z).2 List.mem_cons_self) (al.less fun b z => (w b z).1) (by rw [z, zip_map_key])
      have r2 := rp.give (i := i) hl hv [a] (fun os' h => by
        rw [e, hv] at h
        cases h
        rfl) al'
      exact ⟨_, slot_val hv, q _ _ H (.less fun b z => z.1) r2 (al' _ fun b z => z)⟩
end
end VL

set_option Elab.async false
set_option linter.all false
set_option maxRecDepth 100000
set_option maxHeartbeats 1000000
/-! Tuples that are made: their objects have no attributes of their own. t + u, t[lo:hi], t[::-1]. -/
namespace KR
open PySem PySem.Spec PyProof.Rows L2
section
variable {X : Cx}
def rCatF (K : PySem.W.Frag) : R2 := fun x y H Q => ∃ a b xs ys, x = .ref a ∧ y = .ref b ∧ SqT K H a xs ∧ SqT K H b ys ∧ xs.length + ys.length ≤ sizeLine ∧ (xs = [] → Q (.ref b) H) ∧ (xs ≠ [] → ys = [] → Q (.ref a) H) ∧
  (xs ≠ [] → ys ≠ [] → ∀ (p : Addr) (o : Obj), H p = none → o.dict = none → Q (.ref p) (L2.upd H p (.frz o (.tup (xs ++ ys)))))
theorem op_catF : OpR X (binaryOp .Add) (rCatF X.K) := by
  intro pins s σ H x y v u Q I rx ry h
  obtain ⟨a, b, xs, ys, rfl, rfl, ha, hb, hz, q0, q1, q2⟩ := h
  cases rx
  cases ry
  obtain ⟨its, r1, p1, _⟩ := I.tuple ha
  obtain ⟨its2, r2, p2, _⟩ := I.tuple hb
  have l1 := r1.length
  have l2 := r2.length
  obtain ⟨⟨cls, dd, data, sl⟩, ho, hc, n, hd⟩ := id p1
  obtain ⟨⟨cls2, dd2, data2, sl2⟩, ho2, hc2, n2, hd2⟩ := id p2
  simp only at hc hd hc2 hd2
  subst hc hd hc2 hd2
  have e : its.toArray ++ its2.toArray = (its ++ its2).toArray := by simp
  by_cases hv : its = []
  · exact concat_meets ⟨_, ho, rfl⟩ ⟨_, ho2, rfl⟩ noFill_tuple_add seq_tuple_add PySem.F.slot_tuple_add PySem.F.entry_tuple_add (PySem.F.args_tuple_add_2 _ _)
      (tuple_addW0 a b its.toArray its2.toArray n n2 dd dd2 sl sl2 (by simp [hv])) ⟨ho, ho2, .ref b, H, I, rfl, q0 (r1.nil_iff.mp hv)⟩
  · by_cases hw : its2 = []
    · exact concat_meets ⟨_, ho, rfl⟩ ⟨_, ho2, rfl⟩ noFill_tuple_add seq_tuple_add PySem.F.slot_tuple_add PySem.F.entry_tuple_add (PySem.F.args_tuple_add_2 _ _)
        (tuple_addW1 a b its.toArray its2.toArray n n2 dd dd2 sl sl2 (by simpa using hv) (by simp [hw])) ⟨ho, ho2, .ref a, H, I, rfl, q1 (fun z => hv (r1.nil_iff.mpr z)) (r2.nil_iff.mp hw)⟩
    · refine concat_meets ⟨_, ho, rfl⟩ ⟨_, ho2, rfl⟩ noFill_tuple_add seq_tuple_add PySem.F.slot_tuple_add PySem.F.entry_tuple_add (PySem.F.args_tuple_add_2 _ _)
        (tuple_addW2 a b its.toArray its2.toArray n n2 dd dd2 sl sl2 (by simpa using hv) (by simpa using hw) (by rw [List.size_toArray, List.size_toArray]; omega)) ⟨ho, ho2, ?_⟩
      rw [e]
      let ob : Obj := { cls := .type "tuple", data := .seq (its ++ its2).toArray }
      refine ⟨.ref s.heap.objs.size, _, I.laid (t' := s.toks) (o := .frz ob (.tup (xs ++ ys))) (fun b ob q => Heap.get?_push_of_some _ q) (Nat.le_refl _) ?_, rfl, q2 (fun z => hv (r1.nil_iff.mpr z)) (fun z => hw (r2.nil_iff.mpr z)) _ ob (I.hok.fresh (Nat.le_refl _)) rfl⟩
      exact ⟨Heap.get?_push_size _ rfl, by rw [List.length_append]; exact hz, _, r1.append r2, IsTup.new _ _⟩
end
section
variable {prog : Program} {w : World} {A : Around} {E : Value → Shared → Prop} {s : Shared}
theorem getItem_tuple_whole {t sl : Addr} {items : Array Value} {vl vu : Value} {lo hi : Option Int} {Q : Value → Shared → Prop} (ht : IsTup s.heap t items) (hs : s.heap.IsSliceOf sl vl vu .none) (pl : IsPart vl lo) (pu : IsPart vu hi)
    (hw : HT.sIx items.size 0 lo = 0 ∧ HT.sIx items.size items.size hi = items.size) (h : Q (.ref t) s) : wpAny (model prog w) A (getItem (.ref t) (.ref sl)) Q E s := by
  obtain ⟨os, hos, hcs, hds⟩ := id hs
  have hTs : s.TypeIs (.ref sl) "slice" := ⟨os, hos, hcs⟩
  unfold getItem
  try with_reducible refine wpAny_holding ?_
  first | refine wpAny_bind (wpAny_pure ?_) | skip
  refine wpAny_bind (wpAny_sequenceKey ht.typeIs (by decide) ?_)
  refine wpAny_bind (wpAny_callSpecial?_slot (name := Str.ofString "__getitem__") ht.typeIs PyProof.Rows.slot_tuple_getitem
    (wpAny_call_entry PyProof.Rows.slot_tuple_getitem ht.typeIs entry_tuple_getitem ?_ (args_tuple_getitem _ _)))
  show wpAny _ _ (Builtin.Tuple.tupleItemsOf (.ref t) >>= _) _ _ s
  refine wpAny_bind (tupleItemsOf_ ht ?_)
  refine wpAny_bind (wpAny_typeOf hTs ?_)
  rw [if_pos (by decide)]
  refine wpAny_bind (HT.sliceApplied_gen hs pl pu ?_)
  have yes : ((((HT.sIx items.size 0 lo : Nat) : Int) == 0 && (1 : Int) == 1 && (HT.sIx items.size items.size hi - HT.sIx items.size 0 lo) == items.size) = true) := by
    rw [hw.1, hw.2]
    simp
  show wpAny _ _ (if (((HT.sIx items.size 0 lo : Nat) : Int) == 0 && (1 : Int) == 1 && (HT.sIx items.size items.size hi - HT.sIx items.size 0 lo) == items.size) = true then _ else _) _ _ s
  rw [if_pos yes]
  refine wpAny_bind (m := Builtin.Tuple.tupleIsExact _) ?_
  unfold Builtin.Tuple.tupleIsExact
  refine wpAny_bind (wpAny_typeOf ht.typeIs (wpAny_pure ?_))
  rw [if_pos (by decide)]
  first
    | exact wpAny_bind (wpAny_rule (wpAny_pure ⟨_, rfl, wpAny_pure h⟩))
    | exact wpAny_bind (wpAny_rule (wpAny_bind (wpAny_pure (wpAny_pure ⟨_, rfl, wpAny_pure h⟩))))
    | exact wpAny_rule (wpAny_bind (wpAny_pure (wpAny_pure ⟨_, rfl, wpAny_pure h⟩)))
    | exact wpAny_rule (wpAny_pure ⟨_, rfl, wpAny_pure h⟩)
end
end KR
namespace KR
open PySem PySem.Spec PyProof.Rows L2
section
variable {X : Cx}
def rSlF (K : PySem.W.Frag) : V → Option Int → Option Int → Hp → VK → Prop := fun x lo hi H Q => ∃ a xs, x = .ref a ∧ SqT K H a xs ∧ (cutV xs lo hi = xs → Q (.ref a) H) ∧ ∀ (p : Addr) (o : Obj), H p = none → o.dict = none → Q (.ref p) (L2.upd H p (.frz o (.tup (cutV xs lo hi))))
theorem sl_tupF : SlR X (rSlF X.K) := by
  intro pins s σ H x v vl vu lo hi sl Q I rx hs pl pu h
  obtain ⟨a, xs, rfl, hx, q1, q2⟩ := h
  cases rx
  obtain ⟨its, r, ht, hz⟩ := I.tuple hx
  have hlen : its.toArray.size = xs.length := by rw [List.size_toArray]; exact r.length.symm
  refine ⟨"tuple", _, PyProof.Rows.slot_tuple_getitem.lookup, ht.typeIs, ?_⟩
  by_cases hw : HT.sIx xs.length 0 lo = 0 ∧ HT.sIx xs.length xs.length hi = xs.length
  · refine getItem_tuple_whole ht hs pl pu (by rw [hlen]; exact hw) ⟨.ref a, H, I, rfl, q1 ?_⟩
    unfold cutV
    rw [hw.1, hw.2, List.drop_zero, Nat.sub_zero, List.take_length]
  · refine HT.getItem_tuple_cut ht hs pl pu (by rw [hlen]; exact hw) ?_ (by rw [hlen]; exact hz)
    rw [hlen]
    let ob : Obj := { cls := .type "tuple", data := .seq (((its.toArray.toList.drop (HT.sIx xs.length 0 lo)).take (HT.sIx xs.length xs.length hi - HT.sIx xs.length 0 lo)).toArray) }
    refine ⟨.ref s.heap.objs.size, _, I.laid (t' := s.toks) (o := .frz ob (.tup (cutV xs lo hi))) (fun b ob q => Heap.get?_push_of_some _ q) (Nat.le_refl _) ?_, rfl, q2 _ ob (I.hok.fresh (Nat.le_refl _)) rfl⟩
    exact ⟨Heap.get?_push_size _ rfl, Nat.le_trans (cutV_length xs lo hi) hz, _, (r.drop (HT.sIx xs.length 0 lo)).take (HT.sIx xs.length xs.length hi - HT.sIx xs.length 0 lo), IsTup.new _ _⟩
def tRevF (K : PySem.W.Frag) (te : TE) : TE := fun σ H Q => te σ H fun x H1 => ∃ a xs, x = .ref a ∧ SqT K H1 a xs ∧ ∀ (p : Addr) (o : Obj), H1 p = none → o.dict = none → Q (.ref p) (L2.upd H1 p (.frz o (.tup xs.reverse)))
theorem pe_revF {e : Expr} {te : TE} {k : Nat} {p1 p2 p3 pos : Pos} (he : PE X e te) : PE X (.Subscript e (.Slice none none (some (.UnaryOp .USub (.Constant (.int 1) k p1) p2)) p3) pos) (tRevF X.K te) := by
  refine ⟨fun pins s σ H Q I h => ?_⟩
  refine Subscript_ (thn (he.run pins s σ H _ I h) fun v s1 ⟨x, H1, I1, r1, q1⟩ => ?_)
  obtain ⟨a, xs, ex, hx, q⟩ := q1
  subst ex
  cases r1
  have hst : PO X (some (.UnaryOp .USub (.Constant (.int 1) k p1) p2)) (tPart (tUn (rU fun i => .int (-i)) (tC (.int 1)))) := po_some (pe_un un_neg pe_int)
  refine wpAny_Slice (thn (po_none.run pins s1 σ H1 (fun o H2 => o = none ∧ H2 = H1) I1 ⟨rfl, rfl⟩) fun vl s2 ⟨l, H2, I2, pl, el, e2⟩ => ?_)
  subst el e2
  refine thn (po_none.run pins s2 σ H2 (fun o H3 => o = none ∧ H3 = H2) I2 ⟨rfl, rfl⟩) fun vu s3 ⟨u, H3, I3, pu, eu, e3⟩ => ?_
  subst eu e3
  refine thn (hst.run pins s3 σ H3 (fun o H4 => o = some (-1) ∧ H4 = H3) I3 ⟨1, rfl, -1, rfl, rfl, rfl⟩) fun vs s4 ⟨o, H4, I4, ps, eo, e4⟩ => ?_
  subst eo e4
  cases pl
  cases pu
  have I5 : Inv X pins σ H4 { s4 with heap := s4.heap.push { cls := .type "slice", data := .fields #[.none, .none, vs] } } := I4.kept (t' := s4.toks) fun b ob q => Heap.get?_push_of_some _ q
  obtain ⟨its, r, ht, hz⟩ := I5.tuple hx
  have hlen := r.length
  show wpAny (model X.prog X.w) X.A (subscriptTail e (.Slice none none (some (.UnaryOp .USub (.Constant (.int 1) k p1) p2)) p3) (.ref a) (.ref s4.heap.objs.size)) (EP X pins σ Q) X.xe { s4 with heap := s4.heap.push { cls := .type "slice", data := .fields #[.none, .none, vs] } }
  refine tail_any (ops := [.ref a, .ref s4.heap.objs.size]) ht.typeIs PyProof.Rows.slot_tuple_getitem.lookup ?_ (by with_unfolding_all rfl)
  refine getItem_tuple_rev ht (Heap.IsSliceOf.new _ .none .none vs) ps ?_ (by rw [List.size_toArray]; omega)
  let ob : Obj := { cls := .type "tuple", data := .seq its.toArray.toList.reverse.toArray }
  refine ⟨.ref _, _, I5.laid (t' := s4.toks) (o := .frz ob (.tup xs.reverse)) (fun b ob q => Heap.get?_push_of_some _ q) (Nat.le_refl _) ?_, rfl, q _ ob (I5.hok.fresh (Nat.le_refl _)) rfl⟩
  exact ⟨Heap.get?_push_size _ rfl, by rw [List.length_reverse]; exact hz, _, r.reverse, IsTup.new _ _⟩
end
end KR

set_option Elab.async false
set_option linter.all false
set_option maxRecDepth 100000
set_option maxHeartbeats 4000000
/-! list[::-1]; an index of a list or a tuple. -/
namespace KR
open PySem PySem.Spec PyProof.Rows L2
section
variable {X : Cx}
def tRevL (K : PySem.W.Frag) (te : TE) : TE := fun σ H Q => te σ H fun x H1 => ∃ a xs, x = .ref a ∧ SqL K H1 a xs ∧ ∀ p, H1 p = none → Q (.ref p) (upd H1 p (.lst xs.reverse))
theorem pe_revL {e : Expr} {te : TE} {k : Nat} {p1 p2 p3 pos : Pos} (he : PE X e te) : PE X (.Subscript e (.Slice none none (some (.UnaryOp .USub (.Constant (.int 1) k p1) p2)) p3) pos) (tRevL X.K te) := by
  refine ⟨fun pins s σ H Q I h => ?_⟩
  refine Subscript_ (thn (he.run pins s σ H _ I h) fun v s1 ⟨x, H1, I1, r1, q1⟩ => ?_)
  obtain ⟨a, xs, ex, hx, q⟩ := q1
  subst ex
  cases r1
  have hst : PO X (some (.UnaryOp .USub (.Constant (.int 1) k p1) p2)) (tPart (tUn (rU fun i => .int (-i)) (tC (.int 1)))) := po_some (pe_un un_neg pe_int)
  refine wpAny_Slice (thn (po_none.run pins s1 σ H1 (fun o H2 => o = none ∧ H2 = H1) I1 ⟨rfl, rfl⟩) fun vl s2 ⟨l, H2, I2, pl, el, e2⟩ => ?_)
  subst el e2
  refine thn (po_none.run pins s2 σ H2 (fun o H3 => o = none ∧ H3 = H2) I2 ⟨rfl, rfl⟩) fun vu s3 ⟨u, H3, I3, pu, eu, e3⟩ => ?_
  subst eu e3
  refine thn (hst.run pins s3 σ H3 (fun o H4 => o = some (-1) ∧ H4 = H3) I3 ⟨1, rfl, -1, rfl, rfl, rfl⟩) fun vs s4 ⟨o, H4, I4, ps, eo, e4⟩ => ?_
  subst eo e4
  cases pl
  cases pu
  have I5 : Inv X pins σ H4 { s4 with heap := s4.heap.push { cls := .type "slice", data := .fields #[.none, .none, vs] } } := I4.kept (t' := s4.toks) fun b ob q => Heap.get?_push_of_some _ q
  obtain ⟨its, r, pl, hz⟩ := I5.list hx
  have hlen := r.length
  have ht := pl.isList
  show wpAny (model X.prog X.w) X.A (subscriptTail e (.Slice none none (some (.UnaryOp .USub (.Constant (.int 1) k p1) p2)) p3) (.ref a) (.ref s4.heap.objs.size)) (EP X pins σ Q) X.xe { s4 with heap := s4.heap.push { cls := .type "slice", data := .fields #[.none, .none, vs] } }
  refine tail_any (ops := [.ref a, .ref s4.heap.objs.size]) ht.typeIs list_getitem_lookup ?_ (by with_unfolding_all rfl)
  refine wpAny_getItem_list_slice ht (Heap.IsSliceOf.new _ .none .none vs) .none .none ps (by decide) ?_ (by rw [List.size_toArray]; omega)
  rw [PySem.W.krv_pick]
  refine ⟨.ref _, _, I5.laid (t' := s4.toks) (o := .lst xs.reverse) (fun b ob q => Heap.get?_push_of_some _ q) (Nat.le_refl _) ?_, rfl, q _ (I5.hok.fresh (Nat.le_refl _))⟩
  exact ⟨by rw [List.length_reverse]; exact hz, _, 0, r.reverse, Heap.get?_push_size _ rfl⟩
def rIxA (K : PySem.W.Frag) : R2 := fun x y H Q => rIxL K x y H Q ∨ rIxT K x y H Q
theorem ix_any : IxR X (rIxA X.K) := ix_list.or ix_tup
end
end KR

set_option Elab.async false
set_option linter.all false
set_option maxRecDepth 100000
set_option maxHeartbeats 1000000
/-! The value layer: operations, displays, subscripts, calls. -/
namespace VL
noncomputable section
open PySem PySem.Spec PyProof.Rows L2 GxR GA KR
/-! bounds, opaque to computing -/
def Le_ (n : Nat) : Prop := n ≤ sizeLine
def Lt_ (n : Nat) : Prop := n < sizeLine
def K_ (n : Nat) : Prop := n ≤ 1000
def Rp_ (n : Nat) (k : Int) : Prop := k < 2 ^ 63 ∧ -(2 ^ 63) ≤ k ∧ n * k.toNat ≤ sizeLine
def Dv_ (b : Int) : Prop := 0 < b ∧ b < 1073741824
def P63 (j : Int) : Prop := -(2 ^ 63) ≤ j ∧ j < 2 ^ 63
def R62 (j : Int) : Prop := -(2 ^ 62) ≤ j ∧ j < 2 ^ 62
def S64 (n : Nat) : Prop := n < 64
def Lc_ (b : Bool) (n : Nat) : Prop := b = true ∧ n < sizeLine
instance (n : Nat) : Decidable (Le_ n) := Classical.propDecidable _
instance (n : Nat) : Decidable (Lt_ n) := Classical.propDecidable _
instance (n : Nat) : Decidable (K_ n) := Classical.propDecidable _
instance (n : Nat) (k : Int) : Decidable (Rp_ n k) := Classical.propDecidable _
instance (b : Int) : Decidable (Dv_ b) := Classical.propDecidable _
instance (b : Int) : Decidable (P63 b) := Classical.propDecidable _
instance (b : Int) : Decidable (R62 b) := Classical.propDecidable _
instance (n : Nat) : Decidable (S64 n) := Classical.propDecidable _
instance (b : Bool) (n : Nat) : Decidable (Lc_ b n) := Classical.propDecidable _
instance (i j : Int) : Decidable (CMul i j) := Classical.propDecidable _
theorem room65 {k : Nat} {A : Around} (r : Room k A) : A.units + 65 < cLine := by have := r.un; omega
variable {T : List Addr} {ix : Bool} {X : Cx} {c : Ctx T ix} {EK : XK}

/-! ### steps on values -/
/-- what is allocated over a heap leaves M as it is -/
theorem al_new {M : Addr → Prop} {H : Hp} {p : Addr} (al : ∀ z, M z → H z ≠ none) (h : H p = none) : ¬ M p := fun z => al p z h
def op1 (f : PyData → Option PyData) (m : Mo PyData) : Mo PyData := Mo.bind m fun a => Mo.lift (W.opt (f a))
def op2 (f : PyData → PyData → Option PyData) (ma mb : Mo PyData) : Mo PyData := Mo.bind ma fun a => Mo.bind mb fun b => Mo.lift (W.opt (f a b))
def S1 (ix : Bool) (K : PySem.W.Frag) (r : V → Hp → VK → Prop) (f : PyData → Option PyData) : Prop := ∀ (M : Addr → Prop) (H : Hp) (v : V) (a d : PyData) (Q : VK), At ix K M H v a → (∀ z, M z → H z ≠ none) → f a = some d → (∀ u H', Kp MN H H' → At ix K M H' u d → Q u H') → r v H Q
def S2 (ix : Bool) (K : PySem.W.Frag) (r : R2) (f : PyData → PyData → Option PyData) : Prop := ∀ (M : Addr → Prop) (H : Hp) (v w : V) (a b d : PyData) (Q : VK), At ix K M H v a → At ix K M H w b → (∀ z, M z → H z ≠ none) → f a b = some d → (∀ u H', Kp MN H H' → At ix K M H' u d → Q u H') → r v w H Q
def SL (ix : Bool) (K : PySem.W.Frag) (r : List V → Hp → VK → Prop) (f : List PyData → Option PyData) : Prop := ∀ (M : Addr → Prop) (H : Hp) (vs : List V) (ds : List PyData) (d : PyData) (Q : VK), AtL ix K M H vs ds → (∀ z, M z → H z ≠ none) → f ds = some d → (∀ u H', Kp MN H H' → At ix K M H' u d → Q u H') → r vs H Q
/-- .. a new list -/
def SF (ix : Bool) (K : PySem.W.Frag) (r : List V → Hp → VK → Prop) (f : List PyData → Option (List PyData)) : Prop := ∀ (M : Addr → Prop) (H : Hp) (vs : List V) (ds es : List PyData) (Q : VK), AtL ix K M H vs ds → (∀ z, M z → H z ≠ none) → f ds = some es → (∀ p us H1, Kp MN H H1 → H1 p = none → AtL ix K M H1 us es → Q (.ref p) (upd H1 p (.lst us))) → r vs H Q
section
variable {σ : L2.St} {M M1 : Addr → Prop} {H H1 H' : Hp} {env : En} {Y : Tmp} {α β : Type}
/-- one after the other -/
theorem seq_V {m : Mo PyData} {f : PyData → Mo α} {Q : VK} {R : α × En → Prop} {E : Er → Prop} (q : (Mo.bind m f env).run R E) (rp : Rp X.K c σ M H env Y) (he : ∀ e, E e → EX X.mg c EK e)
    (k : ∀ d env' v M' H', Stp M H M' H' → Rp X.K c σ M' H' env' Y → At ix X.K M' H' v d → (f d env').run R E → Q v H') : tV X.K X.mg c EK m σ H Q :=
  ⟨M, env, Y, rp, (m env).mono (fun r h v M' H' s rp' a => k r.1 r.2 v M' H' s rp' a h) he q⟩
theorem seq_A {m : Mo (List PyData)} {f : List PyData → Mo α} {Q : List V → Hp → Prop} {R : α × En → Prop} {E : Er → Prop} (q : (Mo.bind m f env).run R E) (rp : Rp X.K c σ M H env Y) (he : ∀ e, E e → EX X.mg c EK e)
    (k : ∀ ds env' vs M' H', Stp M H M' H' → Rp X.K c σ M' H' env' Y → AtL ix X.K M' H' vs ds → (f ds env').run R E → Q vs H') : tA X.K X.mg c EK m σ H Q :=
  ⟨M, env, Y, rp, (m env).mono (fun r h vs M' H' s rp' a => k r.1 r.2 vs M' H' s rp' a h) he q⟩
theorem seq_T {m : Mo Bool} {f : Bool → Mo α} {Q : Bool → Hp → Prop} {R : α × En → Prop} {E : Er → Prop} (q : (Mo.bind m f env).run R E) (rp : Rp X.K c σ M H env Y) (he : ∀ e, E e → EX X.mg c EK e)
    (k : ∀ b env' M' H', Stp M H M' H' → Rp X.K c σ M' H' env' Y → (f b env').run R E → Q b H') : tT X.K X.mg c EK m σ H Q :=
  ⟨M, env, Y, rp, (m env).mono (fun r h M' H' s rp' => k r.1 r.2 M' H' s rp' h) he q⟩
theorem seq_F {m : Mo (List PyData)} {f : List PyData → Mo α} {Q : VK} {R : α × En → Prop} {E : Er → Prop} (q : (Mo.bind m f env).run R E) (rp : Rp X.K c σ M H env Y) (he : ∀ e, E e → EX X.mg c EK e)
    (k : ∀ ds env' a vs M' H', Stp M H M' H' → Rp X.K c σ M' H' env' ((a, vs) :: Y) → AtL ix X.K M' H' vs ds → (f ds env').run R E → Q (.ref a) H') : tF X.K X.mg c EK m σ H Q :=
  ⟨M, env, Y, rp, (m env).mono (fun r h a vs M' H' s rp' al => k r.1 r.2 a vs M' H' s rp' al h) he q⟩
theorem opt_run {o : Option α} {R : α × En → Prop} {E : Er → Prop} (h : (Mo.lift (W.opt o) env).run R E) : ∃ d, o = some d ∧ R (d, env) := by
  cases o with
  | none => exact h.elim
  | some d => exact ⟨d, rfl, h⟩
end
theorem ve_op1 {e ea : Expr} {ma : Mo PyData} {r : V → Hp → VK → Prop} {f : PyData → Option PyData} (h : ∀ {ta}, PE X ea ta → PE X e (tUn r ta)) (hs : S1 ix X.K r f) (ha : VE X c EK ea ma) : VE X c EK e (op1 f ma) := by
  refine ⟨PE.imp (h ha.pe) fun σ H Q ⟨M, env, Y, rp, q⟩ => ?_⟩
  refine seq_V q rp (fun _ h => h) fun a env1 v M1 H1 s1 rp1 a1 q1 => ?_
  obtain ⟨d, ed, q2⟩ := opt_run q1
  exact hs M1 H1 v a d Q a1 rp1.al ed fun u H' k au => q2 u M1 H' (s1.trans (.of k.any)) (rp1.kp1 k) au
theorem ve_op2 {e ea eb : Expr} {ma mb : Mo PyData} {r : R2} {f : PyData → PyData → Option PyData} (h : ∀ {ta tb}, PE X ea ta → PE X eb tb → PE X e (tOp r ta tb)) (hs : S2 ix X.K r f) (ha : VE X c EK ea ma) (hb : VE X c EK eb mb) : VE X c EK e (op2 f ma mb) := by
  refine ⟨PE.imp (h ha.pe hb.pe) fun σ H Q ⟨M, env, Y, rp, q⟩ => ?_⟩
  refine seq_V q rp (fun _ h => h) fun a env1 v M1 H1 s1 rp1 a1 q1 => ?_
  refine seq_V q1 rp1 (fun _ h => h) fun b env2 w M2 H2 s2 rp2 a2 q2 => ?_
  obtain ⟨d, ed, q3⟩ := opt_run q2
  exact hs M2 H2 v w a b d Q (a1.stp s2) a2 rp2.al ed fun u H' k au => q3 u M2 H' ((s1.trans s2).trans (.of k.any)) (rp2.kp1 k) au
/-- .. as a test -/
def op2T (f : PyData → PyData → Option PyData) (ma mb : Mo PyData) : Mo Bool := Mo.bind ma fun a => Mo.bind mb fun b => Mo.lift (W.opt ((f a b).bind fun d => match d with | .bool b => some b | _ => none))
theorem vt_op2 {e ea eb : Expr} {ma mb : Mo PyData} {r : R2} {f : PyData → PyData → Option PyData} (h : ∀ {ta tb}, PE X ea ta → PE X eb tb → PT X e (tTest (tOp r ta tb))) (hs : S2 ix X.K r f) (ha : VE X c EK ea ma) (hb : VE X c EK eb mb) : VT X c EK e (op2T f ma mb) := by
  refine ⟨PT.imp (h ha.pe hb.pe) fun σ H Q ⟨M, env, Y, rp, q⟩ => ?_⟩
  refine seq_V q rp (fun _ h => h) fun a env1 v M1 H1 s1 rp1 a1 q1 => ?_
  refine seq_V q1 rp1 (fun _ h => h) fun b env2 w M2 H2 s2 rp2 a2 q2 => ?_
  obtain ⟨d, ed, q3⟩ := opt_run q2
  cases ef : f a b with
  | none => rw [ef] at ed; cases ed
  | some d' =>
    rw [ef] at ed
    cases d' with
    | bool bb =>
      cases ed
      refine hs M2 H2 v w a b _ _ (a1.stp s2) a2 rp2.al ef fun u H' k au => ?_
      cases au
      exact ⟨_, rfl, q3 M2 H' ((s1.trans s2).trans (.of k.any)) (rp2.kp1 k)⟩
    | _ => cases ed
/-! ### arithmetic -/
def addD : PyData → PyData → Option PyData
  | .int a, .int b => some (.int (a + b))
  | .list xs, .list ys => if Le_ (xs.length + ys.length) then some (.list (xs ++ ys)) else none
  | .tuple xs, .tuple ys => if Le_ (xs.length + ys.length) then some (.tuple (xs ++ ys)) else none
  | _, _ => none
def rAddV (K : PySem.W.Frag) : R2 := fun x y H Q => (rI0 fun i j => .int (i + j)) x y H Q ∨ (rCat x y H Q ∨ rCatF K x y H Q)
theorem op_addV : OpR X (binaryOp .Add) (rAddV X.K) := op_add.or (op_cat.or op_catF)
theorem At.newTup {K : PySem.W.Frag} {M : Addr → Prop} {H : Hp} {p : Addr} {o : Obj} {xs : List V} {ds : List PyData} (h : H p = none) (d : o.dict = none) (a : AtL ix K M H xs ds) : At ix K M (upd H p (.frz o (.tup xs))) (.ref p) (.tuple ds) :=
  .tup ⟨.inl (.inr ⟨o, upd_same⟩), fun _ => .inl ⟨o, upd_same, d⟩⟩ (a.kp (.new h))
theorem At.newLst {K : PySem.W.Frag} {M : Addr → Prop} {H : Hp} {p : Addr} {xs : List V} {ds : List PyData} (al : ∀ z, M z → H z ≠ none) (h : H p = none) (a : AtL ix K M H xs ds) : At ix K M (upd H p (.lst xs)) (.ref p) (.list ds) :=
  .lst upd_same (al_new al h) (a.kp (.new h))
theorem s_add : S2 ix X.K (rAddV X.K) addD := by
  intro M H v w a b d Q ha hb al e q
  unfold addD at e
  split at e
  · cases e
    cases ha; cases hb
    exact .inl ⟨_, _, rfl, rfl, q _ _ .refl (.int _)⟩
  · split at e
    · rename_i xs ys hz
      cases e
      cases ha with
      | lst ea na aa =>
        cases hb with
        | lst eb nb ab =>
          exact .inr (.inl ⟨_, _, _, _, rfl, rfl, ea, eb, by rw [aa.length, ab.length]; exact hz, fun p hp => q _ _ (.new hp) (.newLst al hp (aa.append ab))⟩)
    · cases e
  · split at e
    · rename_i xs ys hz
      cases e
      cases ha with
      | tup qa aa =>
        cases hb with
        | tup qb ab =>
          refine .inr (.inr ⟨_, _, _, _, rfl, rfl, qa.1, qb.1, by rw [aa.length, ab.length]; exact hz, fun z => ?_, fun _ z => ?_, fun _ _ p o hp ho => q _ _ (.new hp) (.newTup hp ho (aa.append ab))⟩)
          · subst z
            cases aa
            exact q _ _ .refl (.tup qb ab)
          · subst z
            cases ab
            rw [List.append_nil] at q
            exact q _ _ .refl (.tup qa aa)
    · cases e
  · cases e
def subD : PyData → PyData → Option PyData
  | .int a, .int b => some (.int (a - b))
  | _, _ => none
theorem s_sub : S2 ix X.K (rI0 fun i j => .int (i - j)) subD := by
  intro M H v w a b d Q ha hb al e q
  unfold subD at e
  split at e
  · cases e
    cases ha; cases hb
    exact ⟨_, _, rfl, rfl, q _ _ .refl (.int _)⟩
  · cases e
def mulD : PyData → PyData → Option PyData
  | .int a, .int b => if CMul a b then some (.int (a * b)) else none
  | .list xs, .int k => if Rp_ xs.length k then some (.list (List.replicate k.toNat xs).flatten) else none
  | _, _ => none
def rMulV : R2 := fun x y H Q => rI CMul (fun i j => .int (i * j)) x y H Q ∨ rRep x y H Q
theorem op_mulV : OpR X (binaryOp .Mult) rMulV := op_mul.or op_rep
theorem s_mul : S2 ix X.K rMulV mulD := by
  intro M H v w a b d Q ha hb al e q
  unfold mulD at e
  split at e
  · split at e
    · rename_i hc
      cases e
      cases ha; cases hb
      exact .inl ⟨_, _, rfl, rfl, hc, q _ _ .refl (.int _)⟩
    · cases e
  · split at e
    · rename_i xs k hz
      cases e
      cases hb
      cases ha with
      | lst ea na aa => exact .inr ⟨_, _, _, rfl, rfl, ea, hz.2.1, hz.1, by rw [aa.length]; exact hz.2.2, fun p hp => q _ _ (.new hp) (.newLst al hp (aa.rep _))⟩
    · cases e
  · cases e
def modD : PyData → PyData → Option PyData
  | .int a, .int b => if 0 < b then some (.int (a % b)) else none
  | _, _ => none
theorem s_mod : S2 ix X.K (rI (fun _ j => 0 < j) fun i j => .int (i % j)) modD := by
  intro M H v w a b d Q ha hb al e q
  unfold modD at e
  split at e
  · split at e
    · rename_i hc
      cases e
      cases ha; cases hb
      exact ⟨_, _, rfl, rfl, hc, q _ _ .refl (.int _)⟩
    · cases e
  · cases e
def fdivD : PyData → PyData → Option PyData
  | .int a, .int b => if Dv_ b then some (.int (a / b)) else none
  | _, _ => none
theorem s_fdiv : S2 ix X.K (rI CDiv fun i j => .int (i / j)) fdivD := by
  intro M H v w a b d Q ha hb al e q
  unfold fdivD at e
  split at e
  · split at e
    · rename_i hc
      cases e
      cases ha; cases hb
      exact ⟨_, _, rfl, rfl, hc, q _ _ .refl (.int _)⟩
    · cases e
  · cases e
def negD : PyData → Option PyData
  | .int a => some (.int (-a))
  | _ => none
theorem s_neg : S1 ix X.K (rU fun i => .int (-i)) negD := by
  intro M H v a d Q ha al e q
  unfold negD at e
  split at e
  · cases e
    cases ha
    exact ⟨_, rfl, q _ _ .refl (.int _)⟩
  · cases e
theorem ve_add {a b : Expr} {ma mb : Mo PyData} {pos : Pos} (ha : VE X c EK a ma) (hb : VE X c EK b mb) : VE X c EK (.BinOp a .Add b pos) (op2 addD ma mb) := ve_op2 (fun h h' => pe_op op_addV h h') s_add ha hb
theorem ve_sub {a b : Expr} {ma mb : Mo PyData} {pos : Pos} (ha : VE X c EK a ma) (hb : VE X c EK b mb) : VE X c EK (.BinOp a .Sub b pos) (op2 subD ma mb) := ve_op2 (fun h h' => pe_op op_sub h h') s_sub ha hb
theorem ve_mul {a b : Expr} {ma mb : Mo PyData} {pos : Pos} (ha : VE X c EK a ma) (hb : VE X c EK b mb) : VE X c EK (.BinOp a .Mult b pos) (op2 mulD ma mb) := ve_op2 (fun h h' => pe_op op_mulV h h') s_mul ha hb
theorem ve_mod {a b : Expr} {ma mb : Mo PyData} {pos : Pos} (ha : VE X c EK a ma) (hb : VE X c EK b mb) : VE X c EK (.BinOp a .Mod b pos) (op2 modD ma mb) := ve_op2 (fun h h' => pe_op op_mod h h') s_mod ha hb
theorem ve_fdiv {a b : Expr} {ma mb : Mo PyData} {pos : Pos} (ha : VE X c EK a ma) (hb : VE X c EK b mb) : VE X c EK (.BinOp a .FloorDiv b pos) (op2 fdivD ma mb) := ve_op2 (fun h h' => pe_op op_fdiv h h') s_fdiv ha hb
theorem ve_neg {a : Expr} {ma : Mo PyData} {pos : Pos} (ha : VE X c EK a ma) : VE X c EK (.UnaryOp .USub a pos) (op1 negD ma) := ve_op1 (fun h => pe_un un_neg h) s_neg ha
/-! ### comparisons -/
def eqD (a b : PyData) : Option PyData := if SeqAt.shaped a = true ∧ SeqAt.shaped b = true then some (.bool (PyData.eqv a b)) else none
def neD (a b : PyData) : Option PyData := if SeqAt.shaped a = true ∧ SeqAt.shaped b = true then some (.bool (!PyData.eqv a b)) else none
theorem s_eq : S2 ix X.K (rEqD X.K) eqD := by
  intro M H v w a b d Q ha hb al e q
  unfold eqD at e
  split at e
  · rename_i hc
    cases e
    exact ⟨a, b, ha.dp hc.1, hb.dp hc.2, hc.1, hc.2, q _ _ .refl (.bl _)⟩
  · cases e
theorem s_ne : S2 ix X.K (rNeD X.K) neD := by
  intro M H v w a b d Q ha hb al e q
  unfold neD at e
  split at e
  · rename_i hc
    cases e
    exact ⟨a, b, ha.dp hc.1, hb.dp hc.2, hc.1, hc.2, q _ _ .refl (.bl _)⟩
  · cases e
def cmpI (p : Int → Int → Bool) : PyData → PyData → Option PyData
  | .int a, .int b => some (.bool (p a b))
  | _, _ => none
theorem s_cmp {p : Int → Int → Bool} : S2 ix X.K (rI0 fun i j => .bl (p i j)) (cmpI p) := by
  intro M H v w a b d Q ha hb al e q
  unfold cmpI at e
  split at e
  · cases e
    cases ha; cases hb
    exact ⟨_, _, rfl, rfl, q _ _ .refl (.bl _)⟩
  · cases e
abbrev ltD := cmpI fun i j => decide (i < j)
abbrev leD := cmpI fun i j => decide (i ≤ j)
abbrev gtD := cmpI fun i j => decide (j < i)
abbrev geD := cmpI fun i j => decide (j ≤ i)
def inD (neg : Bool) (a : PyData) : PyData → Option PyData
  | .tuple ds => if SeqAt.shaped a = true ∧ SeqAt.shaped (.tuple ds) = true then some (.bool (neg.xor (ds.any fun z => PyData.eqv z a))) else none
  | .list ds => if SeqAt.shaped a = true ∧ SeqAt.shaped (.list ds) = true then some (.bool (neg.xor (ds.any fun z => PyData.eqv z a))) else none
  | _ => none
def rInV (K : PySem.W.Frag) : R2 := fun x y H Q => rInT K false x y H Q ∨ rInD K x y H Q
def rNotInD (K : PySem.W.Frag) : R2 := fun x y H Q => ∃ d ds, Dp K H x d ∧ Dp K H y (.list ds) ∧ SeqAt.shaped d = true ∧ SeqAt.shaped (.list ds) = true ∧ Q (.bl (!(ds.any fun z => PyData.eqv z d))) H
theorem op_notInD (hu : X.A.units + 65 < cLine) : OpR X (compareOp .NotIn) (rNotInD X.K) := by
  intro pins s σ H x y v u Q I rx ry h
  obtain ⟨d, ds, hd, he, sd, se, q⟩ := h
  obtain ⟨as, r1⟩ := Dp.reads I d x v hd rx
  obtain ⟨bs, r2⟩ := Dp.reads I (.list ds) y u he ry
  exact SeqAt.notIn_list_reads r2 r1 (SeqAt.canLay_of_shaped se) (SeqAt.canLay_of_shaped sd) (room_in_shaped sd hu) ⟨.bl _, H, I, rfl, q⟩
def rNotInV (K : PySem.W.Frag) : R2 := fun x y H Q => rInT K true x y H Q ∨ rNotInD K x y H Q
theorem s_in : S2 ix X.K (rInV X.K) (inD false) := by
  intro M H v w a b d Q ha hb al e q
  unfold inD at e
  split at e
  · split at e
    · rename_i hc
      cases e
      exact .inl ⟨a, _, ha.dp hc.1, hb.dp hc.2, hc.1, hc.2, by rw [if_neg Bool.false_ne_true]; exact q _ _ .refl (by rw [Bool.false_xor]; exact .bl _)⟩
    · cases e
  · split at e
    · rename_i hc
      cases e
      exact .inr ⟨a, _, ha.dp hc.1, hb.dp hc.2, hc.1, hc.2, q _ _ .refl (by rw [Bool.false_xor]; exact .bl _)⟩
    · cases e
  · cases e
theorem s_notin : S2 ix X.K (rNotInV X.K) (inD true) := by
  intro M H v w a b d Q ha hb al e q
  unfold inD at e
  split at e
  · split at e
    · rename_i hc
      cases e
      exact .inl ⟨a, _, ha.dp hc.1, hb.dp hc.2, hc.1, hc.2, by rw [if_pos rfl]; exact q _ _ .refl (by rw [Bool.true_xor]; exact .bl _)⟩
    · cases e
  · split at e
    · rename_i hc
      cases e
      exact .inr ⟨a, _, ha.dp hc.1, hb.dp hc.2, hc.1, hc.2, q _ _ .refl (by rw [Bool.true_xor]; exact .bl _)⟩
    · cases e
  · cases e
theorem op_inV (hu : X.A.units + 65 < cLine) : OpR X (compareOp .In) (rInV X.K) := (op_inT hu).or (op_inD hu)
theorem op_notInV (hu : X.A.units + 65 < cLine) : OpR X (compareOp .NotIn) (rNotInV X.K) := (op_notInT hu).or (op_notInD hu)
section
variable {a b : Expr} {ma mb : Mo PyData} {pos : Pos} {k : Nat}
theorem ve_eq (hr : Room k X.A) (ha : VE X c EK a ma) (hb : VE X c EK b mb) : VE X c EK (.Compare a [.Eq] [b] pos) (op2 eqD ma mb) := ve_op2 (fun h h' => pe_cmpR (op_eqD hr.units) h h' (nomark _)) s_eq ha hb
theorem ve_ne (hr : Room k X.A) (ha : VE X c EK a ma) (hb : VE X c EK b mb) : VE X c EK (.Compare a [.NotEq] [b] pos) (op2 neD ma mb) := ve_op2 (fun h h' => pe_cmpR (op_neD hr.units) h h' (nomark _)) s_ne ha hb
theorem ve_lt (ha : VE X c EK a ma) (hb : VE X c EK b mb) : VE X c EK (.Compare a [.Lt] [b] pos) (op2 ltD ma mb) := ve_op2 (fun h h' => pe_cmpR op_lt h h' (nomark _)) s_cmp ha hb
theorem ve_le (ha : VE X c EK a ma) (hb : VE X c EK b mb) : VE X c EK (.Compare a [.LtE] [b] pos) (op2 leD ma mb) := ve_op2 (fun h h' => pe_cmpR op_le h h' (nomark _)) s_cmp ha hb
theorem ve_gt (ha : VE X c EK a ma) (hb : VE X c EK b mb) : VE X c EK (.Compare a [.Gt] [b] pos) (op2 gtD ma mb) := ve_op2 (fun h h' => pe_cmpR op_gt h h' (nomark _)) s_cmp ha hb
theorem ve_ge (ha : VE X c EK a ma) (hb : VE X c EK b mb) : VE X c EK (.Compare a [.GtE] [b] pos) (op2 geD ma mb) := ve_op2 (fun h h' => pe_cmpR op_ge h h' (nomark _)) s_cmp ha hb
theorem ve_in (hr : Room k X.A) (ha : VE X c EK a ma) (hb : VE X c EK b mb) (hm : behindInMarks .In b = false := by with_unfolding_all rfl) : VE X c EK (.Compare a [.In] [b] pos) (op2 (inD false) ma mb) := ve_op2 (fun h h' => pe_cmpR (op_inV (room65 hr)) h h' hm) s_in ha hb
theorem ve_notin (hr : Room k X.A) (ha : VE X c EK a ma) (hb : VE X c EK b mb) (hm : behindInMarks .NotIn b = false := by with_unfolding_all rfl) : VE X c EK (.Compare a [.NotIn] [b] pos) (op2 (inD true) ma mb) := ve_op2 (fun h h' => pe_cmpR (op_notInV (room65 hr)) h h' hm) s_notin ha hb
theorem vt_eq (hr : Room k X.A) (ha : VE X c EK a ma) (hb : VE X c EK b mb) : VT X c EK (.Compare a [.Eq] [b] pos) (op2T eqD ma mb) := vt_op2 (fun h h' => pt_cmpR (op_eqD hr.units) h h' (nomark _)) s_eq ha hb
theorem vt_ne (hr : Room k X.A) (ha : VE X c EK a ma) (hb : VE X c EK b mb) : VT X c EK (.Compare a [.NotEq] [b] pos) (op2T neD ma mb) := vt_op2 (fun h h' => pt_cmpR (op_neD hr.units) h h' (nomark _)) s_ne ha hb
theorem vt_lt (ha : VE X c EK a ma) (hb : VE X c EK b mb) : VT X c EK (.Compare a [.Lt] [b] pos) (op2T ltD ma mb) := vt_op2 (fun h h' => pt_cmpR op_lt h h' (nomark _)) s_cmp ha hb
theorem vt_le (ha : VE X c EK a ma) (hb : VE X c EK b mb) : VT X c EK (.Compare a [.LtE] [b] pos) (op2T leD ma mb) := vt_op2 (fun h h' => pt_cmpR op_le h h' (nomark _)) s_cmp ha hb
theorem vt_gt (ha : VE X c EK a ma) (hb : VE X c EK b mb) : VT X c EK (.Compare a [.Gt] [b] pos) (op2T gtD ma mb) := vt_op2 (fun h h' => pt_cmpR op_gt h h' (nomark _)) s_cmp ha hb
theorem vt_ge (ha : VE X c EK a ma) (hb : VE X c EK b mb) : VT X c EK (.Compare a [.GtE] [b] pos) (op2T geD ma mb) := vt_op2 (fun h h' => pt_cmpR op_ge h h' (nomark _)) s_cmp ha hb
theorem vt_in (hr : Room k X.A) (ha : VE X c EK a ma) (hb : VE X c EK b mb) (hm : behindInMarks .In b = false := by with_unfolding_all rfl) : VT X c EK (.Compare a [.In] [b] pos) (op2T (inD false) ma mb) := vt_op2 (fun h h' => pt_cmpR (op_inV (room65 hr)) h h' hm) s_in ha hb
theorem vt_notin (hr : Room k X.A) (ha : VE X c EK a ma) (hb : VE X c EK b mb) (hm : behindInMarks .NotIn b = false := by with_unfolding_all rfl) : VT X c EK (.Compare a [.NotIn] [b] pos) (op2T (inD true) ma mb) := vt_op2 (fun h h' => pt_cmpR (op_notInV (room65 hr)) h h' hm) s_notin ha hb
end
/-- x is None -/
def isND (neg : Bool) (a : PyData) : Option PyData := some (.bool (neg.xor (match a with | .none => true | _ => false)))
theorem ve_isN {a : Expr} {ma : Mo PyData} {pos j pos'} (ha : VE X c EK a ma) : VE X c EK (.Compare a [.Is] [.Constant .none j pos'] pos) (op1 (isND false) ma) := by
  refine ⟨PE.imp (pe_cmp (pc_isN ha.pe)) fun σ H Q ⟨M, env, Y, rp, q⟩ => ?_⟩
  refine seq_V q rp (fun _ h => h) fun a env1 v M1 H1 s1 rp1 a1 q1 => ?_
  have e : isND false a = some (.bool (decide (v = .non))) := by
    cases a1 <;> simp [isND]
  obtain ⟨d, ed, q2⟩ := opt_run q1
  rw [e] at ed
  cases ed
  exact q2 _ M1 H1 s1 rp1 (.bl _)
theorem ve_notN {a : Expr} {ma : Mo PyData} {pos j pos'} (ha : VE X c EK a ma) : VE X c EK (.Compare a [.IsNot] [.Constant .none j pos'] pos) (op1 (isND true) ma) := by
  refine ⟨PE.imp (pe_cmp (pc_notN ha.pe)) fun σ H Q ⟨M, env, Y, rp, q⟩ => ?_⟩
  refine seq_V q rp (fun _ h => h) fun a env1 v M1 H1 s1 rp1 a1 q1 => ?_
  have e : isND true a = some (.bool (!decide (v = .non))) := by
    cases a1 <;> simp [isND]
  obtain ⟨d, ed, q2⟩ := opt_run q1
  rw [e] at ed
  cases ed
  exact q2 _ M1 H1 s1 rp1 (.bl _)
end
end VL

set_option Elab.async false
set_option linter.all false
set_option maxRecDepth 100000
set_option maxHeartbeats 1000000
/-! The value layer: truth, and, or, not; displays, subscripts, built-ins. -/
namespace VL
noncomputable section
open PySem PySem.Spec PyProof.Rows L2 GxR GA KR
variable {T : List Addr} {ix : Bool} {X : Cx} {c : Ctx T ix} {EK : XK}
/-! ### and, or, not -/
/-- by a truth value -/
def bCase {α : Type} (d : PyData) (x y z : α) : α := match d with
  | .bool true => x
  | .bool false => y
  | _ => z
theorem bCase_bool {α : Type} (b : Bool) (x y z : α) : bCase (.bool b) x y z = if b = true then x else y := by cases b <;> rfl
def eAnd (ma mb : Mo PyData) : Mo PyData := Mo.bind ma fun a => bCase a mb (Mo.ret (.bool false)) Mo.fail
def eOr (ma mb : Mo PyData) : Mo PyData := Mo.bind ma fun a => bCase a (Mo.ret (.bool true)) mb Mo.fail
def notD : PyData → Option PyData
  | .bool b => some (.bool (!b))
  | _ => none
section
variable {a b d : Expr} {rest : List Expr} {ma mb md : Mo PyData} {ta tb : Mo Bool} {pos : Pos}
theorem ve_one {op} (h : VE X c EK a ma) : VE X c EK (.BoolOp op [a] pos) ma := ⟨pe_one h.pe⟩
theorem ve_and (ha : VE X c EK a ma) (hb : VE X c EK (.BoolOp .And (b :: rest) pos) mb) : VE X c EK (.BoolOp .And (a :: b :: rest) pos) (eAnd ma mb) := by
  refine ⟨PE.imp (pe_and ha.pe hb.pe) fun σ H Q ⟨M, env, Y, rp, q⟩ => ?_⟩
  refine seq_V q rp (fun _ h => h) fun a env1 v M1 H1 s1 rp1 a1 q1 => ?_
  cases a1 with
  | bl x =>
    refine ⟨x, rfl, ?_⟩
    cases x with
    | true => rw [if_pos rfl]; exact ⟨M1, env1, Y, rp1, (mb env1).mono (fun r h v M' H' s rp' a => h v M' H' (s1.trans s) rp' a) (fun _ h => h) q1⟩
    | false => rw [if_neg Bool.false_ne_true]; exact q1 _ M1 H1 s1 rp1 (.bl _)
  | _ => exact q1.elim
theorem ve_or (ha : VE X c EK a ma) (hb : VE X c EK (.BoolOp .Or (b :: rest) pos) mb) : VE X c EK (.BoolOp .Or (a :: b :: rest) pos) (eOr ma mb) := by
  refine ⟨PE.imp (pe_or ha.pe hb.pe) fun σ H Q ⟨M, env, Y, rp, q⟩ => ?_⟩
  refine seq_V q rp (fun _ h => h) fun a env1 v M1 H1 s1 rp1 a1 q1 => ?_
  cases a1 with
  | bl x =>
    refine ⟨x, rfl, ?_⟩
    cases x with
    | true => rw [if_pos rfl]; exact q1 _ M1 H1 s1 rp1 (.bl _)
    | false => rw [if_neg Bool.false_ne_true]; exact ⟨M1, env1, Y, rp1, (mb env1).mono (fun r h v M' H' s rp' a => h v M' H' (s1.trans s) rp' a) (fun _ h => h) q1⟩
  | _ => exact q1.elim
theorem ve_not (ha : VE X c EK a ma) : VE X c EK (.UnaryOp .Not a pos) (op1 notD ma) := by
  refine ⟨PE.imp (pe_not ha.pe) fun σ H Q ⟨M, env, Y, rp, q⟩ => ?_⟩
  refine seq_V q rp (fun _ h => h) fun a env1 v M1 H1 s1 rp1 a1 q1 => ?_
  obtain ⟨d, ed, q2⟩ := opt_run q1
  unfold notD at ed
  split at ed
  · cases ed
    cases a1
    exact ⟨_, rfl, q2 _ M1 H1 s1 rp1 (.bl _)⟩
  · cases ed
/-! #### tests -/
def truD : PyData → Option Bool
  | .none => some false
  | .bool b => some b
  | .int i => some (i != 0)
  | .str y => if Le_ y.length then some ((y.length : Int) != 0) else none
  | .list xs => some (!xs.isEmpty)
  | .tuple xs => some (!xs.isEmpty)
  | .dict _ => none
theorem AtL.emp {K : PySem.W.Frag} {M : Addr → Prop} {H : Hp} {xs : List V} {ds : List PyData} (h : AtL ix K M H xs ds) : ds.isEmpty = xs.isEmpty := by cases h <;> rfl
theorem tru_at {K : PySem.W.Frag} {M : Addr → Prop} {H : Hp} {v : V} {d : PyData} {b : Bool} (h : At ix K M H v d) (e : truD d = some b) : TruV K v H b := by
  cases h with
  | non => cases e; rfl
  | bl _ => cases e; rfl
  | int _ => cases e; rfl
  | str y =>
    unfold truD at e
    dsimp only at e
    split at e
    · rename_i hz
      cases e
      exact ⟨hz, rfl⟩
    · cases e
  | lst e1 n a => cases e; exact .inl ⟨_, SqL.of e1, by rw [a.emp]⟩
  | tup q a => cases e; exact .inr (.inl ⟨_, q.1, by rw [a.emp]⟩)
  | dT _ _ _ _ => cases e
  | dK _ _ _ _ => cases e
def toT (m : Mo PyData) : Mo Bool := Mo.bind m fun a => Mo.lift (W.opt (truD a))
theorem vt_truth (ha : VE X c EK a ma) (he : ∀ whole, isTrue a X.env whole = (do let v ← whole; standAt a.pos; holding [v] (truthy v)) := by intro _; rfl) : VT X c EK a (toT ma) := by
  refine ⟨PT.imp (pt_truth ha.pe he) fun σ H Q ⟨M, env, Y, rp, q⟩ => ?_⟩
  refine seq_V q rp (fun _ h => h) fun a env1 v M1 H1 s1 rp1 a1 q1 => ?_
  obtain ⟨d, ed, q2⟩ := opt_run q1
  exact ⟨d, tru_at a1 ed, q2 M1 H1 s1 rp1⟩
def tNotM (m : Mo Bool) : Mo Bool := Mo.bind m fun b => Mo.ret (!b)
def tAndM (m n : Mo Bool) : Mo Bool := Mo.bind m fun b => if b = true then n else Mo.ret false
def tOrM (m n : Mo Bool) : Mo Bool := Mo.bind m fun b => if b = true then Mo.ret true else n
theorem vt_not (ha : VT X c EK a ta) : VT X c EK (.UnaryOp .Not a pos) (tNotM ta) := by
  refine ⟨PT.imp (pt_not ha.pt) fun σ H Q ⟨M, env, Y, rp, q⟩ => ?_⟩
  exact seq_T q rp (fun _ h => h) fun b env1 M1 H1 s1 rp1 q1 => q1 M1 H1 s1 rp1
theorem VW.vt {m : Mo Bool} (h : VW X c EK a m) : VT X c EK a m := ⟨h.pw.pt⟩
theorem vw_and1 (ha : VT X c EK a ta) : VW X c EK (.BoolOp .And [a] pos) ta := ⟨pw_and1 ha.pt⟩
theorem vw_or1 (ha : VT X c EK a ta) : VW X c EK (.BoolOp .Or [a] pos) ta := ⟨pw_or1 ha.pt⟩
theorem vw_and (ha : VT X c EK a ta) (hb : VW X c EK (.BoolOp .And (b :: rest) pos) tb) : VW X c EK (.BoolOp .And (a :: b :: rest) pos) (tAndM ta tb) := by
  refine ⟨PW.imp (pw_and ha.pt hb.pw) fun σ H Q ⟨M, env, Y, rp, q⟩ => ?_⟩
  refine seq_T q rp (fun _ h => h) fun x env1 M1 H1 s1 rp1 q1 => ?_
  cases x with
  | true => rw [if_pos rfl] at q1 ⊢; exact ⟨M1, env1, Y, rp1, (tb env1).mono (fun r h M' H' s rp' => h M' H' (s1.trans s) rp') (fun _ h => h) q1⟩
  | false => rw [if_neg Bool.false_ne_true] at q1 ⊢; exact q1 M1 H1 s1 rp1
theorem vw_or (ha : VT X c EK a ta) (hb : VW X c EK (.BoolOp .Or (b :: rest) pos) tb) : VW X c EK (.BoolOp .Or (a :: b :: rest) pos) (tOrM ta tb) := by
  refine ⟨PW.imp (pw_or ha.pt hb.pw) fun σ H Q ⟨M, env, Y, rp, q⟩ => ?_⟩
  refine seq_T q rp (fun _ h => h) fun x env1 M1 H1 s1 rp1 q1 => ?_
  cases x with
  | true => rw [if_pos rfl] at q1 ⊢; exact q1 M1 H1 s1 rp1
  | false => rw [if_neg Bool.false_ne_true] at q1 ⊢; exact ⟨M1, env1, Y, rp1, (tb env1).mono (fun r h M' H' s rp' => h M' H' (s1.trans s) rp') (fun _ h => h) q1⟩
def eIf (t : Mo Bool) (m n : Mo PyData) : Mo PyData := Mo.bind t fun b => if b = true then m else n
theorem ve_if (hc : VT X c EK d ta) (ha : VE X c EK a ma) (hb : VE X c EK b mb) : VE X c EK (.IfExp d a b pos) (eIf ta ma mb) := by
  refine ⟨PE.imp (pe_ifExp hc.pt ha.pe hb.pe) fun σ H Q ⟨M, env, Y, rp, q⟩ => ?_⟩
  refine seq_T q rp (fun _ h => h) fun x env1 M1 H1 s1 rp1 q1 => ?_
  cases x with
  | true => rw [if_pos rfl] at q1 ⊢; exact ⟨M1, env1, Y, rp1, (ma env1).mono (fun r h v M' H' s rp' => h v M' H' (s1.trans s) rp') (fun _ h => h) q1⟩
  | false => rw [if_neg Bool.false_ne_true] at q1 ⊢; exact ⟨M1, env1, Y, rp1, (mb env1).mono (fun r h v M' H' s rp' => h v M' H' (s1.trans s) rp') (fun _ h => h) q1⟩
/-- a op1 b op2 d, ints -/
def eChain (p q : Int → Int → Bool) (ma mb md : Mo PyData) : Mo PyData := Mo.bind ma fun a => Mo.bind mb fun b => match a, b with
  | .int i, .int j => if p i j = true then Mo.bind md fun d => Mo.lift (W.opt (cmpI q (.int j) d)) else Mo.ret (.bool false)
  | _, _ => Mo.fail
theorem ve_chain {o1 o2 : CmpOp} {p q : Int → Int → Bool} (h1 : OpR X (compareOp o1) (rI0 fun i j => .bl (p i j))) (h2 : OpR X (compareOp o2) (rI0 fun i j => .bl (q i j))) (ha : VE X c EK a ma) (hb : VE X c EK b mb) (hd : VE X c EK d md)
    (hm : lastMarks [o1, o2] [b, d] = false := by with_unfolding_all rfl) : VE X c EK (.Compare a [o1, o2] [b, d] pos) (eChain p q ma mb md) := by
  refine ⟨PE.imp (pe_chain h1 h2 ha.pe hb.pe hd.pe hm) fun σ H Q ⟨M, env, Y, rp, w⟩ => ?_⟩
  refine seq_V w rp (fun _ h => h) fun a env1 v M1 H1 s1 rp1 a1 q1 => ?_
  refine seq_V q1 rp1 (fun _ h => h) fun b env2 u M2 H2 s2 rp2 a2 q2 => ?_
  cases a1 with
  | int i =>
    cases a2 with
    | int j =>
      refine ⟨i, j, rfl, rfl, _, rfl, ?_⟩
      dsimp only at q2
      by_cases hp : p i j = true
      · rw [if_pos hp] at q2 ⊢
        refine seq_V q2 rp2 (fun _ h => h) fun e env3 z M3 H3 s3 rp3 a3 q3 => ?_
        obtain ⟨r, er, q4⟩ := opt_run q3
        cases a3 with
        | int k =>
          cases er
          exact ⟨j, k, rfl, rfl, q4 _ M3 H3 ((s1.trans s2).trans s3) rp3 (.bl _)⟩
        | _ => cases er
      · rw [if_neg hp] at q2 ⊢
        exact q2 _ M2 H2 (s1.trans s2) rp2 (.bl _)
    | _ => exact q2.elim
  | _ => exact q2.elim
theorem vt_chain {o1 o2 : CmpOp} {p q : Int → Int → Bool} (h1 : OpR X (compareOp o1) (rI0 fun i j => .bl (p i j))) (h2 : OpR X (compareOp o2) (rI0 fun i j => .bl (q i j))) (ha : VE X c EK a ma) (hb : VE X c EK b mb) (hd : VE X c EK d md)
    (hm : lastMarks [o1, o2] [b, d] = false := by with_unfolding_all rfl) : VT X c EK (.Compare a [o1, o2] [b, d] pos) (toT (eChain p q ma mb md)) := by
  refine ⟨PT.imp (pt_chain h1 h2 ha.pe hb.pe hd.pe hm) fun σ H Q ⟨M, env, Y, rp, w⟩ => ?_⟩
  unfold toT eChain at w
  rw [Mo.bind_assoc] at w
  refine seq_V w rp (fun _ h => h) fun a env1 v M1 H1 s1 rp1 a1 q1 => ?_
  rw [Mo.bind_assoc] at q1
  refine seq_V q1 rp1 (fun _ h => h) fun b env2 u M2 H2 s2 rp2 a2 q2 => ?_
  cases a1 with
  | int i =>
    cases a2 with
    | int j =>
      refine ⟨i, j, rfl, rfl, _, rfl, ?_⟩
      dsimp only at q2
      by_cases hp : p i j = true
      · rw [if_pos hp] at q2 ⊢
        rw [Mo.bind_assoc] at q2
        refine seq_V q2 rp2 (fun _ h => h) fun e env3 z M3 H3 s3 rp3 a3 q3 => ?_
        obtain ⟨r, er, q4⟩ := opt_run q3
        cases a3 with
        | int k =>
          cases er
          obtain ⟨b', eb, q5⟩ := opt_run q4
          cases eb
          exact ⟨j, k, rfl, rfl, _, rfl, q5 M3 H3 ((s1.trans s2).trans s3) rp3⟩
        | _ => cases er
      · rw [if_neg hp] at q2 ⊢
        rw [Mo.ret_bind] at q2
        obtain ⟨b', eb, q5⟩ := opt_run q2
        cases eb
        exact ⟨_, rfl, q5 M2 H2 (s1.trans s2) rp2⟩
    | _ => exact q2.elim
  | _ => exact q2.elim
end
/-! ### argument lists, displays -/
section
variable {e : Expr} {es : List Expr} {m : Mo PyData} {ms : Mo (List PyData)} {pos : Pos}
def aCons (m : Mo PyData) (ms : Mo (List PyData)) : Mo (List PyData) := Mo.bind m fun d => Mo.bind ms fun ds => Mo.ret (d :: ds)
theorem va_nil : VA X c EK [] (Mo.ret []) := ⟨PA.imp pa_nil fun σ H Q ⟨M, env, Y, rp, q⟩ => q [] M H .refl rp .nil, fun env Q E q => ⟨rfl, q⟩⟩
theorem va_cons (h : VE X c EK e m) (r : VA X c EK es ms) (hs : starEach (e :: es) X.env = (false, eval e X.env) :: starEach es X.env := by rfl) : VA X c EK (e :: es) (aCons m ms) := by
  refine ⟨PA.imp (pa_cons h.pe r.pa hs) fun σ H Q ⟨M, env, Y, rp, w⟩ => ?_, fun env Q E q => (m env).mono (fun d hd => (ms d.2).mono (fun ds hds => ⟨congrArg (· + 1) hds.1, hds.2⟩) (fun _ z => z) (r.len d.2 _ _ hd)) (fun _ z => z) q⟩
  refine seq_V w rp (fun _ h => h) fun d env1 v M1 H1 s1 rp1 a1 q1 => ?_
  refine seq_A q1 rp1 (fun _ h => h) fun ds env2 vs M2 H2 s2 rp2 a2 q2 => ?_
  exact q2 _ M2 H2 (s1.trans s2) rp2 (.cons (a1.stp s2) a2)
def tupD (ds : List PyData) : Option PyData := if K_ ds.length then some (.tuple ds) else none
def opL (f : List PyData → Option PyData) (ms : Mo (List PyData)) : Mo PyData := Mo.bind ms fun ds => Mo.lift (W.opt (f ds))
def opF (f : List PyData → Option (List PyData)) (ms : Mo (List PyData)) : Mo (List PyData) := Mo.bind ms fun ds => Mo.lift (W.opt (f ds))
theorem small (n : Nat) (h : n ≤ 1000) : n ≤ sizeLine := Nat.le_trans h (by decide)
theorem ve_tup {x1} (h : VA X c EK es ms) : VE X c EK (.Tuple es x1 pos) (opL tupD ms) := by
  refine ⟨PE.imp (pe_tupF h.pa) fun σ H Q ⟨M, env, Y, rp, w⟩ => ?_⟩
  refine seq_A w rp (fun _ h => h) fun ds env1 vs M1 H1 s1 rp1 a1 q1 => ?_
  obtain ⟨r, er, q2⟩ := opt_run q1
  unfold tupD at er
  split at er
  · rename_i hz
    cases er
    refine ⟨by rw [a1.length]; exact small _ hz, fun p o hp ho => ?_⟩
    exact q2 _ M1 _ (s1.trans (.of (.new hp))) (rp1.kp1 (.new hp)) (.newTup hp ho a1)
  · cases er
def lstD (ds : List PyData) : Option (List PyData) := if K_ ds.length then some ds else none
/-- a list, as one's own -/
theorem vf_lst (h : VA X c EK es ms) : VF X c EK (.List es pos) (opF lstD ms) := by
  refine ⟨PE.imp (pe_lst h.pa) fun σ H Q ⟨M, env, Y, rp, w⟩ => ?_⟩
  refine seq_A w rp (fun _ h => h) fun ds env1 vs M1 H1 s1 rp1 a1 q1 => ?_
  obtain ⟨r, er, q2⟩ := opt_run q1
  unfold lstD at er
  split at er
  · rename_i hz
    cases er
    refine ⟨by rw [a1.length]; exact small _ hz, fun p hp => ?_⟩
    exact q2 _ _ _ _ (s1.trans (.tmpNew hp)) (rp1.tmpNew hp) (a1.stp (.tmpNew hp))
  · cases er
def eList (m : Mo (List PyData)) : Mo PyData := Mo.bind m fun ds => Mo.ret (.list ds)
/-- one's own list, as data -/
theorem ve_of (h : VF X c EK e ms) : VE X c EK e (eList ms) := by
  refine ⟨PE.imp h.pe fun σ H Q ⟨M, env, Y, rp, w⟩ => ?_⟩
  refine seq_F w rp (fun _ h => h) fun ds env1 a vs M1 H1 s1 rp1 a1 q1 => ?_
  exact q1 _ _ H1 (s1.trans (.less fun _ z => z.1)) rp1.tmpDrop (rp1.tmpAt a1)
/-! ### built-ins -/
theorem ve_callL {f : List PyData → Option PyData} {r : List V → Hp → VK → Prop} (h : ∀ {t}, PA X es t → PE X e (tCB r t)) (hs : SL ix X.K r f) (ha : VA X c EK es ms) : VE X c EK e (opL f ms) := by
  refine ⟨PE.imp (h ha.pa) fun σ H Q ⟨M, env, Y, rp, w⟩ => ?_⟩
  refine seq_A w rp (fun _ h => h) fun ds env1 vs M1 H1 s1 rp1 a1 q1 => ?_
  obtain ⟨d, ed, q2⟩ := opt_run q1
  exact hs M1 H1 vs ds d Q a1 rp1.al ed fun u H' k au => q2 u M1 H' (s1.trans (.of k.any)) (rp1.kp1 k) au
theorem vf_callL {f : List PyData → Option (List PyData)} {r : List V → Hp → VK → Prop} (h : ∀ {t}, PA X es t → PE X e (tCB r t)) (hs : SF ix X.K r f) (ha : VA X c EK es ms) : VF X c EK e (opF f ms) := by
  refine ⟨PE.imp (h ha.pa) fun σ H Q ⟨M, env, Y, rp, w⟩ => ?_⟩
  refine seq_A w rp (fun _ h => h) fun ds env1 vs M1 H1 s1 rp1 a1 q1 => ?_
  obtain ⟨d, ed, q2⟩ := opt_run q1
  refine hs M1 H1 vs ds d Q a1 rp1.al ed fun p us H2 k hp au => ?_
  exact q2 p us _ _ ((s1.trans (.of k.any)).trans (.tmpNew hp)) ((rp1.kp1 k).tmpNew hp) (au.stp (.tmpNew hp))
end
def lenD : List PyData → Option PyData
  | [.list xs] => some (.int xs.length)
  | [.tuple xs] => some (.int xs.length)
  | _ => none
theorem AtL.one_of {K : PySem.W.Frag} {M : Addr → Prop} {H : Hp} {vs : List V} {d : PyData} (h : AtL ix K M H vs [d]) : ∃ v, vs = [v] ∧ At ix K M H v d := by
  cases h with
  | cons a r => cases r; exact ⟨_, rfl, a⟩
theorem s_len : SL ix X.K (fun xs H Q => ∃ p ys, xs = [.ref p] ∧ (SqL X.K H p ys ∨ SqT X.K H p ys) ∧ Q (.int ys.length) H) lenD := by
  intro M H vs ds d Q a al e q
  unfold lenD at e
  split at e
  · cases e
    obtain ⟨v, rfl, av⟩ := a.one_of
    cases av with
    | lst e1 n aa => exact ⟨_, _, rfl, .inl (SqL.of e1), by rw [aa.length]; exact q _ _ .refl (.int _)⟩
  · cases e
    obtain ⟨v, rfl, av⟩ := a.one_of
    cases av with
    | tup e1 aa => exact ⟨_, _, rfl, .inr e1.1, by rw [aa.length]; exact q _ _ .refl (.int _)⟩
  · cases e
def listD : List PyData → Option (List PyData)
  | [.list xs] => some xs
  | [.tuple xs] => some xs
  | _ => none
theorem s_list : SF ix X.K (fun xs H Q => ∃ p ys, xs = [.ref p] ∧ (SqL X.K H p ys ∨ SqT X.K H p ys) ∧ ∀ l, H l = none → Q (.ref l) (upd H l (.lst ys))) listD := by
  intro M H vs ds d Q a al e q
  unfold listD at e
  split at e
  · cases e
    obtain ⟨v, rfl, av⟩ := a.one_of
    cases av with
    | lst e1 n aa => exact ⟨_, _, rfl, .inl (SqL.of e1), fun l hl => q _ _ _ .refl hl aa⟩
  · cases e
    obtain ⟨v, rfl, av⟩ := a.one_of
    cases av with
    | tup e1 aa => exact ⟨_, _, rfl, .inr e1.1, fun l hl => q _ _ _ .refl hl aa⟩
  · cases e
def tupleD : List PyData → Option PyData
  | [.list xs] => some (.tuple xs)
  | [.tuple xs] => some (.tuple xs)
  | _ => none
theorem s_tuple : SL ix X.K (fun xs H Q => rTupF X.K xs H Q ∨ ∃ a ys, xs = [.ref a] ∧ SqT X.K H a ys ∧ Q (.ref a) H) tupleD := by
  intro M H vs ds d Q a al e q
  unfold tupleD at e
  split at e
  · cases e
    obtain ⟨v, rfl, av⟩ := a.one_of
    cases av with
    | lst e1 n aa => exact .inl ⟨_, _, rfl, SqL.of e1, fun l o hl ho => q _ _ (.new hl) (.newTup hl ho aa)⟩
  · cases e
    obtain ⟨v, rfl, av⟩ := a.one_of
    cases av with
    | tup e1 aa => exact .inr ⟨_, _, rfl, e1.1, q _ _ .refl (.tup e1 aa)⟩
  · cases e
def absD : List PyData → Option PyData
  | [.int i] => some (.int (if i < 0 then -i else i))
  | _ => none
theorem s_abs : SL ix X.K (fun xs H Q => ∃ i, xs = [.int i] ∧ Q (.int (if i < 0 then -i else i)) H) absD := by
  intro M H vs ds d Q a al e q
  unfold absD at e
  split at e
  · cases e
    obtain ⟨v, rfl, av⟩ := a.one_of
    cases av
    exact ⟨_, rfl, q _ _ .refl (.int _)⟩
  · cases e
def intD : List PyData → Option PyData
  | [.int i] => some (.int i)
  | [.bool b] => some (.int (if b then 1 else 0))
  | _ => none
theorem s_int : SL ix X.K (fun xs H Q => (∃ i, xs = [.int i] ∧ Q (.int i) H) ∨ ∃ k, xs = [.bl k] ∧ Q (.int (if k then 1 else 0)) H) intD := by
  intro M H vs ds d Q a al e q
  unfold intD at e
  split at e
  · cases e
    obtain ⟨v, rfl, av⟩ := a.one_of
    cases av
    exact .inl ⟨_, rfl, q _ _ .refl (.int _)⟩
  · cases e
    obtain ⟨v, rfl, av⟩ := a.one_of
    cases av
    exact .inr ⟨_, rfl, q _ _ .refl (.int _)⟩
  · cases e
def min2D : List PyData → Option PyData
  | [.int i, .int j] => some (.int (if j < i then j else i))
  | _ => none
def max2D : List PyData → Option PyData
  | [.int i, .int j] => some (.int (if j > i then j else i))
  | _ => none
theorem s_min2 : SL ix X.K (fun xs H Q => ∃ i j, xs = [.int i, .int j] ∧ Q (.int (if j < i then j else i)) H) min2D := by
  intro M H vs ds d Q a al e q
  unfold min2D at e
  split at e
  · cases e
    cases a with
    | cons a1 r =>
      obtain ⟨v, rfl, a2⟩ := r.one_of
      cases a1; cases a2
      exact ⟨_, _, rfl, q _ _ .refl (.int _)⟩
  · cases e
theorem s_max2 : SL ix X.K (fun xs H Q => ∃ i j, xs = [.int i, .int j] ∧ Q (.int (if j > i then j else i)) H) max2D := by
  intro M H vs ds d Q a al e q
  unfold max2D at e
  split at e
  · cases e
    cases a with
    | cons a1 r =>
      obtain ⟨v, rfl, a2⟩ := r.one_of
      cases a1; cases a2
      exact ⟨_, _, rfl, q _ _ .refl (.int _)⟩
  · cases e
section
variable {e : Expr} {m : Mo PyData} {ms : Mo (List PyData)} {p pos : Pos}
theorem ve_len (hg : Gl X "len") (hm : X.mg "len" = none) (h : VA X c EK [e] ms) (hs : starEach [e] X.env = (false, eval e X.env) :: starEach [] X.env := by rfl) : VE X c EK (.Call (.Name "len" p) [e] [] pos) (opL lenD ms) := ve_callL (fun h => pe_callB call_len_seq hg hm PySem.boot_len h (he := hs)) s_len h
theorem vf_list (hg : Gl X "list") (hm : X.mg "list" = none) (h : VA X c EK [e] ms) (hs : starEach [e] X.env = (false, eval e X.env) :: starEach [] X.env := by rfl) : VF X c EK (.Call (.Name "list" p) [e] [] pos) (opF listD ms) := vf_callL (fun h => pe_callTy call_list_of hg hm (by decide +kernel) h (he := hs)) s_list h
theorem ve_tuple (hg : Gl X "tuple") (hm : X.mg "tuple" = none) (h : VA X c EK [e] ms) (hs : starEach [e] X.env = (false, eval e X.env) :: starEach [] X.env := by rfl) : VE X c EK (.Call (.Name "tuple" p) [e] [] pos) (opL tupleD ms) := ve_callL (fun h => pe_callTy (call_tuple_ofF.or call_tupleT) hg hm (by decide +kernel) h (he := hs)) s_tuple h
theorem ve_abs (hg : Gl X "abs") (hm : X.mg "abs" = none) (h : VA X c EK [e] ms) (hs : starEach [e] X.env = (false, eval e X.env) :: starEach [] X.env := by rfl) : VE X c EK (.Call (.Name "abs" p) [e] [] pos) (opL absD ms) := ve_callL (fun h => pe_callB call_abs hg hm (by decide +kernel) h (he := hs)) s_abs h
theorem ve_int1 (hg : Gl X "int") (hm : X.mg "int" = none) (h : VA X c EK [e] ms) (hs : starEach [e] X.env = (false, eval e X.env) :: starEach [] X.env := by rfl) : VE X c EK (.Call (.Name "int" p) [e] [] pos) (opL intD ms) := ve_callL (fun h => pe_callTy call_int1 hg hm (by decide +kernel) h (he := hs)) s_int h
theorem ve_min2 {e2 : Expr} (hc : X.calm = true) (hg : Gl X "min") (hm : X.mg "min" = none) (h : VA X c EK [e, e2] ms) (hs : starEach [e, e2] X.env = (false, eval e X.env) :: starEach [e2] X.env := by rfl) (hpl : (backTo pos (starEach [e2] X.env)).any (·.1) = false := by rfl) : VE X c EK (.Call (.Name "min" p) [e, e2] [] pos) (opL min2D ms) := ve_callL (fun h => pe_callB (call_min2 hc) hg hm (by decide +kernel) h (he := hs) (hpl := hpl)) s_min2 h
theorem ve_max2 {e2 : Expr} (hc : X.calm = true) (hg : Gl X "max") (hm : X.mg "max" = none) (h : VA X c EK [e, e2] ms) (hs : starEach [e, e2] X.env = (false, eval e X.env) :: starEach [e2] X.env := by rfl) (hpl : (backTo pos (starEach [e2] X.env)).any (·.1) = false := by rfl) : VE X c EK (.Call (.Name "max" p) [e, e2] [] pos) (opL max2D ms) := ve_callL (fun h => pe_callB (call_max2 hc) hg hm (by decide +kernel) h (he := hs) (hpl := hpl)) s_max2 h
/-! #### isinstance(x, T) -/
def tyD : PyData → String
  | .none => "NoneType"
  | .bool _ => "bool"
  | .int _ => "int"
  | .str _ => "str"
  | .list _ => "list"
  | .tuple _ => "tuple"
  | .dict _ => "dict"
theorem At.ty {K : PySem.W.Frag} {M : Addr → Prop} {H : Hp} {v : V} {d : PyData} (h : At ix K M H v d) (nd : ∀ ds, d ≠ .dict ds) : TyX K H v (.type (tyD d)) := by
  cases h with
  | non => exact .base .non
  | bl b => exact .base (.bl b)
  | int i => exact .base (.int i)
  | str x => exact .base (.str x)
  | lst e n r => exact .base (.lst e)
  | tup q r =>
    rcases q.1 with (e | ⟨o, e⟩) | ⟨o, its, n, hk, hc, hs, hz, rv⟩
    · exact .base (.tup e)
    · exact .fTuple e
    · exact .kTuple hk hc
  | dT _ _ _ _ => exact absurd rfl (nd _)
  | dK _ _ _ _ => exact absurd rfl (nd _)
def isiD (t : String) : PyData → Option PyData
  | .dict _ => none
  | .none => if t = "int" ∨ t = "bool" ∨ t = "str" ∨ t = "list" ∨ t = "tuple" then some (.bool false) else none
  | .bool _ => if t = "int" ∨ t = "bool" then some (.bool true) else if t = "str" ∨ t = "list" ∨ t = "tuple" then some (.bool false) else none
  | .int _ => if t = "int" then some (.bool true) else if t = "bool" ∨ t = "str" ∨ t = "list" ∨ t = "tuple" then some (.bool false) else none
  | .str _ => if t = "str" then some (.bool true) else if t = "int" ∨ t = "bool" ∨ t = "list" ∨ t = "tuple" then some (.bool false) else none
  | .list _ => if t = "list" then some (.bool true) else if t = "int" ∨ t = "bool" ∨ t = "str" ∨ t = "tuple" then some (.bool false) else none
  | .tuple _ => if t = "tuple" then some (.bool true) else if t = "int" ∨ t = "bool" ∨ t = "str" ∨ t = "list" then some (.bool false) else none
theorem kit_isi {K : PySem.W.Frag} {t : String} {d r : PyData} (h : isiD t d = some r) : ∃ b, r = .bool b ∧ PySem.W.kitOne K (.type (tyD d)) (.type t) = some b := by
  cases d <;> simp only [isiD] at h
  case dict => cases h
  all_goals
    repeat' split at h
    all_goals first
      | cases h; done
      | (rename_i ht
         cases h
         refine ⟨_, rfl, kit_ty ?_⟩
         first
          | (subst ht; simp only [tyD]; decide +kernel)
          | (rcases ht with rfl | rfl <;> simp only [tyD] <;> decide +kernel)
          | (rcases ht with rfl | rfl | rfl <;> simp only [tyD] <;> decide +kernel)
          | (rcases ht with rfl | rfl | rfl | rfl <;> simp only [tyD] <;> decide +kernel)
          | (rcases ht with rfl | rfl | rfl | rfl | rfl <;> simp only [tyD] <;> decide +kernel))
theorem ve_isi {x : Str} {t : String} {p2 : Pos} (hg : Gl X "isinstance") (hm : X.mg "isinstance" = none) (hg2 : Gl X x) (hm2 : X.mg x = none) (hv : bootBuiltins x = some (.type t)) (h : VE X c EK e m) (hn : x ≠ "__name__" := by decide) (hd : (x == ("__debug__" : Str)) = false := by decide)
    (hs : starEach (e :: [.Name x p2]) X.env = (false, eval e X.env) :: starEach [.Name x p2] X.env := by rfl) (hpl : (backTo pos (starEach [.Name x p2] X.env)).any (·.1) = false := by rfl) (hs2 : starEach [.Name x p2] X.env = (false, eval (.Name x p2) X.env) :: starEach [] X.env := by rfl) : VE X c EK (.Call (.Name "isinstance" p) [e, .Name x p2] [] pos) (op1 (isiD t) m) := by
  refine ⟨PE.imp (pe_callB call_isi hg hm (by decide +kernel) (pa_cons h.pe (pa_cons (pe_bltn hg2 hm2 hv (v := .ty t) rfl hn hd) pa_nil hs2) hs) (he := hs) (hpl := hpl)) fun σ H Q ⟨M, env, Y, rp, w⟩ => ?_⟩
  refine seq_V w rp (fun _ h => h) fun d env1 v M1 H1 s1 rp1 a1 q1 => ?_
  obtain ⟨r, er, q2⟩ := opt_run q1
  obtain ⟨b, rfl, kb⟩ := kit_isi (K := X.K) er
  exact ⟨v, .ty t, .type (tyD d), .type t, b, rfl, .ty _, a1.ty (fun ds z => by rw [z] at er; cases er), kb, q2 _ M1 H1 s1 rp1 (.bl _)⟩
end
end
end VL

set_option Elab.async false
set_option linter.all false
set_option maxRecDepth 100000
set_option maxHeartbeats 1000000
/-! The value layer: subscripts, slices; what is one's own, read without giving it away; methods. -/
namespace VL
noncomputable section
open PySem PySem.Spec PyProof.Rows L2 GxR GA KR
variable {T : List Addr} {ix : Bool} {X : Cx} {c : Ctx T ix} {EK : XK}
/-! ### subscripts -/
def ixD : PyData → PyData → Option PyData
  | .list xs, .int i => atI xs i
  | .tuple xs, .int i => atI xs i
  | _, _ => none
theorem AtL.atI {K : PySem.W.Frag} {M : Addr → Prop} {H : Hp} {xs : List V} {ds : List PyData} {i : Int} {d : PyData} (h : AtL ix K M H xs ds) (e : L2.atI ds i = some d) : ∃ v, L2.atI xs i = some v ∧ At ix K M H v d := by
  unfold L2.atI at e ⊢
  rw [h.length]
  cases q : ixN ds.length i with
  | none => rw [q] at e; cases e
  | some j =>
    rw [q] at e
    exact h.get' e
theorem s_ix : S2 ix X.K (rIxA X.K) ixD := by
  intro M H v w a b d Q ha hb al e q
  unfold ixD at e
  split at e
  · cases hb
    cases ha with
    | lst e1 n aa =>
      obtain ⟨u, hu, au⟩ := aa.atI e
      exact .inl ⟨_, _, _, _, rfl, rfl, SqL.of e1, hu, q _ _ .refl au⟩
  · cases hb
    cases ha with
    | tup e1 aa =>
      obtain ⟨u, hu, au⟩ := aa.atI e
      exact .inr ⟨_, _, _, _, rfl, rfl, e1.1, hu, q _ _ .refl au⟩
  · cases e
theorem ve_ix {a b : Expr} {ma mb : Mo PyData} {pos : Pos} (ha : VE X c EK a ma) (hb : VE X c EK b mb) (hs : PlainIx b := by intro _ _; rfl) : VE X c EK (.Subscript a b pos) (op2 ixD ma mb) := ve_op2 (fun h h' => pe_ix ix_any h h' hs) s_ix ha hb
/-- a slice's part -/
structure VO (X : Cx) (c : Ctx T ix) (EK : XK) (e : Option Expr) (m : Mo (Option Int)) : Prop where
  run : ∃ t, PO X e t ∧ ∀ (σ : L2.St) (M : Addr → Prop) (H : Hp) (env : En) (Y : Tmp) (Q : Option Int → Hp → Prop), Rp X.K c σ M H env Y → (m env).run (fun r => ∀ M' H', Stp M H M' H' → Rp X.K c σ M' H' r.2 Y → Q r.1 H') (EX X.mg c EK) → t σ H Q
theorem vo_none : VO X c EK none (Mo.ret none) := ⟨_, po_none, fun σ M H env Y Q rp q => q M H .refl rp⟩
def toO (m : Mo PyData) : Mo (Option Int) := Mo.bind m fun d => match d with
  | .int i => Mo.ret (some i)
  | _ => Mo.fail
theorem vo_some {e : Expr} {m : Mo PyData} (h : VE X c EK e m) : VO X c EK (some e) (toO m) := by
  refine ⟨_, po_some h.pe, fun σ M H env Y Q rp q => ?_⟩
  refine seq_V q rp (fun _ h => h) fun d env1 v M1 H1 s1 rp1 a1 q1 => ?_
  cases a1 with
  | int i => exact ⟨i, rfl, q1 M1 H1 s1 rp1⟩
  | _ => exact q1.elim
def cutD {α : Type} (xs : List α) (lo hi : Option Int) : List α := (xs.drop (HT.sIx xs.length 0 lo)).take (HT.sIx xs.length xs.length hi - HT.sIx xs.length 0 lo)
def slD (d : PyData) (lo hi : Option Int) : Option PyData := match d with
  | .list xs => some (.list (cutD xs lo hi))
  | .tuple xs => some (.tuple (cutD xs lo hi))
  | _ => none
def eSlice (m : Mo PyData) (ml mh : Mo (Option Int)) : Mo PyData := Mo.bind m fun d => Mo.bind ml fun lo => Mo.bind mh fun hi => Mo.lift (W.opt (slD d lo hi))
theorem AtL.cut {K : PySem.W.Frag} {M : Addr → Prop} {H : Hp} {xs : List V} {ds : List PyData} (h : AtL ix K M H xs ds) (lo hi : Option Int) : AtL ix K M H (cutV xs lo hi) (cutD ds lo hi) := by
  unfold cutV cutD
  rw [h.length]
  exact (h.drop _).take _
theorem AtL.uniq {K : PySem.W.Frag} {M : Addr → Prop} {H : Hp} {xs : List V} {ds : List PyData} (h : AtL ix K M H xs ds) (lo hi : Option Int) (e : cutV xs lo hi = xs) : cutD ds lo hi = ds := by
  have l1 := congrArg List.length e
  unfold cutV at l1
  unfold cutD
  rw [List.length_take, List.length_drop] at l1
  rw [← h.length]
  by_cases z : ds = []
  · subst z; simp
  · have : xs.length ≠ 0 := by rw [h.length]; exact fun y => z (List.length_eq_zero_iff.mp y)
    have h0 : HT.sIx xs.length 0 lo = 0 := by omega
    rw [h0, List.drop_zero, Nat.sub_zero]
    exact List.take_of_length_le (by rw [← h.length]; omega)
theorem ve_slice {a : Expr} {lo hi : Option Expr} {m : Mo PyData} {ml mh : Mo (Option Int)} {pos p2 : Pos} (ha : VE X c EK a m) (hl : VO X c EK lo ml) (hh : VO X c EK hi mh) : VE X c EK (.Subscript a (.Slice lo hi none p2) pos) (eSlice m ml mh) := by
  obtain ⟨tl, pl, ql⟩ := hl.run
  obtain ⟨th, ph, qh⟩ := hh.run
  refine ⟨PE.imp (pe_slice (sl_list.or sl_tupF) ha.pe pl ph) fun σ H Q ⟨M, env, Y, rp, w⟩ => ?_⟩
  refine seq_V w rp (fun _ h => h) fun d env1 v M1 H1 s1 rp1 a1 q1 => ?_
  refine ql σ M1 H1 env1 Y _ rp1 ((ml env1).mono (fun r h M2 H2 s2 rp2 => ?_) (fun _ h => h) q1)
  refine qh σ M2 H2 r.2 Y _ rp2 ((mh r.2).mono (fun r' h' M3 H3 s3 rp3 => ?_) (fun _ h => h) h)
  obtain ⟨e, ee, q3⟩ := opt_run h'
  have a3 := (a1.stp s2).stp s3
  have s13 := (s1.trans s2).trans s3
  unfold slD at ee
  split at ee
  · cases ee
    cases a3 with
    | lst e1 n aa => exact .inl ⟨_, _, rfl, SqL.of e1, fun p hp => q3 _ M3 _ (s13.trans (.of (.new hp))) (rp3.kp1 (.new hp)) (.newLst rp3.al hp (aa.cut _ _))⟩
  · cases ee
    cases a3 with
    | tup e1 aa =>
      refine .inr ⟨_, _, rfl, e1.1, fun z => ?_, fun p o hp ho => q3 _ M3 _ (s13.trans (.of (.new hp))) (rp3.kp1 (.new hp)) (.newTup hp ho (aa.cut _ _))⟩
      have y := aa.uniq _ _ z
      refine q3 _ M3 H3 s13 rp3 ?_
      rw [y]
      exact .tup e1 aa
  · cases ee
def revD : PyData → Option PyData
  | .tuple xs => some (.tuple xs.reverse)
  | .list xs => some (.list xs.reverse)
  | _ => none
theorem pe_revA {e : Expr} {te : TE} {k : Nat} {p1 p2 p3 pos : Pos} (he : PE X e te) : PE X (.Subscript e (.Slice none none (some (.UnaryOp .USub (.Constant (.int 1) k p1) p2)) p3) pos) (fun σ H Q => te σ H fun x H1 =>
    (∃ a xs, x = .ref a ∧ SqT X.K H1 a xs ∧ ∀ (p : Addr) (o : Obj), H1 p = none → o.dict = none → Q (.ref p) (L2.upd H1 p (.frz o (.tup xs.reverse)))) ∨ (∃ a xs, x = .ref a ∧ SqL X.K H1 a xs ∧ ∀ p, H1 p = none → Q (.ref p) (upd H1 p (.lst xs.reverse)))) := by
  refine ⟨fun pins s σ H Q I h => ?_⟩
  refine Subscript_ (thn (he.run pins s σ H _ I h) fun v s1 ⟨x, H1, I1, r1, q1⟩ => ?_)
  rcases q1 with q1 | q1
  · obtain ⟨a, xs, ex, hx, q⟩ := q1
    subst ex
    cases r1
    have hst : PO X (some (.UnaryOp .USub (.Constant (.int 1) k p1) p2)) (tPart (tUn (rU fun i => .int (-i)) (tC (.int 1)))) := po_some (pe_un un_neg pe_int)
    refine wpAny_Slice (thn (po_none.run pins s1 σ H1 (fun o H2 => o = none ∧ H2 = H1) I1 ⟨rfl, rfl⟩) fun vl s2 ⟨l, H2, I2, pl, el, e2⟩ => ?_)
    subst el e2
    refine thn (po_none.run pins s2 σ H2 (fun o H3 => o = none ∧ H3 = H2) I2 ⟨rfl, rfl⟩) fun vu s3 ⟨u, H3, I3, pu, eu, e3⟩ => ?_
    subst eu e3
    refine thn (hst.run pins s3 σ H3 (fun o H4 => o = some (-1) ∧ H4 = H3) I3 ⟨1, rfl, -1, rfl, rfl, rfl⟩) fun vs s4 ⟨o, H4, I4, ps, eo, e4⟩ => ?_
    subst eo e4
    cases pl
    cases pu
    have I5 : Inv X pins σ H4 { s4 with heap := s4.heap.push { cls := .type "slice", data := .fields #[.none, .none, vs] } } := I4.kept (t' := s4.toks) fun b ob q => Heap.get?_push_of_some _ q
    obtain ⟨its, r, ht, hz⟩ := I5.tuple hx
    have hlen := r.length
    show wpAny (model X.prog X.w) X.A (subscriptTail e (.Slice none none (some (.UnaryOp .USub (.Constant (.int 1) k p1) p2)) p3) (.ref a) (.ref s4.heap.objs.size)) (EP X pins σ Q) X.xe { s4 with heap := s4.heap.push { cls := .type "slice", data := .fields #[.none, .none, vs] } }
    refine tail_any (ops := [.ref a, .ref s4.heap.objs.size]) ht.typeIs PyProof.Rows.slot_tuple_getitem.lookup ?_ (by with_unfolding_all rfl)
    refine getItem_tuple_rev ht (Heap.IsSliceOf.new _ .none .none vs) ps ?_ (by rw [List.size_toArray]; omega)
    let ob : Obj := { cls := .type "tuple", data := .seq its.toArray.toList.reverse.toArray }
    refine ⟨.ref _, _, I5.laid (t' := s4.toks) (o := .frz ob (.tup xs.reverse)) (fun b ob q => Heap.get?_push_of_some _ q) (Nat.le_refl _) ?_, rfl, q _ ob (I5.hok.fresh (Nat.le_refl _)) rfl⟩
    exact ⟨Heap.get?_push_size _ rfl, by rw [List.length_reverse]; exact hz, _, r.reverse, IsTup.new _ _⟩
  · obtain ⟨a, xs, ex, hx, q⟩ := q1
    subst ex
    cases r1
    have hst : PO X (some (.UnaryOp .USub (.Constant (.int 1) k p1) p2)) (tPart (tUn (rU fun i => .int (-i)) (tC (.int 1)))) := po_some (pe_un un_neg pe_int)
    refine wpAny_Slice (thn (po_none.run pins s1 σ H1 (fun o H2 => o = none ∧ H2 = H1) I1 ⟨rfl, rfl⟩) fun vl s2 ⟨l, H2, I2, pl, el, e2⟩ => ?_)
    subst el e2
    refine thn (po_none.run pins s2 σ H2 (fun o H3 => o = none ∧ H3 = H2) I2 ⟨rfl, rfl⟩) fun vu s3 ⟨u, H3, I3, pu, eu, e3⟩ => ?_
    subst eu e3
    refine thn (hst.run pins s3 σ H3 (fun o H4 => o = some (-1) ∧ H4 = H3) I3 ⟨1, rfl, -1, rfl, rfl, rfl⟩) fun vs s4 ⟨o, H4, I4, ps, eo, e4⟩ => ?_
    subst eo e4
    cases pl
    cases pu
    have I5 : Inv X pins σ H4 { s4 with heap := s4.heap.push { cls := .type "slice", data := .fields #[.none, .none, vs] } } := I4.kept (t' := s4.toks) fun b ob q => Heap.get?_push_of_some _ q
    obtain ⟨its, r, pl, hz⟩ := I5.list hx
    have hlen := r.length
    have ht := pl.isList
    show wpAny (model X.prog X.w) X.A (subscriptTail e (.Slice none none (some (.UnaryOp .USub (.Constant (.int 1) k p1) p2)) p3) (.ref a) (.ref s4.heap.objs.size)) (EP X pins σ Q) X.xe { s4 with heap := s4.heap.push { cls := .type "slice", data := .fields #[.none, .none, vs] } }
    refine tail_any (ops := [.ref a, .ref s4.heap.objs.size]) ht.typeIs list_getitem_lookup ?_ (by with_unfolding_all rfl)
    refine wpAny_getItem_list_slice ht (Heap.IsSliceOf.new _ .none .none vs) .none .none ps (by decide) ?_ (by rw [List.size_toArray]; omega)
    rw [PySem.W.krv_pick]
    refine ⟨.ref _, _, I5.laid (t' := s4.toks) (o := .lst xs.reverse) (fun b ob q => Heap.get?_push_of_some _ q) (Nat.le_refl _) ?_, rfl, q _ (I5.hok.fresh (Nat.le_refl _))⟩
    exact ⟨by rw [List.length_reverse]; exact hz, _, 0, r.reverse, Heap.get?_push_size _ rfl⟩
theorem ve_rev {a : Expr} {m : Mo PyData} {k : Nat} {p1 p2 p3 pos : Pos} (ha : VE X c EK a m) : VE X c EK (.Subscript a (.Slice none none (some (.UnaryOp .USub (.Constant (.int 1) k p1) p2)) p3) pos) (op1 revD m) := by
  refine ⟨PE.imp (pe_revA ha.pe) fun σ H Q ⟨M, env, Y, rp, w⟩ => ?_⟩
  refine seq_V w rp (fun _ h => h) fun d env1 v M1 H1 s1 rp1 a1 q1 => ?_
  obtain ⟨e, ee, q2⟩ := opt_run q1
  unfold revD at ee
  split at ee
  · cases ee
    cases a1 with
    | tup e1 aa => exact .inl ⟨_, _, rfl, e1.1, fun p o hp ho => q2 _ M1 _ (s1.trans (.of (.new hp))) (rp1.kp1 (.new hp)) (.newTup hp ho aa.rev)⟩
  · cases ee
    cases a1 with
    | lst e1 n aa => exact .inr ⟨_, _, rfl, SqL.of e1, fun p hp => q2 _ M1 _ (s1.trans (.of (.new hp))) (rp1.kp1 (.new hp)) (.newLst rp1.al hp aa.rev)⟩
  · cases ee

/-! ### what is one's own, read -/
/-- a value whose outermost list may be one's own -/
inductive Bw (ix : Bool) (K : PySem.W.Frag) (M : Addr → Prop) (H : Hp) : V → PyData → Prop
  | at_ {v : V} {d : PyData} : At ix K M H v d → Bw ix K M H v d
  | l {a : Addr} {vs : List V} {xs : List PyData} : H a = some (.lst vs) → AtL ix K M H vs xs → Bw ix K M H (.ref a) (.list xs)
def peekS : Sl → Option PyData
  | .d x => some x
  | .l xs => some (.list xs)
  | _ => none
def peek (i : Nat) : Mo PyData := fun env => match peekS (sAt env i) with
  | some d => W.ret (d, env)
  | none => W.fail
section
variable {K : PySem.W.Frag} {σ : L2.St} {M : Addr → Prop} {H : Hp} {env : En} {Y : Tmp} {i : Nat} {d : PyData}
theorem Rp.peek (r : Rp K c σ M H env Y) (e : peekS (sAt env i) = some d) : ∃ v, σ[i]? = some (some v) ∧ Bw ix K M H v d := by
  obtain ⟨o, h1, _⟩ := r.own
  have hs := h1 i
  generalize hv : σ.getD i none = ov at hs
  generalize sAt env i = sl at hs e
  generalize o i = os at hs
  cases hs with
  | d a => cases e; exact ⟨_, slot_val hv, .at_ a⟩
  | l ea al m => cases e; exact ⟨_, slot_val hv, .l ea al⟩
  | _ => cases e
theorem peek_run {α : Type} {f : PyData → Mo α} {R : α × En → Prop} {E : Er → Prop} (h : (Mo.bind (VL.peek i) f env).run R E) : ∃ d, peekS (sAt env i) = some d ∧ (f d env).run R E := by
  unfold Mo.bind VL.peek at h
  cases q : peekS (sAt env i) with
  | none => rw [q] at h; exact h.elim
  | some d => rw [q] at h; exact ⟨d, rfl, h⟩
/-- .. as a list or tuple that is read -/
theorem Bw.seq {v : V} (h : Bw ix K M H v d) (xs : List PyData) (e : d = .list xs ∨ d = .tuple xs) : ∃ a vs, v = .ref a ∧ (SqL K H a vs ∨ SqT K H a vs) ∧ AtL ix K M H vs xs ∧ (d = .list xs → SqL K H a vs) ∧ (d = .tuple xs → TupQ ix K H a vs) := by
  cases h with
  | at_ h =>
    cases h with
    | lst ea n al =>
      rcases e with e | e <;> cases e
      exact ⟨_, _, rfl, .inl (SqL.of ea), al, fun _ => SqL.of ea, fun z => by cases z⟩
    | tup q al =>
      rcases e with e | e <;> cases e
      exact ⟨_, _, rfl, .inr q.1, al, fun z => by (cases z), fun _ => q⟩
    | _ => rcases e with e | e <;> cases e
  | l ea al =>
    rcases e with e | e <;> cases e
    exact ⟨_, _, rfl, .inl (SqL.of ea), al, fun _ => SqL.of ea, fun z => by cases z⟩
end
section
variable {i : Nat} {x : Str} {p p2 pos : Pos} {b : Expr} {mb : Mo PyData}
def bLen (i : Nat) : Mo PyData := Mo.bind (peek i) fun d => Mo.lift (W.opt (lenD [d]))
theorem vb_len (hg : Gl X "len") (hm : X.mg "len" = none) (hx : PE X (.Name x p2) (tVar i)) (hs : starEach [.Name x p2] X.env = (false, eval (.Name x p2) X.env) :: starEach [] X.env := by rfl) : VE X c EK (.Call (.Name "len" p) [.Name x p2] [] pos) (bLen i) := by
  refine ⟨PE.imp (pe_callB call_len_seq hg hm PySem.boot_len (pa_cons hx pa_nil hs) (he := hs)) fun σ H Q ⟨M, env, Y, rp, w⟩ => ?_⟩
  obtain ⟨d, ed, q1⟩ := peek_run w
  obtain ⟨v, hv, bw⟩ := rp.peek ed
  obtain ⟨r, er, q2⟩ := opt_run q1
  refine ⟨v, hv, ?_⟩
  unfold lenD at er
  split at er
  · rename_i xs z
    cases er
    obtain ⟨a, vs, rfl, hq, al, _⟩ := bw.seq xs (.inl (by injection z))
    exact ⟨_, _, rfl, hq, by rw [al.length]; exact q2 _ M H .refl rp (.int _)⟩
  · rename_i xs z
    cases er
    obtain ⟨a, vs, rfl, hq, al, _⟩ := bw.seq xs (.inr (by injection z))
    exact ⟨_, _, rfl, hq, by rw [al.length]; exact q2 _ M H .refl rp (.int _)⟩
  · cases er
/-- x[b] -/
def bIx (i : Nat) (mb : Mo PyData) : Mo PyData := Mo.bind mb fun k => Mo.bind (peek i) fun d => Mo.lift (W.opt (ixD d k))
theorem vb_ix (hx : PE X (.Name x p2) (tVar i)) (hb : VE X c EK b mb) (hs : PlainIx b := by intro _ _; rfl) (he : ∀ env, sAt env i ≠ .no → True := by intros; trivial) : VE X c EK (.Subscript (.Name x p2) b pos) (Mo.bind (peek i) fun _ => bIx i mb) := by
  refine ⟨PE.imp (pe_ix ix_any hx hb.pe hs) fun σ H Q ⟨M, env, Y, rp, w⟩ => ?_⟩
  obtain ⟨d0, ed0, w⟩ := peek_run w
  obtain ⟨v, hv, _⟩ := rp.peek ed0
  refine ⟨v, hv, ?_⟩
  refine seq_V w rp (fun _ h => h) fun k env1 u M1 H1 s1 rp1 a1 q1 => ?_
  obtain ⟨d, ed, q2⟩ := peek_run q1
  obtain ⟨v', hv', bw⟩ := rp1.peek ed
  rw [hv] at hv'
  cases hv'
  obtain ⟨r, er, q3⟩ := opt_run q2
  unfold ixD at er
  split at er
  · rename_i xs j
    cases a1
    obtain ⟨a, vs, rfl, _, al, hq, _⟩ := bw.seq xs (.inl rfl)
    obtain ⟨z, hz, az⟩ := al.atI er
    exact .inl ⟨_, _, _, _, rfl, rfl, hq rfl, hz, q3 _ M1 H1 s1 rp1 az⟩
  · rename_i xs j
    cases a1
    obtain ⟨a, vs, rfl, _, al, _, hq⟩ := bw.seq xs (.inr rfl)
    obtain ⟨z, hz, az⟩ := al.atI er
    exact .inr ⟨_, _, _, _, rfl, rfl, (hq rfl).1, hz, q3 _ M1 H1 s1 rp1 az⟩
  · cases er
/-- b in x, b not in x -/
def bIn (neg : Bool) (i : Nat) (mb : Mo PyData) : Mo PyData := Mo.bind mb fun k => Mo.bind (peek i) fun d => Mo.lift (W.opt (inD neg k d))
theorem Bw.dp {K : PySem.W.Frag} {M : Addr → Prop} {H : Hp} {v : V} {d : PyData} (h : Bw ix K M H v d) (n : SeqAt.shaped d = true) : Dp K H v d := by
  cases h with
  | at_ h => exact h.dp n
  | @l a vs xs ea al =>
    have : At ix K (fun b => M b ∧ b ≠ a) H (.ref a) (.list xs) := .lst ea (fun z => z.2 rfl) (al.less fun _ z => z.1)
    exact this.dp n
theorem vb_in (neg : Bool) {k : Nat} (hr : Room k X.A) (hx : PE X (.Name x p2) (tVar i)) (hb : VE X c EK b mb) {op : CmpOp} (ho : op = if neg then CmpOp.NotIn else CmpOp.In) (hm : behindInMarks op (.Name x p2) = false := by with_unfolding_all rfl) :
    PE X (.Compare b [op] [.Name x p2] pos) (tV X.K X.mg c EK (bIn neg i mb)) := by
  cases neg with
  | false =>
    subst ho
    refine PE.imp (pe_cmpR (op_inV (room65 hr)) hb.pe hx hm) fun σ H Q ⟨M, env, Y, rp, w⟩ => ?_
    refine seq_V w rp (fun _ h => h) fun k env1 u M1 H1 s1 rp1 a1 q1 => ?_
    obtain ⟨d, ed, q2⟩ := peek_run q1
    obtain ⟨v, hv, bw⟩ := rp1.peek ed
    obtain ⟨r, er, q3⟩ := opt_run q2
    refine ⟨v, hv, ?_⟩
    unfold inD at er
    split at er
    · split at er
      · rename_i hc
        cases er
        exact .inl ⟨_, _, a1.dp hc.1, bw.dp hc.2, hc.1, hc.2, by rw [if_neg Bool.false_ne_true]; exact q3 _ M1 H1 s1 rp1 (by rw [Bool.false_xor]; exact .bl _)⟩
      · cases er
    · split at er
      · rename_i hc
        cases er
        exact .inr ⟨_, _, a1.dp hc.1, bw.dp hc.2, hc.1, hc.2, q3 _ M1 H1 s1 rp1 (by rw [Bool.false_xor]; exact .bl _)⟩
      · cases er
    · cases er
  | true =>
    subst ho
    refine PE.imp (pe_cmpR (op_notInV (room65 hr)) hb.pe hx hm) fun σ H Q ⟨M, env, Y, rp, w⟩ => ?_
    refine seq_V w rp (fun _ h => h) fun k env1 u M1 H1 s1 rp1 a1 q1 => ?_
    obtain ⟨d, ed, q2⟩ := peek_run q1
    obtain ⟨v, hv, bw⟩ := rp1.peek ed
    obtain ⟨r, er, q3⟩ := opt_run q2
    refine ⟨v, hv, ?_⟩
    unfold inD at er
    split at er
    · split at er
      · rename_i hc
        cases er
        exact .inl ⟨_, _, a1.dp hc.1, bw.dp hc.2, hc.1, hc.2, by rw [if_pos rfl]; exact q3 _ M1 H1 s1 rp1 (by rw [Bool.true_xor]; exact .bl _)⟩
      · cases er
    · split at er
      · rename_i hc
        cases er
        exact .inr ⟨_, _, a1.dp hc.1, bw.dp hc.2, hc.1, hc.2, q3 _ M1 H1 s1 rp1 (by rw [Bool.true_xor]; exact .bl _)⟩
      · cases er
    · cases er
theorem vb_inE {k : Nat} (hr : Room k X.A) (hx : PE X (.Name x p2) (tVar i)) (hb : VE X c EK b mb) (hm : behindInMarks .In (.Name x p2) = false := by with_unfolding_all rfl) : VE X c EK (.Compare b [.In] [.Name x p2] pos) (bIn false i mb) := ⟨vb_in false hr hx hb rfl hm⟩
theorem vb_notinE {k : Nat} (hr : Room k X.A) (hx : PE X (.Name x p2) (tVar i)) (hb : VE X c EK b mb) (hm : behindInMarks .NotIn (.Name x p2) = false := by with_unfolding_all rfl) : VE X c EK (.Compare b [.NotIn] [.Name x p2] pos) (bIn true i mb) := ⟨vb_in true hr hx hb rfl hm⟩
/-- the truth of x -/
def bTru (i : Nat) : Mo Bool := Mo.bind (peek i) fun d => Mo.lift (W.opt (truD d))
theorem vb_tru (hx : PE X (.Name x p2) (tVar i)) : VT X c EK (.Name x p2) (bTru i) := by
  refine ⟨PT.imp (pt_truth hx (by intro _; rfl)) fun σ H Q ⟨M, env, Y, rp, w⟩ => ?_⟩
  obtain ⟨d, ed, q1⟩ := peek_run w
  obtain ⟨v, hv, bw⟩ := rp.peek ed
  obtain ⟨r, er, q2⟩ := opt_run q1
  refine ⟨v, hv, r, ?_, q2 M H .refl rp⟩
  cases bw with
  | at_ h => exact tru_at h er
  | l ea al => cases er; exact .inl ⟨_, SqL.of ea, by rw [al.emp]⟩
/-- tuple(x) -/
def bTup (i : Nat) : Mo PyData := Mo.bind (peek i) fun d => Mo.lift (W.opt (tupleD [d]))
theorem vb_tuple (hg : Gl X "tuple") (hm : X.mg "tuple" = none) (hx : PE X (.Name x p2) (tVar i)) (hs : starEach [.Name x p2] X.env = (false, eval (.Name x p2) X.env) :: starEach [] X.env := by rfl) : VE X c EK (.Call (.Name "tuple" p) [.Name x p2] [] pos) (bTup i) := by
  refine ⟨PE.imp (pe_callTy (call_tuple_ofF.or call_tupleT) hg hm (by decide +kernel) (pa_cons hx pa_nil hs) (he := hs)) fun σ H Q ⟨M, env, Y, rp, w⟩ => ?_⟩
  obtain ⟨d, ed, q1⟩ := peek_run w
  obtain ⟨v, hv, bw⟩ := rp.peek ed
  obtain ⟨r, er, q2⟩ := opt_run q1
  refine ⟨v, hv, ?_⟩
  unfold tupleD at er
  split at er
  · rename_i xs z
    cases er
    obtain ⟨a, vs, rfl, _, al, hq, _⟩ := bw.seq xs (.inl (by injection z))
    exact .inl ⟨_, _, rfl, hq (by injection z), fun l o hl ho => q2 _ M _ (.of (.new hl)) (rp.kp1 (.new hl)) (.newTup hl ho al)⟩
  · rename_i xs z
    cases er
    obtain ⟨a, vs, rfl, _, al, _, hq⟩ := bw.seq xs (.inr (by injection z))
    have hq := hq (by injection z)
    exact .inr ⟨_, _, rfl, hq.1, q2 _ M H .refl rp (.tup hq al)⟩
  · cases er
/-- list(x) -/
def bLst (i : Nat) : Mo (List PyData) := Mo.bind (peek i) fun d => Mo.lift (W.opt (listD [d]))
theorem vb_list (hg : Gl X "list") (hm : X.mg "list" = none) (hx : PE X (.Name x p2) (tVar i)) (hs : starEach [.Name x p2] X.env = (false, eval (.Name x p2) X.env) :: starEach [] X.env := by rfl) : VF X c EK (.Call (.Name "list" p) [.Name x p2] [] pos) (bLst i) := by
  refine ⟨PE.imp (pe_callTy call_list_of hg hm (by decide +kernel) (pa_cons hx pa_nil hs) (he := hs)) fun σ H Q ⟨M, env, Y, rp, w⟩ => ?_⟩
  obtain ⟨d, ed, q1⟩ := peek_run w
  obtain ⟨v, hv, bw⟩ := rp.peek ed
  obtain ⟨r, er, q2⟩ := opt_run q1
  refine ⟨v, hv, ?_⟩
  unfold listD at er
  split at er
  · rename_i z
    cases er
    obtain ⟨a, vs, rfl, hq, al, _⟩ := bw.seq _ (.inl (by injection z))
    exact ⟨_, _, rfl, hq, fun l hl => q2 _ _ _ _ (.tmpNew hl) (rp.tmpNew hl) (al.stp (.tmpNew hl))⟩
  · rename_i z
    cases er
    obtain ⟨a, vs, rfl, hq, al, _⟩ := bw.seq _ (.inr (by injection z))
    exact ⟨_, _, rfl, hq, fun l hl => q2 _ _ _ _ (.tmpNew hl) (rp.tmpNew hl) (al.stp (.tmpNew hl))⟩
  · cases er
end
end
end VL

set_option Elab.async false
set_option linter.all false
set_option maxRecDepth 100000
set_option maxHeartbeats 1000000
/-! The value layer: slots are set, one's own lists are changed. -/
namespace VL
noncomputable section
open PySem PySem.Spec PyProof.Rows L2 GxR GA KR
variable {T : List Addr} {ix : Bool} {X : Cx} {c : Ctx T ix} {EK : XK}
section
variable {K : PySem.W.Frag} {σ : L2.St} {M : Addr → Prop} {H : Hp} {env : En} {Y Z : Tmp} {i : Nat} {d : PyData} {v : V}
theorem getD_set {σ : L2.St} {i j : Nat} {o : Option V} (hi : i < σ.length) : (σ.set i o).getD j none = if j = i then o else σ.getD j none := by
  by_cases h : j = i
  · rw [if_pos h, h]
    simp [List.getD_eq_getElem?_getD, List.getElem?_set, hi]
  · rw [if_neg h]
    simp [List.getD_eq_getElem?_getD, List.getElem?_set, Ne.symm h]
/-- a slot is set: to data, to nothing, to temporaries -/
theorem Rp.setS (r : Rp K c σ M H env Z) (hi : i < env.length) {ov : Option V} {s : Sl} {os : List Addr} (hs : SlAt ix K c.S M H ov s os) (nd : os.Nodup) (ho : ∀ a ∈ os, (∃ vs, (a, vs) ∈ Z) ∧ ∀ p ∈ Y, p.1 ≠ a) (hY : ∀ p ∈ Y, p ∈ Z) (ndY : (Y.map (·.1)).Nodup) :
    Rp K c (σ.set i ov) M H (env.set i s) Y := by
  obtain ⟨o, h1, h2, h3, h4⟩ := r.own
  have hl : i < σ.length := by rw [← r.len]; exact hi
  have nz : ∀ j a, a ∈ o j → a ∉ os := fun j a z y => by
    obtain ⟨⟨vs, hz⟩, _⟩ := ho a y
    exact (h4 j a z).2 _ hz rfl
  refine ⟨by rw [List.length_set, List.length_set]; exact r.len, ⟨fun j => if j = i then os else o j, fun j => ?_, fun j k a => ?_, fun j => ?_, fun j a z => ?_⟩, fun p hp => r.tmp p (hY p hp), ndY, r.mx, r.al, r.kp, r.tb, r.st⟩
  · rw [sAt_set hi, getD_set hl]
    dsimp only
    by_cases e : j = i
    · rw [if_pos e, if_pos e, if_pos e]; exact hs
    · rw [if_neg e, if_neg e, if_neg e]; exact h1 j
  · dsimp only
    by_cases e : j = i
    · rw [if_pos e]
      by_cases e' : k = i
      · intro _ _; rw [e, e']
      · rw [if_neg e']; exact fun y z => absurd y (nz k a z)
    · rw [if_neg e]
      by_cases e' : k = i
      · rw [if_pos e']; exact fun z y => absurd y (nz j a z)
      · rw [if_neg e']; exact h2 j k a
  · dsimp only
    by_cases e : j = i
    · rw [if_pos e]; exact nd
    · rw [if_neg e]; exact h3 j
  · dsimp only at z
    by_cases e : j = i
    · rw [if_pos e] at z
      obtain ⟨⟨vs, hz⟩, hy⟩ := ho a z
      exact ⟨(r.tmp _ hz).2.2, hy⟩
    · rw [if_neg e] at z; exact ⟨(h4 j a z).1, fun p hp => (h4 j a z).2 p (hY p hp)⟩
theorem Rp.setD (r : Rp K c σ M H env Y) (hi : i < env.length) (a : At ix K M H v d) : Rp K c (σ.set i (some v)) M H (env.set i (.d d)) Y := r.setS hi (.d a) .nil (fun a z => nomatch z) (fun _ h => h) r.nd
theorem Rp.setNo (r : Rp K c σ M H env Y) (hi : i < env.length) {o : Option V} : Rp K c (σ.set i o) M H (env.set i .no) Y := r.setS hi .no .nil (fun a z => nomatch z) (fun _ h => h) r.nd
theorem Rp.setL {a : Addr} {vs : List V} {ds : List PyData} (r : Rp K c σ M H env ((a, vs) :: Y)) (hi : i < env.length) (al : AtL ix K M H vs ds) : Rp K c (σ.set i (some (.ref a))) M H (env.set i (.l ds)) Y := by
  have ht := r.tmp _ List.mem_cons_self
  have nd := r.nd
  rw [List.map_cons, List.nodup_cons] at nd
  refine r.setS hi (.l ht.1 al ht.2.1) (List.nodup_cons.mpr ⟨(fun z => nomatch z), .nil⟩) (fun b z => ?_) (fun _ h => List.mem_cons_of_mem _ h) nd.2
  rw [List.mem_singleton.mp z]
  exact ⟨⟨vs, List.mem_cons_self⟩, fun p hp e => nd.1 (List.mem_map.mpr ⟨p, hp, e⟩)⟩
/-- the newest temporaries, a list of lists -/
theorem Rp.setLL {a : Addr} {Z1 : Tmp} {dss : List (List PyData)} (r : Rp K c σ M H env ((a, Z1.map fun p => V.ref p.1) :: (Z1 ++ Y))) (hi : i < env.length) (al : LLs ix K M H (Z1.map (·.1)) dss) : Rp K c (σ.set i (some (.ref a))) M H (env.set i (.ll dss)) Y := by
  have ht := r.tmp _ List.mem_cons_self
  have nd := r.nd
  rw [List.map_cons, List.nodup_cons, List.map_append, List.nodup_append] at nd
  obtain ⟨n1, n2, n3, n4⟩ := nd
  have e : (Z1.map fun p => V.ref p.1) = (Z1.map (·.1)).map V.ref := by rw [List.map_map]; rfl
  refine r.setS hi (.ll (by rw [← e]; exact ht.1) al ht.2.1) (List.nodup_cons.mpr ⟨fun z => n1 (List.mem_append_left _ z), n2⟩) (fun b z => ?_) (fun _ h => List.mem_cons_of_mem _ (List.mem_append_right _ h)) n3
  rcases List.mem_cons.mp z with y | y
  · rw [y]
    exact ⟨⟨_, List.mem_cons_self⟩, fun p hp e => n1 (List.mem_append_right _ (List.mem_map.mpr ⟨p, hp, e⟩))⟩
  · obtain ⟨p, hp, rfl⟩ := List.mem_map.mp y
    exact ⟨⟨p.2, List.mem_cons_of_mem _ (List.mem_append_left _ hp)⟩, fun q hq e => n4 p.1 (List.mem_map.mpr ⟨p, hp, rfl⟩) q.1 (List.mem_map.mpr ⟨q, hq, rfl⟩) e.symm⟩
/-- one's own thing at a is written -/
theorem Rp.put (r : Rp K c σ M H env Y) (hi : i < env.length) {a : Addr} {o o' : HO} {os : List Addr} (hov : SlAt ix K c.S M H (σ.getD i none) (sAt env i) os) (ho : a ∈ os) (hu : ∀ os', SlAt ix K c.S M H (σ.getD i none) (sAt env i) os' → os' = os)
    (e : H a = some o) (f : mutO o = true) {s : Sl} (hs : SlAt ix K c.S M (upd H a o') (σ.getD i none) s os) : Rp K c σ M (upd H a o') (env.set i s) Y ∧ Stp M H M (upd H a o') := by
  obtain ⟨w, h1, h2, h3, h4⟩ := r.own
  have ew := hu _ (h1 i)
  have hl : i < σ.length := by rw [← r.len]; exact hi
  have ha : a ∈ w i := by rw [ew]; exact ho
  have m : M a := (h1 i).mem a ha
  have h0 := (h4 i a ha).1
  have stp : Stp M H M (upd H a o') := .of (Kp.put m e f)
  refine ⟨⟨by rw [List.length_set]; exact r.len, ⟨w, fun j => ?_, h2, h3, h4⟩, fun p hp => ?_, r.nd, r.mx, fun b z => ?_, r.kp.putNew h0 e f, fun P hP => stp.k.tb P (r.tb P hP), fun b l z => ?_⟩, stp⟩
  · rw [sAt_set hi]
    by_cases q : j = i
    · rw [if_pos q, q, ew]; exact hs
    · rw [if_neg q]
      exact (h1 j).stp stp fun b z => ⟨(h1 j).mem b z, upd_ne fun y => q (h2 j i b z (by rw [y]; exact ha))⟩
  · obtain ⟨z1, z2, z3⟩ := r.tmp p hp
    exact ⟨by rw [upd_ne ((h4 i a ha).2 p hp)]; exact z1, z2, z3⟩
  · by_cases q : b = a
    · rw [q, upd_same]; exact fun y => by cases y
    · rw [upd_ne q]; exact r.al b z
  · obtain ⟨⟨x1, x2, ns, y1, y2, y3, y4, y5⟩, z1, z2, z3, z4⟩ := r.st b l z
    refine ⟨⟨x1, x2, ns, ?_, ?_, y3, y4, y5⟩, z1, z2, z3, z4⟩
    · rw [upd_ne fun y => z2 (by rw [y]; exact h0)]; exact y1
    · rw [upd_ne fun y => z3 (by rw [y]; exact h0)]; exact y2
theorem slot_lt {s : Sl} (e : sAt env i = s) (h : s ≠ .no) : i < env.length := sAt_lt (by rw [e]; exact h)
/-- the list of one's own in slot i -/
theorem Rp.ownL {xs : List PyData} (r : Rp K c σ M H env Y) (e : sAt env i = .l xs) : ∃ a vs, σ[i]? = some (some (.ref a)) ∧ H a = some (.lst vs) ∧ AtL ix K M H vs xs ∧
    ∀ vs' ds', AtL ix K M H vs' ds' → Rp K c σ M (upd H a (.lst vs')) (env.set i (.l ds')) Y ∧ Stp M H M (upd H a (.lst vs')) := by
  obtain ⟨o, h1, h2, h3, h4⟩ := r.own
  have hs := h1 i
  have hi := slot_lt e fun z => by cases z
  rw [e] at hs
  generalize hv : σ.getD i none = ov at hs
  generalize ho : o i = os at hs
  cases hs with
  | @l a vs _ ea al m =>
    refine ⟨a, vs, slot_val hv, ea, al, fun vs' ds' al' => ?_⟩
    refine r.put hi (os := [a]) (by rw [hv, e]; exact .l ea al m) List.mem_cons_self (fun os' h => ?_) ea rfl ?_
    · rw [hv, e] at h
      cases h
      rfl
    · rw [hv]
      exact .l upd_same (al'.stp (.of (Kp.put m ea rfl))) m
theorem LLs.get {as : List Addr} {xss : List (List PyData)} {k : Nat} {xs : List PyData} (h : LLs ix K M H as xss) (e : xss[k]? = some xs) : ∃ b vs, as[k]? = some b ∧ H b = some (.lst vs) ∧ AtL ix K M H vs xs ∧ M b := by
  induction h generalizing k with
  | nil => simp at e
  | cons e1 q m _ ih =>
    cases k with
    | zero => simp at e; subst e; exact ⟨_, _, rfl, e1, q, m⟩
    | succ k => exact ih (by simpa using e)
theorem LLs.length {as : List Addr} {xss : List (List PyData)} (h : LLs ix K M H as xss) : as.length = xss.length := by
  induction h with
  | nil => rfl
  | cons _ _ _ _ ih => exact congrArg (· + 1) ih
theorem LLs.put {as : List Addr} {xss : List (List PyData)} {k : Nat} {b : Addr} {vs' : List V} {ds' : List PyData} (h : LLs ix K M H as xss) (nd : as.Nodup) (e : as[k]? = some b) (s : Stp M H M (upd H b (.lst vs'))) (al : AtL ix K M (upd H b (.lst vs')) vs' ds') :
    LLs ix K M (upd H b (.lst vs')) as (xss.set k ds') := by
  induction h generalizing k with
  | nil => simp at e
  | @cons b' vs xs as xss e1 q m r ih =>
    rw [List.nodup_cons] at nd
    cases k with
    | zero =>
      simp at e
      subst e
      rw [List.set_cons_zero]
      exact .cons upd_same al m (r.stp s fun a z => ⟨r.mem a z, upd_ne fun y => nd.1 (by rw [← y]; exact z)⟩)
    | succ k =>
      rw [List.set_cons_succ]
      have e' : as[k]? = some b := by simpa using e
      refine .cons ?_ (q.stp s) m (ih nd.2 e')
      rw [upd_ne fun y => nd.1 (by rw [y]; exact List.mem_of_getElem? e')]
      exact e1
/-- a list of lists of one's own -/
theorem Rp.ownLL {xss : List (List PyData)} (r : Rp K c σ M H env Y) (e : sAt env i = .ll xss) : ∃ (a : Addr) (as : List Addr), σ[i]? = some (some (.ref a)) ∧ H a = some (.lst (as.map V.ref)) ∧ as.length = xss.length ∧
    ∀ k xs, xss[k]? = some xs → ∃ b vs, as[k]? = some b ∧ H b = some (.lst vs) ∧ AtL ix K M H vs xs ∧
      ∀ vs' ds', AtL ix K M H vs' ds' → Rp K c σ M (upd H b (.lst vs')) (env.set i (.ll (xss.set k ds'))) Y ∧ Stp M H M (upd H b (.lst vs')) := by
  obtain ⟨o, h1, h2, h3, h4⟩ := r.own
  have hs := h1 i
  have hi := slot_lt e fun z => by cases z
  have nd := h3 i
  rw [e] at hs
  generalize hv : σ.getD i none = ov at hs
  generalize ho : o i = os at hs nd
  cases hs with
  | @ll a as _ ea q m =>
    refine ⟨a, as, slot_val hv, ea, q.length, fun k xs hk => ?_⟩
    obtain ⟨b, vs, hb, eb, al, mb⟩ := q.get hk
    refine ⟨b, vs, hb, eb, al, fun vs' ds' al' => ?_⟩
    rw [List.nodup_cons] at nd
    have hmem := List.mem_of_getElem? hb
    have stp : Stp M H M (upd H b (.lst vs')) := .of (Kp.put mb eb rfl)
    refine r.put hi (os := a :: as) (by rw [hv, e]; exact .ll ea q m) (List.mem_cons_of_mem _ hmem) (fun os' h => ?_) eb rfl ?_
    · rw [hv, e] at h
      cases h with
      | ll ea' _ _ =>
        rw [ea] at ea'
        injection ea' with z
        injection z with z
        rw [LLs.uniq z]
    · rw [hv]
      refine .ll ?_ (q.put nd.2 hb stp (al'.stp stp)) m
      rw [upd_ne fun y => nd.1 (by rw [y]; exact hmem)]
      exact ea
end

/-! ### methods of one's own list -/
section
variable {i : Nat} {x : Str} {apos p2 pos : Pos} {e : Expr} {m : Mo PyData}
def appL (i : Nat) (f : List PyData → Option (List PyData × PyData)) : Mo PyData := fun env => match sAt env i with
  | .l xs => (W.opt (f xs)).bind fun r => W.ret (r.2, env.set i (.l r.1))
  | _ => W.fail
def isL (i : Nat) : Mo Unit := fun env => match sAt env i with
  | .l _ => W.ret ((), env)
  | _ => W.fail
theorem isL_run {α : Type} {env : En} {f : Unit → Mo α} {R : α × En → Prop} {E : Er → Prop} (h : (Mo.bind (isL i) f env).run R E) : ∃ xs, sAt env i = .l xs ∧ (f () env).run R E := by
  unfold Mo.bind isL at h
  cases q : sAt env i with
  | l xs => rw [q] at h; exact ⟨xs, rfl, h⟩
  | _ => rw [q] at h; exact h.elim
theorem appL_run {env : En} {f : List PyData → Option (List PyData × PyData)} {R : PyData × En → Prop} {E : Er → Prop} (h : (appL i f env).run R E) : ∃ xs r, sAt env i = .l xs ∧ f xs = some r ∧ R (r.2, env.set i (.l r.1)) := by
  unfold appL at h
  cases q : sAt env i with
  | l xs =>
    rw [q] at h
    have h : ((W.opt (f xs)).bind fun r => W.ret (r.2, env.set i (.l r.1))).run R E := h
    cases w : f xs with
    | none => rw [w] at h; exact h.elim
    | some r => rw [w] at h; exact ⟨xs, r, rfl, w, h⟩
  | _ => rw [q] at h; exact h.elim
/-- x.append(e) -/
def eAppend (i : Nat) (m : Mo PyData) : Mo PyData := Mo.bind (isL i) fun _ => Mo.bind m fun d => appL i fun xs => if Lt_ xs.length then some (xs ++ [d], .none) else none
theorem ve_append (hx : PE X (.Name x p2) (tVar i)) (h : VE X c EK e m)
    (hbase : attributeBase (.Name x p2) "append" X.env (eval (.Name x p2) X.env) = eval (.Name x p2) X.env := by rfl)
    (hfew : ((backTo pos (starEach [e] X.env)).all (fun x => !x.1) && (backToKw pos (keywordEach [] X.env)).all (fun x => x.1.isSome)
      && decide (([e] : List Expr).length + ([] : List Keyword).length + (if ([] : List Keyword).isEmpty then 0 else 1) < 30)) = true := by rfl)
    (hline : (apos.endLine == pos.line) = true := by rfl) (hs : starEach [e] X.env = (false, eval e X.env) :: starEach [] X.env := by rfl) :
    VE X c EK (.Call (.Attribute (.Name x p2) "append" apos) [e] [] pos) (eAppend i m) := by
  refine ⟨PE.imp (pe_bm PySem.F.plainAttrs_list PySem.F.slot_list_append PySem.F.type_list_append mt_append hx (pa_cons h.pe pa_nil hs) hbase hfew hline hs rfl) fun σ H Q ⟨M, env, Y, rp, w⟩ => ?_⟩
  obtain ⟨xs0, e0, w⟩ := isL_run w
  obtain ⟨a, vs0, hv, ea0, al0, _⟩ := rp.ownL e0
  refine ⟨_, hv, .inl ⟨rfl, _, SqL.of ea0⟩, ?_⟩
  refine seq_V w rp (fun _ h => h) fun d env1 u M1 H1 s1 rp1 a1 q1 => ?_
  obtain ⟨xs, r, e1, er, q2⟩ := appL_run q1
  obtain ⟨a', vs, hv', ea, al, put⟩ := rp1.ownL e1
  rw [hv] at hv'
  injection hv' with z
  injection z with z
  injection z with z
  subst z
  split at er
  · rename_i hz
    cases er
    obtain ⟨rp2, s2⟩ := put (vs ++ [u]) (xs ++ [d]) (al.append (.one a1))
    exact ⟨_, _, _, rfl, rfl, ea, by rw [al.length]; exact hz, q2 _ M1 _ (s1.trans s2) rp2 .non⟩
  · cases er
/-- x.extend(e) -/
def eExtend (i : Nat) (m : Mo PyData) : Mo PyData := Mo.bind (isL i) fun _ => Mo.bind m fun d => appL i fun xs => match d with
  | .list ys => if Le_ (xs.length + ys.length) then some (xs ++ ys, .none) else none
  | .tuple ys => if Le_ (xs.length + ys.length) then some (xs ++ ys, .none) else none
  | _ => none
theorem ve_extend (hx : PE X (.Name x p2) (tVar i)) (h : VE X c EK e m)
    (hbase : attributeBase (.Name x p2) "extend" X.env (eval (.Name x p2) X.env) = eval (.Name x p2) X.env := by rfl)
    (hfew : ((backTo pos (starEach [e] X.env)).all (fun x => !x.1) && (backToKw pos (keywordEach [] X.env)).all (fun x => x.1.isSome)
      && decide (([e] : List Expr).length + ([] : List Keyword).length + (if ([] : List Keyword).isEmpty then 0 else 1) < 30)) = true := by rfl)
    (hline : (apos.endLine == pos.line) = true := by rfl) (hs : starEach [e] X.env = (false, eval e X.env) :: starEach [] X.env := by rfl) :
    VE X c EK (.Call (.Attribute (.Name x p2) "extend" apos) [e] [] pos) (eExtend i m) := by
  have both : MtM X "list.extend" (fun v vs H Q => rExtend v vs H Q ∨ rExtendT X.K v vs H Q) := by
    intro pins s σ H v vs u us Q I r1 r2 h
    rcases h with h | h
    · exact mt_extend pins s σ H v vs u us Q I r1 r2 h
    · exact mt_extendT pins s σ H v vs u us Q I r1 r2 h
  refine ⟨PE.imp (pe_bm PySem.F.plainAttrs_list PySem.F.slot_list_extend PySem.F.type_list_extend both hx (pa_cons h.pe pa_nil hs) hbase hfew hline hs rfl) fun σ H Q ⟨M, env, Y, rp, w⟩ => ?_⟩
  obtain ⟨xs0, e0, w⟩ := isL_run w
  obtain ⟨a, vs0, hv, ea0, al0, _⟩ := rp.ownL e0
  refine ⟨_, hv, .inl ⟨rfl, _, SqL.of ea0⟩, ?_⟩
  refine seq_V w rp (fun _ h => h) fun d env1 u M1 H1 s1 rp1 a1 q1 => ?_
  obtain ⟨xs, r, e1, er, q2⟩ := appL_run q1
  obtain ⟨a', vs, hv', ea, al, put⟩ := rp1.ownL e1
  rw [hv] at hv'
  injection hv' with z
  injection z with z
  injection z with z
  subst z
  split at er
  · split at er
    · rename_i ys hz
      cases er
      cases a1 with
      | lst eb nb ab =>
        obtain ⟨rp2, s2⟩ := put _ _ (al.append ab)
        exact .inl ⟨_, _, _, _, rfl, rfl, ea, eb, by rw [al.length, ab.length]; exact hz, q2 _ M1 _ (s1.trans s2) rp2 .non⟩
    · cases er
  · split at er
    · rename_i ys hz
      cases er
      cases a1 with
      | tup eb ab =>
        obtain ⟨rp2, s2⟩ := put _ _ (al.append ab)
        exact .inr ⟨_, _, _, _, rfl, rfl, ea, eb.1, by rw [al.length, ab.length]; exact hz, q2 _ M1 _ (s1.trans s2) rp2 .non⟩
    · cases er
  · cases er
/-- x.pop(), x.pop(e) -/
def ePop (i : Nat) : Mo PyData := Mo.bind (isL i) fun _ => appL i fun xs => xs[xs.length - 1]?.bind fun d => some (xs.dropLast, d)
theorem AtL.dropLast {K : PySem.W.Frag} {M : Addr → Prop} {H : Hp} {vs : List V} {ds : List PyData} (h : AtL ix K M H vs ds) : AtL ix K M H vs.dropLast ds.dropLast := by
  rw [List.dropLast_eq_take, List.dropLast_eq_take, h.length]
  exact h.take _
theorem ve_pop (hx : PE X (.Name x p2) (tVar i)) (hbase : attributeBase (.Name x p2) "pop" X.env (eval (.Name x p2) X.env) = eval (.Name x p2) X.env := by rfl) (hline : (apos.endLine == pos.line) = true := by rfl) :
    VE X c EK (.Call (.Attribute (.Name x p2) "pop" apos) [] [] pos) (ePop i) := by
  refine ⟨PE.imp (pe_bm0 PySem.F.plainAttrs_list PySem.F.slot_list_pop PySem.F.type_list_pop mt_pop hx hbase hline) fun σ H Q ⟨M, env, Y, rp, w⟩ => ?_⟩
  obtain ⟨xs0, e0, w⟩ := isL_run w
  obtain ⟨xs, r, e1, er, q2⟩ := appL_run w
  obtain ⟨a, vs, hv, ea, al, put⟩ := rp.ownL e1
  cases q : xs[xs.length - 1]? with
  | none => rw [q] at er; cases er
  | some d =>
    rw [q] at er
    cases er
    obtain ⟨v, hv', av⟩ := al.get' q
    rw [← al.length] at hv'
    obtain ⟨rp2, s2⟩ := put _ _ al.dropLast
    exact ⟨_, hv, .inl ⟨rfl, _, SqL.of ea⟩, _, _, _, rfl, rfl, ea, hv', q2 _ M _ s2 rp2 (av.stp s2)⟩
def ePopAt (i : Nat) (m : Mo PyData) : Mo PyData := Mo.bind (isL i) fun _ => Mo.bind m fun k => appL i fun xs => match k with
  | .int j => if P63 j then (seqIndex? j xs.length).bind fun n => xs[n]?.bind fun d => some (xs.eraseIdx n, d) else none
  | _ => none
theorem ve_popAt (hx : PE X (.Name x p2) (tVar i)) (h : VE X c EK e m)
    (hbase : attributeBase (.Name x p2) "pop" X.env (eval (.Name x p2) X.env) = eval (.Name x p2) X.env := by rfl)
    (hfew : ((backTo pos (starEach [e] X.env)).all (fun x => !x.1) && (backToKw pos (keywordEach [] X.env)).all (fun x => x.1.isSome)
      && decide (([e] : List Expr).length + ([] : List Keyword).length + (if ([] : List Keyword).isEmpty then 0 else 1) < 30)) = true := by rfl)
    (hline : (apos.endLine == pos.line) = true := by rfl) (hs : starEach [e] X.env = (false, eval e X.env) :: starEach [] X.env := by rfl) :
    VE X c EK (.Call (.Attribute (.Name x p2) "pop" apos) [e] [] pos) (ePopAt i m) := by
  refine ⟨PE.imp (pe_bm PySem.F.plainAttrs_list PySem.F.slot_list_pop PySem.F.type_list_pop mt_popAt hx (pa_cons h.pe pa_nil hs) hbase hfew hline hs rfl) fun σ H Q ⟨M, env, Y, rp, w⟩ => ?_⟩
  obtain ⟨xs0, e0, w⟩ := isL_run w
  obtain ⟨a, vs0, hv, ea0, al0, _⟩ := rp.ownL e0
  refine ⟨_, hv, .inl ⟨rfl, _, SqL.of ea0⟩, ?_⟩
  refine seq_V w rp (fun _ h => h) fun d env1 u M1 H1 s1 rp1 a1 q1 => ?_
  obtain ⟨xs, r, e1, er, q2⟩ := appL_run q1
  obtain ⟨a', vs, hv', ea, al, put⟩ := rp1.ownL e1
  rw [hv] at hv'
  injection hv' with z
  injection z with z
  injection z with z
  subst z
  split at er
  · rename_i j
    split at er
    · rename_i hz
      cases a1
      cases q : seqIndex? j xs.length with
      | none => rw [q] at er; cases er
      | some n =>
        rw [q] at er
        have er : (xs[n]?.bind fun d => some (xs.eraseIdx n, d)) = some r := er
        cases q' : xs[n]? with
        | none => rw [q'] at er; cases er
        | some d' =>
          rw [q'] at er
          cases er
          obtain ⟨v, hv2, av⟩ := al.get' q'
          obtain ⟨rp2, s2⟩ := put _ _ (al.erase n)
          exact ⟨_, _, _, _, _, rfl, rfl, ea, hz.1, hz.2, by rw [al.length]; exact q, hv2, q2 _ M1 _ (s1.trans s2) rp2 (av.stp s2)⟩
    · cases er
  · cases er
end
end
end VL

set_option Elab.async false
set_option linter.all false
set_option maxRecDepth 100000
set_option maxHeartbeats 1000000
/-! The value layer: statements, loops. -/
namespace VL
noncomputable section
open PySem PySem.Spec PyProof.Rows L2 GxR GA KR
variable {T : List Addr} {ix : Bool} {X : Cx} {c : Ctx T ix} {EK : XK}
inductive Fl where
  | nx
  | bk
  | ct
  | rt (d : PyData)
abbrev SM := En → W (Fl × En)
def tS (K : PySem.W.Frag) (mg : Str → Option Value) (c : Ctx T ix) (EK : XK) (m : SM) : TS := fun D σ H => ∃ M env, Rp K c σ M H env [] ∧
  (m env).run (fun r => ∀ σ' M' H', Stp M H M' H' → Rp K c σ' M' H' r.2 [] → match r.1 with
    | .nx => D.nx σ' H'
    | .bk => D.bk σ' H'
    | .ct => D.ct σ' H'
    | .rt d => ∀ v, At ix K M' H' v d → D.rt v H') (EX mg c EK)
structure VS (X : Cx) (c : Ctx T ix) (EK : XK) (st : Stmt) (m : SM) : Prop where
  ps : PS X st (tS X.K X.mg c EK m)
structure VSs (X : Cx) (c : Ctx T ix) (EK : XK) (st : List Stmt) (m : SM) : Prop where
  ps : PSs X st (tS X.K X.mg c EK m)
theorem PS.imp {X : Cx} {e : Stmt} {t t' : TS} (h : PS X e t) (i : ∀ D σ H, t' D σ H → t D σ H) : PS X e t' := ⟨fun pins s σ H D I q => h.run pins s σ H D I (i _ _ _ q)⟩
theorem PSs.imp {X : Cx} {e : List Stmt} {t t' : TS} (h : PSs X e t) (i : ∀ D σ H, t' D σ H → t D σ H) : PSs X e t' := ⟨fun pins s σ H D I q => h.run pins s σ H D I (i _ _ _ q)⟩
def sNil : SM := fun env => W.ret (.nx, env)
def sSeq (m n : SM) : SM := fun env => (m env).bind fun r => match r.1 with
  | .nx => n r.2
  | .bk => W.ret (.bk, r.2)
  | .ct => W.ret (.ct, r.2)
  | .rt d => W.ret (.rt d, r.2)
/-- from where a step ends -/
theorem tS.from_ {K : PySem.W.Frag} {mg : Str → Option Value} {m : SM} {D : Ends} {σ : L2.St} {M M0 : Addr → Prop} {H H0 : Hp} {env : En} (s : Stp M0 H0 M H) (r : Rp K c σ M H env [])
    (q : (m env).run (fun r => ∀ σ' M' H', Stp M0 H0 M' H' → Rp K c σ' M' H' r.2 [] → match r.1 with
    | .nx => D.nx σ' H'
    | .bk => D.bk σ' H'
    | .ct => D.ct σ' H'
    | .rt d => ∀ v, At ix K M' H' v d → D.rt v H') (EX mg c EK)) : tS K mg c EK m D σ H :=
  ⟨M, env, r, (m env).mono (fun r h σ' M' H' s' => h σ' M' H' (s.trans s')) (fun _ h => h) q⟩
section
variable {st : Stmt} {rest : List Stmt} {m n : SM} {e : Expr} {me : Mo PyData} {pos : Pos}
theorem vss_nil : VSs X c EK [] sNil := ⟨PSs.imp pss_nil fun D σ H ⟨M, env, rp, q⟩ => q σ M H .refl rp⟩
theorem vss_cons (h : VS X c EK st m) (r : VSs X c EK rest n) : VSs X c EK (st :: rest) (sSeq m n) := by
  refine ⟨PSs.imp (pss_cons h.ps r.ps) fun D σ H ⟨M, env, rp, q⟩ => ?_⟩
  refine ⟨M, env, rp, (m env).mono (fun r h σ' M' H' s' rp' => ?_) (fun _ h => h) q⟩
  obtain ⟨f, env'⟩ := r
  cases f with
  | nx => exact .from_ s' rp' h
  | bk => exact h σ' M' H' s' rp'
  | ct => exact h σ' M' H' s' rp'
  | rt d => exact h σ' M' H' s' rp'
theorem vss_one (h : VS X c EK st m) : VSs X c EK [st] m := ⟨pss_one h.ps⟩
def sExpr (me : Mo PyData) : SM := fun env => (me env).bind fun r => W.ret (.nx, r.2)
theorem vs_expr (h : VE X c EK e me) (hs : swapsWith e none pos.line X.env = pure false := by rfl) : VS X c EK (.Expr e pos) (sExpr me) := by
  refine ⟨PS.imp (ps_expr h.pe hs) fun D σ H ⟨M, env, rp, q⟩ => ?_⟩
  exact ⟨M, env, [], rp, (me env).mono (fun r h v M' H' s' rp' _ => h σ M' H' s' rp') (fun _ h => h) q⟩
def sRet (me : Mo PyData) : SM := fun env => (me env).bind fun r => W.ret (.rt r.1, r.2)
theorem vs_ret (h : VE X c EK e me) : VS X c EK (.Return (some e) pos) (sRet me) := by
  refine ⟨PS.imp (ps_ret h.pe) fun D σ H ⟨M, env, rp, q⟩ => ?_⟩
  exact ⟨M, env, [], rp, (me env).mono (fun r h v M' H' s' rp' a => h σ M' H' s' rp' v a) (fun _ h => h) q⟩
def sRetN : SM := fun env => W.ret (.rt .none, env)
theorem vs_retN : VS X c EK (.Return none pos) sRetN := ⟨PS.imp ps_retN fun D σ H ⟨M, env, rp, q⟩ => q σ M H .refl rp _ .non⟩
theorem vs_pass : VS X c EK (.Pass pos) sNil := ⟨PS.imp ps_pass fun D σ H ⟨M, env, rp, q⟩ => q σ M H .refl rp⟩
def sBreak : SM := fun env => W.ret (.bk, env)
theorem vs_break : VS X c EK (.Break pos) sBreak := ⟨PS.imp ps_break fun D σ H ⟨M, env, rp, q⟩ => q σ M H .refl rp⟩
def sCont : SM := fun env => W.ret (.ct, env)
theorem vs_cont : VS X c EK (.Continue pos) sCont := ⟨PS.imp ps_continue fun D σ H ⟨M, env, rp, q⟩ => q σ M H .refl rp⟩
def sIf (t : Mo Bool) (m n : SM) : SM := fun env => (t env).bind fun r => if r.1 = true then m r.2 else n r.2
theorem vs_if {d : Expr} {a b : List Stmt} {t : Mo Bool} (hc : VT X c EK d t) (ha : VSs X c EK a m) (hb : VSs X c EK b n) : VS X c EK (.If d a b pos) (sIf t m n) := by
  refine ⟨PS.imp (ps_if hc.pt ha.ps hb.ps) fun D σ H ⟨M, env, rp, q⟩ => ?_⟩
  refine ⟨M, env, [], rp, (t env).mono (fun r h M' H' s' rp' => ?_) (fun _ h => h) q⟩
  obtain ⟨b, env'⟩ := r
  cases b with
  | true => rw [if_pos rfl]; exact .from_ s' rp' h
  | false => rw [if_neg Bool.false_ne_true]; exact .from_ s' rp' h
/-! #### assignments -/
def setD (i : Nat) (s : Sl) (env : En) : Option En := if i < env.length then some (env.set i s) else none
def sSet (i : Nat) (me : Mo PyData) : SM := fun env => (me env).bind fun r => (W.opt (setD i (.d r.1) r.2)).bind fun e => W.ret (.nx, e)
theorem wopt_run {α β : Type} {o : Option α} {f : α → W β} {R : β → Prop} {E : Er → Prop} (h : ((W.opt o).bind f).run R E) : ∃ d, o = some d ∧ (f d).run R E := by
  cases o with
  | none => exact h.elim
  | some d => exact ⟨d, rfl, h⟩
theorem setD_some {i : Nat} {s : Sl} {env e : En} (h : setD i s env = some e) : i < env.length ∧ e = env.set i s := by
  unfold setD at h
  split at h
  · rename_i hi; cases h; exact ⟨hi, rfl⟩
  · cases h
theorem vs_setP {i : Nat} (h : PS X st (tAsg (tV X.K X.mg c EK me) (gName i))) : VS X c EK st (sSet i me) := by
  refine ⟨PS.imp h fun D σ H ⟨M, env, rp, q⟩ => ?_⟩
  refine ⟨M, env, [], rp, (me env).mono (fun r h v M' H' s' rp' a => ?_) (fun _ h => h) q⟩
  obtain ⟨e, ee, q'⟩ := wopt_run h
  obtain ⟨hi, rfl⟩ := setD_some ee
  exact q' _ M' H' s' (rp'.setD hi a)
def sSetL (i : Nat) (me : Mo (List PyData)) : SM := fun env => (me env).bind fun r => (W.opt (setD i (.l r.1) r.2)).bind fun e => W.ret (.nx, e)
theorem vs_setF {i : Nat} {me : Mo (List PyData)} (h : PS X st (tAsg (tF X.K X.mg c EK me) (gName i))) : VS X c EK st (sSetL i me) := by
  refine ⟨PS.imp h fun D σ H ⟨M, env, rp, q⟩ => ?_⟩
  refine ⟨M, env, [], rp, (me env).mono (fun r h a vs M' H' s' rp' al => ?_) (fun _ h => h) q⟩
  obtain ⟨e, ee, q'⟩ := wopt_run h
  obtain ⟨hi, rfl⟩ := setD_some ee
  exact q' _ M' H' s' (rp'.setL hi al)
theorem vs_set {i : Nat} {x : Str} {p : Pos} (hN : X.N.Nodup) (h : VE X c EK e me) (hi : X.N[i]? = some x := by rfl) (hx : Loc X.env.scope x := by first | exact Or.inl rfl | exact Or.inr rfl)
    (hs : swapsWith e (some (.Name x p)) pos.line X.env = pure false := by rfl) (hf : X.fn x = true ∨ X.env.scope.names.lookup x = some .local := by first | exact .inl rfl | exact .inr rfl | assumption) : VS X c EK (.Assign [.Name x p] e pos) (sSet i me) :=
  vs_setP (ps_set hN hi hx h.pe hs hf)
theorem vs_setl {i : Nat} {x : Str} {p : Pos} {me : Mo (List PyData)} (hN : X.N.Nodup) (h : VF X c EK e me) (hi : X.N[i]? = some x := by rfl) (hx : Loc X.env.scope x := by first | exact Or.inl rfl | exact Or.inr rfl)
    (hs : swapsWith e (some (.Name x p)) pos.line X.env = pure false := by rfl) (hf : X.fn x = true ∨ X.env.scope.names.lookup x = some .local := by first | exact .inl rfl | exact .inr rfl | assumption) : VS X c EK (.Assign [.Name x p] e pos) (sSetL i me) :=
  vs_setF (ps_set hN hi hx h.pe hs hf)
end
/-! #### targets -/
abbrev GF := PyData → En → Option En
def GSem (K : PySem.W.Frag) (c : Ctx T ix) (t : TG) (is : List Nat) (f : GF) : Prop := ∀ (σ : L2.St) (M : Addr → Prop) (H : Hp) (env : En) (Y : Tmp) (v : V) (d : PyData) (env' : En) (Q : L2.St → Hp → Prop), Rp K c σ M H env Y → At ix K M H v d → f d env = some env' →
  (∀ σ', Rp K c σ' M H env' Y → σ'.length = σ.length → (∀ j, j ∉ is → σ'.getD j none = σ.getD j none) → Q σ' H) → t v σ H Q
def GsSem (K : PySem.W.Frag) (c : Ctx T ix) (t : TGs) (is : List Nat) (f : List PyData → En → Option En) : Prop := ∀ (σ : L2.St) (M : Addr → Prop) (H : Hp) (env : En) (Y : Tmp) (vs : List V) (ds : List PyData) (env' : En) (Q : L2.St → Hp → Prop), Rp K c σ M H env Y → AtL ix K M H vs ds → f ds env = some env' →
  (∀ σ', Rp K c σ' M H env' Y → σ'.length = σ.length → (∀ j, j ∉ is → σ'.getD j none = σ.getD j none) → Q σ' H) → t vs σ H Q
section
variable {K : PySem.W.Frag} {t : TG} {u : TGs} {is js : List Nat} {f : GF} {g : List PyData → En → Option En}
def gN (i : Nat) : GF := fun d env => setD i (.d d) env
theorem gs_name {i : Nat} : GSem K c (gName i) [i] (gN i) := by
  intro σ M H env Y v d env' Q rp a e q
  obtain ⟨hi, rfl⟩ := setD_some e
  have hl : i < σ.length := by rw [← rp.len]; exact hi
  refine q _ (rp.setD hi a) (List.length_set) fun j hj => ?_
  rw [getD_set hl, if_neg fun z => hj (by rw [z]; exact List.mem_cons_self)]
def gNl : List PyData → En → Option En
  | [], env => some env
  | _, _ => none
def gCs (f : GF) (g : List PyData → En → Option En) : List PyData → En → Option En
  | d :: ds, env => (f d env).bind (g ds)
  | [], _ => none
def gTp (n : Nat) (g : List PyData → En → Option En) : GF := fun d env => match d with
  | .tuple ds => if ds.length = n then g ds env else none
  | _ => none
theorem gss_nil : GsSem K c gNil [] gNl := by
  intro σ M H env Y vs ds env' Q rp a e q
  cases a with
  | nil => cases e; exact ⟨rfl, q σ rp rfl fun _ _ => rfl⟩
  | cons _ _ => cases e
theorem gss_cons (h : GSem K c t is f) (r : GsSem K c u js g) : GsSem K c (gCons t u) (is ++ js) (gCs f g) := by
  intro σ M H env Y vs ds env' Q rp a e q
  cases a with
  | nil => cases e
  | @cons v vs d ds a al =>
    have e : (f d env).bind (g ds) = some env' := e
    cases w : f d env with
    | none => rw [w] at e; cases e
    | some env1 =>
      rw [w] at e
      refine ⟨v, vs, rfl, h σ M H env Y v d env1 _ rp a w fun σ1 rp1 l1 s1 => ?_⟩
      refine r σ1 M H env1 Y vs ds env' _ rp1 al e fun σ2 rp2 l2 s2 => q σ2 rp2 (l2.trans l1) fun j hj => ?_
      rw [s2 j fun z => hj (List.mem_append_right _ z), s1 j fun z => hj (List.mem_append_left _ z)]
theorem gs_tup {n : Nat} (h : GsSem K c u is g) : GSem K c (gTup K n u) is (gTp n g) := by
  intro σ M H env Y v d env' Q rp a e q
  unfold gTp at e
  split at e
  · split at e
    · rename_i hn
      cases a with
      | tup qt al => exact ⟨_, _, rfl, qt.1, by rw [al.length]; exact hn, h σ M H env Y _ _ env' Q rp al e q⟩
    · cases e
  · cases e
end
/-- target = value -/
def sAsg (f : GF) (me : Mo PyData) : SM := fun env => (me env).bind fun r => (W.opt (f r.1 r.2)).bind fun e => W.ret (.nx, e)
theorem vs_asg {tg e : Expr} {me : Mo PyData} {t : TG} {is : List Nat} {f : GF} {pos : Pos} (h : VE X c EK e me) (hg : PG X tg t) (gs : GSem X.K c t is f) (hs : swapsWithSole [tg] e pos.line X.env = pure false := by rfl) (hw : swappedStores [tg] e X.env = pure none := by rfl)
    (h1 : (assignEach [tg] X.env).map (·.2) = [assign tg X.env] := by rfl) : VS X c EK (.Assign [tg] e pos) (sAsg f me) := by
  refine ⟨PS.imp (ps_asg h.pe hg hs hw h1) fun D σ H ⟨M, env, rp, q⟩ => ?_⟩
  refine ⟨M, env, [], rp, (me env).mono (fun r h v M' H' s' rp' a => ?_) (fun _ h => h) q⟩
  obtain ⟨e, ee, q'⟩ := wopt_run h
  exact gs σ M' H' _ [] v _ e _ rp' a ee fun σ' rp2 _ _ => q' σ' M' H' s' rp2
/-- name op= value -/
def sAug (i : Nat) (f : PyData → PyData → Option PyData) (me : Mo PyData) : SM := fun env => match sAt env i with
  | .d x => (me env).bind fun r => (W.opt (f x r.1)).bind fun d => (W.opt (setD i (.d d) r.2)).bind fun e => W.ret (.nx, e)
  | _ => W.fail
theorem vs_aug {i : Nat} {x : Str} {e : Expr} {me : Mo PyData} {op : Operator} {ti : TIp} {f : PyData → PyData → Option PyData} {p pos : Pos} (hN : X.N.Nodup) (h : VE X c EK e me) (ho : PIp X op ti) (hs : S2 ix X.K ti f) (hi : X.N[i]? = some x := by rfl) (hx : Loc X.env.scope x := by first | exact Or.inl rfl | exact Or.inr rfl)
    (hf : X.fn x = true ∨ X.env.scope.names.lookup x = some .local := by first | exact .inl rfl | exact .inr rfl | assumption) : VS X c EK (.AugAssign (.Name x p) op e pos) (sAug i f me) := by
  refine ⟨PS.imp (ps_aug hN hi hx h.pe ho hf) fun D σ H ⟨M, env, rp, q⟩ => ?_⟩
  unfold sAug at q
  cases es : sAt env i with
  | d y =>
    rw [es] at q
    obtain ⟨w, hw, bw⟩ := rp.peek (i := i) (d := y) (by rw [es]; rfl)
    refine ⟨w, hw, M, env, [], rp, (me env).mono (fun r h v M' H' s' rp' a => ?_) (fun _ h => h) q⟩
    obtain ⟨d, ed, h⟩ := wopt_run h
    obtain ⟨e, ee, q'⟩ := wopt_run h
    obtain ⟨hi', rfl⟩ := setD_some ee
    have aw : At ix X.K M H w y := by
      obtain ⟨o, h1, _⟩ := rp.own
      have hs := h1 i
      rw [es] at hs
      generalize hv : σ.getD i none = ov at hs
      generalize o i = os at hs
      cases hs with
      | d a =>
        have := slot_val hv
        rw [hw] at this
        cases this
        exact a
    exact hs M' H' w v y r.1 d _ (aw.stp s') a rp'.al ed fun u H'' k au => q' _ M' H'' (s'.trans (.of k.any)) ((rp'.kp1 k).setD hi' au)
  | _ => rw [es] at q; exact q.elim
def iaddD : PyData → PyData → Option PyData := fun a b => match a, b with
  | .int i, .int j => some (.int (i + j))
  | _, _ => none
theorem s_ipadd : S2 ix X.K (ipI fun i j => i + j) iaddD := by
  intro M H v w a b d Q ha hb al e q
  unfold iaddD at e
  split at e
  · cases e
    cases ha; cases hb
    exact ⟨_, _, rfl, rfl, q _ _ .refl (.int _)⟩
  · cases e
theorem s_ipsub : S2 ix X.K (ipI fun i j => i - j) subD := by
  intro M H v w a b d Q ha hb al e q
  unfold subD at e
  split at e
  · cases e
    cases ha; cases hb
    exact ⟨_, _, rfl, rfl, q _ _ .refl (.int _)⟩
  · cases e
/-! #### what is walked -/
def JOk (ix : Bool) (K : PySem.W.Frag) (M : Addr → Prop) (H : Hp) (J : It) (xs : List PyData) : Prop := ∀ M' H', Stp M H M' H' → (∀ i d, xs[i]? = some d → J.go i H' ∧ ∀ x H'', J.yld i H' x H'' → Kp MN H' H'' ∧ At ix K M' H'' x d) ∧ ∀ i, xs.length ≤ i → J.stop i H'
def tI (K : PySem.W.Frag) (mg : Str → Option Value) (c : Ctx T ix) (EK : XK) (m : Mo (List PyData)) : TI := fun σ H R => ∃ M env Y, Rp K c σ M H env Y ∧
  (m env).run (fun r => ∀ M' H' J, Stp M H M' H' → Rp K c σ M' H' r.2 Y → JOk ix K M' H' J r.1 → R J H') (EX mg c EK)
structure VI (X : Cx) (c : Ctx T ix) (EK : XK) (tg iter : Expr) (m : Mo (List PyData)) : Prop where
  pi : PI X tg iter (tI X.K X.mg c EK m)
theorem PI.imp {X : Cx} {tg iter : Expr} {t t' : TI} (h : PI X tg iter t) (i : ∀ σ H R, t' σ H R → t σ H R) : PI X tg iter t' := ⟨fun pins s σ H R I q => h.run pins s σ H R I (i _ _ _ q)⟩
def iSeq (K : PySem.W.Frag) (tl : TE) : TI := fun σ H R => tl σ H fun x H1 => ∃ a, x = .ref a ∧ ((∃ xs, SqL K H1 a xs) ∧ R (Itl K a) H1 ∨ (∃ xs, SqT K H1 a xs) ∧ R (Itt K a) H1)
theorem pi_seq {tg l : Expr} {tl : TE} (hl : PE X l tl) : PI X tg l (iSeq X.K tl) := by
  refine ⟨fun pins s σ H R I h => ?_⟩
  refine thn (hl.run pins s σ H _ I h) fun v s1 ⟨x, H1, I1, r1, q1⟩ => ?_
  obtain ⟨a, e, q⟩ := q1
  subst e
  cases r1
  rcases q with ⟨⟨xs, hq⟩, q⟩ | ⟨⟨xs, hq⟩, q⟩
  · obtain ⟨its, rv, p, hz⟩ := I1.list hq
    refine wpAny_pyIter_list p.isList ?_
    refine ⟨s1.heap.objs.size, [s1.heap.objs.size], _, _, H1, rfl, I1.kept (t' := s1.toks) fun b o e => Heap.get?_push_of_some _ e, turn_list a _, ⟨_, Heap.get?_push_size _ rfl, rfl, rfl⟩, fun b hb => ?_, q⟩
    have e : b = s1.heap.objs.size := by simpa using hb
    subst e
    exact I1.fpOk (Nat.le_refl _) (I1.hok.fresh (Nat.le_refl _))
  · obtain ⟨its, rv, p, hz⟩ := I1.tuple hq
    refine wpAny_pyIter_tuple (show s1.heap.IsTuple a its.toArray from p) ?_
    refine ⟨s1.heap.objs.size, [s1.heap.objs.size], _, _, H1, rfl, I1.kept (t' := s1.toks) fun b o e => Heap.get?_push_of_some _ e, turn_tuple a _, ⟨_, Heap.get?_push_size _ rfl, rfl, rfl⟩, fun b hb => ?_, q⟩
    have e : b = s1.heap.objs.size := by simpa using hb
    subst e
    exact I1.fpOk (Nat.le_refl _) (I1.hok.fresh (Nat.le_refl _))
def seqD : PyData → Option (List PyData)
  | .list xs => some xs
  | .tuple xs => some xs
  | _ => none
def toI (m : Mo PyData) : Mo (List PyData) := Mo.bind m fun d => Mo.lift (W.opt (seqD d))
theorem vi_seq {tg l : Expr} {m : Mo PyData} (h : VE X c EK l m) : VI X c EK tg l (toI m) := by
  refine ⟨PI.imp (pi_seq h.pe) fun σ H R ⟨M, env, Y, rp, w⟩ => ?_⟩
  refine seq_V w rp (fun _ h => h) fun d env1 v M1 H1 s1 rp1 a1 q1 => ?_
  obtain ⟨xs, ex, q2⟩ := opt_run q1
  unfold seqD at ex
  split at ex
  · cases ex
    cases a1 with
    | @lst a vs _ ea na al =>
      refine ⟨a, rfl, .inl ⟨⟨_, SqL.of ea⟩, q2 M1 H1 _ s1 rp1 fun M' H' s' => ⟨fun i d hd => ?_, fun i hi => ?_⟩⟩⟩
      · have ea' := s'.k.lst na ea
        obtain ⟨x, hx, ax⟩ := (al.stp s').get' hd
        refine ⟨⟨vs, x, SqL.of ea', hx⟩, fun y H'' yy => ?_⟩
        obtain ⟨z, y'⟩ := yy
        subst z
        have hy := y' vs (SqL.of ea')
        rw [hx] at hy
        cases hy
        exact ⟨.refl, ax⟩
      · exact ⟨vs, SqL.of (s'.k.lst na ea), by rw [al.length]; exact hi⟩
  · cases ex
    cases a1 with
    | @tup a vs _ qt al =>
      refine ⟨a, rfl, .inr ⟨⟨_, qt.1⟩, q2 M1 H1 _ s1 rp1 fun M' H' s' => ⟨fun i d hd => ?_, fun i hi => ?_⟩⟩⟩
      · have ea' := (qt.kp s'.k).1
        obtain ⟨x, hx, ax⟩ := (al.stp s').get' hd
        refine ⟨⟨vs, x, ea', hx⟩, fun y H'' yy => ?_⟩
        obtain ⟨z, y'⟩ := yy
        subst z
        have hy := y' vs ea'
        rw [hx] at hy
        cases hy
        exact ⟨.refl, ax⟩
      · exact ⟨vs, (qt.kp s'.k).1, by rw [al.length]; exact hi⟩
  · cases ex
def rngD (lo : Int) (n : Nat) : List PyData := (List.range n).map fun k => .int (lo + (k : Nat))
theorem jok_rng {K : PySem.W.Frag} {M : Addr → Prop} {H : Hp} {lo : Int} {n : Nat} : JOk ix K M H (Itr lo n) (rngD lo n) := by
  intro M' H' s'
  refine ⟨fun i d hd => ?_, fun i hi => ?_⟩
  · unfold rngD at hd
    rw [List.getElem?_map] at hd
    by_cases hl : i < n
    · rw [List.getElem?_range hl] at hd
      cases hd
      refine ⟨hl, fun x H'' yy => ?_⟩
      obtain ⟨z, y⟩ := yy
      subst z y
      exact ⟨.refl, .int _⟩
    · rw [List.getElem?_eq_none (by simpa using hl)] at hd
      cases hd
  · have : (rngD lo n).length = n := by simp [rngD]
    show n ≤ i
    omega
def rng1D : List PyData → Option (List PyData)
  | [.int j] => if R62 j then some (rngD 0 j.toNat) else none
  | _ => none
def rng2D : List PyData → Option (List PyData)
  | [.int i, .int j] => if R62 i ∧ R62 j then some (rngD i (j - i).toNat) else none
  | _ => none
theorem vi_rng1 {tg a : Expr} {ms : Mo (List PyData)} {p pos : Pos} (hg : Gl X "range") (hm : X.mg "range" = none) (h : VA X c EK [a] ms) (hs : starEach [a] X.env = [(false, eval a X.env)] := by rfl) : VI X c EK tg (.Call (.Name "range" p) [a] [] pos) (opF rng1D ms) := by
  refine ⟨PI.imp (pi_range1 hg hm h.pa hs) fun σ H R ⟨M, env, Y, rp, w⟩ => ?_⟩
  refine seq_A w rp (fun _ h => h) fun ds env1 vs M1 H1 s1 rp1 a1 q1 => ?_
  obtain ⟨xs, ex, q2⟩ := opt_run q1
  unfold rng1D at ex
  split at ex
  · split at ex
    · rename_i hz
      cases ex
      obtain ⟨v, rfl, av⟩ := a1.one_of
      cases av
      exact ⟨_, rfl, hz.1, hz.2, q2 M1 H1 _ s1 rp1 jok_rng⟩
    · cases ex
  · cases ex
theorem vi_rng2 {tg a b : Expr} {ms : Mo (List PyData)} {p pos : Pos} (hg : Gl X "range") (hm : X.mg "range" = none) (h : VA X c EK [a, b] ms) (hs : starEach [a, b] X.env = [(false, eval a X.env), (false, eval b X.env)] := by rfl) (hs2 : starEach [b] X.env = [(false, eval b X.env)] := by rfl) : VI X c EK tg (.Call (.Name "range" p) [a, b] [] pos) (opF rng2D ms) := by
  refine ⟨PI.imp (pi_range2 hg hm h.pa hs hs2) fun σ H R ⟨M, env, Y, rp, w⟩ => ?_⟩
  refine seq_A w rp (fun _ h => h) fun ds env1 vs M1 H1 s1 rp1 a1 q1 => ?_
  obtain ⟨xs, ex, q2⟩ := opt_run q1
  unfold rng2D at ex
  split at ex
  · split at ex
    · rename_i hz
      cases ex
      cases a1 with
      | cons b1 r =>
        obtain ⟨v, rfl, av⟩ := r.one_of
        cases av; cases b1
        exact ⟨_, _, rfl, ⟨hz.1.1, hz.1.2, hz.2.1, hz.2.2⟩, q2 M1 H1 _ s1 rp1 jok_rng⟩
    · cases ex
  · cases ex
/-! #### for -/
def forW (g : GF) (b : SM) : List PyData → SM
  | [], env => W.ret (.nx, env)
  | x :: xs, env => (W.opt (g x env)).bind fun e => (b e).bind fun r => match r.1 with
    | .nx => forW g b xs r.2
    | .ct => forW g b xs r.2
    | .bk => W.ret (.nx, r.2)
    | .rt d => W.ret (.rt d, r.2)
def sFor (mi : Mo (List PyData)) (g : GF) (b : SM) : SM := fun env => (mi env).bind fun r => forW g b r.1 r.2
theorem vs_for {tg iter : Expr} {body : List Stmt} {mi : Mo (List PyData)} {t : TG} {is : List Nat} {g : GF} {b : SM} {pos : Pos} (hp : PassesOwn (model X.prog X.w) X.A X.env X.xe) (hc : X.calm = true) (hi : VI X c EK tg iter mi) (hg : PG X tg t) (gs : GSem X.K c t is g) (hb : VSs X c EK body b)
    (hs : ∀ x, foldedSetIterable iter X.env x = pure x := by intro _; rfl) : VS X c EK (.For tg iter body [] pos) (sFor mi g b) := by
  refine ⟨PS.imp (ps_for hp hc hi.pi hg hb.ps hs) fun D σ H ⟨M, env, rp, q⟩ => ?_⟩
  refine ⟨M, env, [], rp, (mi env).mono (fun r h M1 H1 J s1 rp1 jok => ?_) (fun _ h => h) q⟩
  obtain ⟨xs, env1⟩ := r
  refine ⟨fun i m σ' H' => m = xs.length - i ∧ i ≤ xs.length ∧ ∃ M' env', Stp M1 H1 M' H' ∧ Rp X.K c σ' M' H' env' [] ∧ (forW g b (xs.drop i) env').run (fun r => ∀ σ'' M'' H'', Stp M H M'' H'' → Rp X.K c σ'' M'' H'' r.2 [] → match r.1 with
    | .nx => D.nx σ'' H''
    | .bk => D.bk σ'' H''
    | .ct => D.ct σ'' H''
    | .rt d => ∀ v, At ix X.K M'' H'' v d → D.rt v H'') (EX X.mg c EK), ⟨xs.length, rfl, Nat.zero_le _, M1, env1, .refl, rp1, h⟩, ?_⟩
  rintro i m σ' H' ⟨rfl, hi', M', env', s', rp', q'⟩
  have sM := s1.trans s'
  obtain ⟨j1, j2⟩ := jok M' H' s'
  by_cases hlt : i < xs.length
  · have e1 : xs.drop i = xs[i] :: xs.drop (i + 1) := List.drop_eq_getElem_cons hlt
    rw [e1] at q'
    obtain ⟨g1, g2⟩ := j1 i xs[i] (List.getElem?_eq_getElem hlt)
    refine .inr ⟨g1, fun σ'' H'' => ∃ M'' env'', Stp M1 H1 M'' H'' ∧ Rp X.K c σ'' M'' H'' env'' [] ∧ (forW g b (xs.drop (i + 1)) env'').run (fun r => ∀ σ'' M'' H'', Stp M H M'' H'' → Rp X.K c σ'' M'' H'' r.2 [] → match r.1 with
      | .nx => D.nx σ'' H''
      | .bk => D.bk σ'' H''
      | .ct => D.ct σ'' H''
      | .rt d => ∀ v, At ix X.K M'' H'' v d → D.rt v H'') (EX X.mg c EK), fun σ'' H'' z => ⟨xs.length - (i + 1), by omega, rfl, hlt, z⟩, fun x H2 yy => ?_⟩
    obtain ⟨k2, a2⟩ := g2 x H2 yy
    have s2 : Stp M' H' M' H2 := .of k2.any
    obtain ⟨e, ee, q2⟩ := wopt_run q'
    refine gs σ' M' H2 env' [] x xs[i] e _ (rp'.kp1 k2) a2 ee fun σ3 rp3 _ _ => ?_
    refine ⟨M', e, rp3, (b e).mono (fun r hr σ4 M4 H4 s4 rp4 => ?_) (fun _ h => h) q2⟩
    obtain ⟨f, env4⟩ := r
    cases f with
    | nx => exact ⟨M4, env4, (s'.trans s2).trans s4, rp4, hr⟩
    | ct => exact ⟨M4, env4, (s'.trans s2).trans s4, rp4, hr⟩
    | bk => exact hr σ4 M4 H4 ((sM.trans s2).trans s4) rp4
    | rt d => exact hr σ4 M4 H4 ((sM.trans s2).trans s4) rp4
  · have e : i = xs.length := by omega
    subst e
    rw [List.drop_length] at q'
    exact .inl ⟨j2 _ (Nat.le_refl _), q' σ' M' H' sM rp'⟩
/-! #### while: some number of turns -/
def whileN (t : Mo Bool) (b : SM) : Nat → SM
  | 0, _ => W.fail
  | n + 1, env => (t env).bind fun r => if r.1 = true then (b r.2).bind fun r => match r.1 with
    | .nx => whileN t b n r.2
    | .ct => whileN t b n r.2
    | .bk => W.ret (.nx, r.2)
    | .rt d => W.ret (.rt d, r.2) else W.ret (.nx, r.2)
def sWhile (t : Mo Bool) (b : SM) : SM := fun env => ⟨fun Q E => ∃ n, (whileN t b n env).run Q E, fun h g ⟨n, q⟩ => ⟨n, (whileN t b n env).mono h g q⟩⟩
theorem vs_while {d : Expr} {body : List Stmt} {t : Mo Bool} {b : SM} {pos : Pos} (hp : PassesOwn (model X.prog X.w) X.A X.env X.xe) (hc : VT X c EK d t) (hb : VSs X c EK body b) : VS X c EK (.While d body [] pos) (sWhile t b) := by
  refine ⟨PS.imp (ps_while hp hc.pt hb.ps) fun D σ H ⟨M, env, rp, n, q⟩ => ?_⟩
  refine ⟨fun m σ' H' => ∃ M' env', Stp M H M' H' ∧ Rp X.K c σ' M' H' env' [] ∧ (whileN t b m env').run (fun r => ∀ σ'' M'' H'', Stp M H M'' H'' → Rp X.K c σ'' M'' H'' r.2 [] → match r.1 with
    | .nx => D.nx σ'' H''
    | .bk => D.bk σ'' H''
    | .ct => D.ct σ'' H''
    | .rt d => ∀ v, At ix X.K M'' H'' v d → D.rt v H'') (EX X.mg c EK), ⟨n, M, env, .refl, rp, q⟩, ?_⟩
  rintro m σ' H' ⟨M', env', s', rp', q'⟩
  cases m with
  | zero => exact q'.elim
  | succ m =>
    refine ⟨M', env', [], rp', (t env').mono (fun r hr M2 H2 s2 rp2 => ?_) (fun _ h => h) q'⟩
    obtain ⟨x, env2⟩ := r
    cases x with
    | false => rw [if_neg Bool.false_ne_true]; exact hr σ' M2 H2 (s'.trans s2) rp2
    | true =>
      rw [if_pos rfl]
      refine ⟨fun σ'' H'' => ∃ M'' env'', Stp M H M'' H'' ∧ Rp X.K c σ'' M'' H'' env'' [] ∧ (whileN t b m env'').run (fun r => ∀ σ'' M'' H'', Stp M H M'' H'' → Rp X.K c σ'' M'' H'' r.2 [] → match r.1 with
        | .nx => D.nx σ'' H''
        | .bk => D.bk σ'' H''
        | .ct => D.ct σ'' H''
        | .rt d => ∀ v, At ix X.K M'' H'' v d → D.rt v H'') (EX X.mg c EK), fun σ'' H'' z => ⟨m, Nat.lt_succ_self m, z⟩, ?_⟩
      refine ⟨M2, env2, rp2, (b env2).mono (fun r hr σ4 M4 H4 s4 rp4 => ?_) (fun _ h => h) hr⟩
      obtain ⟨f, env4⟩ := r
      cases f with
      | nx => exact ⟨M4, env4, (s'.trans s2).trans s4, rp4, hr⟩
      | ct => exact ⟨M4, env4, (s'.trans s2).trans s4, rp4, hr⟩
      | bk => exact hr σ4 M4 H4 ((s'.trans s2).trans s4) rp4
      | rt d => exact hr σ4 M4 H4 ((s'.trans s2).trans s4) rp4
end
end VL

set_option Elab.async false
set_option linter.all false
set_option maxRecDepth 100000
set_option maxHeartbeats 1000000
/-! The value layer: list comprehensions; any and all of generator expressions. -/
namespace VL
noncomputable section
open PySem PySem.Spec PyProof.Rows L2 GxR GA KR
variable {T : List Addr} {ix : Bool} {X : Cx} {c : Ctx T ix} {EK : XK}
/-! ### the block's own names -/
def wipeE : List Nat → En → En
  | [], env => env
  | v :: vs, env => (wipeE vs env).set v .no
def restE (env0 : En) : List Nat → En → En
  | [], env => env
  | v :: vs, env => (restE env0 vs env).set v (sAt env0 v)
def plainS : Sl → Bool
  | .no => true
  | .d _ => true
  | _ => false
theorem wipeE_len (vs : List Nat) (env : En) : (wipeE vs env).length = env.length := by
  induction vs with
  | nil => rfl
  | cons v vs ih => unfold wipeE; rw [List.length_set, ih]
theorem restE_len (env0 : En) (vs : List Nat) (env : En) : (restE env0 vs env).length = env.length := by
  induction vs with
  | nil => rfl
  | cons v vs ih => unfold restE; rw [List.length_set, ih]
theorem sAt_out {env : En} {j : Nat} (h : env.length ≤ j) : sAt env j = .no := by
  unfold sAt
  rw [List.getD_eq_getElem?_getD, List.getElem?_eq_none h]
  rfl
theorem sAt_wipe (vs : List Nat) (env : En) (j : Nat) : sAt (wipeE vs env) j = if j ∈ vs then .no else sAt env j := by
  induction vs with
  | nil => rw [if_neg (fun z => nomatch z)]; rfl
  | cons v vs ih =>
    unfold wipeE
    by_cases hv : v < (wipeE vs env).length
    · rw [sAt_set hv, ih]
      by_cases e : j = v
      · rw [if_pos e, if_pos (show j ∈ v :: vs by rw [e]; exact List.mem_cons_self)]
      · rw [if_neg e]
        by_cases m : j ∈ vs
        · rw [if_pos m, if_pos (show j ∈ v :: vs from List.mem_cons_of_mem _ m)]
        · rw [if_neg m, if_neg (show ¬ j ∈ v :: vs from fun z => (List.mem_cons.mp z).elim e m)]
    · rw [List.set_eq_of_length_le (by omega), ih]
      by_cases e : j = v
      · rw [wipeE_len] at hv
        rw [if_pos (show j ∈ v :: vs by rw [e]; exact List.mem_cons_self), sAt_out (by omega)]
        split <;> rfl
      · by_cases m : j ∈ vs
        · rw [if_pos m, if_pos (show j ∈ v :: vs from List.mem_cons_of_mem _ m)]
        · rw [if_neg m, if_neg (show ¬ j ∈ v :: vs from fun z => (List.mem_cons.mp z).elim e m)]
theorem sAt_rest (env0 : En) (vs : List Nat) (env : En) (hl : env0.length = env.length) (j : Nat) : sAt (restE env0 vs env) j = if j ∈ vs then sAt env0 j else sAt env j := by
  induction vs with
  | nil => rw [if_neg (fun z => nomatch z)]; rfl
  | cons v vs ih =>
    unfold restE
    by_cases hv : v < (restE env0 vs env).length
    · rw [sAt_set hv, ih]
      by_cases e : j = v
      · rw [if_pos e, if_pos (show j ∈ v :: vs by rw [e]; exact List.mem_cons_self), e]
      · rw [if_neg e]
        by_cases m : j ∈ vs
        · rw [if_pos m, if_pos (show j ∈ v :: vs from List.mem_cons_of_mem _ m)]
        · rw [if_neg m, if_neg (show ¬ j ∈ v :: vs from fun z => (List.mem_cons.mp z).elim e m)]
    · rw [List.set_eq_of_length_le (by omega), ih]
      rw [restE_len] at hv
      by_cases e : j = v
      · rw [if_pos (show j ∈ v :: vs by rw [e]; exact List.mem_cons_self), sAt_out (env := env) (by omega), sAt_out (env := env0) (by omega)]
        split <;> rfl
      · by_cases m : j ∈ vs
        · rw [if_pos m, if_pos (show j ∈ v :: vs from List.mem_cons_of_mem _ m)]
        · rw [if_neg m, if_neg (show ¬ j ∈ v :: vs from fun z => (List.mem_cons.mp z).elim e m)]
theorem getD_wipe (σ : L2.St) (vs : List Nat) (j : Nat) : (wipe σ vs).getD j none = if j ∈ vs then none else σ.getD j none := by
  induction vs with
  | nil => rw [if_neg (fun z => nomatch z)]; rfl
  | cons v vs ih =>
    unfold wipe
    by_cases hv : v < (wipe σ vs).length
    · rw [getD_set hv, ih]
      by_cases e : j = v
      · rw [if_pos e, if_pos (show j ∈ v :: vs by rw [e]; exact List.mem_cons_self)]
      · rw [if_neg e]
        by_cases m : j ∈ vs
        · rw [if_pos m, if_pos (show j ∈ v :: vs from List.mem_cons_of_mem _ m)]
        · rw [if_neg m, if_neg (show ¬ j ∈ v :: vs from fun z => (List.mem_cons.mp z).elim e m)]
    · rw [List.set_eq_of_length_le (by omega), ih]
      rw [wipe_length] at hv
      by_cases e : j = v
      · rw [if_pos (show j ∈ v :: vs by rw [e]; exact List.mem_cons_self), List.getD_eq_getElem?_getD, List.getElem?_eq_none (by omega)]
        split <;> rfl
      · by_cases m : j ∈ vs
        · rw [if_pos m, if_pos (show j ∈ v :: vs from List.mem_cons_of_mem _ m)]
        · rw [if_neg m, if_neg (show ¬ j ∈ v :: vs from fun z => (List.mem_cons.mp z).elim e m)]
theorem wipe_same {σ σ' : L2.St} {vs : List Nat} (hl : σ'.length = σ.length) (h : ∀ j, j ∉ vs → σ'.getD j none = σ.getD j none) : wipe σ' vs = wipe σ vs := by
  refine List.ext_getElem? fun j => ?_
  have e : (wipe σ' vs).getD j none = (wipe σ vs).getD j none := by
    rw [getD_wipe, getD_wipe]
    by_cases m : j ∈ vs
    · rw [if_pos m, if_pos m]
    · rw [if_neg m, if_neg m]; exact h j m
  have l1 := wipe_length σ' vs
  have l2 := wipe_length σ vs
  by_cases q : j < σ.length
  · have h1 : j < (wipe σ' vs).length := by omega
    have h2 : j < (wipe σ vs).length := by omega
    rw [List.getD_eq_getElem?_getD, List.getD_eq_getElem?_getD, List.getElem?_eq_getElem h1, List.getElem?_eq_getElem h2] at e
    rw [List.getElem?_eq_getElem h1, List.getElem?_eq_getElem h2]
    exact congrArg some e
  · rw [List.getElem?_eq_none (by omega), List.getElem?_eq_none (by omega)]
section
variable {K : PySem.W.Frag} {σ : L2.St} {M M' : Addr → Prop} {H H' : Hp} {env env' : En} {Y Y' : Tmp} {vs : List Nat}
theorem Rp.wipe (r : Rp K c σ M H env Y) (vs : List Nat) : Rp K c (L2.wipe σ vs) M H (wipeE vs env) Y := by
  obtain ⟨o, h1, h2, h3, h4⟩ := r.own
  refine ⟨by rw [wipeE_len, wipe_length]; exact r.len, ⟨fun j => if j ∈ vs then [] else o j, fun j => ?_, fun j k a => ?_, fun j => ?_, fun j a z => ?_⟩, r.tmp, r.nd, r.mx, r.al, r.kp, r.tb, r.st⟩
  · rw [sAt_wipe, getD_wipe]
    dsimp only
    by_cases m : j ∈ vs
    · rw [if_pos m, if_pos m, if_pos m]; exact .no
    · rw [if_neg m, if_neg m, if_neg m]; exact h1 j
  · dsimp only
    by_cases m : j ∈ vs
    · rw [if_pos m]; exact fun z => nomatch z
    · rw [if_neg m]
      by_cases m' : k ∈ vs
      · rw [if_pos m']; exact fun _ z => nomatch z
      · rw [if_neg m']; exact h2 j k a
  · dsimp only
    by_cases m : j ∈ vs
    · rw [if_pos m]; exact .nil
    · rw [if_neg m]; exact h3 j
  · dsimp only at z
    by_cases m : j ∈ vs
    · rw [if_pos m] at z; cases z
    · rw [if_neg m] at z; exact h4 j a z
/-- behind the block -/
theorem Rp.unwipe (r0 : Rp K c σ M H env Y) (s : Stp M H M' H') (r : Rp K c (L2.wipe σ vs) M' H' env' Y') (hp : ∀ j ∈ vs, plainS (sAt env j) = true) : Rp K c σ M' H' (restE env vs env') Y' := by
  obtain ⟨o0, g1, _⟩ := r0.own
  obtain ⟨o, h1, h2, h3, h4⟩ := r.own
  have hl : env.length = env'.length := by rw [r0.len, r.len, wipe_length]
  refine ⟨by rw [restE_len, ← hl]; exact r0.len, ⟨fun j => if j ∈ vs then [] else o j, fun j => ?_, fun j k a => ?_, fun j => ?_, fun j a z => ?_⟩, r.tmp, r.nd, r.mx, r.al, r.kp, r.tb, r.st⟩
  · rw [sAt_rest env vs env' hl]
    dsimp only
    by_cases m : j ∈ vs
    · rw [if_pos m, if_pos m]
      have hs := g1 j
      have hp := hp j m
      generalize σ.getD j none = ov at hs
      generalize sAt env j = sl at hs hp
      generalize o0 j = os at hs
      cases hs with
      | no => exact .no
      | d a => exact .d (a.stp s)
      | _ => cases hp
    · rw [if_neg m, if_neg m]
      have := h1 j
      rw [getD_wipe, if_neg m] at this
      exact this
  · dsimp only
    by_cases m : j ∈ vs
    · rw [if_pos m]; exact fun z => nomatch z
    · rw [if_neg m]
      by_cases m' : k ∈ vs
      · rw [if_pos m']; exact fun _ z => nomatch z
      · rw [if_neg m']; exact h2 j k a
  · dsimp only
    by_cases m : j ∈ vs
    · rw [if_pos m]; exact .nil
    · rw [if_neg m]; exact h3 j
  · dsimp only at z
    by_cases m : j ∈ vs
    · rw [if_pos m] at z; cases z
    · rw [if_neg m] at z; exact h4 j a z
end
/-! ### list comprehensions -/
/-- the turns: every one ahead of the names of its own -/
def lcW (vs : List Nat) (g : GF) (t : Mo Bool) (m : Mo PyData) : List PyData → En → W (List PyData × En)
  | [], env => W.ret ([], env)
  | x :: xs, env => (W.opt (g x (wipeE vs env))).bind fun e => (t e).nox.bind fun r => if r.1 = true then (m r.2).nox.bind fun r => (lcW vs g t m xs r.2).bind fun q => W.ret (r.1 :: q.1, q.2) else lcW vs g t m xs r.2
def lcM (vs : List Nat) (mi : Mo (List PyData)) (g : GF) (t : Mo Bool) (m : Mo PyData) : Mo (List PyData) := fun env => (mi env).bind fun r => (W.opt (if Lc_ (vs.all fun j => plainS (sAt r.2 j)) r.1.length then some () else none)).bind fun _ =>
  (lcW vs g t m r.1 r.2).bind fun q => W.ret (q.1, restE r.2 vs q.2)
theorem EX0 {mg : Str → Option Value} : ∀ e : Er, (fun _ : Er => False) e → EX mg c E0 e := fun _ z => z.elim
/-- the tests of a clause -/
structure VTs (X : Cx) (c : Ctx T ix) (EK : XK) (ifs : List Expr) (m : Mo Bool) : Prop where
  run : ∃ t, PTs X ifs t ∧ ∀ (σ : L2.St) (M : Addr → Prop) (H : Hp) (env : En) (Y : Tmp) (Q : Bool → Hp → Prop), Rp X.K c σ M H env Y → (m env).run (fun r => ∀ M' H', Stp M H M' H' → Rp X.K c σ M' H' r.2 Y → Q r.1 H') (EX X.mg c EK) → t σ H Q
def tTr : Mo Bool := Mo.ret true
section
variable {elt tg iter : Expr} {ifs : List Expr} {scope : Scope} {own : List (Str × Nat)} {pos : Pos} {mi : Mo (List PyData)} {t : TG} {is : List Nat} {g : GF} {mt : Mo Bool} {me : Mo PyData}
/-- what the element's rule asks of the walk -/
theorem lc_sound {σ : L2.St} {M : Addr → Prop} {H : Hp} {env : En} {Y : Tmp} {Q : VK} {tt : TT} {vs : List Nat} (gs : GSem X.K c t is g) (his : ∀ i ∈ is, i ∈ vs)
    (ht : ∀ (σ : L2.St) (M : Addr → Prop) (H : Hp) (env : En) (Y : Tmp) (Q : Bool → Hp → Prop), Rp X.K c σ M H env Y → (mt env).run (fun r => ∀ M' H', Stp M H M' H' → Rp X.K c σ M' H' r.2 Y → Q r.1 H') (fun _ => False) → tt σ H Q)
    (rp : Rp X.K c σ M H env Y) (q : (lcM vs mi g mt me env).run (fun r => ∀ a vs M' H', Stp M H M' H' → Rp X.K c σ M' H' r.2 ((a, vs) :: Y) → AtL ix X.K M' H' vs r.1 → Q (.ref a) H') (EX X.mg c EK)) :
    tLc (tI X.K X.mg c EK mi) t tt (tV X.K X.mg c E0 me) vs σ H Q := by
  refine ⟨M, env, Y, rp, (mi env).mono (fun r h M1 H1 J s1 rp1 jok D hD => ?_) (fun _ h => h) q⟩
  obtain ⟨xs, env1⟩ := r
  have rp1 : Rp X.K c σ M1 H1 env1 Y := rp1
  obtain ⟨u, eu, h⟩ := wopt_run h
  split at eu
  case isFalse => cases eu
  rename_i hc
  have hpl : ∀ j ∈ vs, plainS (sAt env1 j) = true := fun j hj => (List.all_eq_true.mp hc.1) j hj
  have r1 := (rp1.tmpNew (vs := []) hD).wipe vs
  have sD : Stp M1 H1 (fun a => M1 a ∨ a = D) (upd H1 D (.lst [])) := .tmpNew hD
  -- the state at a turn
  refine ⟨fun i m H' => m = xs.length - i ∧ i ≤ xs.length ∧ ∃ M' env' acc ds, Stp M1 H1 M' H' ∧ Rp X.K c (wipe σ vs) M' H' (wipeE vs env') ((D, acc) :: Y) ∧ AtL ix X.K M' H' acc ds ∧ ds.length ≤ i ∧
    (lcW vs g mt me (xs.drop i) env').run (fun q => ∀ a vs' M' H', Stp M H M' H' → Rp X.K c σ M' H' (restE env1 vs q.2) ((a, vs') :: Y) → AtL ix X.K M' H' vs' (ds ++ q.1) → Q (.ref a) H') (EX X.mg c EK), ⟨xs.length, rfl, Nat.zero_le _, _, env1, [], [], sD, r1, .nil, Nat.le_refl _, h⟩, ?_⟩
  rintro i m H' ⟨rfl, hi', M', env', acc, ds, s', rp', al', hds, q'⟩
  have sM := s1.trans s'
  obtain ⟨j1, j2⟩ := jok M' H' s'
  have hi' : i ≤ xs.length := hi'
  by_cases hlt : i < xs.length
  · have e1 : xs.drop i = xs[i] :: xs.drop (i + 1) := List.drop_eq_getElem_cons hlt
    rw [e1] at q'
    obtain ⟨g1, g2⟩ := j1 i xs[i] (List.getElem?_eq_getElem hlt)
    refine .inr ⟨g1, fun H'' => ∃ M'' env'' acc ds, Stp M1 H1 M'' H'' ∧ Rp X.K c (wipe σ vs) M'' H'' (wipeE vs env'') ((D, acc) :: Y) ∧ AtL ix X.K M'' H'' acc ds ∧ ds.length ≤ i + 1 ∧
      (lcW vs g mt me (xs.drop (i + 1)) env'').run (fun q => ∀ a vs' M' H', Stp M H M' H' → Rp X.K c σ M' H' (restE env1 vs q.2) ((a, vs') :: Y) → AtL ix X.K M' H' vs' (ds ++ q.1) → Q (.ref a) H') (EX X.mg c EK), fun H'' z => ⟨xs.length - (i + 1), by omega, rfl, hlt, z⟩, fun x H2 yy => ?_⟩
    obtain ⟨k2, a2⟩ := g2 x H2 yy
    have s2 : Stp M' H' M' H2 := .of k2.any
    obtain ⟨e, ee, q2⟩ := wopt_run q'
    refine gs _ M' H2 _ _ x xs[i] e _ (rp'.kp1 k2) a2 ee fun σ3 rp3 l3 o3 => ?_
    have hw : wipe σ3 vs = wipe σ vs := by
      have := wipe_same (vs := vs) (l3.trans (wipe_length σ vs)) (fun j hj => (o3 j fun z => hj (his j z)).trans (by rw [getD_wipe, if_neg hj]))
      exact this
    refine ⟨hw, ?_⟩
    refine ht σ3 M' H2 e _ _ rp3 ((mt e).mono (fun r hr M3 H3 s3 rp4 => ?_) (fun _ z => z) q2)
    obtain ⟨b, e3⟩ := r
    have s03 := (s'.trans s2).trans s3
    cases b with
    | false =>
      rw [if_neg Bool.false_ne_true]
      refine ⟨M3, e3, acc, ds, s03, ?_, (al'.stp s2).stp s3, by omega, hr⟩
      have := rp4.wipe vs
      rw [hw] at this
      exact this
    | true =>
      rw [if_pos rfl]
      refine ⟨M3, e3, _, rp4, (me e3).mono (fun r hr v M4 H4 s4 rp5 a5 => ?_) (fun _ z => z.elim) hr⟩
      obtain ⟨d, e4⟩ := r
      have ht := rp5.tmp _ List.mem_cons_self
      have al4 := ((al'.stp s2).stp s3).stp s4
      have sz : acc.length < sizeLine := by
        rw [al'.length]
        have : xs.length < sizeLine := hc.2
        omega
      refine ⟨acc, ht.1, sz, ?_⟩
      -- the list grows
      have grow : Rp X.K c σ3 M4 (upd H4 D (.lst (acc ++ [v]))) e4 ((D, acc ++ [v]) :: Y) ∧ Stp M4 H4 M4 (upd H4 D (.lst (acc ++ [v]))) := by
        have stp : Stp M4 H4 M4 (upd H4 D (.lst (acc ++ [v]))) := .of (Kp.put ht.2.1 ht.1 rfl)
        obtain ⟨w, h1, h2, h3, h4⟩ := rp5.own
        have nd := rp5.nd
        rw [List.map_cons, List.nodup_cons] at nd
        refine ⟨⟨rp5.len, ⟨w, fun j => (h1 j).stp stp fun b z => ⟨(h1 j).mem b z, upd_ne fun y => (h4 j b z).2 _ List.mem_cons_self (by rw [y])⟩, h2, h3, fun j b z => ⟨(h4 j b z).1, fun p hp => ?_⟩⟩, fun p hp => ?_, by rw [List.map_cons, List.nodup_cons]; exact nd, rp5.mx, fun b z => ?_, rp5.kp.putNew ht.2.2 ht.1 rfl, fun P hP => stp.k.tb P (rp5.tb P hP), fun b l z => ?_⟩, stp⟩
        · rcases List.mem_cons.mp hp with y | y
          · rw [y]
            show D ≠ b
            exact (h4 j b z).2 (D, acc) List.mem_cons_self
          · exact (h4 j b z).2 p (List.mem_cons_of_mem _ y)
        · rcases List.mem_cons.mp hp with y | y
          · rw [y]; exact ⟨upd_same, ht.2⟩
          · obtain ⟨y1, y2⟩ := rp5.tmp p (List.mem_cons_of_mem _ y)
            exact ⟨by rw [upd_ne fun z => nd.1 (List.mem_map.mpr ⟨p, y, z⟩)]; exact y1, y2⟩
        · by_cases y : b = D
          · rw [y, upd_same]; exact fun z => by cases z
          · rw [upd_ne y]; exact rp5.al b z
        · obtain ⟨⟨x1, x2, ns, y1, y2, y3, y4, y5⟩, z1, z2, z3, z4⟩ := rp5.st b l z
          refine ⟨⟨x1, x2, ns, ?_, ?_, y3, y4, y5⟩, z1, z2, z3, z4⟩
          · rw [upd_ne fun y => z2 (by rw [y]; exact ht.2.2)]; exact y1
          · rw [upd_ne fun y => z3 (by rw [y]; exact ht.2.2)]; exact y2
      obtain ⟨gr, gstp⟩ := grow
      refine ⟨M4, e4, acc ++ [v], ds ++ [d], (s03.trans s4).trans gstp, ?_, (al4.append (.one a5)).stp gstp, by rw [List.length_append, List.length_singleton]; omega, ?_⟩
      · have := gr.wipe vs
        rw [hw] at this
        exact this
      · refine (lcW vs g mt me (xs.drop (i + 1)) e4).mono (fun q hq a vs' M' H' s r al => ?_) (fun _ z => z) hr
        exact hq a vs' M' H' s r (by rw [List.append_assoc] at al; exact al)
  · have e : i = xs.length := by omega
    subst e
    rw [List.drop_length] at q'
    have fin := Rp.unwipe rp1 s' rp' hpl
    have e2 : restE env1 vs (wipeE vs env') = restE env1 vs env' := by
      have hl : env1.length = env'.length := by
        have l1 := rp1.len
        have l2 := rp'.len
        rw [wipeE_len, wipe_length] at l2
        omega
      have : ∀ (l : List Nat) (e1 e2 : En), e1.length = e2.length → (∀ j, j ∉ l → sAt e1 j = sAt e2 j) → env1.length = e1.length → restE env1 l e1 = restE env1 l e2 := by
        intro l e1 e2 hle hj hl1
        refine List.ext_getElem? fun j => ?_
        have a1 := sAt_rest env1 l e1 hl1 j
        have a2 := sAt_rest env1 l e2 (hl1.trans hle) j
        have a3 : sAt (restE env1 l e1) j = sAt (restE env1 l e2) j := by
          rw [a1, a2]
          split
          · rfl
          · rename_i m; exact hj j m
        have b1 := restE_len env1 l e1
        have b2 := restE_len env1 l e2
        by_cases q : j < e1.length
        · have c1 : j < (restE env1 l e1).length := by omega
          have c2 : j < (restE env1 l e2).length := by omega
          unfold sAt at a3
          rw [List.getD_eq_getElem?_getD, List.getD_eq_getElem?_getD, List.getElem?_eq_getElem c1, List.getElem?_eq_getElem c2] at a3
          rw [List.getElem?_eq_getElem c1, List.getElem?_eq_getElem c2]
          exact congrArg some a3
        · rw [List.getElem?_eq_none (by omega), List.getElem?_eq_none (by omega)]
      refine this vs _ _ (wipeE_len _ _) (fun j hj => ?_) (by rw [wipeE_len]; exact hl)
      rw [sAt_wipe, if_neg hj]
    rw [e2] at fin
    refine .inl ⟨j2 _ (Nat.le_refl _), q' D acc M' H' sM fin ?_⟩
    show AtL ix X.K M' H' acc (ds ++ [])
    rw [List.append_nil]
    exact al'
theorem vf_lc (hc : X.calm = true) (hN : X.N.Nodup) (hi : VI X c EK tg iter mi) (ok : BlkOk X.N X.env.scope scope own) (gs : GSem X.K c t is g) (his : ∀ i ∈ is, i ∈ own.map (·.2))
    (hg : ∀ (s : Shared) (H : Hp) (C : Addr) (cl : List (Str × Addr)) (fp : List Addr), PG (X.blk s H scope (compEnvC scope cl C X.env) fp) tg t)
    (he : ∀ (s : Shared) (H : Hp) (C : Addr) (cl : List (Str × Addr)) (fp : List Addr), VE (X.blk s H scope (compEnvC scope cl C X.env) fp) c E0 elt me) (hs : ∀ x, foldedSetIterable iter X.env x = pure x := by intro _; rfl) :
    VF X c EK (.ListComp elt [⟨tg, iter, [], 0⟩] scope pos) (lcM (own.map (·.2)) mi g tTr me) :=
  ⟨PE.imp (pe_lc hc hN hi.pi ok hg (fun _ _ _ _ _ => pts_nil) (fun s H C cl fp => (he s H C cl fp).pe) hs) fun σ H Q ⟨M, env, Y, rp, q⟩ =>
    lc_sound (mt := tTr) gs his (fun σ M H env Y Q rp q => q M H .refl rp) rp q⟩
theorem vf_lc1 {d : Expr} (hc : X.calm = true) (hN : X.N.Nodup) (hi : VI X c EK tg iter mi) (ok : BlkOk X.N X.env.scope scope own) (gs : GSem X.K c t is g) (his : ∀ i ∈ is, i ∈ own.map (·.2))
    (hg : ∀ (s : Shared) (H : Hp) (C : Addr) (cl : List (Str × Addr)) (fp : List Addr), PG (X.blk s H scope (compEnvC scope cl C X.env) fp) tg t)
    (ht : ∀ (s : Shared) (H : Hp) (C : Addr) (cl : List (Str × Addr)) (fp : List Addr), VT (X.blk s H scope (compEnvC scope cl C X.env) fp) c E0 d mt)
    (he : ∀ (s : Shared) (H : Hp) (C : Addr) (cl : List (Str × Addr)) (fp : List Addr), VE (X.blk s H scope (compEnvC scope cl C X.env) fp) c E0 elt me) (hs : ∀ x, foldedSetIterable iter X.env x = pure x := by intro _; rfl) :
    VF X c EK (.ListComp elt [⟨tg, iter, [d], 0⟩] scope pos) (lcM (own.map (·.2)) mi g mt me) :=
  ⟨PE.imp (pe_lc (tt := tT X.K X.mg c E0 mt) hc hN hi.pi ok hg (fun s H C cl fp => pts_one (ht s H C cl fp).pt) (fun s H C cl fp => (he s H C cl fp).pe) hs) fun σ H Q ⟨M, env, Y, rp, q⟩ =>
    lc_sound (mt := mt) gs his (fun σ M H env Y Q rp q => ⟨M, env, Y, rp, (mt env).mono (fun _ h => h) (fun _ z => z.elim) q⟩) rp q⟩
/-- x = [..] on one row, x a plain local -/
theorem vs_lc {i : Nat} {y : Str} {py spos : Pos} (hc : X.calm = true) (hN : X.N.Nodup) (hi : VI X c EK tg iter mi) (ok : BlkOk X.N X.env.scope scope own) (gs : GSem X.K c t is g) (his : ∀ i ∈ is, i ∈ own.map (·.2))
    (hg : ∀ (s : Shared) (H : Hp) (C : Addr) (cl : List (Str × Addr)) (fp : List Addr), PG (X.blk s H scope (compEnvC scope cl C X.env) fp) tg t)
    (he : ∀ (s : Shared) (H : Hp) (C : Addr) (cl : List (Str × Addr)) (fp : List Addr), VE (X.blk s H scope (compEnvC scope cl C X.env) fp) c E0 elt me) (hs : ∀ x, foldedSetIterable iter X.env x = pure x := by intro _; rfl) (hy : X.N[i]? = some y := by rfl) (hyl : X.env.scope.names.lookup y = some .local := by rfl)
    (hsw : swapsWith (.ListComp elt [⟨tg, iter, [], 0⟩] scope pos) (some (.Name y py)) spos.line X.env = pure true := by exact sw_true rfl rfl rfl (by decide +kernel)) :
    PS X (.Assign [.Name y py] (.ListComp elt [⟨tg, iter, [], 0⟩] scope pos) spos) (tAsg (tF X.K X.mg c EK (lcM (own.map (·.2)) mi g tTr me)) (gName i)) :=
  PS.imp (ps_setLc hc hN hy hyl hsw hi.pi ok hg (fun _ _ _ _ _ => pts_nil) (fun s H C cl fp => (he s H C cl fp).pe) hs) fun D σ H ⟨M, env, Y, rp, q⟩ =>
    lc_sound (mt := tTr) gs his (fun σ M H env Y Q rp q => q M H .refl rp) rp q
theorem vs_lc1 {i : Nat} {y : Str} {py spos : Pos} {d : Expr} (hc : X.calm = true) (hN : X.N.Nodup) (hi : VI X c EK tg iter mi) (ok : BlkOk X.N X.env.scope scope own) (gs : GSem X.K c t is g) (his : ∀ i ∈ is, i ∈ own.map (·.2))
    (hg : ∀ (s : Shared) (H : Hp) (C : Addr) (cl : List (Str × Addr)) (fp : List Addr), PG (X.blk s H scope (compEnvC scope cl C X.env) fp) tg t)
    (ht : ∀ (s : Shared) (H : Hp) (C : Addr) (cl : List (Str × Addr)) (fp : List Addr), VT (X.blk s H scope (compEnvC scope cl C X.env) fp) c E0 d mt)
    (he : ∀ (s : Shared) (H : Hp) (C : Addr) (cl : List (Str × Addr)) (fp : List Addr), VE (X.blk s H scope (compEnvC scope cl C X.env) fp) c E0 elt me) (hs : ∀ x, foldedSetIterable iter X.env x = pure x := by intro _; rfl) (hy : X.N[i]? = some y := by rfl) (hyl : X.env.scope.names.lookup y = some .local := by rfl)
    (hsw : swapsWith (.ListComp elt [⟨tg, iter, [d], 0⟩] scope pos) (some (.Name y py)) spos.line X.env = pure true := by exact sw_true rfl rfl rfl (by decide +kernel)) :
    PS X (.Assign [.Name y py] (.ListComp elt [⟨tg, iter, [d], 0⟩] scope pos) spos) (tAsg (tF X.K X.mg c EK (lcM (own.map (·.2)) mi g mt me)) (gName i)) :=
  PS.imp (ps_setLc (tt := tT X.K X.mg c E0 mt) hc hN hy hyl hsw hi.pi ok hg (fun s H C cl fp => pts_one (ht s H C cl fp).pt) (fun s H C cl fp => (he s H C cl fp).pe) hs) fun D σ H ⟨M, env, Y, rp, q⟩ =>
    lc_sound (mt := mt) gs his (fun σ M H env Y Q rp q => ⟨M, env, Y, rp, (mt env).mono (fun _ h => h) (fun _ z => z.elim) q⟩) rp q
/-- .. as data -/
theorem ps_data {st : Stmt} {i : Nat} {ms : Mo (List PyData)} (h : PS X st (tAsg (tF X.K X.mg c EK ms) (gName i))) : PS X st (tAsg (tV X.K X.mg c EK (eList ms)) (gName i)) :=
  PS.imp h fun D σ H ⟨M, env, Y, rp, w⟩ => seq_F w rp (fun _ h => h) fun ds env1 a vs M1 H1 s1 rp1 a1 q1 => q1 _ _ H1 (s1.trans (.less fun _ z => z.1)) rp1.tmpDrop (rp1.tmpAt a1)
end
end
end VL

set_option Elab.async false
set_option linter.all false
set_option maxRecDepth 100000
set_option maxHeartbeats 4000000
/-! any, all of a generator expression of two clauses. -/
namespace GA
open PySem PySem.Spec PyProof.Rows L2 GenW GxR
abbrev ge2 (elt tg iter tg1 iter1 : Expr) (scope : Scope) (pos : Pos) : Expr := .GeneratorExp elt [⟨tg, iter, [], 0⟩, ⟨tg1, iter1, [], 0⟩] scope pos
theorem turn_outer (elt tg iter tg1 iter1 : Expr) (scope : Scope) (pos : Pos) (src acc : Value) (env : Env) : compTurn (ge2 elt tg iter tg1 iter1 scope pos) 0 src acc env = (do
    standAt iter.pos
    match ← pyNext src with
    | none => pure (.done .next)
    | some u =>
      letOwnedTupleGo tg src u
      assign tg env u
      let mut go := true
      for q in ([] : List Expr) do
        if go then go ← isTrue q env (eval q env)
      if go then
        let y ← eval iter1 env
        standAt iter1.pos
        let y ← foldedSetIterable iter1 env y
        let _ ← runOwn (.compStart (ge2 elt tg iter tg1 iter1 scope pos) 1 (← holding [y] (pyIter y)) acc env) env
      again (.compLoop (ge2 elt tg iter tg1 iter1 scope pos) 0 src acc env)) := by rfl
theorem turn_inner (elt tg iter tg1 iter1 : Expr) (scope : Scope) (pos : Pos) (src acc : Value) (env : Env) : compTurn (ge2 elt tg iter tg1 iter1 scope pos) 1 src acc env = (do
    standAt iter1.pos
    match ← pyNext src with
    | none => pure (.done .next)
    | some u =>
      letOwnedTupleGo tg1 src u
      assign tg1 env u
      let mut go := true
      for q in ([] : List Expr) do
        if go then go ← isTrue q env (eval q env)
      if go then
        (do let y ← eval elt env; standAt elt.pos; let _ ← yieldOut env y)
      again (.compLoop (ge2 elt tg iter tg1 iter1 scope pos) 1 src acc env)) := by rfl
theorem inv_around {X : Cx} {pins : List (Addr × Obj)} {σ : L2.St} {H : Hp} {s : Shared} {A1 : Around} (h1 : A1.handled = X.A.handled) (h2 : A1.frames = X.A.frames) (I : Inv X pins σ H s) : Inv { X with A := A1 } pins σ H s := by
  have o := I.ok
  exact ⟨⟨o.mod, o.kind, o.glob, o.blt, o.above, o.inj, o.has, o.cab, fun z => h1.trans (o.hd z), h2.trans o.frames, o.stk, o.exf, o.bs, o.bsz, o.noex, o.exfs, o.funs, o.frf⟩, I.os, I.bare, I.base, I.loc, I.cell, I.free, I.freeC, I.pin, I.hok, I.len⟩
theorem inv_home {X : Cx} {pins : List (Addr × Obj)} {σ : L2.St} {H : Hp} {s : Shared} {A1 : Around} (h1 : A1.handled = X.A.handled) (h2 : A1.frames = X.A.frames) (I : Inv { X with A := A1 } pins σ H s) : Inv X pins σ H s :=
  inv_around (X := { X with A := A1 }) (A1 := X.A) h1.symm h2.symm I
/-- what the turns of the two clauses ask; the measure runs through both -/
def Turn2 (J : It) (g : TG) (wi1 : TI) (g1 : TG) (te : TE) (σw : L2.St) (vs vs1 : List Nat) (stop : Bool) (Qf Qe : Hp → Prop) (W : Nat → Nat → Hp → Prop) : Prop := ∀ i m H, W i m H →
  (J.stop i H ∧ Qe H) ∨ (J.go i H ∧ ∀ x H', J.yld i H x H' → g x σw H' fun σ2 H2 => wipe σ2 vs = σw ∧ wi1 σ2 H2 fun J1 H3 => ∃ W1 : Nat → Nat → Hp → Prop, (∃ k, W1 0 k H3) ∧ (∀ j k H, W1 j k H → k < m) ∧ ∀ j k H, W1 j k H →
    (J1.stop j H ∧ ∃ m', m' ≤ k ∧ W (i + 1) m' H) ∨ (J1.go j H ∧ ∀ y H', J1.yld j H y H' → g1 y (wipe σ2 vs1) H' fun σ3 H4 => wipe σ3 vs1 = wipe σ2 vs1 ∧ te σ3 H4 fun z H5 => ∃ b, z = .bl b ∧ (b = stop → Qf H5) ∧ (b = !stop → ∃ k', k' < k ∧ W1 (j + 1) k' H5)))
section
variable {X' : Cx} {A : Around} {elt tg iter tg1 iter1 : Expr} {scope : Scope} {pos : Pos} {it it1 : Addr} {fp fp1 : List Addr} {tn tn1 : Nat → Heap → Prop} {K0 : PySem.W.Frag} {J J1 : It} {g g1 : TG} {wi1 : TI} {te : TE} {σw σ2 : L2.St} {vs vs1 : List Nat} {stop : Bool} {Qf Qe : Hp → Prop} {W W1 : Nat → Nat → Hp → Prop} {pn pn1 : List (Addr × Obj)}
/-- the inner loop, over the outer one's frame -/
theorem seg_in {fr : Frame} {A1 : Around} {R : GenEnd} {NxI : Nat → Hp → Prop} (hA : A.over (.compLoop (ge2 elt tg iter tg1 iter1 scope pos) 1 (.ref it1) .none X'.env) [fr] = A1) (h1 : A1.handled = X'.A.handled) (h2 : A1.frames = X'.A.frames)
    (hsp : splitAtGen [fr] = none) (hgd : [fr].any Frame.guarded = false) (hxe : X'.xe = fun _ _ => False) (hcalm : X'.calm = true) (hco : X'.env.scope.isCoroutine = false)
    (T1 : Turn X'.prog X'.w X'.K tg1 J1 fp1 it1 tn1) (pg1 : PG { X' with A := A1 } tg1 g1) (pe : PE { X' with A := A1 } elt te)
    (hst : ∀ H', (∀ b ∈ fp1, H' b = none) → ∀ b ∈ fp1, FpOk { X' with A := A1 } pn1 H' b)
    (hout : ∀ H s, Inv X' pn1 (wipe σ2 vs1) H s → Inv X' pn σw H s)
    (hend : ∀ n s₀ s k H, k < n → Inv X' pn1 (wipe σ2 vs1) H s → NxI k H → Seg (model X'.prog X'.w) A R (YA X' pn σw stop Qf) n s₀ (.compLoop (ge2 elt tg iter tg1 iter1 scope pos) 1 (.ref it1) .none X'.env) (.pure (.done .next)) [fr] s)
    (turn : ∀ j k H, W1 j k H → (J1.stop j H ∧ NxI k H) ∨ (J1.go j H ∧ ∀ y H', J1.yld j H y H' → g1 y (wipe σ2 vs1) H' fun σ3 H4 => wipe σ3 vs1 = wipe σ2 vs1 ∧ te σ3 H4 fun z H5 => ∃ b, z = .bl b ∧ (b = stop → Qf H5) ∧ (b = !stop → ∃ k', k' < k ∧ W1 (j + 1) k' H5))) :
    ∀ (n : Nat) (s₀ s : Shared) (j k : Nat) (H : Hp), k < n → Inv { X' with A := A1 } pn1 (wipe σ2 vs1) H s → tn1 j s.heap → (∀ b ∈ fp1, H b = none) → W1 j k H →
      Seg (model X'.prog X'.w) A R (YA X' pn σw stop Qf) n s₀ (.compLoop (ge2 elt tg iter tg1 iter1 scope pos) 1 (.ref it1) .none X'.env)
        ((model X'.prog X'.w).den (.compLoop (ge2 elt tg iter tg1 iter1 scope pos) 1 (.ref it1) .none X'.env)) [fr] s := by
  intro n
  induction n with
  | zero => intro s₀ s j k H hk; exact absurd hk (Nat.not_lt_zero _)
  | succ n ih =>
    intro s₀ s j k H hk I st nn w
    have hxe1 : ({ X' with A := A1 } : Cx).xe = fun _ _ => False := hxe
    show Seg _ A _ _ _ s₀ _ ((compTurn (ge2 elt tg iter tg1 iter1 scope pos) 1 (.ref it1) .none X'.env).onRaise (fun x => do noteFrame x X'.env; theTreesLotGoes x)) [fr] s
    rw [turn_inner, Sem.onRaise_eq_wrap]
    refine seg_bind_wrap (wpAny_standAt ?_)
    rcases turn j k H w with ⟨hstop, qe⟩ | ⟨hgo, step⟩
    · refine seg_bind_wrap ?_
      rw [hA]
      refine thnF (T1.done { X' with A := A1 } rfl rfl rfl hcalm j pn1 s _ H (fun _ _ => False) I (hst H nn) st hstop) fun r s1 ⟨hr, I1⟩ => ?_
      subst hr
      exact hend _ _ _ k H hk (inv_home h1 h2 I1) qe
    · refine seg_bind_wrap ?_
      rw [hA]
      refine thnF (T1.item { X' with A := A1 } rfl rfl rfl hcalm j pn1 s _ H (fun _ _ => False) I (hst H nn) st hgo) fun r s1 ⟨u, hr, h1'⟩ => ?_
      subst hr
      refine seg_bind_wrap ?_
      rw [hA]
      refine thnF h1' fun _ s2 ⟨x, H2, I2, r2, y2, st2, n2⟩ => ?_
      have I2' := I2.pinned (hst H2 n2) (T1.obj _ _ st2)
      refine seg_bind_wrap ?_
      rw [hA]
      have pgr := pg1.run _ s2 _ H2 x u _ I2' r2 (step x H2 y2)
      refine thnF (wpAny_mono pgr (fun _ _ q => q) fun e s' z => (by have z' : X'.xe e s' := z; rw [hxe] at z'; exact z')) fun _ s3 ⟨σ3, H3, I3, hw3, q3⟩ => ?_
      simp only [List.forIn_nil]
      refine seg_bind_wrap (wpAny_pure ?_)
      simp only [if_true]
      have hy : ∀ v, yieldOut X'.env v = yieldValue v := fun v => by simp only [yieldOut, hco, Bool.false_eq_true, if_false]
      simp only [hy]
      rw [Sem.bind_eq_wrap', Sem.bind_eq_wrap', Sem.wrap_wrap, Sem.wrap_wrap]
      refine seg_wrap ?_
      rw [hA]
      have per := pe.run _ s3 σ3 H3 _ I3 q3
      refine thnF (wpAny_mono per (fun _ _ q => q) fun e s' z => (by have z' : X'.xe e s' := z; rw [hxe] at z'; exact z')) fun yv s4 ⟨yV, H4, I4, r4, b, hyb, q4⟩ => ?_
      subst hyb
      have r4' : yv = Value.bool b := r4
      subst r4'
      have pin' : ∀ b ∈ fp1, ∀ o, s2.heap.get? b = some o → s4.heap.get? b = some o ∧ H4 b = none := fun b hb o e =>
        let z := I4.pin (b, o) (List.mem_append_right _ (List.mem_append_right _ (mem_pinsAt hb e)))
        ⟨z.1, z.2.1⟩
      have hl : (wipe σ2 vs1).length = σ3.length := by rw [← hw3, wipe_length]
      have I5 : Inv { X' with A := A1 } pn1 (wipe σ2 vs1) H4 s4 := (I4.unpinned (pins := pn1)).weak hl fun j v e => by
        rw [← hw3] at e
        exact (wipe_some e).1
      have st5 : tn1 (j + 1) s4.heap := T1.keep _ _ _ st2 fun b hb o e => (pin' b hb o e).1
      have n5 : ∀ b ∈ fp1, H4 b = none := fun b hb => by
        obtain ⟨o, e, _⟩ := T1.obj _ _ st2 b hb
        exact (pin' b hb o e).2
      refine seg_at (seg_yield hsp rfl hgd ⟨b, H4, rfl, hout H4 s4 (inv_home h1 h2 I5), ?_⟩)
      by_cases hb : b = stop
      · exact .inl ⟨hb, q4.1 hb⟩
      · have hb' : b = !stop := by
          cases b <;> cases stop <;> first | rfl | exact absurd rfl hb
        obtain ⟨k', hk', w'⟩ := q4.2 hb'
        refine .inr ⟨hb', fun s'' ⟨z1, z2, z3⟩ => ?_⟩
        refine seg_again rfl (ih s'' s'' (j + 1) k' H4 (by omega) (inv_gens I5 z1 z2 z3) (by rw [z1]; exact st5) n5 w')

theorem seg_start1 {fr : Frame} {src : Addr} {env : Env} {R : GenEnd} {Y : Protocol} {n : Nat} {s₀ s : Shared} {prog : Program} {w : World} {j : Nat} (T1 : Turn prog w K0 tg1 J1 fp1 src tn1) (st : tn1 j s.heap)
    (h : Seg (model prog w) A R Y n s₀ (.compLoop (ge2 elt tg iter tg1 iter1 scope pos) 1 (.ref src) .none env) ((model prog w).den (.compLoop (ge2 elt tg iter tg1 iter1 scope pos) 1 (.ref src) .none env)) [fr] s) :
    Seg (model prog w) A R Y n s₀ (.compStart (ge2 elt tg iter tg1 iter1 scope pos) 1 (.ref src) .none env) ((model prog w).den (.compStart (ge2 elt tg iter tg1 iter1 scope pos) 1 (.ref src) .none env)) [fr] s := by
  show Seg _ A _ _ _ s₀ _ ((compStart (ge2 elt tg iter tg1 iter1 scope pos) 1 (.ref src) .none env).onRaise (fun x => do noteFrame x env; standAt theWindowsPlace)) [fr] s
  unfold compStart
  rw [Sem.onRaise_eq_wrap]
  show Seg _ A _ _ _ s₀ _ ((ask >>= _).wrap _ _ _ _) [fr] s
  refine seg_bind_wrap (wpAny_askSetting ?_)
  split
  · exact seg_again rfl h
  · first
      | exact seg_bind_wrap (wpAny_rule (seg_bind_wrap (wpAny_standAt (seg_bind_wrap (T1.self _ j s _ _ st (seg_again rfl h))))))
      | (refine seg_bind_wrap (wpAny_rule ?_); show Seg _ A _ _ _ s₀ _ ((standAt iter1.pos >>= _).wrap _ _ _ _) [fr] s; exact seg_bind_wrap (wpAny_standAt (seg_bind_wrap (T1.self _ j s _ _ st (seg_again rfl h)))))
/-- the outer loop -/
theorem seg_out (hA : A.over (.compLoop (ge2 elt tg iter tg1 iter1 scope pos) 0 (.ref it) .none X'.env) [] = X'.A) (hhd : X'.A.handled = none) (hex : X'.ex = fp) (hpn0 : X'.pn = []) (hxe : X'.xe = fun _ _ => False) (hcalm : X'.calm = true)
    (hco : X'.env.scope.isCoroutine = false) (T : Turn X'.prog X'.w X'.K tg J fp it tn) (hpf : ∀ p ∈ pn, p.1 ∉ fp) (pg : PG X' tg g) (pi1 : PI X' tg1 iter1 wi1)
    (hin : ∀ A1 : Around, A1.handled = X'.A.handled → A1.depth = X'.A.depth → A1.units = X'.A.units → PG { X' with A := A1 } tg1 g1 ∧ PE { X' with A := A1 } elt te)
    (hs1 : ∀ x, foldedSetIterable iter1 X'.env x = pure x) (hv : ∀ i ∈ vs1, i ∈ vs) (turn : Turn2 J g wi1 g1 te σw vs vs1 stop Qf Qe W) :
    ∀ (m n : Nat) (s₀ s : Shared) (i : Nat) (H : Hp), m < n → Inv X' pn σw H s → tn i s.heap → (∀ b ∈ fp, H b = none) → W i m H →
      Seg (model X'.prog X'.w) A (fun n s₀ r s₁ => r = .ok .next ∧ PA' X' pn σw Qe n s₀ s₁) (YA X' pn σw stop Qf) n s₀
        (.compLoop (ge2 elt tg iter tg1 iter1 scope pos) 0 (.ref it) .none X'.env)
        ((model X'.prog X'.w).den (.compLoop (ge2 elt tg iter tg1 iter1 scope pos) 0 (.ref it) .none X'.env)) [] s := by
  have stat : ∀ {σ' : L2.St} {H' : Hp} {s' : Shared}, Inv X' pn σ' H' s' → (∀ b ∈ fp, H' b = none) → ∀ b ∈ fp, FpOk X' pn H' b := fun {σ' H' s'} I' hn b hb =>
    ⟨hn b hb, (I'.ok.exf b (by rw [hex]; exact hb)).1, I'.ok.exfs b (by rw [hex]; exact hb), .inl (by rw [hex]; exact hb), fun x c e => (I'.ok.exf b (by rw [hex]; exact hb)).2 x c e, fun p hp => by
      rw [hpn0] at hp
      intro z
      exact hpf p (by simpa using hp) (by rw [z]; exact hb)⟩
  intro m
  induction m using Nat.strongRecOn with
  | ind m ih =>
    intro n s₀ s i H hm I st nn w
    show Seg _ A _ _ _ s₀ _ ((compTurn (ge2 elt tg iter tg1 iter1 scope pos) 0 (.ref it) .none X'.env).onRaise (leaving X'.env)) [] s
    rw [turn_outer, Sem.onRaise_eq_wrap]
    refine seg_bind_wrap (wpAny_standAt ?_)
    rcases turn i m H w with ⟨hstop, qe⟩ | ⟨hgo, step⟩
    · refine seg_bind_wrap ?_
      rw [hA]
      refine thnF (T.done X' rfl rfl rfl hcalm i pn s σw H (fun _ _ => False) I (stat I nn) st hstop) fun r s1 ⟨hr, I1⟩ => ?_
      subst hr
      exact seg_end (.ok .next) ⟨rfl, H, I1, qe⟩
    · refine seg_bind_wrap ?_
      rw [hA]
      refine thnF (T.item X' rfl rfl rfl hcalm i pn s σw H (fun _ _ => False) I (stat I nn) st hgo) fun r s1 ⟨u, hr, h1⟩ => ?_
      subst hr
      refine seg_bind_wrap ?_
      rw [hA]
      refine thnF h1 fun _ s2 ⟨x, H2, I2, r2, y2, st2, n2⟩ => ?_
      have I2' := I2.pinned (stat I2 n2) (T.obj _ _ st2)
      refine seg_bind_wrap ?_
      rw [hA]
      have pgr := pg.run _ s2 _ H2 x u _ I2' r2 (step x H2 y2)
      rw [hxe] at pgr
      refine thnF pgr fun _ s3 ⟨σ3, H3, I3, hw3, q3⟩ => ?_
      simp only [List.forIn_nil]
      refine seg_bind_wrap (wpAny_pure ?_)
      simp only [if_true]
      have pir := pi1.run _ s3 σ3 H3 _ I3 q3
      rw [hxe] at pir
      refine seg_bind_wrap ?_
      rw [hA]
      refine thnF pir fun xv s4 hx => ?_
      refine seg_bind_wrap (wpAny_standAt (seg_bind_wrap (wpAny_of_eq (hs1 xv) (seg_bind_wrap (wpAny_holding ?_)))))
      rw [hA]
      refine thnF hx fun itv s5 h5 => ?_
      obtain ⟨it1, fp1, tn1, J1, H5, e5, I5, T1, st5, f5, W1, ⟨k1, w1⟩, hkm, turn1⟩ := h5
      have hk1 := hkm _ _ _ w1
      subst e5
      rw [Sem.bind_eq_wrap', Sem.wrap_wrap]
      refine seg_call fun p => ?_
      have k0 : X'.A.handled = A.handled := by rw [← hA]; rfl
      have k1' : X'.A.frames = A.frames.map ([X'.env] ++ ·) := by rw [← hA]; rfl
      have k2' : X'.A.depth = A.depth + 1 := by rw [← hA]; rfl
      have k3' : X'.A.units = A.units + 3 := by rw [← hA]; rfl
      refine seg_start1 T1 st5 ?_
      generalize hfr : (Frame.ret _ _ _ _ _ p _) = fr
      generalize hA1 : A.over (.compLoop (ge2 elt tg iter tg1 iter1 scope pos) 1 (.ref it1) .none X'.env) [fr] = A1
      have e0 : A1.handled = X'.A.handled := by rw [k0, ← hA1, ← hfr]; rfl
      have e1 : A1.frames = X'.A.frames := by rw [k1', ← hA1, ← hfr]; rfl
      have e2 : A1.depth = X'.A.depth := by rw [k2', ← hA1, ← hfr]; rfl
      have e3 : A1.units = X'.A.units := by rw [k3', ← hA1, ← hfr]; rfl
      obtain ⟨pg1, pe1⟩ := hin A1 e0 e2 e3
      have ew : ∀ (j : Nat) v, σw[j]? = some (some v) → (wipe σ3 vs1)[j]? = some (some v) := fun j v e => by
        rw [← hw3] at e
        obtain ⟨q1, q2⟩ := wipe_some e
        rw [L2.wipe_out fun z => q2 (hv j z)]
        exact q1
      have el : σw.length = (wipe σ3 vs1).length := by rw [← hw3, wipe_length, wipe_length]
      refine seg_in (NxI := fun k H => ∃ m', m' < m ∧ m' ≤ k ∧ W (i + 1) m' H) (W1 := W1) hA1 e0 e1 (by rw [← hfr]; rfl) (by rw [← hfr]; rfl) hxe hcalm hco T1 pg1 pe1 (fun H' hn b hb => ⟨hn b hb, (f5 b hb).2⟩) (fun H' s' I' => (I'.unpinned (pins := pn)).weak el ew)
        (fun n' s0' s' k' H' hkn I' nx => ?_) (fun j k H w => (turn1 j k H w).imp (fun z => ⟨z.1, by obtain ⟨m', h1, h2⟩ := z.2; have := hkm _ _ _ w; exact ⟨m', by omega, h1, h2⟩⟩) id) n s₀ s5 0 k1 H5 (by omega) (inv_around e0 e1 (I5.weak (by rw [wipe_length]) fun j v e => (wipe_some e).1)) st5 (fun b hb => (f5 b hb).1) w1
      obtain ⟨m', hk', hm', w'⟩ := nx
      have pin' : ∀ b ∈ fp, ∀ o, s2.heap.get? b = some o → s'.heap.get? b = some o ∧ H' b = none := fun b hb o e =>
        let z := I'.pin (b, o) (List.mem_append_right _ (List.mem_append_right _ (mem_pinsAt hb e)))
        ⟨z.1, z.2.1⟩
      have st6 : tn (i + 1) s'.heap := T.keep _ _ _ st2 fun b hb o e => (pin' b hb o e).1
      have n6 : ∀ b ∈ fp, H' b = none := fun b hb => by
        obtain ⟨o, e, _⟩ := T.obj _ _ st2 b hb
        exact (pin' b hb o e).2
      rw [← hfr]
      refine seg_leaf (.ok .next) ?_
      exact seg_again rfl (ih m' (by omega) n' s0' s' (i + 1) H' (by omega) ((I'.unpinned (pins := pn)).weak el ew) st6 n6 w')

theorem seg_first2 (hA : A.over (.compLoop (ge2 elt tg iter tg1 iter1 scope pos) 0 (.ref it) .none X'.env) [] = X'.A) (hhd : X'.A.handled = none) (hex : X'.ex = fp) (hpn0 : X'.pn = []) (hxe : X'.xe = fun _ _ => False) (hcalm : X'.calm = true)
    (hco : X'.env.scope.isCoroutine = false) (T : Turn X'.prog X'.w X'.K tg J fp it tn) (hpf : ∀ p ∈ pn, p.1 ∉ fp) (pg : PG X' tg g) (pi1 : PI X' tg1 iter1 wi1)
    (hin : ∀ A1 : Around, A1.handled = X'.A.handled → A1.depth = X'.A.depth → A1.units = X'.A.units → PG { X' with A := A1 } tg1 g1 ∧ PE { X' with A := A1 } elt te)
    (hs1 : ∀ x, foldedSetIterable iter1 X'.env x = pure x) (hv : ∀ i ∈ vs1, i ∈ vs) (turn : Turn2 J g wi1 g1 te σw vs vs1 stop Qf Qe W)
    (n : Nat) (s₀ s : Shared) (m : Nat) (H : Hp) (hm : m < n) (I : Inv X' pn σw H s) (st : tn 0 s.heap) (nn : ∀ b ∈ fp, H b = none) (w : W 0 m H) :
      Seg (model X'.prog X'.w) A (fun n s₀ r s₁ => r = .ok .next ∧ PA' X' pn σw Qe n s₀ s₁) (YA X' pn σw stop Qf) n s₀
        (.compStart (ge2 elt tg iter tg1 iter1 scope pos) 0 (.ref it) .none X'.env)
        ((model X'.prog X'.w).den (.compStart (ge2 elt tg iter tg1 iter1 scope pos) 0 (.ref it) .none X'.env)) [] s := by
  have loop := seg_out hA hhd hex hpn0 hxe hcalm hco T hpf pg pi1 hin hs1 hv turn m n s₀ s 0 H hm I st nn w
  show Seg _ A _ _ _ s₀ _ ((compStart (ge2 elt tg iter tg1 iter1 scope pos) 0 (.ref it) .none X'.env).onRaise (leaving X'.env)) [] s
  unfold compStart
  rw [Sem.onRaise_eq_wrap]
  show Seg _ A _ _ _ s₀ _ ((ask >>= _).wrap _ _ _ _) [] s
  refine seg_bind_wrap (wpAny_askSetting ?_)
  split
  · exact seg_again rfl loop
  · first
      | exact seg_bind_wrap (wpAny_rule (seg_bind_wrap (wpAny_standAt (seg_bind_wrap (T.self _ 0 s _ _ st (seg_again rfl loop))))))
      | (refine seg_bind_wrap (wpAny_rule ?_); show Seg _ A _ _ _ s₀ _ ((standAt iter.pos >>= _).wrap _ _ _ _) [] s; exact seg_bind_wrap (wpAny_standAt (seg_bind_wrap (T.self _ 0 s _ _ st (seg_again rfl loop)))))
end
section
variable {M : Model} {A : Around} {E : Value → Shared → Prop} {s : Shared}
theorem eval_ge2 (elt tg iter tg1 iter1 : Expr) (scope : Scope) (pos : Pos) (env : Env) (hco : scope.isCoroutine = false) : eval (ge2 elt tg iter tg1 iter1 scope pos) env = (do
      let y ← eval iter env
      standAt iter.pos
      let y ← genFold iter env y
      let src ← holding [y] (pyIter y)
      enterFrame
      let held ← closureFor scope env
      let cd ← genexprCode env pos (env.qual ++ "<genexpr>") scope
      let blt ← builtinsFor env.globals env.builtins
      let own ← newFunctionEnv scope env.globals held [(".0", src)] (env.qual ++ "<genexpr>.") none cd none blt
      newGenerator (.compStart (ge2 elt tg iter tg1 iter1 scope pos) 0 src .none own) "<genexpr>" (env.qual ++ "<genexpr>")) := by
  show eval (.GeneratorExp _ _ _ _) env = _
  rw [arm_eval_GeneratorExp]
  simp only [hco, Bool.false_eq_true, if_false]
  cases iter <;> rfl
theorem make_ge2 {env : Env} {elt tg iter tg1 iter1 : Expr} {scope : Scope} {held : List (Str × Addr)} {pos : Pos} {Q : Value → Shared → Prop}
    (hco : scope.isCoroutine = false) (hclos : closureFor scope env = pure held) (hcell : ∀ y ∈ scope.names, y.2 ≠ .cell) (h0 : scope.names.lookup (".0" : Str) = some NameKind.local) (hkind : scope.kind = .function)
    (hroom : A.depth < recursionLimit)
    (h : wpAny M A (eval iter env) (fun xv s1 => wpAny M A (pyIter xv) (fun src s2 => s2.heap.NoLimit ∧
      wpAny M A (genexprCode env pos (env.qual ++ "<genexpr>") scope) (fun cd s3 => wpAny M A (builtinsFor env.globals env.builtins) (fun bi s4 =>
        ∀ h9, h9.Ns s4.heap.objs.size (fun y => if y = ".0" then some src else none) → Heap.SameBut s4.heap.objs.size (s4.heap.push { cls := .type "frame", data := .dict #[] }) h9 →
          Q (.ref h9.objs.size) { s4 with
            gens := s4.gens.push (.fresh (.compStart (ge2 elt tg iter tg1 iter1 scope pos) 0 src .none (genEnv scope held s4.heap.objs.size cd bi env))),
            toks := s4.toks + 1 + 1 + 1,
            heap := h9.push { cls := .type "generator", data := .fields #[.int s4.gens.size 0, .str "<genexpr>" (s4.toks + 1), .str (env.qual ++ "<genexpr>") (s4.toks + 1 + 1)] } }) E s3) E s2) E s1) E s)
    (hs : ∀ x, genFold iter env x = pure x) : wpAny M A (eval (ge2 elt tg iter tg1 iter1 scope pos) env) Q E s := by
  rw [eval_ge2 _ _ _ _ _ _ _ _ hco, hclos]
  refine wpAny_bind (wpAny_mono h (fun xv s1 h1 => ?_) fun _ _ e => e)
  refine wpAny_bind (wpAny_standAt ?_)
  refine wpAny_bind (wpAny_of_eq (hs xv) ?_)
  refine wpAny_bind (wpAny_holding (wpAny_mono h1 (fun src s2 h2 => ?_) fun _ _ e => e))
  refine wpAny_bind (wpAny_enterFrame h2.1 hroom ?_)
  refine wpAny_bind (wpAny_pure ?_)
  refine wpAny_bind (wpAny_mono h2.2 (fun cd s3 h3 => ?_) fun _ _ e => e)
  refine wpAny_bind (wpAny_mono h3 (fun bi s4 h4 => ?_) fun _ _ e => e)
  have hbinds : ∀ y ∈ ([((".0" : Str), src)] : List (Str × Value)), scope.names.lookup y.1 = some NameKind.local := fun y hy => by
    rw [List.mem_singleton.mp hy]
    exact h0
  refine wpAny_bind (wpAny_newFunctionEnv hcell hbinds (fun h9 hn9 hs9 => ?_) hkind)
  have e : (fun y : Str => ([((".0" : Str), src)] : List (Str × Value)).reverse.lookup y) = fun y : Str => if y = (".0" : Str) then some src else none := by
    funext y
    by_cases hy : y = ".0"
    · subst hy; simp
    · have : (y == (".0" : Str)) = false := by simpa using hy
      simp [List.lookup, this, hy]
  rw [e] at hn9
  simp only [newGenerator, newFields]
  refine wpAny_bind (wpAny_newGen (wpAny_bind (wpAny_mkText (wpAny_bind (wpAny_mkText (wpAny_newObj_type ?_ (by size_fits)))))))
  exact h4 h9 hn9 hs9
end
section
variable {X : Cx} {pins : List (Addr × Obj)} {σ : L2.St} {H : Hp} {s : Shared}
theorem gen_make2 {c P : Addr} {elt tg iter tg1 iter1 : Expr} {gpos : Pos} {scope : Scope} {own : List (Str × Nat)} {wi : TI} {g g1 : TG} {wi1 : TI} {te : TE} {vs1 : List Nat} {k : Nat} {stop : Bool} {Qf Qe : Hp → Prop} {Q' : Value → Shared → Prop}
    (hr : Room (k + 1) X.A) (TB : TabB X.base X.mg c P) (hcode : X.env.code = .ref c) (hN : X.N.Nodup) (ok : GOk X.N X.env.scope scope own) (hi : PI X tg iter wi) (hv : ∀ i ∈ vs1, i ∈ own.map (·.2))
    (hi1 : ∀ (A' : Around) (s : Shared) (H : Hp) (C : Addr) (code : Value) (fp : List Addr), Room k A' → PI (gcx X A' s H (genEnv scope (cloFrom X.env.cells scope.names []) C code builtinsNs X.env) fp) tg1 iter1 wi1)
    (hg1 : ∀ (A' : Around) (s : Shared) (H : Hp) (C : Addr) (code : Value) (fp : List Addr), PG (gcx X A' s H (genEnv scope (cloFrom X.env.cells scope.names []) C code builtinsNs X.env) fp) tg1 g1)
    (hs1 : ∀ env x, foldedSetIterable iter1 env x = pure x)
    (hg : ∀ (A' : Around) (s : Shared) (H : Hp) (C : Addr) (code : Value) (fp : List Addr), PG (gcx X A' s H (genEnv scope (cloFrom X.env.cells scope.names []) C code builtinsNs X.env) fp) tg g)
    (he : ∀ (A' : Around) (s : Shared) (H : Hp) (C : Addr) (code : Value) (fp : List Addr), Room k A' → PE (gcx X A' s H (genEnv scope (cloFrom X.env.cells scope.names []) C code builtinsNs X.env) fp) elt te)
    (hs : ∀ v, genFold iter X.env v = pure v) (I : Inv X pins σ H s)
    (h : wi σ H fun J H1 => TabG H1 P ∧ ∀ H2, Tabbed P H1 H2 → ∃ W : Nat → Nat → Hp → Prop, (∃ m, W 0 m H2) ∧ Turn2 J g wi1 g1 te (wipe σ (own.map (·.2))) (own.map (·.2)) vs1 stop Qf Qe W)
    (hQ : ∀ u s5, MadeG X pins σ stop Qf Qe u s5 → Q' u s5) :
    wpAny (model X.prog X.w) X.A (eval (ge2 elt tg iter tg1 iter1 scope gpos) X.env) Q' X.xe s := by
  have hfree : ∀ y ∈ scope.names, y.2 = .free → ∃ c, X.env.cells.lookup y.1 = some c := fun y hy e => by
    rcases ok.free y hy e with k | k
    · exact I.ok.has _ (.inl k)
    · exact I.ok.has _ (.inr k)
  refine make_ge2 ok.co (closure_ok hfree) ok.cell ok.dot ok.kind (by have := hr.dp; omega) ?_ hs
  refine thn (hi.run pins s σ H _ I h) fun xv s1 hx => thn hx fun itv s2 h2 => ?_
  obtain ⟨it, fp, tn, J, H2, e, I2, T, st2, f2, ⟨ps, hP, ht⟩, q⟩ := h2
  subst e
  refine ⟨I2.nolimit, ?_⟩
  have hPs : s2.heap.get? P = some { cls := .none, data := .fields ps } := I2.hok P _ hP
  have cd : PySem.W.CodeHd s2.heap c P := TB.code.keeps I2.bk
  have fpP : ∀ b ∈ fp, b ≠ P := fun b hb z => by
    have := (f2 b hb).1
    rw [z, hP] at this
    cases this
  have cont : ∀ (code : Value) (h3 : Heap) (tk : Nat) (ps' : Array Value), Heap.ExtBut P s2.heap h3 → h3.get? P = some { cls := .none, data := .fields ps' } → (∃ more, ps' = ps ++ more) → TriplesOk ps'.toList →
      wpAny (model X.prog X.w) X.A (builtinsFor X.env.globals X.env.builtins) (fun bi s₄ =>
        ∀ h', h'.Ns s₄.heap.objs.size (fun y => if y = ".0" then some (Value.ref it) else none) → Heap.SameBut s₄.heap.objs.size (s₄.heap.push { cls := .type "frame", data := .dict #[] }) h' →
          Q' (.ref h'.objs.size) { s₄ with
            gens := s₄.gens.push (.fresh (.compStart (ge2 elt tg iter tg1 iter1 scope gpos) 0 (.ref it) .none (genEnv scope (cloFrom X.env.cells scope.names []) s₄.heap.objs.size code bi X.env))),
            toks := s₄.toks + 1 + 1 + 1,
            heap := h'.push { cls := .type "generator", data := .fields #[.int s₄.gens.size 0, .str "<genexpr>" (s₄.toks + 1), .str (X.env.qual ++ "<genexpr>") (s₄.toks + 1 + 1)] } }) X.xe { s2 with heap := h3, toks := tk } := by
    intro code h3 tk ps' hx hP3 hmore ht3
    obtain ⟨bm, ob, e1, e2, e3, e4, e5, e6, e7, e8⟩ := TB.bm
    have keep3 : ∀ b u, b ≠ P → s2.heap.get? b = some u → h3.get? b = some u := fun b u hb e => hx b u hb e
    refine wpAny_builtinsFor (m := X.mg) (by rw [I2.ok.glob]; exact (I2.mod.glob.keeps I2.bk).extBut hx TB.gP) e1 e2 (keep3 _ _ e4 (I2.bk _ _ e5)) e6 e7 e8 ?_
    obtain ⟨more, em⟩ := hmore
    have J3 := inv_tab (more := more) (h' := h3) (g' := s2.gens) (d' := s2.drawn) (t' := tk) I2 hP (fun b u hb e => keep3 b u hb e) (by rw [← em]; exact hP3) I2.bare
    obtain ⟨W, ⟨m, w⟩, turn⟩ := q (upd H2 P (.tbl (ps ++ more))) ⟨⟨ps ++ more, upd_same, by rw [← em]; exact ht3⟩, fun b hb => upd_ne hb⟩
    intro h' hn' hs'
    generalize hs4 : ({ s2 with heap := h3, gens := s2.gens, drawn := s2.drawn, toks := tk } : Shared) = s4 at J3
    have hs4' : ({ s2 with heap := h3, toks := tk } : Shared) = s4 := hs4
    try rw [hs4'] at hn'
    try rw [hs4'] at hs'
    try rw [hs4']
    have eh : s4.heap = h3 := by rw [← hs4]
    have szh : h'.objs.size = s4.heap.objs.size + 1 := by rw [hs'.1, Heap.size_push]
    have keep' : ∀ b o, s4.heap.get? b = some o → h'.get? b = some o := fun b o e => hs'.extBut b o (Nat.ne_of_lt (Heap.lt_size e)) (Heap.get?_push_of_some _ e)
    have st4 : tn 0 s4.heap := T.keep _ _ _ st2 fun b hb o e => by rw [eh]; exact keep3 b o (fpP b hb) e
    have f4 : ∀ b ∈ fp, FpOk X pins (upd H2 P (.tbl (ps ++ more))) b ∧ b < s4.heap.objs.size := fun b hb => by
      obtain ⟨o, e, _⟩ := T.obj _ _ st4 b hb
      exact ⟨⟨by rw [upd_ne (fpP b hb)]; exact (f2 b hb).1, (f2 b hb).2⟩, Heap.lt_size e⟩
    have keep5 : ∀ b o, s4.heap.get? b = some o → (h'.push { cls := .type "generator", data := .fields #[.int s4.gens.size 0, .str "<genexpr>" (s4.toks + 1), .str (X.env.qual ++ "<genexpr>") (s4.toks + 1 + 1)] }).get? b = some o :=
      fun b o e => Heap.get?_push_of_some _ (keep' b o e)
    have hgo : (h'.push { cls := .type "generator", data := .fields #[.int s4.gens.size 0, .str "<genexpr>" (s4.toks + 1), .str (X.env.qual ++ "<genexpr>") (s4.toks + 1 + 1)] }).get? (s4.heap.objs.size + 1) =
        some { cls := .type "generator", data := .fields #[.int s4.gens.size 0, .str "<genexpr>" (s4.toks + 1), .str (X.env.qual ++ "<genexpr>") (s4.toks + 1 + 1)] } := by
      rw [← szh]
      exact Heap.get?_push_size _ rfl
    generalize hA' : X.A.in1.in1.over (.compLoop (ge2 elt tg iter tg1 iter1 scope gpos) 0 (.ref it) .none (genEnv scope (cloFrom X.env.cells scope.names []) s4.heap.objs.size code builtinsNs X.env)) [] = A'
    have rA : Room k A' := by rw [← hA']; exact room_gen hr
    have fA : A'.frames = some (genEnv scope (cloFrom X.env.cells scope.names []) s4.heap.objs.size code builtinsNs X.env :: X.stack) := by rw [← hA']; exact frames_gen I2.ok.frames
    have I5 := gen_start (A' := A') (code := code) (go := { cls := .type "generator", data := .fields #[.int s4.gens.size 0, .str "<genexpr>" (s4.toks + 1), .str (X.env.qual ++ "<genexpr>") (s4.toks + 1 + 1)] })
      (G5 := s4.gens.push (.fresh (.compStart (ge2 elt tg iter tg1 iter1 scope gpos) 0 (.ref it) .none (genEnv scope (cloFrom X.env.cells scope.names []) s4.heap.objs.size code builtinsNs X.env)))) (t5 := s4.toks + 1 + 1 + 1)
      J3 ok hN f4 rA.hd fA keep5 (hn'.push _) hgo (fun v z => by cases z) (J3.bare.push rfl)
    have nfp : ∀ b ∈ fp, (upd H2 P (.tbl (ps ++ more))) b = none := fun b hb => (f4 b hb).1.1
    refine hQ _ _ ⟨h'.objs.size, s4.gens.size, m + 1, _, { cls := .type "generator", data := .fields #[.int s4.gens.size 0, .str "<genexpr>" (s4.toks + 1), .str (X.env.qual ++ "<genexpr>") (s4.toks + 1 + 1)] },
      gcx X A' s4 (upd H2 P (.tbl (ps ++ more))) (genEnv scope (cloFrom X.env.cells scope.names []) s4.heap.objs.size code builtinsNs X.env) fp,
      [(s4.heap.objs.size + 1, { cls := .type "generator", data := .fields #[.int s4.gens.size 0, .str "<genexpr>" (s4.toks + 1), .str (X.env.qual ++ "<genexpr>") (s4.toks + 1 + 1)] })], wipe σ (own.map (·.2)), rfl, rfl, rfl, ?_, ?_, ?_, I5.nolimit, Array.getElem?_push_size .., ?_, ?_⟩
    · rw [szh]; exact List.mem_singleton.mpr rfl
    · exact fun h hh => ⟨_, _, _, hh, rfl, rfl, rfl⟩
    · rw [szh]; exact ⟨_, _, _, hgo, rfl, rfl, rfl⟩
    · refine ⟨rfl, ?_⟩
      have I6 := inv_gens (s' := ({ s4 with
            gens := s4.gens.push (.fresh (.compStart (ge2 elt tg iter tg1 iter1 scope gpos) 0 (.ref it) .none (genEnv scope (cloFrom X.env.cells scope.names []) s4.heap.objs.size code builtinsNs X.env))),
            toks := s4.toks + 1 + 1 + 1,
            heap := h'.push { cls := .type "generator", data := .fields #[.int s4.gens.size 0, .str "<genexpr>" (s4.toks + 1), .str (X.env.qual ++ "<genexpr>") (s4.toks + 1 + 1)] } } : Shared).setGen s4.gens.size .running) I5 rfl rfl (allBare_setGen I5.bare rfl)
      exact seg_first2 (X' := gcx X A' s4 (upd H2 P (.tbl (ps ++ more))) (genEnv scope (cloFrom X.env.cells scope.names []) s4.heap.objs.size code builtinsNs X.env) fp) (A := X.A.in1.in1) hA' rA.hd rfl rfl rfl rfl ok.co T
        (fun p hp z => by
          have e : p = _ := List.mem_singleton.mp hp
          rw [e] at z
          exact absurd (f4 _ z).2 (Nat.not_lt.mpr (Nat.le_succ _))) (hg A' s4 _ _ code fp) (hi1 A' s4 _ _ code fp rA) (fun A1 a1 a2 a3 => ⟨hg1 A1 s4 _ _ code fp, he A1 s4 _ _ code fp ⟨by rw [a1]; exact rA.hd, by rw [a2]; exact rA.dp, by rw [a3]; exact rA.un⟩⟩) (hs1 _) hv turn (m + 1) _ _ m _ (Nat.lt_succ_self m) I6
        (T.keep _ _ _ st4 fun b _ o e => keep5 b o e) nfp w
    · intro H' s' J
      exact J3.call' (ch := fp) J.os J.base J.hok J.bare fun b hb => ⟨(f4 b hb).1.2.2.2.1, (f4 b hb).1.2.1, (f4 b hb).1.2.2.2.2.1, (f4 b hb).1.2.2.2.2.2⟩
  cases hf : codeAmong gpos ps.toList with
  | none =>
    refine wpAny_genexprCodeX hcode (cd.code hPs ht) (cd.tab hPs) hf fun c' h' tk hx hge hlt hco' _ htab' _ => ?_
    obtain ⟨o1, vs, f1, tf, fl, tg, inF, tx, tt, op, _, _, _, _, _, _, _, _, _, htr, _⟩ := hco'
    exact cont _ h' tk _ hx htab'.2 ⟨_, rfl⟩ htr
  | some cv =>
    refine wpAny_genexprCode_hit hcode (cd.code hPs ht) hf ?_
    exact cont cv s2.heap s2.toks ps (Heap.ExtBut.refl _ _) hPs ⟨#[], by simp⟩ ht
end


/-- the reading of any and all, two clauses -/
def tGen2 (stop : Bool) (P : Addr) (wi : TI) (g : TG) (wi1 : TI) (g1 : TG) (te : TE) (vs vs1 : List Nat) : TE := fun σ H Q => wi σ H fun J H1 => TabG H1 P ∧ ∀ H2, Tabbed P H1 H2 → ∃ W : Nat → Nat → Hp → Prop, (∃ m, W 0 m H2) ∧
  Turn2 J g wi1 g1 te (wipe σ vs) vs vs1 stop (fun H' => Q (.bl stop) H') (fun H' => Q (.bl (!stop)) H') W
section
variable {X : Cx} {c P : Addr} {elt tg iter tg1 iter1 : Expr} {p pos gpos : Pos} {scope : Scope} {own : List (Str × Nat)} {wi : TI} {g g1 : TG} {wi1 : TI} {te : TE} {vs1 : List Nat} {k : Nat}
theorem pe_all2 (hr : Room (k + 1) X.A) (hgl : Gl X "all") (hm : X.mg "all" = none) (TB : TabB X.base X.mg c P) (hcode : X.env.code = .ref c) (hN : X.N.Nodup) (ok : GOk X.N X.env.scope scope own) (hi : PI X tg iter wi) (hv : ∀ i ∈ vs1, i ∈ own.map (·.2))
    (hi1 : ∀ (A' : Around) (s : Shared) (H : Hp) (C : Addr) (code : Value) (fp : List Addr), Room k A' → PI (gcx X A' s H (genEnv scope (cloFrom X.env.cells scope.names []) C code builtinsNs X.env) fp) tg1 iter1 wi1)
    (hg1 : ∀ (A' : Around) (s : Shared) (H : Hp) (C : Addr) (code : Value) (fp : List Addr), PG (gcx X A' s H (genEnv scope (cloFrom X.env.cells scope.names []) C code builtinsNs X.env) fp) tg1 g1)
    (hs1 : ∀ env x, foldedSetIterable iter1 env x = pure x)
    (hg : ∀ (A' : Around) (s : Shared) (H : Hp) (C : Addr) (code : Value) (fp : List Addr), PG (gcx X A' s H (genEnv scope (cloFrom X.env.cells scope.names []) C code builtinsNs X.env) fp) tg g)
    (he : ∀ (A' : Around) (s : Shared) (H : Hp) (C : Addr) (code : Value) (fp : List Addr), Room k A' → PE (gcx X A' s H (genEnv scope (cloFrom X.env.cells scope.names []) C code builtinsNs X.env) fp) elt te)
    (hs : ∀ v, genFold iter X.env v = pure v := by intro _; rfl)
    (hst : starEach [ge2 elt tg iter tg1 iter1 scope gpos] X.env = (false, eval (ge2 elt tg iter tg1 iter1 scope gpos) X.env) :: starEach [] X.env := by rfl) :
    PE X (.Call (.Name "all" p) [ge2 elt tg iter tg1 iter1 scope gpos] [] pos) (tGen2 false P wi g wi1 g1 te (own.map (·.2)) vs1) := by
  refine ⟨fun pins s σ H Q I h => ?_⟩
  refine wpAny_Call_Name_kw (ld_blt I hgl hm (show bootBuiltins "all" = some (.builtin "all") by decide +kernel) ?_)
  refine PyProof.Rows.callWith_builtin1 ?_ hst (by rfl)
  rw [hst]
  show wpAny _ _ (spliced ((false, eval (ge2 elt tg iter tg1 iter1 scope gpos) X.env) :: backTo pos (starEach [] X.env))) _ _ s
  refine Calls.spliced_cons (gen_make2 hr TB hcode hN ok hi hv hi1 hg1 hs1 hg he hs I h fun u s5 hG => ?_)
  obtain ⟨a, gn, n, gs, go, X', pn, σw, rfl, e1, e2, hpn, hgen, hig, hl, hgs, hgo, back⟩ := hG
  refine Calls.spliced_nil ?_
  refine call_function_tree F.kind_all F.plain_all F.entry_all (F.args_all1 _) ?_
  unfold Builtin.«all»
  refine wpAny_bind (m := oneArg "all" _) (wpAny_pure ?_)
  refine wpAny_bind (wpAny_pyIter_gen hig ?_)
  refine wpAny_pure ⟨plainId_quiet F.plain_all_loop _, ?_⟩
  rw [← e1, ← e2] at hgo ⊢
  refine all_loop (X' := X') (A := X.A) hr.hd (by have := hr.dp; omega) hpn hgen (fun b H' s' J q1 q2 => ?_) n s5 gs hig hl hgs hgo
  refine ⟨.bl b, H', back H' s' J, rfl, ?_⟩
  cases b with
  | true => exact q1 rfl
  | false => exact q2 rfl
theorem pe_any2 (hr : Room (k + 1) X.A) (hgl : Gl X "any") (hm : X.mg "any" = none) (TB : TabB X.base X.mg c P) (hcode : X.env.code = .ref c) (hN : X.N.Nodup) (ok : GOk X.N X.env.scope scope own) (hi : PI X tg iter wi) (hv : ∀ i ∈ vs1, i ∈ own.map (·.2))
    (hi1 : ∀ (A' : Around) (s : Shared) (H : Hp) (C : Addr) (code : Value) (fp : List Addr), Room k A' → PI (gcx X A' s H (genEnv scope (cloFrom X.env.cells scope.names []) C code builtinsNs X.env) fp) tg1 iter1 wi1)
    (hg1 : ∀ (A' : Around) (s : Shared) (H : Hp) (C : Addr) (code : Value) (fp : List Addr), PG (gcx X A' s H (genEnv scope (cloFrom X.env.cells scope.names []) C code builtinsNs X.env) fp) tg1 g1)
    (hs1 : ∀ env x, foldedSetIterable iter1 env x = pure x)
    (hg : ∀ (A' : Around) (s : Shared) (H : Hp) (C : Addr) (code : Value) (fp : List Addr), PG (gcx X A' s H (genEnv scope (cloFrom X.env.cells scope.names []) C code builtinsNs X.env) fp) tg g)
    (he : ∀ (A' : Around) (s : Shared) (H : Hp) (C : Addr) (code : Value) (fp : List Addr), Room k A' → PE (gcx X A' s H (genEnv scope (cloFrom X.env.cells scope.names []) C code builtinsNs X.env) fp) elt te)
    (hs : ∀ v, genFold iter X.env v = pure v := by intro _; rfl)
    (hst : starEach [ge2 elt tg iter tg1 iter1 scope gpos] X.env = (false, eval (ge2 elt tg iter tg1 iter1 scope gpos) X.env) :: starEach [] X.env := by rfl) :
    PE X (.Call (.Name "any" p) [ge2 elt tg iter tg1 iter1 scope gpos] [] pos) (tGen2 true P wi g wi1 g1 te (own.map (·.2)) vs1) := by
  refine ⟨fun pins s σ H Q I h => ?_⟩
  refine wpAny_Call_Name_kw (ld_blt I hgl hm boot_any ?_)
  refine PyProof.Rows.callWith_builtin1 ?_ hst (by rfl)
  rw [hst]
  show wpAny _ _ (spliced ((false, eval (ge2 elt tg iter tg1 iter1 scope gpos) X.env) :: backTo pos (starEach [] X.env))) _ _ s
  refine Calls.spliced_cons (gen_make2 hr TB hcode hN ok hi hv hi1 hg1 hs1 hg he hs I h fun u s5 hG => ?_)
  obtain ⟨a, gn, n, gs, go, X', pn, σw, rfl, e1, e2, hpn, hgen, hig, hl, hgs, hgo, back⟩ := hG
  refine Calls.spliced_nil ?_
  refine call_function_tree F.kind_any F.plain_any F.entry_any (F.args_any1 _) ?_
  unfold Builtin.«any»
  refine wpAny_bind (m := oneArg "any" _) (wpAny_pure ?_)
  refine wpAny_bind (wpAny_pyIter_gen hig ?_)
  refine wpAny_pure ⟨plainId_quiet F.plain_any_loop _, ?_⟩
  rw [← e1, ← e2] at hgo ⊢
  refine any_loop (X' := X') (A := X.A) hr.hd (by have := hr.dp; omega) hpn hgen (fun b H' s' J q1 q2 => ?_) n s5 gs hig hl hgs hgo
  refine ⟨.bl b, H', back H' s' J, rfl, ?_⟩
  cases b with
  | false => exact q1 rfl
  | true => exact q2 rfl
end

end GA

set_option Elab.async false
set_option linter.all false
set_option maxRecDepth 100000
set_option maxHeartbeats 1000000
/-! The value layer: any and all of generator expressions; calls; defs. -/
namespace VL
noncomputable section
open PySem PySem.Spec PyProof.Rows L2 GxR GA KR GenW
variable {T : List Addr} {ix : Bool} {X : Cx} {c : Ctx T ix} {EK : XK}
/-! ### any, all -/
def genW (stop : Bool) (vs : List Nat) (g : GF) (m : Mo PyData) : List PyData → En → W (Bool × En)
  | [], env => W.ret (!stop, env)
  | x :: xs, env => (W.opt (g x (wipeE vs env))).bind fun e => (m e).nox.bind fun r => match r.1 with
    | .bool b => if b = stop then W.ret (stop, r.2) else genW stop vs g m xs r.2
    | _ => W.fail
def genM (stop : Bool) (vs : List Nat) (mi : Mo (List PyData)) (g : GF) (m : Mo PyData) : Mo PyData := fun env => (mi env).bind fun r => (W.opt (if vs.all (fun j => plainS (sAt r.2 j)) = true then some () else none)).bind fun _ =>
  (genW stop vs g m r.1 r.2).bind fun q => W.ret (.bool q.1, restE r.2 vs q.2)
theorem restE_wipe {K : PySem.W.Frag} {σ σ' : L2.St} {M M' : Addr → Prop} {H H' : Hp} {env1 env' : En} {Y Y' : Tmp} (vs : List Nat) (r1 : Rp K c σ M H env1 Y) (r2 : Rp K c σ' M' H' (wipeE vs env') Y') (l : σ'.length = σ.length) : restE env1 vs (wipeE vs env') = restE env1 vs env' := by
  have hl : env1.length = env'.length := by
    have l1 := r1.len
    have l2 := r2.len
    rw [wipeE_len] at l2
    omega
  refine List.ext_getElem? fun j => ?_
  have a1 := sAt_rest env1 vs (wipeE vs env') (by rw [wipeE_len]; exact hl) j
  have a2 := sAt_rest env1 vs env' hl j
  have a3 : sAt (restE env1 vs (wipeE vs env')) j = sAt (restE env1 vs env') j := by
    rw [a1, a2]
    split
    · rfl
    · rename_i m; rw [sAt_wipe, if_neg m]
  have b1 := restE_len env1 vs (wipeE vs env')
  have b2 := restE_len env1 vs env'
  have b3 := wipeE_len vs env'
  by_cases q : j < env'.length
  · have c1 : j < (restE env1 vs (wipeE vs env')).length := by omega
    have c2 : j < (restE env1 vs env').length := by omega
    unfold sAt at a3
    rw [List.getD_eq_getElem?_getD, List.getD_eq_getElem?_getD, List.getElem?_eq_getElem c1, List.getElem?_eq_getElem c2] at a3
    rw [List.getElem?_eq_getElem c1, List.getElem?_eq_getElem c2]
    exact congrArg some a3
  · rw [List.getElem?_eq_none (by omega), List.getElem?_eq_none (by omega)]
section
variable {elt tg iter : Expr} {scope : Scope} {own : List (Str × Nat)} {p pos gpos : Pos} {mi : Mo (List PyData)} {t : TG} {is : List Nat} {g : GF} {me : Mo PyData} {cd P : Addr} {k : Nat}
theorem gen_sound {stop : Bool} {σ : L2.St} {M : Addr → Prop} {H : Hp} {env : En} {Y : Tmp} {Q : VK} {vs : List Nat} (hP : P ∈ T) (gs : GSem X.K c t is g) (his : ∀ i ∈ is, i ∈ vs) (rp : Rp X.K c σ M H env Y)
    (q : (genM stop vs mi g me env).run (fun r => ∀ v M' H', Stp M H M' H' → Rp X.K c σ M' H' r.2 Y → At ix X.K M' H' v r.1 → Q v H') (EX X.mg c EK)) : tGen stop P (tI X.K X.mg c EK mi) t (tV X.K X.mg c E0 me) vs σ H Q := by
  refine ⟨M, env, Y, rp, (mi env).mono (fun r h M1 H1 J s1 rp1 jok => ⟨rp1.tb P hP, fun H2 hT => ?_⟩) (fun _ h => h) q⟩
  obtain ⟨xs, env1⟩ := r
  have rp1 : Rp X.K c σ M1 H1 env1 Y := rp1
  obtain ⟨u, eu, h⟩ := wopt_run h
  split at eu
  case isFalse => cases eu
  rename_i hc
  have hpl : ∀ j ∈ vs, plainS (sAt env1 j) = true := fun j hj => (List.all_eq_true.mp hc) j hj
  have kT : Kp MN H1 H2 := Kp.tabbed (rp1.tb P hP) hT
  have sT : Stp M1 H1 M1 H2 := .of kT.any
  refine ⟨fun i m H' => m = xs.length - i ∧ i ≤ xs.length ∧ ∃ M' env', Stp M1 H1 M' H' ∧ Rp X.K c (wipe σ vs) M' H' (wipeE vs env') Y ∧
    (genW stop vs g me (xs.drop i) env').run (fun q => ∀ v M' H', Stp M H M' H' → Rp X.K c σ M' H' (restE env1 vs q.2) Y → At ix X.K M' H' v (.bool q.1) → Q v H') (EX X.mg c EK), ⟨xs.length, rfl, Nat.zero_le _, M1, env1, sT, (rp1.kp1 kT).wipe vs, h⟩, ?_⟩
  rintro i m H' ⟨rfl, hi', M', env', s', rp', q'⟩
  have sM := s1.trans s'
  have hi' : i ≤ xs.length := hi'
  obtain ⟨j1, j2⟩ := jok M' H' s'
  -- the end of the whole
  have fin : ∀ {M3 : Addr → Prop} {H3 : Hp} {σ3 : L2.St} {e3 : En}, Stp M1 H1 M3 H3 → Rp X.K c (wipe σ vs) M3 H3 (wipeE vs e3) Y → Rp X.K c σ M3 H3 (restE env1 vs e3) Y := fun {M3 H3 σ3 e3} s r => by
    have := Rp.unwipe rp1 s r hpl
    rw [restE_wipe vs rp1 r (wipe_length σ vs)] at this
    exact this
  by_cases hlt : i < xs.length
  · have e1 : xs.drop i = xs[i] :: xs.drop (i + 1) := List.drop_eq_getElem_cons hlt
    rw [e1] at q'
    obtain ⟨g1, g2⟩ := j1 i xs[i] (List.getElem?_eq_getElem hlt)
    refine .inr ⟨g1, fun H'' => ∃ M'' env'', Stp M1 H1 M'' H'' ∧ Rp X.K c (wipe σ vs) M'' H'' (wipeE vs env'') Y ∧
      (genW stop vs g me (xs.drop (i + 1)) env'').run (fun q => ∀ v M' H', Stp M H M' H' → Rp X.K c σ M' H' (restE env1 vs q.2) Y → At ix X.K M' H' v (.bool q.1) → Q v H') (EX X.mg c EK), fun H'' z => ⟨xs.length - (i + 1), by omega, rfl, hlt, z⟩, fun x H2 yy => ?_⟩
    obtain ⟨k2, a2⟩ := g2 x H2 yy
    have s2 : Stp M' H' M' H2 := .of k2.any
    obtain ⟨e, ee, q2⟩ := wopt_run q'
    refine gs _ M' H2 _ _ x xs[i] e _ (rp'.kp1 k2) a2 ee fun σ3 rp3 l3 o3 => ?_
    have hw : wipe σ3 vs = wipe σ vs := wipe_same (vs := vs) (l3.trans (wipe_length σ vs)) (fun j hj => (o3 j fun z => hj (his j z)).trans (by rw [getD_wipe, if_neg hj]))
    refine ⟨hw, ?_⟩
    refine ⟨M', e, _, rp3, (me e).mono (fun r hr v M4 H4 s4 rp5 a5 => ?_) (fun _ z => z.elim) q2⟩
    obtain ⟨d, e4⟩ := r
    have s04 := (s'.trans s2).trans s4
    have rw4 := rp5.wipe vs
    rw [hw] at rw4
    cases a5 with
    | bl b =>
      refine ⟨b, rfl, fun eb => ?_, fun eb => ?_⟩
      · subst eb
        have hr : (if b = b then W.ret (b, e4) else genW b vs g me (xs.drop (i + 1)) e4).run _ _ := hr
        rw [if_pos rfl] at hr
        exact hr _ M4 H4 (s1.trans s04) (fin (σ3 := σ3) s04 rw4) (.bl _)
      · have nb : b ≠ stop := fun z => by rw [z] at eb; cases stop <;> cases eb
        have hr : (if b = stop then W.ret (stop, e4) else genW stop vs g me (xs.drop (i + 1)) e4).run _ _ := hr
        rw [if_neg nb] at hr
        exact ⟨M4, e4, s04, rw4, hr⟩
    | _ => exact hr.elim
  · have e : i = xs.length := by omega
    subst e
    rw [List.drop_length] at q'
    exact .inl ⟨j2 _ (Nat.le_refl _), q' _ M' H' sM (fin (σ3 := σ) s' rp') (.bl _)⟩
theorem ve_all (hr : Room (k + 1) X.A) (hgl : Gl X "all") (hm : X.mg "all" = none) (TB : TabB X.base X.mg cd P) (hP : P ∈ T) (hN : X.N.Nodup) (hi : VI X c EK tg iter mi) (ok : GOk X.N X.env.scope scope own) (gs : GSem X.K c t is g) (his : ∀ i ∈ is, i ∈ own.map (·.2))
    (hg : ∀ (A' : Around) (s : Shared) (H : Hp) (C : Addr) (code : Value) (fp : List Addr), PG (gcx X A' s H (genEnv scope (cloFrom X.env.cells scope.names []) C code builtinsNs X.env) fp) tg t)
    (he : ∀ (A' : Around) (s : Shared) (H : Hp) (C : Addr) (code : Value) (fp : List Addr), Room k A' → VE (gcx X A' s H (genEnv scope (cloFrom X.env.cells scope.names []) C code builtinsNs X.env) fp) c E0 elt me) (hcode : X.env.code = .ref cd := by rfl)
    (hs : ∀ v, genFold iter X.env v = pure v := by intro _; rfl)
    (hst : starEach [.GeneratorExp elt [⟨tg, iter, [], 0⟩] scope gpos] X.env = (false, eval (.GeneratorExp elt [⟨tg, iter, [], 0⟩] scope gpos) X.env) :: starEach [] X.env := by rfl) :
    VE X c EK (.Call (.Name "all" p) [.GeneratorExp elt [⟨tg, iter, [], 0⟩] scope gpos] [] pos) (genM false (own.map (·.2)) mi g me) :=
  ⟨PE.imp (pe_all hr hgl hm TB hcode hN ok hi.pi hg (fun A' s H C code fp r => (he A' s H C code fp r).pe) hs hst) fun σ H Q ⟨M, env, Y, rp, q⟩ => gen_sound hP gs his rp q⟩
theorem ve_any (hr : Room (k + 1) X.A) (hgl : Gl X "any") (hm : X.mg "any" = none) (TB : TabB X.base X.mg cd P) (hP : P ∈ T) (hN : X.N.Nodup) (hi : VI X c EK tg iter mi) (ok : GOk X.N X.env.scope scope own) (gs : GSem X.K c t is g) (his : ∀ i ∈ is, i ∈ own.map (·.2))
    (hg : ∀ (A' : Around) (s : Shared) (H : Hp) (C : Addr) (code : Value) (fp : List Addr), PG (gcx X A' s H (genEnv scope (cloFrom X.env.cells scope.names []) C code builtinsNs X.env) fp) tg t)
    (he : ∀ (A' : Around) (s : Shared) (H : Hp) (C : Addr) (code : Value) (fp : List Addr), Room k A' → VE (gcx X A' s H (genEnv scope (cloFrom X.env.cells scope.names []) C code builtinsNs X.env) fp) c E0 elt me) (hcode : X.env.code = .ref cd := by rfl)
    (hs : ∀ v, genFold iter X.env v = pure v := by intro _; rfl)
    (hst : starEach [.GeneratorExp elt [⟨tg, iter, [], 0⟩] scope gpos] X.env = (false, eval (.GeneratorExp elt [⟨tg, iter, [], 0⟩] scope gpos) X.env) :: starEach [] X.env := by rfl) :
    VE X c EK (.Call (.Name "any" p) [.GeneratorExp elt [⟨tg, iter, [], 0⟩] scope gpos] [] pos) (genM true (own.map (·.2)) mi g me) :=
  ⟨PE.imp (pe_any hr hgl hm TB hcode hN ok hi.pi hg (fun A' s H C code fp r => (he A' s H C code fp r).pe) hs hst) fun σ H Q ⟨M, env, Y, rp, q⟩ => gen_sound hP gs his rp q⟩
end
/-! ### what a def promises -/
/-- n data in, data out -/
def spV (K : PySem.W.Frag) (mg : Str → Option Value) (T : List Addr) (ix : Bool) (n : Nat) (m : List PyData → W PyData) : Sp := fun vs H Q E => ∃ (M : Addr → Prop) (ds : List PyData), vs.length = n ∧ AtL ix K M H vs ds ∧ (∀ a, M a → H a ≠ none) ∧ (∀ P ∈ T, TabG H P) ∧
  (m ds).run (fun d => ∀ v H', Kp MN H H' → At ix K M H' v d → Q v H') (fun e => ∀ cls dd H', ErAt mg e cls dd H' → Kp MN H H' → E cls dd H')
/-- the stream first -/
def spS (K : PySem.W.Frag) (mg : Str → Option Value) (T : List Addr) (ix : Bool) (n : Nat) (m : List PyData → W PyData) : Sp := fun vs H Q E => ∃ (M : Addr → Prop) (st l : Addr) (us : List V) (ds : List PyData), vs = .ref st :: us ∧ vs.length = n ∧ AtL ix K M H us ds ∧ (∀ a, M a → H a ≠ none) ∧ (∀ P ∈ T, TabG H P) ∧ StAt st l H ∧ M st ∧ ¬ M l ∧
  (m ds).run (fun d => ∀ v H', Kp (MS st) H H' → StAt st l H' → At ix K M H' v d → Q v H') (fun e => ∀ cls dd H', ErAt mg e cls dd H' → Kp (MS st) H H' → StAt st l H' → E cls dd H')
/-- a def that can be called -/
structure Callee (P : Program) (w : World) (K : PySem.W.Frag) (mg : Str → Option Value) (base : Heap) (k : Nat) (x : Str) (ps : List Str) (sp : Sp) : Prop where
  ex : ∃ f fd, FnOk P w K mg base (L2.CX P w) k f fd ps sp ∧ Binds K fd ps [] ∧ PySem.W.keepIn K (.ref f) = true ∧ mg x = some (.ref f)
/-- what leaves X is what EK tells -/
def Lets (X : Cx) (EK : XK) : Prop := PassesAt (L2.CX X.prog X.w) X [] EK ∧ ∀ σ, PassesAt (L2.CX X.prog X.w) X σ EK
theorem lets0 {X : Cx} : ∀ σ, PassesAt (L2.CX X.prog X.w) X σ E0 := fun σ pins H s e s' I h => by
  obtain ⟨_, _, _, _, _, _, _, _, _, _, _, _, z⟩ := h
  exact z.elim
def eCall (m : List PyData → W PyData) (ms : Mo (List PyData)) : Mo PyData := Mo.bind ms fun ds => Mo.lift (m ds)
section
variable {e : Expr} {es : List Expr} {ms : Mo (List PyData)} {m : List PyData → W PyData} {k j n : Nat} {x : Str} {ps : List Str} {p p2 pos : Pos}
theorem ve_call (G : Callee X.prog X.w X.K X.mg X.base k x ps (spV X.K X.mg T ix n m)) (hn : n = (e :: es).length) (hx : ∀ σ, PassesAt (L2.CX X.prog X.w) X σ EK) (hr : Room j X.A) (hkj : k ≤ j) (hg : Gl X x) (ha : VA X c EK (e :: es) ms)
    (hdb : (x == ("__debug__" : Str)) = false := by decide) (he : starEach (e :: es) X.env = (false, eval e X.env) :: starEach es X.env := by rfl) (hpl : (backTo pos (starEach es X.env)).any (·.1) = false := by rfl) :
    VE X c EK (.Call (.Name x p) (e :: es) [] pos) (eCall m ms) := by
  obtain ⟨f, fd, F, hb, hk, hm⟩ := G.ex
  refine ⟨PE.imp (pe_callS F (hr.mono hkj) hg hm hk hb hx ha.pa hdb he hpl) fun σ H Q ⟨M, env, Y, rp, w⟩ => ?_⟩
  have w : (ms env).run (fun r => (Mo.lift (m r.1) r.2).run _ _) _ := w
  have w := ha.len env _ _ w
  refine ⟨M, env, Y, rp, (ms env).mono (fun r h vs M1 H1 s1 rp1 a1 => ?_) (fun _ h => h) w⟩
  obtain ⟨ds, env1⟩ := r
  obtain ⟨hl, h⟩ := h
  have hl : ds.length = (e :: es).length := hl
  have h : ((m ds).bind fun a => W.ret (a, env1)).run _ _ := h
  refine ⟨M1, ds, by rw [a1.length]; exact hl.trans hn.symm, a1, rp1.al, rp1.tb, (m ds).mono (fun d h v H' kk av => ?_) (fun e h cls dd H' ea kk => ?_) h⟩
  · exact h v M1 H' (s1.trans (.of kk.any)) (rp1.kp1 kk) av
  · exact h cls dd H' ea (rp1.kp.trans kk.any) fun a l z => (rp1.st a l z).1.kp kk
/-- f(stream, ..): the stream in slot i -/
def eCallS (i : Nat) (m : List PyData → W PyData) (ms : Mo (List PyData)) : Mo PyData := fun env => match sAt env i with
  | .s => Mo.bind ms (fun ds => Mo.lift (m ds)) env
  | _ => W.fail
theorem ve_callS {i : Nat} {y : Str} (G : Callee X.prog X.w X.K X.mg X.base k x ps (spS X.K X.mg T ix n m)) (hn : n = es.length + 1) (hx : ∀ σ, PassesAt (L2.CX X.prog X.w) X σ EK) (hr : Room j X.A) (hkj : k ≤ j) (hg : Gl X x) (hy : PE X (.Name y p2) (tVar i)) (ha : VA X c EK es ms)
    (hdb : (x == ("__debug__" : Str)) = false := by decide) (he : starEach (.Name y p2 :: es) X.env = (false, eval (.Name y p2) X.env) :: starEach es X.env := by rfl) (hpl : (backTo pos (starEach es X.env)).any (·.1) = false := by rfl) :
    VE X c EK (.Call (.Name x p) (.Name y p2 :: es) [] pos) (eCallS i m ms) := by
  obtain ⟨f, fd, F, hb, hk, hm⟩ := G.ex
  refine ⟨PE.imp (pe_callS F (hr.mono hkj) hg hm hk hb hx (pa_cons hy ha.pa he) hdb he hpl) fun σ H Q ⟨M, env, Y, rp, w⟩ => ?_⟩
  unfold eCallS at w
  cases es' : sAt env i with
  | s =>
    rw [es'] at w
    obtain ⟨o, h1, _⟩ := rp.own
    have hs := h1 i
    rw [es'] at hs
    generalize hv : σ.getD i none = ov at hs
    generalize o i = os at hs
    cases hs with
    | @s st l hS =>
      refine ⟨_, slot_val hv, ?_⟩
      have w : (ms env).run (fun r => (Mo.lift (m r.1) r.2).run _ _) _ := w
      have w := ha.len env _ _ w
      refine ⟨M, env, Y, rp, (ms env).mono (fun r h vs M1 H1 s1 rp1 a1 => ?_) (fun _ h => h) w⟩
      obtain ⟨ds, env1⟩ := r
      obtain ⟨hl, h⟩ := h
      have hl : ds.length = es.length := hl
      have h : ((m ds).bind fun a => W.ret (a, env1)).run _ _ := h
      obtain ⟨z1, z2, z3, z4, z5⟩ := rp1.st st l hS
      refine ⟨M1, st, l, vs, ds, rfl, by rw [List.length_cons, a1.length, hl]; exact hn.symm, a1, rp1.al, rp1.tb, z1, z2, z5, (m ds).mono (fun d h v H' kk sa av => ?_) (fun e h cls dd H' ea kk sa => ?_) h⟩
      · exact h v M1 H' (s1.trans (rp1.stpS hS kk)) (rp1.kpS hS kk sa) av
      · exact h cls dd H' ea (rp1.kp.trans (kk.mono fun b z => ⟨l, by rw [z]; exact hS⟩)) fun a l' z => by
          rw [hS] at z
          cases z
          exact sa
  | _ => rw [es'] at w; exact w.elim
end
/-! ### a def, from its body -/
/-- the slots at a def's start -/
def start0 (n : Nat) (ds : List PyData) : En := ds.map .d ++ List.replicate (n - ds.length) .no
def callM (n : Nat) (b : SM) (ds : List PyData) : W PyData := (b (start0 n ds)).bind fun r => match r.1 with
  | .nx => W.ret .none
  | .rt d => W.ret d
  | _ => W.fail
def callMS (n : Nat) (b : SM) (ds : List PyData) : W PyData := (b (.s :: start0 (n - 1) ds)).bind fun r => match r.1 with
  | .nx => W.ret .none
  | .rt d => W.ret d
  | _ => W.fail
section
variable {P : Program} {w : World} {K : PySem.W.Frag} {mg : Str → Option Value} {base : Heap}
theorem start_slots {M : Addr → Prop} {H : Hp} {S : Option (Addr × Addr)} {N : List Str} : ∀ {vs : List V} {ds : List PyData}, AtL ix K M H vs ds → ∀ i, SlAt ix K S M H ((vs.map some ++ List.replicate (N.length - vs.length) none).getD i none) (sAt (ds.map .d ++ List.replicate (N.length - ds.length) .no) i) [] := by
  intro vs ds al i
  have hl := al.length
  unfold sAt
  rw [List.getD_eq_getElem?_getD, List.getD_eq_getElem?_getD]
  by_cases h : i < vs.length
  · have h2 : i < ds.length := by omega
    rw [List.getElem?_append_left (by simpa using h), List.getElem?_append_left (by simpa using h2), List.getElem?_map, List.getElem?_map]
    obtain ⟨d, hd, ad⟩ := al.get (List.getElem?_eq_getElem h)
    rw [List.getElem?_eq_getElem h, hd]
    exact .d ad
  · rw [List.getElem?_append_right (by simpa using h), List.getElem?_append_right (by simp; omega)]
    have e : ∀ (α : Type) (k j : Nat) (a : α), ((List.replicate k a)[j]?).getD a = a := by
      intro α k j a
      by_cases q : j < k
      · rw [List.getElem?_replicate_of_lt q]; rfl
      · rw [List.getElem?_eq_none (by simpa using q)]; rfl
    rw [e, e]
    exact .no
end
end
end VL

set_option Elab.async false
set_option linter.all false
set_option maxRecDepth 100000
set_option maxHeartbeats 1000000
/-! The value layer: defs from their bodies, errors raised, the law. -/
namespace VL
noncomputable section
open PySem PySem.Spec PyProof.Rows L2 GxR GA KR GenW
variable {T : List Addr} {ix : Bool}
section
variable {P : Program} {w : World} {K : PySem.W.Frag} {mg : Str → Option Value} {base : Heap}
abbrev cxV (P : Program) (w : World) (K : PySem.W.Frag) (mg : Str → Option Value) (base : Heap) (N : List Str) (x : Str) (st : Stmt) (f : Addr) (cd : Value) (A : Around) (outer : List PySem.Env) (s : Shared) (H : Hp) (E : XK) : Cx := cxOf (L2.CX P w) P w K mg base N x (defScope st) f cd A outer s H E
/-- what every def's body may lean on -/
structure Bd (X : Cx) (EK : XK) (k : Nat) : Prop where
  hr : Room k X.A
  hx : ∀ σ, PassesAt (L2.CX X.prog X.w) X σ EK
  tk : Takes X (fun cls d _ H => EK cls d H)
  po : PassesOwn (model X.prog X.w) X.A X.env X.xe
theorem bd_of {N : List Str} {x : Str} {st : Stmt} {f : Addr} {cd : Value} {A : Around} {outer : List PySem.Env} {s : Shared} {H : Hp} {E : XK} {k : Nat} (hr : Room k (A.deeper (envOfC x (defScope st) s.heap.objs.size f cd))) : Bd (cxV P w K mg base N x st f cd A outer s H E) E k :=
  ⟨hr, fun σ => passAt (takes_of rfl rfl rfl rfl) σ, takes_of rfl rfl rfl rfl, passes_of rfl⟩
/-- what leaves a body, for the caller -/
theorem out_of {M : Addr → Prop} {H : Hp} {ds : List PyData} {Q : VK} {E : XK} {n : Nat} {b : SM} {c : Ctx T ix} (hc : c.H0 = H ∧ c.Mx = M ∧ c.S = none)
    (q : (callM n b ds).run (fun d => ∀ v H', Kp MN H H' → At ix K M H' v d → Q v H') (fun e => ∀ cls dd H', ErAt mg e cls dd H' → Kp MN H H' → E cls dd H')) :
    (b (start0 n ds)).run (fun r => ∀ (σ' : L2.St) M' H', Stp M H M' H' → Rp K c σ' M' H' r.2 [] → match r.1 with
    | .nx => Q .non H'
    | .bk => False
    | .ct => False
    | .rt d => ∀ v, At ix K M' H' v d → Q v H') (EX mg c E) := by
  obtain ⟨e1, e2, e3⟩ := hc
  have k0 : ∀ {H'}, Kp c.M0 c.H0 H' → Kp MN H H' := fun {H'} k => by
    rw [e1] at k
    exact k.mono fun b ⟨l, z⟩ => by rw [e3] at z; cases z
  refine (b (start0 n ds)).mono (fun r h σ' M' H' s' rp => ?_) (fun e h cls dd H' ea kk _ => h cls dd H' ea (k0 kk)) q
  obtain ⟨f, env⟩ := r
  cases f with
  | nx => exact h .non H' (k0 rp.kp) .non
  | bk => exact h.elim
  | ct => exact h.elim
  | rt d => exact fun v a => h v H' (k0 rp.kp) (a.less fun b z => (rp.mx b (by rw [e2]; exact z)).1)
theorem def_ok {x : Str} {st : Stmt} {f : Addr} {fd : FuncData} {N ps : List Str} {k n : Nat} {b : SM} (F : Fun K x x st f fd) (S : FnScope N ps (defScope st)) (hn : ps.length = n) (bF : Binds K fd ps []) (kF : PySem.W.keepIn K (.ref f) = true) (mF : mg x = some (.ref f))
    (body : ∀ (c : Ctx T ix) (cd : Value) (A : Around) (outer : List PySem.Env) (s : Shared) (H : Hp) (E : XK), Bd (cxV P w K mg base N x st f cd A outer s H E) E k → VSs (cxV P w K mg base N x st f cd A outer s H E) c E (defBody st) b) :
    Callee P w K mg base (k + 1) x ps (spV K mg T ix n (callM N.length b)) := by
  refine ⟨f, fd, F.okX S (fun vs H Q E h => ?_) (fun cd A outer s H vs Q E hr h => ?_), bF, kF, mF⟩
  · obtain ⟨M, ds, hl, _⟩ := h
    rw [hl, hn]
  obtain ⟨M, ds, hl, al, hM, hT, q⟩ := h
  have hN := S.pre
  refine ⟨_, (body ⟨H, M, none⟩ cd A outer s H E (bd_of hr)).ps, ?_⟩
  refine ⟨M, start0 N.length ds, ⟨?_, ⟨fun _ => [], fun i => ?_, (fun _ _ _ z => nomatch z), fun _ => .nil, (fun _ _ z => nomatch z)⟩, (fun _ z => nomatch z), .nil, fun a z => ⟨z, hM a z⟩, hM, .refl, hT, fun a l z => by cases z⟩, out_of ⟨rfl, rfl, rfl⟩ q⟩
  · have := al.length
    unfold start0 L2.start
    rw [List.length_append, List.length_append, List.length_map, List.length_map, List.length_replicate, List.length_replicate, this]
  · exact start_slots al i
/-- .. of a def whose code's table is known (it has generator expressions) -/
theorem def_okT {x : Str} {st : Stmt} {f : Addr} {fd : FuncData} {cd : Addr} {N ps : List Str} {k n : Nat} {b : SM} (F : FunT K x x st f fd cd) (S : FnScope N ps (defScope st)) (hn : ps.length = n) (bF : Binds K fd ps []) (kF : PySem.W.keepIn K (.ref f) = true) (mF : mg x = some (.ref f))
    (body : ∀ (c : Ctx T ix) (A : Around) (outer : List PySem.Env) (s : Shared) (H : Hp) (E : XK), Bd (cxV P w K mg base N x st f (.ref cd) A outer s H E) E k → VSs (cxV P w K mg base N x st f (.ref cd) A outer s H E) c E (defBody st) b) :
    Callee P w K mg base (k + 1) x ps (spV K mg T ix n (callM N.length b)) := by
  obtain ⟨oc, od, kV, doc, pm, an, ct, osl, rfl, lk, hcd⟩ := F.ex
  refine ⟨f, _, fn_of lk hcd S (fun vs H Q E h => ?_) (fun A outer s H vs Q E hr h => ?_), bF, kF, mF⟩
  · obtain ⟨M, ds, hl, _⟩ := h
    rw [hl, hn]
  obtain ⟨M, ds, hl, al, hM, hT, q⟩ := h
  refine ⟨_, (body ⟨H, M, none⟩ A outer s H E (bd_of hr)).ps, ?_⟩
  refine ⟨M, start0 N.length ds, ⟨?_, ⟨fun _ => [], fun i => ?_, (fun _ _ _ z => nomatch z), fun _ => .nil, (fun _ _ z => nomatch z)⟩, (fun _ z => nomatch z), .nil, fun a z => ⟨z, hM a z⟩, hM, .refl, hT, fun a l z => by cases z⟩, out_of ⟨rfl, rfl, rfl⟩ q⟩
  · have := al.length
    unfold start0 L2.start
    rw [List.length_append, List.length_append, List.length_map, List.length_map, List.length_replicate, List.length_replicate, this]
  · exact start_slots al i
theorem out_ofS {M : Addr → Prop} {H : Hp} {st l : Addr} {ds : List PyData} {Q : VK} {E : XK} {n : Nat} {b : SM} {c : Ctx T ix} (hc : c.H0 = H ∧ c.Mx = M ∧ c.S = some (st, l))
    (q : (callMS n b ds).run (fun d => ∀ v H', Kp (MS st) H H' → StAt st l H' → At ix K M H' v d → Q v H') (fun e => ∀ cls dd H', ErAt mg e cls dd H' → Kp (MS st) H H' → StAt st l H' → E cls dd H')) :
    (b (.s :: start0 (n - 1) ds)).run (fun r => ∀ (σ' : L2.St) M' H', Stp M H M' H' → Rp K c σ' M' H' r.2 [] → match r.1 with
    | .nx => Q .non H'
    | .bk => False
    | .ct => False
    | .rt d => ∀ v, At ix K M' H' v d → Q v H') (EX mg c E) := by
  obtain ⟨e1, e2, e3⟩ := hc
  have k0 : ∀ {H'}, Kp c.M0 c.H0 H' → Kp (MS st) H H' := fun {H'} k => by
    rw [e1] at k
    exact k.mono fun b ⟨l, z⟩ => by rw [e3] at z; cases z; rfl
  refine (b (.s :: start0 (n - 1) ds)).mono (fun r h σ' M' H' s' rp => ?_) (fun e h cls dd H' ea kk sa => h cls dd H' ea (k0 kk) (sa st l e3)) q
  have sa := (rp.st st l e3).1
  obtain ⟨f, env⟩ := r
  cases f with
  | nx => exact h .non H' (k0 rp.kp) sa .non
  | bk => exact h.elim
  | ct => exact h.elim
  | rt d => exact fun v a => h v H' (k0 rp.kp) sa (a.less fun b z => (rp.mx b (by rw [e2]; exact z)).1)
theorem startS {M : Addr → Prop} {H : Hp} {st l : Addr} {N : List Str} {us : List V} {ds : List PyData} (al : AtL ix K M H us ds) (hM : ∀ a, M a → H a ≠ none) (hT : ∀ P ∈ T, TabG H P) (hS : StAt st l H) (ms : M st) (ml : ¬ M l) (hN : us.length + 1 ≤ N.length) :
    Rp (T := T) (ix := ix) K ⟨H, M, some (st, l)⟩ (L2.start N (.ref st :: us)) M H (.s :: start0 (N.length - 1) ds) [] := by
  have hl := al.length
  refine ⟨?_, ⟨fun _ => [], fun i => ?_, (fun _ _ _ z => nomatch z), fun _ => .nil, (fun _ _ z => nomatch z)⟩, (fun _ z => nomatch z), .nil, fun a z => ⟨z, hM a z⟩, hM, .refl, hT, fun a l' z => ?_⟩
  · unfold start0 L2.start
    simp
    omega
  · cases i with
    | zero => exact .s rfl
    | succ i =>
      have := start_slots (S := some (st, l)) (N := N.drop 1) al i
      rw [List.length_drop] at this
      have e : (L2.start N (.ref st :: us)).getD (i + 1) none = (us.map some ++ List.replicate (N.length - 1 - us.length) none).getD i none := by
        unfold L2.start
        have : N.length - (V.ref st :: us).length = N.length - 1 - us.length := by rw [List.length_cons]; omega
        rw [this]
        rfl
      rw [e]
      exact this
  · cases z
    obtain ⟨b, k, ns, h1, h2, h3⟩ := id hS
    exact ⟨hS, ms, (by show H st ≠ none; rw [h1]; exact fun z => by cases z), (by show H l ≠ none; rw [h2]; exact fun z => by cases z), ml⟩
theorem def_okS {x : Str} {st : Stmt} {f : Addr} {fd : FuncData} {N ps : List Str} {k n : Nat} {b : SM} (F : Fun K x x st f fd) (S : FnScope N ps (defScope st)) (hn : ps.length = n) (bF : Binds K fd ps []) (kF : PySem.W.keepIn K (.ref f) = true) (mF : mg x = some (.ref f))
    (body : ∀ (c : Ctx T ix) (cd : Value) (A : Around) (outer : List PySem.Env) (s : Shared) (H : Hp) (E : XK), Bd (cxV P w K mg base N x st f cd A outer s H E) E k → VSs (cxV P w K mg base N x st f cd A outer s H E) c E (defBody st) b) :
    Callee P w K mg base (k + 1) x ps (spS K mg T ix n (callMS N.length b)) := by
  refine ⟨f, fd, F.okX S (fun vs H Q E h => ?_) (fun cd A outer s H vs Q E hr h => ?_), bF, kF, mF⟩
  · obtain ⟨M, st, l, us, ds, _, hl, _⟩ := h
    rw [hl, hn]
  obtain ⟨M, st', l, us, ds, rfl, hl, al, hM, hT, hS, ms, ml, q⟩ := h
  have hpl : ps.length ≤ N.length := by have := congrArg List.length S.pre; rw [List.length_take] at this; omega
  exact ⟨_, (body ⟨H, M, some (st', l)⟩ cd A outer s H E (bd_of hr)).ps, M, _, startS al hM hT hS ms ml (by rw [List.length_cons] at hl; omega), out_ofS ⟨rfl, rfl, rfl⟩ q⟩
theorem def_okST {x : Str} {st : Stmt} {f : Addr} {fd : FuncData} {cd : Addr} {N ps : List Str} {k n : Nat} {b : SM} (F : FunT K x x st f fd cd) (S : FnScope N ps (defScope st)) (hn : ps.length = n) (bF : Binds K fd ps []) (kF : PySem.W.keepIn K (.ref f) = true) (mF : mg x = some (.ref f))
    (body : ∀ (c : Ctx T ix) (A : Around) (outer : List PySem.Env) (s : Shared) (H : Hp) (E : XK), Bd (cxV P w K mg base N x st f (.ref cd) A outer s H E) E k → VSs (cxV P w K mg base N x st f (.ref cd) A outer s H E) c E (defBody st) b) :
    Callee P w K mg base (k + 1) x ps (spS K mg T ix n (callMS N.length b)) := by
  obtain ⟨oc, od, kV, doc, pm, an, ct, osl, rfl, lk, hcd⟩ := F.ex
  refine ⟨f, _, fn_of lk hcd S (fun vs H Q E h => ?_) (fun A outer s H vs Q E hr h => ?_), bF, kF, mF⟩
  · obtain ⟨M, st, l, us, ds, _, hl, _⟩ := h
    rw [hl, hn]
  obtain ⟨M, st', l, us, ds, rfl, hl, al, hM, hT, hS, ms, ml, q⟩ := h
  have hpl : ps.length ≤ N.length := by have := congrArg List.length S.pre; rw [List.length_take] at this; omega
  exact ⟨_, (body ⟨H, M, some (st', l)⟩ A outer s H E (bd_of hr)).ps, M, _, startS al hM hT hS ms ml (by rw [List.length_cons] at hl; omega), out_ofS ⟨rfl, rfl, rfl⟩ q⟩
/-- no more is told than what is known of the body's computation -/
theorem Callee.sub {k : Nat} {x : Str} {ps : List Str} {n : Nat} {m m' : List PyData → W PyData} (C : Callee P w K mg base k x ps (spV K mg T ix n m)) (h : ∀ ds Q E, (m' ds).run Q E → (m ds).run Q E) : Callee P w K mg base k x ps (spV K mg T ix n m') := by
  obtain ⟨f, fd, F, hb, hk, hm⟩ := C.ex
  exact ⟨f, fd, F.imp fun vs H Q E ⟨M, ds, a, b, c, d, q⟩ => ⟨M, ds, a, b, c, d, h ds _ _ q⟩, hb, hk, hm⟩
theorem Callee.subS {k : Nat} {x : Str} {ps : List Str} {n : Nat} {m m' : List PyData → W PyData} (C : Callee P w K mg base k x ps (spS K mg T ix n m)) (h : ∀ ds Q E, (m' ds).run Q E → (m ds).run Q E) : Callee P w K mg base k x ps (spS K mg T ix n m') := by
  obtain ⟨f, fd, F, hb, hk, hm⟩ := C.ex
  exact ⟨f, fd, F.imp fun vs H Q E ⟨M, st, l, us, ds, a, b, c, d, e, f, g, h', q⟩ => ⟨M, st, l, us, ds, a, b, c, d, e, f, g, h', h ds _ _ q⟩, hb, hk, hm⟩
theorem Callee.mono {j k : Nat} {x : Str} {ps : List Str} {sp : Sp} (C : Callee P w K mg base j x ps sp) (h : j ≤ k) : Callee P w K mg base k x ps sp := by
  obtain ⟨f, fd, F, r⟩ := C.ex
  exact ⟨f, fd, F.mono h, r⟩
/-- a def at a depth that is never come to -/
theorem Callee.never {k : Nat} {x : Str} {ps : List Str} {n : Nat} {f : Addr} {fd : FuncData} (bF : Binds K fd ps []) (kF : PySem.W.keepIn K (.ref f) = true) (mF : mg x = some (.ref f)) : Callee P w K mg base k x ps (spV K mg T ix n fun _ => W.fail) :=
  ⟨f, fd, ⟨fun vs H Q E h => by obtain ⟨_, _, _, _, _, _, z⟩ := h; exact z.elim, fun _ _ _ _ _ _ _ _ _ _ _ _ _ h => by obtain ⟨_, _, _, _, _, _, z⟩ := h; exact z.elim⟩, bF, kF, mF⟩
theorem Callee.neverS {k : Nat} {x : Str} {ps : List Str} {n : Nat} {f : Addr} {fd : FuncData} (bF : Binds K fd ps []) (kF : PySem.W.keepIn K (.ref f) = true) (mF : mg x = some (.ref f)) : Callee P w K mg base k x ps (spS K mg T ix n fun _ => W.fail) :=
  ⟨f, fd, ⟨fun vs H Q E h => by obtain ⟨_, _, _, _, _, _, _, _, _, _, _, _, _, z⟩ := h; exact z.elim, fun _ _ _ _ _ _ _ _ _ _ _ _ _ h => by obtain ⟨_, _, _, _, _, _, _, _, _, _, _, _, _, z⟩ := h; exact z.elim⟩, bF, kF, mF⟩
end
/-! ### errors -/
/-- what stands of an own error's class with one field -/
structure ErC (K : PySem.W.Frag) (mg : Str → Option Value) (cls fld : Str) (C fI : Addr) : Prop where
  gC : mg cls = some (.ref C)
  ox : OexC K C
  xf : XfC K C
  noN : PySem.W.findIn K (.ref C) fld = some none
  iC : PySem.W.findIn K (.ref C) "__init__" = some (some (.ref fI))
  tI : PySem.W.typeIn K (.ref fI) = some (.type "function")
def spInit (C : Addr) (fld : Str) : Sp := fun vs H Q _ => ∃ (a : Addr) (nm : Str), vs = [.ref a, .str nm] ∧ H a = some (exo a C none) ∧ ∀ dx, H dx = none → dx ≠ a → Q .non (upd (upd H dx (exd dx [(fld, .str nm)])) a (exo a C (some dx)))
theorem kp_exc {H : Hp} {a d : Addr} {o1 o2 o3 o4 : HO} (ha : H a = none) (hd : upd H a o1 d = none) : Kp MN H (upd (del (upd (upd (upd H a o1) d o2) a o3) a) d o4) := by
  have hda : d ≠ a := fun z => by rw [z, upd_same] at hd; cases hd
  have hd0 : H d = none := by rw [upd_ne hda] at hd; exact hd
  have key : ∀ b u, H b = some u → upd (del (upd (upd (upd H a o1) d o2) a o3) a) d o4 b = some u := fun b u e => by
    have na : b ≠ a := ne_of_none e ha
    have nd : b ≠ d := ne_of_none e hd0
    rw [upd_ne nd, del_ne na, upd_ne na, upd_ne nd, upd_ne na]
    exact e
  exact ⟨fun b u _ e => key b _ e, fun b u _ _ e => key b _ e, fun P ⟨ps, e, t⟩ => ⟨ps, key P _ e, t⟩, fun b e => by
    cases q : H b with
    | none => exact absurd q e
    | some u => rw [key b u q]; exact fun z => by cases z⟩
section
variable {X : Cx} {c : Ctx T ix} {EK : XK}
def sRaise (cls fld : Str) (m : Mo PyData) : SM := fun env => (m env).bind fun r => match r.1 with
  | .str s => W.throw ⟨cls, [(fld, .str s)]⟩
  | _ => W.fail
theorem vs_raise {cls fld : Str} {C fI : Addr} {fd : FuncData} {k : Nat} {e : Expr} {m : Mo PyData} {p2 p1 pos : Pos} {a1 : Str} (TE : ErC X.K X.mg cls fld C fI) (I : FnOk X.prog X.w X.K X.mg X.base CX0 1 fI fd ["self", a1] (spInit C fld)) (bI : Binds X.K fd ["self", a1] []) (hc : X.calm = true) (B : Bd X EK k) (hk : 2 ≤ k) (hg : Gl X cls) (h : VE X c EK e m)
    (hdb : (cls == ("__debug__" : Str)) = false := by decide) (he : starEach [e] X.env = (false, eval e X.env) :: starEach [] X.env := by rfl) : VS X c EK (.Raise (some (.Call (.Name cls p1) [e] [] p2)) none pos) (sRaise cls fld m) := by
  refine ⟨PS.imp (ps_raise hc B.tk (pmk_oex TE.ox TE.iC TE.tI I (B.hr.mono hk) bI .nil pass0 hg TE.gC (pa_cons h.pe pa_nil he) hdb he)) fun D σ H ⟨M, env, rp, q⟩ => ?_⟩
  refine ⟨M, env, [], rp, (m env).mono (fun r hr v M' H' s' rp' av => ?_) (fun _ h => h) q⟩
  obtain ⟨d, env'⟩ := r
  cases av with
  | str nm =>
    refine ⟨(by show 1 ≤ 1000; decide), fun a ha => ⟨a, nm, rfl, upd_same, fun dx hd ne => ⟨rfl, dx, _, upd_same, by rw [upd_ne ne, upd_same], ?_, ?_⟩⟩⟩
    · rw [upd_ne ne] at hd
      exact hd
    · have kk := kp_exc (o2 := exd dx [(fld, .str nm)]) (o3 := exo a C (some dx)) (o4 := .xd [(fld, .str nm)]) ha hd
      exact hr (.ref C) (some dx) _ ⟨C, dx, [(fld, .str nm)], rfl, TE.gC, rfl, upd_same, [(fld, nm)], rfl, rfl⟩ (rp'.kp.trans kk.any) fun a l z => (rp'.st a l z).1.kp kk
  | _ => exact hr.elim
end
/-! ### the law -/
section
variable {P : Program} {w : World} {K : PySem.W.Frag} {mg : Str → Option Value} {base : Heap}
def spStream (K : PySem.W.Frag) (T : List Addr) : Sp := fun vs H Q _ => ∃ (a : Addr) (ns : List Int), vs = [.ref a] ∧ SqL K H a (ns.map V.int) ∧ ns.length ≤ 63 ∧ ∀ st l H', H st = none → H l = none → Kp MN H H' → StAt st l H' → Q (.ref st) H'
def spLaw (K : PySem.W.Frag) (T : List Addr) : Sp := fun vs H Q _ => ∃ (a : Addr) (ns : List Int), vs = [.ref a] ∧ SqL K H a (ns.map V.int) ∧ ns.length ≤ 63 ∧ (∀ P ∈ T, TabG H P) ∧ ∀ H', Q (.bl true) H'
/-- the body of a law, behind «stream = _law_stream(script)» -/
theorem law_body {X : Cx} {E : XK} {b : SM} {D : Ends} {N : List Str} {a st l : Addr} {H1 : Hp} {rest : List Stmt} (hb : ∀ c : Ctx T ix, VSs X c E rest b) (hT : ∀ P ∈ T, TabG H1 P) (hS : StAt st l H1) {n : Nat}
    (hrun : (b (.no :: .s :: List.replicate n .no)).run (fun r => r.1 = .rt (.bool true)) (fun _ => False)) (hD : ∀ H', D.rt (.bl true) H') : ∃ c : Ctx T ix, tS X.K X.mg c E b D (some (.ref a) :: some (.ref st) :: List.replicate n none) H1 := by
  obtain ⟨x1, x2, ns, h1, h2, h3, h4, h5⟩ := id hS
  refine ⟨⟨H1, fun b => b = st, some (st, l)⟩, fun b => b = st, _, ⟨?_, ⟨fun _ => [], fun i => ?_, (fun _ _ _ z => nomatch z), fun _ => .nil, (fun _ _ z => nomatch z)⟩, (fun _ z => nomatch z), .nil, fun b z => ⟨z, ?_⟩, fun b z => ?_, .refl, hT, fun b l' z => ?_⟩, (b _).mono (fun r hr σ' M' H' s' rp' => ?_) (fun _ z => z.elim) hrun⟩
  · simp
  · match i with
    | 0 => exact .no
    | 1 => exact .s rfl
    | i + 2 =>
      have e : ∀ (α : Type) (k j : Nat) (a : α), ((List.replicate k a)[j]?).getD a = a := by
        intro α k j a
        by_cases q : j < k
        · rw [List.getElem?_replicate_of_lt q]; rfl
        · rw [List.getElem?_eq_none (by simpa using q)]; rfl
      have e1 : (some (V.ref a) :: some (V.ref st) :: List.replicate n none).getD (i + 2) none = none := by
        rw [List.getD_eq_getElem?_getD]
        exact e _ n i none
      have e2 : sAt (.no :: .s :: List.replicate n .no) (i + 2) = .no := by
        unfold sAt
        rw [List.getD_eq_getElem?_getD]
        exact e _ n i Sl.no
      rw [e1, e2]
      exact .no
  · show H1 b ≠ none
    rw [show b = st from z, h1]; exact fun z => by cases z
  · rw [show b = st from z, h1]; exact fun z => by cases z
  · cases z
    exact ⟨hS, rfl, (by show H1 st ≠ none; rw [h1]; exact fun z => by cases z), (by show H1 l ≠ none; rw [h2]; exact fun z => by cases z), fun z => h3 z⟩
  · obtain ⟨f, env⟩ := r
    have hr : f = .rt (.bool true) := hr
    subst hr
    intro v av
    cases av
    exact hD H'
theorem law_of {rest : List Stmt} {st : Stmt} {f g : Addr} {fd gd : FuncData} {N : List Str} {k n : Nat} {b : SM} {p1 p2 p3 p4 p5 : Pos} (F : Fun K "law" "law" st f fd) (S : FnScope N ["script"] (defScope st))
    (G : FnOk P w K mg base CX0 1 g gd ["script"] (spStream K T)) (bG : Binds K gd ["script"] []) (kG : PySem.W.keepIn K (.ref g) = true) (mG : mg "_law_stream" = some (.ref g))
    (hst : defBody st = .Assign [.Name "stream" p1] (.Call (.Name "_law_stream" p2) [.Name "script" p3] [] p4) p5 :: rest) (hn : N.length = n + 2)
    (set : ∀ (cd : Value) (A : Around) (outer : List PySem.Env) (s : Shared) (H : Hp) (E : XK), Room (k + 1) (A.deeper (envOfC "law" (defScope st) s.heap.objs.size f cd)) → PS (cxV P w K mg base N "law" st f cd A outer s H E) (.Assign [.Name "stream" p1] (.Call (.Name "_law_stream" p2) [.Name "script" p3] [] p4) p5) (tAsg (tCall (spStream K T) [] E0 (tCons (tVar 0) tNil)) (gName 1)))
    (body : ∀ (c : Ctx T ix) (cd : Value) (A : Around) (outer : List PySem.Env) (s : Shared) (H : Hp) (E : XK), Bd (cxV P w K mg base N "law" st f cd A outer s H E) E (k + 1) → VSs (cxV P w K mg base N "law" st f cd A outer s H E) c E rest b)
    (hrun : (b (.no :: .s :: List.replicate n .no)).run (fun r => r.1 = .rt (.bool true)) (fun _ => False)) : FnOk P w K mg base (L2.CX P w) (k + 2) f fd ["script"] (spLaw K T) := by
  refine F.okX S (fun vs H Q E h => ?_) (fun cd A outer s H vs Q E hr h => ?_)
  · obtain ⟨a, ns, rfl, _⟩ := h
    rfl
  obtain ⟨a, ns, rfl, hS, h63, hT, q⟩ := h
  refine ⟨tSeq (tAsg (tCall (spStream K T) [] E0 (tCons (tVar 0) tNil)) (gName 1)) (fun D σ H' => ∃ c : Ctx T ix, tS K mg c E b D σ H'), ?_, ?_⟩
  · rw [hst]
    exact pss_cons (set cd A outer s H E hr) ⟨fun pins s' σ H' D I ⟨c, z⟩ => (body c cd A outer s H E (bd_of hr)).ps.run pins s' σ H' D I z⟩
  · have e0 : L2.start N [V.ref a] = some (.ref a) :: none :: List.replicate n none := by
      unfold L2.start
      rw [hn]
      show some (V.ref a) :: List.replicate (n + 1) none = _
      rw [List.replicate_succ]
    rw [e0]
    refine ⟨_, rfl, a, ns, rfl, hS, h63, fun st' l H1 hst' hl' k1 sa => ?_⟩
    exact law_body (N := N) (a := a) (fun c => body c cd A outer s H E (bd_of hr)) (fun P hP => k1.tb P (hT P hP)) sa hrun (fun H' => q H')
theorem FnOk.cx0 {k : Nat} {f : Addr} {fd : FuncData} {ps : List Str} {sp : Sp} (F : FnOk P w K mg base (L2.CX P w) k f fd ps sp) (h : ∀ vs H Q E, sp vs H Q E → sp vs H Q E0) : FnOk P w K mg base CX0 k f fd ps sp := by
  refine ⟨F.len, fun A outer s H args us vs Q E hr he hb hv hs => codeAny_mono (F.run A outer s H args us vs Q E0 hr he hb hv (h _ _ _ _ hs)) fun r s' hq => ?_⟩
  cases r with
  | ok fl => cases fl <;> exact hq
  | error e =>
    obtain ⟨_, _, _, _, _, _, _, _, _, _, _, _, z⟩ := hq
    exact z.elim
end
end
end VL

set_option Elab.async false
set_option linter.all false
set_option maxRecDepth 100000
set_option maxHeartbeats 1000000
/-! The value layer: lists of lists of one's own; dicts. -/
namespace VL
noncomputable section
open PySem PySem.Spec PyProof.Rows L2 GxR GA KR GenW
variable {T : List Addr} {ix : Bool} {X : Cx} {c : Ctx T ix} {EK : XK}
/-! ### a comprehension of new lists -/
inductive ZL (ix : Bool) (K : PySem.W.Frag) (M : Addr → Prop) (H : Hp) : Tmp → List (List PyData) → Prop
  | nil : ZL ix K M H [] []
  | cons {p : Addr × List V} {xs : List PyData} {Z : Tmp} {xss : List (List PyData)} : AtL ix K M H p.2 xs → ZL ix K M H Z xss → ZL ix K M H (p :: Z) (xs :: xss)
section
variable {K : PySem.W.Frag} {σ : L2.St} {M M' : Addr → Prop} {H H' : Hp} {env : En} {Y Z : Tmp} {xss yss : List (List PyData)}
theorem ZL.stp (s : Stp M H M' H') (h : ZL ix K M H Z xss) : ZL ix K M' H' Z xss := by
  induction h with
  | nil => exact .nil
  | cons a _ ih => exact .cons (a.stp s) ih
theorem ZL.append {Z2 : Tmp} (h : ZL ix K M H Z xss) (h2 : ZL ix K M H Z2 yss) : ZL ix K M H (Z ++ Z2) (xss ++ yss) := by
  induction h with
  | nil => exact h2
  | cons a _ ih => exact .cons a ih
theorem ZL.length (h : ZL ix K M H Z xss) : Z.length = xss.length := by
  induction h with
  | nil => rfl
  | cons _ _ ih => exact congrArg (· + 1) ih
theorem ZL.lls (h : ZL ix K M H Z xss) (hz : ∀ p ∈ Z, H p.1 = some (.lst p.2) ∧ M p.1) : LLs ix K M H (Z.map (·.1)) xss := by
  induction h with
  | nil => exact .nil
  | cons a _ ih => exact .cons (hz _ List.mem_cons_self).1 a (hz _ List.mem_cons_self).2 (ih fun p hp => hz p (List.mem_cons_of_mem _ hp))
theorem Rp.perm {Y' : Tmp} (r : Rp K c σ M H env Y) (p : Y'.Perm Y) : Rp K c σ M H env Y' := by
  obtain ⟨o, h1, h2, h3, h4⟩ := r.own
  exact ⟨r.len, ⟨o, h1, h2, h3, fun i a z => ⟨(h4 i a z).1, fun q hq => (h4 i a z).2 q (p.mem_iff.mp hq)⟩⟩, fun q hq => r.tmp q (p.mem_iff.mp hq), (p.map _).nodup_iff.mpr r.nd, r.mx, r.al, r.kp, r.tb, r.st⟩
/-- the newest temporary grows -/
theorem Rp.grow {D : Addr} {acc acc' : List V} (r : Rp K c σ M H env ((D, acc) :: Y)) : Rp K c σ M (upd H D (.lst acc')) env ((D, acc') :: Y) ∧ Stp M H M (upd H D (.lst acc')) := by
  have ht := r.tmp _ List.mem_cons_self
  have stp : Stp M H M (upd H D (.lst acc')) := .of (Kp.put ht.2.1 ht.1 rfl)
  obtain ⟨w, h1, h2, h3, h4⟩ := r.own
  have nd := r.nd
  rw [List.map_cons, List.nodup_cons] at nd
  refine ⟨⟨r.len, ⟨w, fun j => (h1 j).stp stp fun b z => ⟨(h1 j).mem b z, upd_ne fun y => (h4 j b z).2 _ List.mem_cons_self (by rw [y])⟩, h2, h3, fun j b z => ⟨(h4 j b z).1, fun p hp => ?_⟩⟩, fun p hp => ?_, by rw [List.map_cons, List.nodup_cons]; exact nd, r.mx, fun b z => ?_, r.kp.putNew ht.2.2 ht.1 rfl, fun P hP => stp.k.tb P (r.tb P hP), fun b l z => ?_⟩, stp⟩
  · rcases List.mem_cons.mp hp with y | y
    · rw [y]
      show D ≠ b
      exact (h4 j b z).2 (D, acc) List.mem_cons_self
    · exact (h4 j b z).2 p (List.mem_cons_of_mem _ y)
  · rcases List.mem_cons.mp hp with y | y
    · rw [y]; exact ⟨upd_same, ht.2⟩
    · obtain ⟨y1, y2⟩ := r.tmp p (List.mem_cons_of_mem _ y)
      exact ⟨by rw [upd_ne fun z => nd.1 (List.mem_map.mpr ⟨p, y, z⟩)]; exact y1, y2⟩
  · by_cases y : b = D
    · rw [y, upd_same]; exact fun z => by cases z
    · rw [upd_ne y]; exact r.al b z
  · obtain ⟨⟨x1, x2, ns, y1, y2, y3, y4, y5⟩, z1, z2, z3, z4⟩ := r.st b l z
    refine ⟨⟨x1, x2, ns, ?_, ?_, y3, y4, y5⟩, z1, z2, z3, z4⟩
    · rw [upd_ne fun y => z2 (by rw [y]; exact ht.2.2)]; exact y1
    · rw [upd_ne fun y => z3 (by rw [y]; exact ht.2.2)]; exact y2
end
def lcFW (vs : List Nat) (g : GF) (m : Mo (List PyData)) : List PyData → En → W (List (List PyData) × En)
  | [], env => W.ret ([], env)
  | x :: xs, env => (W.opt (g x (wipeE vs env))).bind fun e => (m e).nox.bind fun r => (lcFW vs g m xs r.2).bind fun q => W.ret (r.1 :: q.1, q.2)
def lcFM (vs : List Nat) (mi : Mo (List PyData)) (g : GF) (m : Mo (List PyData)) : Mo (List (List PyData)) := fun env => (mi env).bind fun r => (W.opt (if Lc_ (vs.all fun j => plainS (sAt r.2 j)) r.1.length then some () else none)).bind fun _ =>
  (lcFW vs g m r.1 r.2).bind fun q => W.ret (q.1, restE r.2 vs q.2)
/-- a new list of new lists -/
def tFF (K : PySem.W.Frag) (mg : Str → Option Value) (c : Ctx T ix) (EK : XK) (m : Mo (List (List PyData))) : TE := fun σ H Q => ∃ M env Y, Rp K c σ M H env Y ∧
  (m env).run (fun r => ∀ a (Z : Tmp) M' H', Stp M H M' H' → Rp K c σ M' H' r.2 ((a, Z.map fun p => V.ref p.1) :: (Z ++ Y)) → ZL ix K M' H' Z r.1 → Q (.ref a) H') (EX mg c EK)
section
variable {elt tg iter : Expr} {scope : Scope} {own : List (Str × Nat)} {pos : Pos} {mi : Mo (List PyData)} {t : TG} {is : List Nat} {g : GF} {me : Mo (List PyData)}
theorem lcF_sound {σ : L2.St} {M : Addr → Prop} {H : Hp} {env : En} {Y : Tmp} {Q : VK} {vs : List Nat} (gs : GSem X.K c t is g) (his : ∀ i ∈ is, i ∈ vs)
    (rp : Rp X.K c σ M H env Y) (q : (lcFM vs mi g me env).run (fun r => ∀ a (Z : Tmp) M' H', Stp M H M' H' → Rp X.K c σ M' H' r.2 ((a, Z.map fun p => V.ref p.1) :: (Z ++ Y)) → ZL ix X.K M' H' Z r.1 → Q (.ref a) H') (EX X.mg c EK)) :
    tLc (tI X.K X.mg c EK mi) t tYes (tF X.K X.mg c E0 me) vs σ H Q := by
  refine ⟨M, env, Y, rp, (mi env).mono (fun r h M1 H1 J s1 rp1 jok D hD => ?_) (fun _ h => h) q⟩
  obtain ⟨xs, env1⟩ := r
  have rp1 : Rp X.K c σ M1 H1 env1 Y := rp1
  obtain ⟨u, eu, h⟩ := wopt_run h
  split at eu
  case isFalse => cases eu
  rename_i hc
  have hpl : ∀ j ∈ vs, plainS (sAt env1 j) = true := fun j hj => (List.all_eq_true.mp hc.1) j hj
  have r1 := (rp1.tmpNew (vs := []) hD).wipe vs
  have sD : Stp M1 H1 (fun a => M1 a ∨ a = D) (upd H1 D (.lst [])) := .tmpNew hD
  refine ⟨fun i m H' => m = xs.length - i ∧ i ≤ xs.length ∧ ∃ M' env' Z dss, Stp M1 H1 M' H' ∧ Rp X.K c (wipe σ vs) M' H' (wipeE vs env') ((D, Z.map fun p => V.ref p.1) :: (Z ++ Y)) ∧ ZL ix X.K M' H' Z dss ∧ dss.length ≤ i ∧
    (lcFW vs g me (xs.drop i) env').run (fun q => ∀ a (Z : Tmp) M' H', Stp M H M' H' → Rp X.K c σ M' H' (restE env1 vs q.2) ((a, Z.map fun p => V.ref p.1) :: (Z ++ Y)) → ZL ix X.K M' H' Z (dss ++ q.1) → Q (.ref a) H') (EX X.mg c EK), ⟨xs.length, rfl, Nat.zero_le _, _, env1, [], [], sD, r1, .nil, Nat.le_refl _, h⟩, ?_⟩
  rintro i m H' ⟨rfl, hi', M', env', Z, dss, s', rp', zl, hds, q'⟩
  have sM := s1.trans s'
  obtain ⟨j1, j2⟩ := jok M' H' s'
  have hi' : i ≤ xs.length := hi'
  by_cases hlt : i < xs.length
  · have e1 : xs.drop i = xs[i] :: xs.drop (i + 1) := List.drop_eq_getElem_cons hlt
    rw [e1] at q'
    obtain ⟨g1, g2⟩ := j1 i xs[i] (List.getElem?_eq_getElem hlt)
    refine .inr ⟨g1, fun H'' => ∃ M'' env'' Z dss, Stp M1 H1 M'' H'' ∧ Rp X.K c (wipe σ vs) M'' H'' (wipeE vs env'') ((D, Z.map fun p => V.ref p.1) :: (Z ++ Y)) ∧ ZL ix X.K M'' H'' Z dss ∧ dss.length ≤ i + 1 ∧
      (lcFW vs g me (xs.drop (i + 1)) env'').run (fun q => ∀ a (Z : Tmp) M' H', Stp M H M' H' → Rp X.K c σ M' H' (restE env1 vs q.2) ((a, Z.map fun p => V.ref p.1) :: (Z ++ Y)) → ZL ix X.K M' H' Z (dss ++ q.1) → Q (.ref a) H') (EX X.mg c EK), fun H'' z => ⟨xs.length - (i + 1), by omega, rfl, hlt, z⟩, fun x H2 yy => ?_⟩
    obtain ⟨k2, a2⟩ := g2 x H2 yy
    have s2 : Stp M' H' M' H2 := .of k2.any
    obtain ⟨e, ee, q2⟩ := wopt_run q'
    refine gs _ M' H2 _ _ x xs[i] e _ (rp'.kp1 k2) a2 ee fun σ3 rp3 l3 o3 => ?_
    have hw : wipe σ3 vs = wipe σ vs := wipe_same (vs := vs) (l3.trans (wipe_length σ vs)) (fun j hj => (o3 j fun z => hj (his j z)).trans (by rw [getD_wipe, if_neg hj]))
    refine ⟨hw, ?_⟩
    dsimp only [tYes]
    rw [if_pos rfl]
    refine ⟨M', e, _, rp3, (me e).mono (fun r hr b bs M4 H4 s4 rp5 al5 => ?_) (fun _ z => z.elim) q2⟩
    obtain ⟨ds, e4⟩ := r
    have hD5 := rp5.tmp _ (List.mem_cons_of_mem _ List.mem_cons_self)
    have sz : (Z.map fun p => V.ref p.1).length < sizeLine := by
      rw [List.length_map, zl.length]
      have : xs.length < sizeLine := hc.2
      omega
    refine ⟨_, hD5.1, sz, ?_⟩
    have pm : ((D, Z.map fun p => V.ref p.1) :: (((b, bs) :: Z) ++ Y)).Perm ((b, bs) :: (D, Z.map fun p => V.ref p.1) :: (Z ++ Y)) := List.Perm.swap _ _ _
    obtain ⟨gr, gstp⟩ := (rp5.perm pm).grow (acc' := (Z.map fun p => V.ref p.1) ++ [V.ref b])
    have e5 : (Z.map fun p => V.ref p.1) ++ [V.ref b] = (Z ++ [(b, bs)]).map fun p => V.ref p.1 := by rw [List.map_append]; rfl
    have gr2 : Rp X.K c σ3 M4 (upd H4 D (.lst ((Z.map fun p => V.ref p.1) ++ [V.ref b]))) e4 ((D, (Z ++ [(b, bs)]).map fun p => V.ref p.1) :: ((Z ++ [(b, bs)]) ++ Y)) := by
      rw [← e5]
      refine gr.perm (List.Perm.cons _ ?_)
      rw [List.append_assoc]
      exact List.perm_middle
    refine ⟨M4, e4, Z ++ [(b, bs)], dss ++ [ds], ((s'.trans s2).trans s4).trans gstp, ?_, (((zl.stp s2).stp s4).append (.cons al5 .nil)).stp gstp, by rw [List.length_append, List.length_singleton]; omega, ?_⟩
    · have := gr2.wipe vs
      rw [hw] at this
      exact this
    · refine (lcFW vs g me (xs.drop (i + 1)) e4).mono (fun q hq a Z' M' H' s r al => ?_) (fun _ z => z) hr
      exact hq a Z' M' H' s r (by rw [List.append_assoc] at al; exact al)
  · have e : i = xs.length := by omega
    subst e
    rw [List.drop_length] at q'
    have fin := Rp.unwipe rp1 s' rp' hpl
    rw [restE_wipe vs rp1 rp' (wipe_length σ vs)] at fin
    refine .inl ⟨j2 _ (Nat.le_refl _), q' D Z M' H' sM fin ?_⟩
    show ZL ix X.K M' H' Z (dss ++ [])
    rw [List.append_nil]
    exact zl
theorem pe_lcF (hc : X.calm = true) (hN : X.N.Nodup) (hi : VI X c EK tg iter mi) (ok : BlkOk X.N X.env.scope scope own) (gs : GSem X.K c t is g) (his : ∀ i ∈ is, i ∈ own.map (·.2))
    (hg : ∀ (s : Shared) (H : Hp) (C : Addr) (cl : List (Str × Addr)) (fp : List Addr), PG (X.blk s H scope (compEnvC scope cl C X.env) fp) tg t)
    (he : ∀ (s : Shared) (H : Hp) (C : Addr) (cl : List (Str × Addr)) (fp : List Addr), VF (X.blk s H scope (compEnvC scope cl C X.env) fp) c E0 elt me) (hs : ∀ x, foldedSetIterable iter X.env x = pure x := by intro _; rfl) :
    PE X (.ListComp elt [⟨tg, iter, [], 0⟩] scope pos) (tFF X.K X.mg c EK (lcFM (own.map (·.2)) mi g me)) :=
  PE.imp (pe_lc hc hN hi.pi ok hg (fun _ _ _ _ _ => pts_nil) (fun s H C cl fp => (he s H C cl fp).pe) hs) fun σ H Q ⟨M, env, Y, rp, q⟩ => lcF_sound gs his rp q
theorem vs_lcF {i : Nat} {y : Str} {py spos : Pos} (hc : X.calm = true) (hN : X.N.Nodup) (hi : VI X c EK tg iter mi) (ok : BlkOk X.N X.env.scope scope own) (gs : GSem X.K c t is g) (his : ∀ i ∈ is, i ∈ own.map (·.2))
    (hg : ∀ (s : Shared) (H : Hp) (C : Addr) (cl : List (Str × Addr)) (fp : List Addr), PG (X.blk s H scope (compEnvC scope cl C X.env) fp) tg t)
    (he : ∀ (s : Shared) (H : Hp) (C : Addr) (cl : List (Str × Addr)) (fp : List Addr), VF (X.blk s H scope (compEnvC scope cl C X.env) fp) c E0 elt me) (hs : ∀ x, foldedSetIterable iter X.env x = pure x := by intro _; rfl) (hy : X.N[i]? = some y := by rfl) (hyl : X.env.scope.names.lookup y = some .local := by rfl)
    (hsw : swapsWith (.ListComp elt [⟨tg, iter, [], 0⟩] scope pos) (some (.Name y py)) spos.line X.env = pure true := by exact sw_true rfl rfl rfl (by decide +kernel)) :
    PS X (.Assign [.Name y py] (.ListComp elt [⟨tg, iter, [], 0⟩] scope pos) spos) (tAsg (tFF X.K X.mg c EK (lcFM (own.map (·.2)) mi g me)) (gName i)) :=
  PS.imp (ps_setLc hc hN hy hyl hsw hi.pi ok hg (fun _ _ _ _ _ => pts_nil) (fun s H C cl fp => (he s H C cl fp).pe) hs) fun D σ H ⟨M, env, Y, rp, q⟩ => lcF_sound gs his rp q
end
def sSetLL (i : Nat) (me : Mo (List (List PyData))) : SM := fun env => (me env).bind fun r => (W.opt (setD i (.ll r.1) r.2)).bind fun e => W.ret (.nx, e)
theorem vs_setFF {i : Nat} {st : Stmt} {me : Mo (List (List PyData))} (h : PS X st (tAsg (tFF X.K X.mg c EK me) (gName i))) : VS X c EK st (sSetLL i me) := by
  refine ⟨PS.imp h fun D σ H ⟨M, env, rp, q⟩ => ?_⟩
  refine ⟨M, env, [], rp, (me env).mono (fun r h a Z M' H' s' rp' zl => ?_) (fun _ h => h) q⟩
  obtain ⟨e, ee, q'⟩ := wopt_run h
  obtain ⟨hi, rfl⟩ := setD_some ee
  exact q' _ M' H' s' (rp'.setLL hi (zl.lls fun p hp => by
    obtain ⟨z1, z2, _⟩ := rp'.tmp p (List.mem_cons_of_mem _ (List.mem_append_left _ hp))
    exact ⟨z1, z2⟩))
/-! ### expressions that change nothing -/
structure VP (X : Cx) (c : Ctx T ix) (e : Expr) (f : En → Option PyData) : Prop where
  run : ∃ t, PE X e t ∧ ∀ (σ : L2.St) (M : Addr → Prop) (H : Hp) (env : En) (Y : Tmp) (d : PyData) (Q : VK), Rp X.K c σ M H env Y → f env = some d → (∀ v, At ix X.K M H v d → Q v H) → t σ H Q
def pVar (i : Nat) (env : En) : Option PyData := match sAt env i with
  | .d x => some x
  | _ => none
theorem vp_var {i : Nat} {x : Str} {p : Pos} (h : PE X (.Name x p) (tVar i)) : VP X c (.Name x p) (pVar i) := by
  refine ⟨_, h, fun σ M H env Y d Q rp e q => ?_⟩
  unfold pVar at e
  obtain ⟨o, h1, _⟩ := rp.own
  have hs := h1 i
  generalize hv : σ.getD i none = ov at hs
  generalize sAt env i = sl at hs e
  generalize o i = os at hs
  cases hs with
  | d a => cases e; exact ⟨_, slot_val hv, q _ a⟩
  | _ => cases e
theorem vp_int {i : Int} {j p} : VP X c (.Constant (.int i) j p) (fun _ => some (.int i)) := ⟨_, pe_int, fun σ M H env Y d Q rp e q => by cases e; exact q _ (.int i)⟩
theorem vp_op {a b e : Expr} {fa fb : En → Option PyData} {r : R2} {f : PyData → PyData → Option PyData} (h : ∀ {ta tb}, PE X a ta → PE X b tb → PE X e (tOp r ta tb))
    (hs : ∀ M H v w a b d Q, At ix X.K M H v a → At ix X.K M H w b → f a b = some d → (∀ u, At ix X.K M H u d → Q u H) → r v w H Q) (ha : VP X c a fa) (hb : VP X c b fb) : VP X c e (fun env => (fa env).bind fun x => (fb env).bind fun y => f x y) := by
  obtain ⟨ta, pa, qa⟩ := ha.run
  obtain ⟨tb, pb, qb⟩ := hb.run
  refine ⟨_, h pa pb, fun σ M H env Y d Q rp e q => ?_⟩
  cases ea : fa env with
  | none => rw [ea] at e; cases e
  | some x =>
    rw [ea] at e
    have e : ((fb env).bind fun y => f x y) = some d := e
    cases eb : fb env with
    | none => rw [eb] at e; cases e
    | some y =>
      rw [eb] at e
      exact qa σ M H env Y x _ rp ea fun v av => qb σ M H env Y y _ rp eb fun w aw => hs M H v w x y d Q av aw e q
theorem vp_add {a b : Expr} {fa fb : En → Option PyData} {pos : Pos} (ha : VP X c a fa) (hb : VP X c b fb) : VP X c (.BinOp a .Add b pos) (fun env => (fa env).bind fun x => (fb env).bind fun y => iaddD x y) :=
  vp_op (fun h h' => pe_op op_add h h') (fun M H v w a b d Q ha hb e q => by
    unfold iaddD at e
    split at e
    · cases e
      cases ha; cases hb
      exact ⟨_, _, rfl, rfl, q _ (.int _)⟩
    · cases e) ha hb
/-! ### x[a][b], x[a][b] = e, x[a] = e -/
section
variable {i : Nat} {x : Str} {p2 p3 pos : Pos} {a b e : Expr} {fa fb : En → Option PyData} {me : Mo PyData}
theorem ref_at {as : List Addr} {k : Int} {n : Nat} {b : Addr} (e : ixN as.length k = some n) (h : as[n]? = some b) : L2.atI (as.map V.ref) k = some (.ref b) := by
  unfold L2.atI
  rw [List.length_map, e]
  show (as.map V.ref)[n]? = _
  rw [List.getElem?_map, h]
  rfl
def bIx2 (i : Nat) (fa fb : En → Option PyData) : Mo PyData := fun env => match sAt env i with
  | .ll xss => (W.opt ((fa env).bind fun a => (fb env).bind fun b => match a with
    | .int k => (ixN xss.length k).bind fun n => xss[n]?.bind fun xs => ixD (.list xs) b
    | _ => none)).bind fun d => W.ret (d, env)
  | _ => W.fail
theorem vb_ix2 (hx : PE X (.Name x p2) (tVar i)) (ha : VP X c a fa) (hb : VP X c b fb) (hs : PlainIx a := by intro _ _; rfl) (hs2 : PlainIx b := by intro _ _; rfl) : VE X c EK (.Subscript (.Subscript (.Name x p2) a p3) b pos) (bIx2 i fa fb) := by
  obtain ⟨ta, pa, qa⟩ := ha.run
  obtain ⟨tb, pb, qb⟩ := hb.run
  refine ⟨PE.imp (pe_ix ix_any (pe_ix ix_any hx pa hs) pb hs2) fun σ H Q ⟨M, env, Y, rp, w⟩ => ?_⟩
  unfold bIx2 at w
  cases es : sAt env i with
  | ll xss =>
    rw [es] at w
    obtain ⟨d, ed, q⟩ := wopt_run w
    obtain ⟨ad, as, hv, ead, hl, get⟩ := rp.ownLL es
    obtain ⟨da, efa, ed⟩ := Option.bind_eq_some_iff.mp ed
    obtain ⟨db, efb, ed⟩ := Option.bind_eq_some_iff.mp ed
    cases da with
    | int k =>
      obtain ⟨n, e1, ed⟩ := Option.bind_eq_some_iff.mp ed
      obtain ⟨xs, e2, ed⟩ := Option.bind_eq_some_iff.mp ed
      obtain ⟨bd, vs, hbd, eb, al, _⟩ := get n xs e2
      refine ⟨_, hv, qa σ M H env Y _ _ rp efa fun v av => ?_⟩
      cases av
      refine .inl ⟨_, _, _, _, rfl, rfl, SqL.of ead, ref_at (by rw [hl]; exact e1) hbd, ?_⟩
      refine qb σ M H env Y _ _ rp efb fun v av => ?_
      cases db with
      | int j =>
        cases av
        obtain ⟨z, hz, az⟩ := al.atI ed
        exact .inl ⟨_, _, _, _, rfl, rfl, SqL.of eb, hz, q _ M H .refl rp az⟩
      | _ => cases ed
    | _ => cases ed
  | _ => rw [es] at w; exact w.elim
def sPut2 (i : Nat) (fa fb : En → Option PyData) (me : Mo PyData) : SM := fun env => (me env).bind fun r => match sAt r.2 i with
  | .ll xss => (W.opt ((fa r.2).bind fun a => (fb r.2).bind fun b => match a, b with
    | .int k, .int j => (ixN xss.length k).bind fun n => xss[n]?.bind fun xs => (ixN xs.length j).bind fun m => some (xss.set n (xs.set m r.1))
    | _, _ => none)).bind fun yss => W.ret (.nx, r.2.set i (.ll yss))
  | _ => W.fail
theorem vs_put2 {tp : Pos} (hx : PE X (.Name x p2) (tVar i)) (ha : VP X c a fa) (hb : VP X c b fb) (he : VE X c EK e me) (hs1 : PlainIx a := by intro _ _; rfl)
    (hsub : ∀ v, assign (.Subscript (.Subscript (.Name x p2) a p3) b tp) X.env v = (do
      let ov ← holding [v] (eval (.Subscript (.Name x p2) a p3) X.env)
      let iv ← holding [v, ov] (eval b X.env)
      standAt tp
      holding [v, ov, iv] (setItem ov iv v)
      release [v, ov, iv] []) := by intro _; rfl)
    (hs : swapsWithSole [.Subscript (.Subscript (.Name x p2) a p3) b tp] e pos.line X.env = pure false := by rfl) (hw : swappedStores [.Subscript (.Subscript (.Name x p2) a p3) b tp] e X.env = pure none := by rfl)
    (h1 : (assignEach [.Subscript (.Subscript (.Name x p2) a p3) b tp] X.env).map (·.2) = [assign (.Subscript (.Subscript (.Name x p2) a p3) b tp) X.env] := by rfl) : VS X c EK (.Assign [.Subscript (.Subscript (.Name x p2) a p3) b tp] e pos) (sPut2 i fa fb me) := by
  obtain ⟨ta, pa, qa⟩ := ha.run
  obtain ⟨tb, pb, qb⟩ := hb.run
  refine ⟨PS.imp (ps_asg he.pe (pg_sub (pe_ix ix_any hx pa hs1) pb set_list hsub) hs hw h1) fun D σ H ⟨M, env, rp, q⟩ => ?_⟩
  refine ⟨M, env, [], rp, (me env).mono (fun r h v M1 H1 s1 rp1 av => ?_) (fun _ h => h) q⟩
  obtain ⟨d, env1⟩ := r
  have rp1 : Rp X.K c σ M1 H1 env1 [] := rp1
  dsimp only at h
  cases es : sAt env1 i with
  | ll xss =>
    rw [es] at h
    obtain ⟨yss, ed, q⟩ := wopt_run h
    obtain ⟨ad, as, hv, ead, hl, get⟩ := rp1.ownLL es
    obtain ⟨da, efa, ed⟩ := Option.bind_eq_some_iff.mp ed
    obtain ⟨db, efb, ed⟩ := Option.bind_eq_some_iff.mp ed
    cases da with
    | int k =>
      cases db with
      | int j =>
        obtain ⟨n, e1, ed⟩ := Option.bind_eq_some_iff.mp ed
        obtain ⟨xs, e2, ed⟩ := Option.bind_eq_some_iff.mp ed
        obtain ⟨m, e3, ed⟩ := Option.bind_eq_some_iff.mp ed
        cases ed
        obtain ⟨bd, vs, hbd, eb, al, put⟩ := get n xs e2
        refine ⟨_, hv, qa σ M1 H1 env1 [] _ _ rp1 efa fun u au => ?_⟩
        cases au
        refine .inl ⟨_, _, _, _, rfl, rfl, SqL.of ead, ref_at (by rw [hl]; exact e1) hbd, ?_⟩
        refine qb σ M1 H1 env1 [] _ _ rp1 efb fun u au => ?_
        cases au
        obtain ⟨rp2, s2⟩ := put (vs.set m v) (xs.set m d) (al.set m av)
        exact ⟨_, _, _, _, rfl, rfl, eb, by rw [al.length]; exact e3, q σ M1 _ (s1.trans s2) rp2⟩
      | _ => cases ed
    | _ => cases ed
  | _ => rw [es] at h; exact h.elim
end
/-! ### dicts of the module: d[e] with texts -/
def kdD (tbl : List (Str × Str)) : PyData → Option PyData
  | .str s => (tbl.lookup s).map .str
  | _ => none
/-- a dict of texts that stands in the module -/
def ModD (K : PySem.W.Frag) (w : World) (mg : Str → Option Value) (x : Str) (tbl : List (Str × Str)) : Prop := ∃ a, mg x = some (.ref a) ∧ ∀ s r, tbl.lookup s = some r → KDct K w a s (.str r)
theorem ve_kdict {x : Str} {tbl : List (Str × Str)} {e : Expr} {m : Mo PyData} {p2 pos : Pos} (hg : Gl X x) (hD : ModD X.K X.w X.mg x tbl) (he : VE X c EK e m) (hs : PlainIx e := by intro _ _; rfl) (hd : (x == ("__debug__" : Str)) = false := by decide) : VE X c EK (.Subscript (.Name x p2) e pos) (op1 (kdD tbl) m) := by
  obtain ⟨a, hm, hk⟩ := hD
  refine ⟨PE.imp (pe_ix ix_kdict (pe_glob hg hm (v := .ref a) rfl hd) he.pe hs) fun σ H Q ⟨M, env, Y, rp, w⟩ => ?_⟩
  refine seq_V w rp (fun _ h => h) fun d env1 v M1 H1 s1 rp1 a1 q1 => ?_
  obtain ⟨r, er, q2⟩ := opt_run q1
  unfold kdD at er
  split at er
  · rename_i s
    cases a1
    cases el : tbl.lookup s with
    | none => rw [el] at er; cases er
    | some t =>
      rw [el] at er
      cases er
      exact ⟨a, s, .str t, rfl, rfl, hk s t el, q2 _ M1 H1 s1 rp1 (.str t)⟩
  · cases er
/-! ### d[e] of a dict that is data, its keys ints or texts -/
def kEq : PyData → PyData → Bool
  | .int i, .int j => decide (i = j)
  | .str x, .str y => decide (x = y)
  | _, _ => false
def dgD : PyData → PyData → Option PyData
  | .dict ds, k => (ds.find? fun p => kEq p.1 k).map (·.2)
  | _, _ => none
theorem kEq_key {k : Key} {d : PyData} (k' : Key) (h : d = kD k) : kEq (kD k') d = decide (k' = k) := by
  subst h
  cases k <;> cases k' <;> simp [kEq, kD]
theorem dk_find {K : PySem.W.Frag} {M : Addr → Prop} {H : Hp} {k : Key} : ∀ {kvs : List (Key × V)} {es : List PyData} {d : PyData}, AtL ix K M H (kvs.map (·.2)) es → ((((kvs.map fun p => kD p.1).zip es).find? fun p => kEq p.1 (kD k)).map (·.2)) = some d → ∃ v, valV kvs k = some v ∧ At ix K M H v d
  | [], es, d, h, e => by cases h; cases e
  | p :: kvs, es, d, h, e => by
    rw [List.map_cons] at h
    cases h with
    | @cons _ _ d' ds a r =>
      rw [List.map_cons, List.zip_cons_cons, List.find?_cons] at e
      rw [kEq_key p.1 rfl] at e
      by_cases q : p.1 = k
      · rw [decide_eq_true q] at e
        cases e
        exact ⟨_, valV_pos q, a⟩
      · rw [decide_eq_false q] at e
        obtain ⟨v, hv, av⟩ := dk_find r e
        exact ⟨v, by rw [valV_neg q]; exact hv, av⟩
theorem ve_dget {o i : Expr} {mo mi : Mo PyData} {pos : Pos} {k : Nat} (hr : Room k X.A) (ho : VE X c EK o mo) (hi : VE X c EK i mi) (hs : NoSl i := by first | trivial | decide | (intro _ _; rfl)) : VE X c EK (.Subscript o i pos) (op2 dgD mo mi) := by
  refine ⟨PE.imp (pe_dget (by have := room65 hr; omega) ho.pe hi.pe hs) fun σ H Q ⟨M, env, Y, rp, w⟩ => ?_⟩
  refine seq_V w rp (fun _ h => h) fun d env1 v M1 H1 s1 rp1 a1 q1 => ?_
  refine seq_V q1 rp1 (fun _ h => h) fun b env2 w M2 H2 s2 rp2 a2 q2 => ?_
  obtain ⟨r, er, q3⟩ := opt_run q2
  have a1' := a1.stp s2
  cases a1' with
  | @dK a kvs es ds rd nm al ez =>
    subst ez
    have fin : ∀ k : Key, b = kD k → w = kV k → ∃ a' v', V.ref a = .ref a' ∧ DGet H2 a' w (some v') ∧ Q v' H2 := fun k eb ew => by
      subst eb ew
      obtain ⟨v', hv, av⟩ := dk_find al er
      exact ⟨a, v', rfl, .inl ⟨kvs, k, rd, rfl, hv.symm⟩, q3 _ M2 H2 (s1.trans s2) rp2 av⟩
    have er' : ((((kvs.map fun p => kD p.1).zip es).find? fun p => kEq p.1 b).map (·.2)) = some r := er
    have nf : (∀ k : Key, kEq (kD k) b = false) → False := fun h => by
      have : (((kvs.map fun p => kD p.1).zip es).find? fun p => kEq p.1 b) = none := by
        rw [List.find?_eq_none]
        intro p hp
        obtain ⟨h1, _⟩ := List.of_mem_zip hp
        obtain ⟨q, _, eq⟩ := List.mem_map.mp h1
        rw [← eq, h q.1]
        exact Bool.false_ne_true
      rw [this] at er'
      cases er'
    cases a2 with
    | int i => exact fin (.inl i) rfl rfl
    | str x => exact fin (.inr x) rfl rfl
    | _ => exact (nf fun k => by cases k <;> rfl).elim
  | @dT a kvs es ds rd nm al ez =>
    subst ez
    exfalso
    have er' : ((((kvs.map fun p => PyData.tuple (p.1.map kD)).zip es).find? fun p => kEq p.1 b).map (·.2)) = some r := er
    have : (((kvs.map fun p => PyData.tuple (p.1.map kD)).zip es).find? fun p => kEq p.1 b) = none := by
      rw [List.find?_eq_none]
      intro p hp
      obtain ⟨h1, _⟩ := List.of_mem_zip hp
      obtain ⟨q, _, eq⟩ := List.mem_map.mp h1
      rw [← eq]
      exact Bool.false_ne_true
    rw [this] at er'
    cases er'
  | _ => cases er
end
end VL

set_option Elab.async false
set_option linter.all false
set_option maxRecDepth 100000
set_option maxHeartbeats 1000000
/-! The value layer: more tests, constants, dict displays; the stream's next. -/
namespace VL
noncomputable section
open PySem PySem.Spec PyProof.Rows L2 GxR GA KR GenW
variable {T : List Addr} {ix : Bool} {X : Cx} {c : Ctx T ix} {EK : XK}
/-! ### tests -/
section
variable {i k : Nat} {x : Str} {p2 pos : Pos} {a b : Expr} {ma mb : Mo PyData}
def tB1 (m : Mo PyData) : Mo Bool := Mo.bind m fun d => match d with
  | .bool b => Mo.ret b
  | _ => Mo.fail
theorem vbt_in (neg : Bool) (hr : Room k X.A) (hx : PE X (.Name x p2) (tVar i)) (hb : VE X c EK b mb) {op : CmpOp} (ho : op = if neg then CmpOp.NotIn else CmpOp.In) (hm : behindInMarks op (.Name x p2) = false) :
    PT X (.Compare b [op] [.Name x p2] pos) (tT X.K X.mg c EK (tB1 (bIn neg i mb))) := by
  cases neg with
  | false =>
    subst ho
    refine PT.imp (pt_cmpR (op_inV (room65 hr)) hb.pe hx hm) fun σ H Q ⟨M, env, Y, rp, w⟩ => ?_
    unfold tB1 bIn at w
    rw [Mo.bind_assoc] at w
    refine seq_V w rp (fun _ h => h) fun k env1 u M1 H1 s1 rp1 a1 q1 => ?_
    rw [Mo.bind_assoc] at q1
    obtain ⟨d, ed, q2⟩ := peek_run q1
    obtain ⟨v, hv, bw⟩ := rp1.peek ed
    obtain ⟨r, er, q3⟩ := opt_run q2
    refine ⟨v, hv, ?_⟩
    unfold inD at er
    split at er
    · split at er
      · rename_i hc
        cases er
        exact .inl ⟨_, _, a1.dp hc.1, bw.dp hc.2, hc.1, hc.2, by rw [if_neg Bool.false_ne_true]; exact ⟨_, rfl, by rw [Bool.false_xor] at q3; exact q3 M1 H1 s1 rp1⟩⟩
      · cases er
    · split at er
      · rename_i hc
        cases er
        exact .inr ⟨_, _, a1.dp hc.1, bw.dp hc.2, hc.1, hc.2, ⟨_, rfl, by rw [Bool.false_xor] at q3; exact q3 M1 H1 s1 rp1⟩⟩
      · cases er
    · cases er
  | true =>
    subst ho
    refine PT.imp (pt_cmpR (op_notInV (room65 hr)) hb.pe hx hm) fun σ H Q ⟨M, env, Y, rp, w⟩ => ?_
    unfold tB1 bIn at w
    rw [Mo.bind_assoc] at w
    refine seq_V w rp (fun _ h => h) fun k env1 u M1 H1 s1 rp1 a1 q1 => ?_
    rw [Mo.bind_assoc] at q1
    obtain ⟨d, ed, q2⟩ := peek_run q1
    obtain ⟨v, hv, bw⟩ := rp1.peek ed
    obtain ⟨r, er, q3⟩ := opt_run q2
    refine ⟨v, hv, ?_⟩
    unfold inD at er
    split at er
    · split at er
      · rename_i hc
        cases er
        exact .inl ⟨_, _, a1.dp hc.1, bw.dp hc.2, hc.1, hc.2, by rw [if_pos rfl]; exact ⟨_, rfl, by rw [Bool.true_xor] at q3; exact q3 M1 H1 s1 rp1⟩⟩
      · cases er
    · split at er
      · rename_i hc
        cases er
        exact .inr ⟨_, _, a1.dp hc.1, bw.dp hc.2, hc.1, hc.2, ⟨_, rfl, by rw [Bool.true_xor] at q3; exact q3 M1 H1 s1 rp1⟩⟩
      · cases er
    · cases er
theorem vbt_inE (hr : Room k X.A) (hx : PE X (.Name x p2) (tVar i)) (hb : VE X c EK b mb) (hm : behindInMarks .In (.Name x p2) = false := by with_unfolding_all rfl) : VT X c EK (.Compare b [.In] [.Name x p2] pos) (tB1 (bIn false i mb)) := ⟨vbt_in false hr hx hb rfl hm⟩
theorem vbt_notinE (hr : Room k X.A) (hx : PE X (.Name x p2) (tVar i)) (hb : VE X c EK b mb) (hm : behindInMarks .NotIn (.Name x p2) = false := by with_unfolding_all rfl) : VT X c EK (.Compare b [.NotIn] [.Name x p2] pos) (tB1 (bIn true i mb)) := ⟨vbt_in true hr hx hb rfl hm⟩
theorem vt_isN {j pos'} (ha : VE X c EK a ma) : VT X c EK (.Compare a [.Is] [.Constant .none j pos'] pos) (tB1 (op1 (isND false) ma)) := by
  refine ⟨PT.imp (pt_cmp (pc_isN ha.pe)) fun σ H Q ⟨M, env, Y, rp, q⟩ => ?_⟩
  unfold tB1 op1 at q
  rw [Mo.bind_assoc] at q
  refine seq_V q rp (fun _ h => h) fun a env1 v M1 H1 s1 rp1 a1 q1 => ?_
  have e : isND false a = some (.bool (decide (v = .non))) := by
    cases a1 <;> simp [isND]
  rw [e] at q1
  exact ⟨_, rfl, q1 M1 H1 s1 rp1⟩
theorem vt_notN {j pos'} (ha : VE X c EK a ma) : VT X c EK (.Compare a [.IsNot] [.Constant .none j pos'] pos) (tB1 (op1 (isND true) ma)) := by
  refine ⟨PT.imp (pt_cmp (pc_notN ha.pe)) fun σ H Q ⟨M, env, Y, rp, q⟩ => ?_⟩
  unfold tB1 op1 at q
  rw [Mo.bind_assoc] at q
  refine seq_V q rp (fun _ h => h) fun a env1 v M1 H1 s1 rp1 a1 q1 => ?_
  have e : isND true a = some (.bool (!decide (v = .non))) := by
    cases a1 <;> simp [isND]
  rw [e] at q1
  exact ⟨_, rfl, q1 M1 H1 s1 rp1⟩
/-- x is True and the like, x a bool -/
def isBD (neg b : Bool) : PyData → Option PyData
  | .bool x => some (.bool (neg.xor (x == b)))
  | _ => none
theorem op_isB : OpR X (compareOp .Is) (fun x y H Q => ∃ p q, x = .bl p ∧ y = .bl q ∧ Q (.bl (p == q)) H) := by
  intro pins s σ H x y v u Q I rx ry h
  obtain ⟨p, q, rfl, rfl, h⟩ := h
  cases rx; cases ry
  exact is_bool ⟨.bl _, H, I, rfl, h⟩
theorem op_isntB : OpR X (compareOp .IsNot) (fun x y H Q => ∃ p q, x = .bl p ∧ y = .bl q ∧ Q (.bl (p != q)) H) := by
  intro pins s σ H x y v u Q I rx ry h
  obtain ⟨p, q, rfl, rfl, h⟩ := h
  cases rx; cases ry
  exact isnot_bool ⟨.bl _, H, I, rfl, h⟩
theorem vt_isB {bb : Bool} {j pos'} (ha : VE X c EK a ma) : VT X c EK (.Compare a [.Is] [.Constant (.bool bb) j pos'] pos) (tB1 (op1 (isBD false bb) ma)) := by
  refine ⟨PT.imp (pt_cmpR op_isB ha.pe pe_bl (nomark _)) fun σ H Q ⟨M, env, Y, rp, q⟩ => ?_⟩
  unfold tB1 op1 at q
  rw [Mo.bind_assoc] at q
  refine seq_V q rp (fun _ h => h) fun a env1 v M1 H1 s1 rp1 a1 q1 => ?_
  cases a1 with
  | bl p =>
    refine ⟨p, bb, rfl, rfl, _, rfl, ?_⟩
    have q1 := q1 M1 H1 s1 rp1
    rw [Bool.false_xor] at q1
    exact q1
  | _ => exact q1.elim
theorem vt_isntB {bb : Bool} {j pos'} (ha : VE X c EK a ma) : VT X c EK (.Compare a [.IsNot] [.Constant (.bool bb) j pos'] pos) (tB1 (op1 (isBD true bb) ma)) := by
  refine ⟨PT.imp (pt_cmpR op_isntB ha.pe pe_bl (nomark _)) fun σ H Q ⟨M, env, Y, rp, q⟩ => ?_⟩
  unfold tB1 op1 at q
  rw [Mo.bind_assoc] at q
  refine seq_V q rp (fun _ h => h) fun a env1 v M1 H1 s1 rp1 a1 q1 => ?_
  cases a1 with
  | bl p =>
    refine ⟨p, bb, rfl, rfl, _, rfl, ?_⟩
    have q1 := q1 M1 H1 s1 rp1
    rw [Bool.true_xor] at q1
    exact q1
  | _ => exact q1.elim
theorem ve_isB {bb : Bool} {j pos'} (ha : VE X c EK a ma) : VE X c EK (.Compare a [.Is] [.Constant (.bool bb) j pos'] pos) (op1 (isBD false bb) ma) := by
  refine ⟨PE.imp (pe_cmpR op_isB ha.pe pe_bl (nomark _)) fun σ H Q ⟨M, env, Y, rp, q⟩ => ?_⟩
  refine seq_V q rp (fun _ h => h) fun a env1 v M1 H1 s1 rp1 a1 q1 => ?_
  cases a1 with
  | bl p =>
    refine ⟨p, bb, rfl, rfl, ?_⟩
    have q1 := q1 (.bl (false.xor (p == bb))) M1 H1 s1 rp1 (.bl _)
    rw [Bool.false_xor] at q1
    exact q1
  | _ => exact q1.elim
theorem ve_isntB {bb : Bool} {j pos'} (ha : VE X c EK a ma) : VE X c EK (.Compare a [.IsNot] [.Constant (.bool bb) j pos'] pos) (op1 (isBD true bb) ma) := by
  refine ⟨PE.imp (pe_cmpR op_isntB ha.pe pe_bl (nomark _)) fun σ H Q ⟨M, env, Y, rp, q⟩ => ?_⟩
  refine seq_V q rp (fun _ h => h) fun a env1 v M1 H1 s1 rp1 a1 q1 => ?_
  cases a1 with
  | bl p =>
    refine ⟨p, bb, rfl, rfl, ?_⟩
    have q1 := q1 (.bl (true.xor (p == bb))) M1 H1 s1 rp1 (.bl _)
    rw [Bool.true_xor] at q1
    exact q1
  | _ => exact q1.elim
end
/-! ### the module's constants, the built-ins -/
structure Bl (mg : Str → Option Value) : Prop where
  isinstance : mg "isinstance" = none
  int : mg "int" = none
  bool : mg "bool" = none
  tuple : mg "tuple" = none
  list : mg "list" = none
  str : mg "str" = none
  len : mg "len" = none
  sorted : mg "sorted" = none
  range : mg "range" = none
  all : mg "all" = none
  any : mg "any" = none
  abs : mg "abs" = none
  min : mg "min" = none
  max : mg "max" = none
  sum : mg "sum" = none
  enumerate : mg "enumerate" = none
  zip : mg "zip" = none
  set : mg "set" = none
  divmod : mg "divmod" = none
def CstV (ix : Bool) (K : PySem.W.Frag) (mg : Str → Option Value) (x : Str) (d : PyData) : Prop := ∃ v u, mg x = some u ∧ RelV v u ∧ ∀ (M : Addr → Prop) (H : Hp), (∀ z, M z → H z ≠ none) → At ix K M H v d
theorem ve_cst {x : Str} {d : PyData} {pos : Pos} (h : CstV ix X.K X.mg x d) (hg : Gl X x) (hd : (x == ("__debug__" : Str)) = false := by decide) : VE X c EK (.Name x pos) (Mo.ret d) := by
  obtain ⟨v, u, hm, r, a⟩ := h
  exact ve_glob hg hm r a hd
theorem cst_int {K : PySem.W.Frag} {mg : Str → Option Value} {x : Str} {i : Int} (h : ∃ t, mg x = some (.int i t)) : CstV ix K mg x (.int i) := by
  obtain ⟨t, h⟩ := h
  exact ⟨.int i, _, h, ⟨t, rfl⟩, fun M H _ => .int i⟩
theorem cst_strs {K : PySem.W.Frag} {mg : Str → Option Value} {x : Str} {l : List Str} (h : ∃ a, mg x = some (.ref a) ∧ (∀ H : Hp, SqT K H a (l.map V.str)) ∧ ∃ o : Obj, K.lookup a = some o ∧ o.cls = .type "tuple" ∧ o.dict = none) : CstV ix K mg x (.tuple (l.map .str)) := by
  obtain ⟨a, h, s, o, h1, h2, h3⟩ := h
  refine ⟨.ref a, _, h, rfl, fun M H _ => .tup ⟨s H, fun _ => .inr ⟨o, h1, h2, h3⟩⟩ ?_⟩
  clear s
  induction l with
  | nil => exact .nil
  | cons z l ih => exact .cons (.str z) ih
/-! ### a dict display of texts -/
theorem pairs_strs {σ : L2.St} {H : Hp} {Q : List (V × V) → Hp → Prop} : ∀ {tbl : List (Str × Str)}, Q (tbl.map fun p => (V.str p.1, V.str p.2)) H → tPairs (tbl.map fun p => (tC (.str p.1), tC (.str p.2))) σ H Q
  | [], q => q
  | p :: r, q => pairs_strs (tbl := r) q
theorem AtL.strs {K : PySem.W.Frag} {M : Addr → Prop} {H : Hp} : ∀ l : List Str, AtL ix K M H (l.map V.str) (l.map PyData.str)
  | [] => .nil
  | x :: r => .cons (.str x) (AtL.strs r)
theorem zip_strs : ∀ tbl : List (Str × Str), tbl.map (fun p => (PyData.str p.1, PyData.str p.2)) = ((tbl.map fun p => ((Sum.inr p.1 : Key), V.str p.2)).map fun p => kD p.1).zip (tbl.map fun p => PyData.str p.2)
  | [] => rfl
  | p :: r => by
    rw [List.map_cons, List.map_cons, List.map_cons, List.map_cons, List.zip_cons_cons, ← zip_strs r]
    rfl
theorem ve_dictS {keys : List (Option Expr)} {values : List Expr} {pos : Pos} (tbl : List (Str × Str)) (h : PPs X pos keys values (tbl.map fun p => (tC (.str p.1), tC (.str p.2)))) (hall : keys.all (·.isSome) = true := by rfl) (hl : keys.length = values.length := by rfl) (h0 : keys ≠ [] := by exact fun z => by cases z)
    (h15 : keys.length ≤ 15 := by decide) (hm : mergeK [] (tbl.map fun p => (Sum.inr p.1, V.str p.2)) = tbl.map (fun p => (Sum.inr p.1, V.str p.2)) := by rfl) (ht : tbl.length ≤ 15 := by decide) : VE X c EK (.Dict keys values pos) (Mo.ret (.dict (tbl.map fun p => (.str p.1, .str p.2)))) := by
  refine ⟨PE.imp (pe_disp h hall hl h0 h15) fun σ H Q ⟨M, env, Y, rp, q⟩ p hp => ?_⟩
  refine pairs_strs ⟨upd_same, tbl.map (fun p => (Sum.inr p.1, V.str p.2)), by rw [List.map_map]; rfl, by rw [List.length_map]; exact ht, ?_⟩
  rw [hm]
  have e : upd (upd H p (.dK [])) p (.dK (tbl.map fun p => (Sum.inr p.1, V.str p.2))) = upd H p (.dK (tbl.map fun p => (Sum.inr p.1, V.str p.2))) := upd_upd
  rw [e]
  refine q _ M _ (.of (.new hp)) (rp.kp1 (.new hp)) (.dK (es := tbl.map fun p => .str p.2) (.inl upd_same) (al_new rp.al hp) ?_ ?_)
  · rw [List.map_map]
    have := AtL.strs (ix := ix) (K := X.K) (M := M) (H := upd H p (.dK (tbl.map fun p => (Sum.inr p.1, V.str p.2)))) (tbl.map (·.2))
    rw [List.map_map, List.map_map] at this
    exact this
  · exact zip_strs tbl
/-! ### the stream's next -/
def mNext : List PyData → W PyData
  | [.int many] => (W.chk (0 < many ∧ many < 1000)).bind fun _ => W.any fun d => ∃ i : Int, d = .int i ∧ 0 ≤ i ∧ i < many
  | _ => W.fail
theorem sp_next {K : PySem.W.Frag} {mg : Str → Option Value} {vs : List V} {H : Hp} {Q : VK} {E : XK} (h : spS K mg T ix 2 mNext vs H Q E) : ∃ (st l : Addr) (many : Int), vs = [.ref st, .int many] ∧ StAt st l H ∧ 0 < many ∧ many < 1000 ∧
    ∀ d H', 0 ≤ d → d < many → Kp (MS st) H H' → StAt st l H' → Q (.int d) H' := by
  obtain ⟨M, st, l, us, ds, rfl, hl, al, _, _, sa, _, _, q⟩ := h
  cases al with
  | nil => exact absurd hl (by simp)
  | @cons u us d ds a r =>
    cases r with
    | cons _ _ => simp at hl
    | nil =>
      cases a with
      | int many =>
        obtain ⟨⟨q1, q2⟩, q⟩ := q
        exact ⟨st, l, many, rfl, sa, q1, q2, fun d H' h1 h2 k s => q (.int d) ⟨d, rfl, h1, h2⟩ _ H' k s (.int d)⟩
      | _ => exact q.elim
end
end VL

set_option Elab.async false
set_option linter.all false
set_option maxRecDepth 100000
set_option maxHeartbeats 1000000
/-! The value layer: all and any of lists; ranges as lists; sums, sorts; more of lists. -/
namespace VL
noncomputable section
open PySem PySem.Spec PyProof.Rows L2 GxR GA KR GenW
variable {T : List Addr} {ix : Bool} {X : Cx} {c : Ctx T ix} {EK : XK}
/-! ### all, any of a list -/
def boolsD : List PyData → Option (List Bool)
  | [] => some []
  | .bool b :: r => (boolsD r).map (b :: ·)
  | _ => none
def allD : List PyData → Option PyData
  | [.list xs] => (boolsD xs).map fun bs => .bool (bs.all id)
  | _ => none
def anyD : List PyData → Option PyData
  | [.list xs] => (boolsD xs).map fun bs => .bool (bs.any id)
  | _ => none
def intsD : List PyData → Option (List Int)
  | [] => some []
  | .int b :: r => (intsD r).map (b :: ·)
  | _ => none
section
variable {K : PySem.W.Frag} {M : Addr → Prop} {H : Hp}
theorem AtL.bools : ∀ {ds : List PyData} {vs : List V} {bs : List Bool}, AtL ix K M H vs ds → boolsD ds = some bs → vs = bs.map V.bl
  | [], _, _, h, e => by cases h; cases e; rfl
  | d :: ds, _, bs, h, e => by
    cases h with
    | cons a r =>
      cases d with
      | bool b =>
        obtain ⟨cs, e1, e2⟩ := Option.map_eq_some_iff.mp (show (boolsD ds).map (b :: ·) = some bs from e)
        subst e2
        cases a
        rw [AtL.bools r e1]
        rfl
      | _ => cases e
theorem AtL.intsOf : ∀ {ds : List PyData} {vs : List V} {bs : List Int}, AtL ix K M H vs ds → intsD ds = some bs → vs = bs.map V.int
  | [], _, _, h, e => by cases h; cases e; rfl
  | d :: ds, _, bs, h, e => by
    cases h with
    | cons a r =>
      cases d with
      | int b =>
        obtain ⟨cs, e1, e2⟩ := Option.map_eq_some_iff.mp (show (intsD ds).map (b :: ·) = some bs from e)
        subst e2
        cases a
        rw [AtL.intsOf r e1]
        rfl
      | _ => cases e
theorem AtL.ofInts : ∀ l : List Int, AtL ix K M H (l.map V.int) (l.map PyData.int)
  | [] => .nil
  | x :: r => .cons (.int x) (AtL.ofInts r)
end
theorem intsD_map : ∀ l : List Int, intsD (l.map PyData.int) = some l
  | [] => rfl
  | x :: r => by
    show (intsD (r.map PyData.int)).map (x :: ·) = _
    rw [intsD_map r]
    rfl
theorem boolsD_map : ∀ l : List Bool, boolsD (l.map PyData.bool) = some l
  | [] => rfl
  | x :: r => by
    show (boolsD (r.map PyData.bool)).map (x :: ·) = _
    rw [boolsD_map r]
    rfl
theorem s_all : SL ix X.K (rAll X.K) allD := by
  intro M H vs ds d Q a al e q
  unfold allD at e
  split at e
  · obtain ⟨bs, e1, e2⟩ := Option.map_eq_some_iff.mp e
    subst e2
    obtain ⟨v, rfl, av⟩ := a.one_of
    cases av with
    | lst e3 n aa =>
      have := aa.bools e1
      subst this
      exact ⟨_, bs, rfl, SqL.of e3, q _ _ .refl (.bl _)⟩
  · cases e
theorem s_any : SL ix X.K (rAny X.K) anyD := by
  intro M H vs ds d Q a al e q
  unfold anyD at e
  split at e
  · obtain ⟨bs, e1, e2⟩ := Option.map_eq_some_iff.mp e
    subst e2
    obtain ⟨v, rfl, av⟩ := a.one_of
    cases av with
    | lst e3 n aa =>
      have := aa.bools e1
      subst this
      exact ⟨_, bs, rfl, SqL.of e3, q _ _ .refl (.bl _)⟩
  · cases e
section
variable {e a b : Expr} {m ma mb : Mo PyData} {ms : Mo (List PyData)} {p p2 pos : Pos}
theorem ve_allL (hc : X.calm = true) (hg : Gl X "all") (hm : X.mg "all" = none) (h : VA X c EK [e] ms) (hs : starEach [e] X.env = (false, eval e X.env) :: starEach [] X.env := by rfl) : VE X c EK (.Call (.Name "all" p) [e] [] pos) (opL allD ms) := ve_callL (fun h => pe_callB (cr_all hc) hg hm (by decide +kernel) h (he := hs)) s_all h
theorem ve_anyL (hc : X.calm = true) (hg : Gl X "any") (hm : X.mg "any" = none) (h : VA X c EK [e] ms) (hs : starEach [e] X.env = (false, eval e X.env) :: starEach [] X.env := by rfl) : VE X c EK (.Call (.Name "any" p) [e] [] pos) (opL anyD ms) := ve_callL (fun h => pe_callB (cr_any hc) hg hm (by decide +kernel) h (he := hs)) s_any h
/-! ### sum, min, max of a list of ints -/
def sumD : List PyData → Option PyData
  | [.list xs] => (intsD xs).map fun ns => .int ns.sum
  | _ => none
theorem s_sum : SL ix X.K (rSum X.K) sumD := by
  intro M H vs ds d Q a al e q
  unfold sumD at e
  split at e
  · obtain ⟨bs, e1, e2⟩ := Option.map_eq_some_iff.mp e
    subst e2
    obtain ⟨v, rfl, av⟩ := a.one_of
    cases av with
    | lst e3 n aa =>
      have := aa.intsOf e1
      subst this
      exact ⟨_, bs, rfl, SqL.of e3, q _ _ .refl (.int _)⟩
  · cases e
theorem ve_sum (hc : X.calm = true) (hg : Gl X "sum") (hm : X.mg "sum" = none) (h : VA X c EK [e] ms) (hs : starEach [e] X.env = (false, eval e X.env) :: starEach [] X.env := by rfl) : VE X c EK (.Call (.Name "sum" p) [e] [] pos) (opL sumD ms) := ve_callL (fun h => pe_callB (cr_sum hc) hg hm (by decide +kernel) h (he := hs)) s_sum h
/-- the least, the greatest of some -/
def minI : Int → List Int → Int
  | x, [] => x
  | x, y :: r => minI (if y < x then y else x) r
def maxI : Int → List Int → Int
  | x, [] => x
  | x, y :: r => maxI (if y > x then y else x) r
theorem minI_spec : ∀ (l : List Int) (x : Int), minI x l ∈ x :: l ∧ ∀ y ∈ x :: l, minI x l ≤ y
  | [], x => ⟨List.mem_cons_self, fun y hy => by rw [List.mem_singleton.mp hy]; exact Int.le_refl _⟩
  | z :: r, x => by
    obtain ⟨h1, h2⟩ := minI_spec r (if z < x then z else x)
    unfold minI
    refine ⟨?_, fun y hy => ?_⟩
    · rcases List.mem_cons.mp h1 with h | h
      · rw [h]
        split
        · exact List.mem_cons_of_mem _ List.mem_cons_self
        · exact List.mem_cons_self
      · exact List.mem_cons_of_mem _ (List.mem_cons_of_mem _ h)
    · have h0 := h2 _ List.mem_cons_self
      rcases List.mem_cons.mp hy with h | h
      · subst h
        revert h0; generalize minI _ r = g; intro h0
        split at h0 <;> omega
      · rcases List.mem_cons.mp h with h | h
        · subst h
          revert h0; generalize minI _ r = g; intro h0
          split at h0 <;> omega
        · exact h2 y (List.mem_cons_of_mem _ h)
theorem maxI_spec : ∀ (l : List Int) (x : Int), maxI x l ∈ x :: l ∧ ∀ y ∈ x :: l, y ≤ maxI x l
  | [], x => ⟨List.mem_cons_self, fun y hy => by rw [List.mem_singleton.mp hy]; exact Int.le_refl _⟩
  | z :: r, x => by
    obtain ⟨h1, h2⟩ := maxI_spec r (if z > x then z else x)
    unfold maxI
    refine ⟨?_, fun y hy => ?_⟩
    · rcases List.mem_cons.mp h1 with h | h
      · rw [h]
        split
        · exact List.mem_cons_of_mem _ List.mem_cons_self
        · exact List.mem_cons_self
      · exact List.mem_cons_of_mem _ (List.mem_cons_of_mem _ h)
    · have h0 := h2 _ List.mem_cons_self
      rcases List.mem_cons.mp hy with h | h
      · subst h
        revert h0; generalize maxI _ r = g; intro h0
        split at h0 <;> omega
      · rcases List.mem_cons.mp h with h | h
        · subst h
          revert h0; generalize maxI _ r = g; intro h0
          split at h0 <;> omega
        · exact h2 y (List.mem_cons_of_mem _ h)
def min1D : List PyData → Option PyData
  | [.list xs] => (intsD xs).bind fun ns => match ns with
    | [] => none
    | x :: r => some (.int (minI x r))
  | _ => none
def max1D : List PyData → Option PyData
  | [.list xs] => (intsD xs).bind fun ns => match ns with
    | [] => none
    | x :: r => some (.int (maxI x r))
  | _ => none
theorem s_min1 : SL ix X.K (rMin X.K) min1D := by
  intro M H vs ds d Q a al e q
  unfold min1D at e
  split at e
  · obtain ⟨bs, e1, e2⟩ := Option.bind_eq_some_iff.mp e
    obtain ⟨v, rfl, av⟩ := a.one_of
    cases av with
    | lst e3 n aa =>
      have := aa.intsOf e1
      subst this
      cases bs with
      | nil => cases e2
      | cons x r =>
        cases e2
        refine ⟨_, x :: r, rfl, SqL.of e3, Nat.succ_pos _, fun m hm hl => ?_⟩
        obtain ⟨h1, h2⟩ := minI_spec r x
        have : m = minI x r := Int.le_antisymm (hl _ h1) (h2 m hm)
        subst this
        exact q _ _ .refl (.int _)
  · cases e
theorem s_max1 : SL ix X.K (rMax X.K) max1D := by
  intro M H vs ds d Q a al e q
  unfold max1D at e
  split at e
  · obtain ⟨bs, e1, e2⟩ := Option.bind_eq_some_iff.mp e
    obtain ⟨v, rfl, av⟩ := a.one_of
    cases av with
    | lst e3 n aa =>
      have := aa.intsOf e1
      subst this
      cases bs with
      | nil => cases e2
      | cons x r =>
        cases e2
        refine ⟨_, x :: r, rfl, SqL.of e3, Nat.succ_pos _, fun m hm hl => ?_⟩
        obtain ⟨h1, h2⟩ := maxI_spec r x
        have : m = maxI x r := Int.le_antisymm (h2 m hm) (hl _ h1)
        subst this
        exact q _ _ .refl (.int _)
  · cases e
theorem ve_min1 (hc : X.calm = true) (hg : Gl X "min") (hm : X.mg "min" = none) (h : VA X c EK [e] ms) (hs : starEach [e] X.env = (false, eval e X.env) :: starEach [] X.env := by rfl) : VE X c EK (.Call (.Name "min" p) [e] [] pos) (opL min1D ms) := ve_callL (fun h => pe_callB (cr_min hc) hg hm (by decide +kernel) h (he := hs)) s_min1 h
theorem ve_max1 (hc : X.calm = true) (hg : Gl X "max") (hm : X.mg "max" = none) (h : VA X c EK [e] ms) (hs : starEach [e] X.env = (false, eval e X.env) :: starEach [] X.env := by rfl) : VE X c EK (.Call (.Name "max" p) [e] [] pos) (opL max1D ms) := ve_callL (fun h => pe_callB (cr_max hc) hg hm (by decide +kernel) h (he := hs)) s_max1 h
/-! ### sorted, of ints -/
def srtI (l : List Int) : List Int := l.mergeSort fun a b => decide (a ≤ b)
theorem srtI_perm (l : List Int) : (srtI l).Perm l := List.mergeSort_perm l _
theorem srtI_sorted (l : List Int) : (srtI l).Pairwise (· ≤ ·) := by
  have h := List.pairwise_mergeSort (le := fun a b : Int => decide (a ≤ b)) (fun a b c h1 h2 => by simp only [decide_eq_true_eq] at *; omega) (fun a b => by simp only [Bool.or_eq_true, decide_eq_true_eq]; omega) l
  exact h.imp fun z => of_decide_eq_true z
theorem srtI_uniq {l l' : List Int} (p : l'.Perm l) (s : l'.Pairwise (· ≤ ·)) : l' = srtI l :=
  List.Perm.eq_of_pairwise (fun _ _ _ _ a b => Int.le_antisymm a b) s (srtI_sorted l) (p.trans (srtI_perm l).symm)
def sortX (xs : List PyData) : Option (List PyData) := (intsD xs).bind fun ns => if S64 ns.length then some ((srtI ns).map PyData.int) else none
def sortD : List PyData → Option (List PyData)
  | [.list xs] => sortX xs
  | [.tuple xs] => sortX xs
  | _ => none
def rSortA (K : PySem.W.Frag) : List V → Hp → VK → Prop := fun vs H Q => rSorted K vs H Q ∨ rSortedTp K vs H Q
theorem s_sort : SF ix X.K (rSortA X.K) sortD := by
  intro M H vs ds es Q a al e q
  unfold sortD at e
  split at e
  · obtain ⟨ns, e1, e2⟩ := Option.bind_eq_some_iff.mp e
    split at e2
    · rename_i hz
      cases e2
      obtain ⟨v, rfl, av⟩ := a.one_of
      cases av with
      | lst e3 n aa =>
        have := aa.intsOf e1
        subst this
        refine .inl ⟨_, ns, rfl, SqL.of e3, hz, fun ns' p pm st hp => ?_⟩
        rw [srtI_uniq pm st]
        exact q p _ H .refl hp (.ofInts _)
    · cases e2
  · obtain ⟨ns, e1, e2⟩ := Option.bind_eq_some_iff.mp e
    split at e2
    · rename_i hz
      cases e2
      obtain ⟨v, rfl, av⟩ := a.one_of
      cases av with
      | tup e3 aa =>
        have := aa.intsOf e1
        subst this
        refine .inr ⟨_, ns, rfl, e3.1, hz, fun ns' p pm st hp => ?_⟩
        rw [srtI_uniq pm st]
        exact q p _ H .refl hp (.ofInts _)
    · cases e2
  · cases e
theorem vf_sorted (hg : Gl X "sorted") (hm : X.mg "sorted" = none) (h : VA X c EK [e] ms) (hs : starEach [e] X.env = (false, eval e X.env) :: starEach [] X.env := by rfl) : VF X c EK (.Call (.Name "sorted" p) [e] [] pos) (opF sortD ms) := vf_callL (fun h => pe_callB (cr_sorted.or cr_sortedTp) hg hm (by decide +kernel) h (he := hs)) s_sort h
/-- of one's own -/
def bSort (i : Nat) : Mo (List PyData) := Mo.bind (peek i) fun d => Mo.lift (W.opt (sortD [d]))
theorem vb_sorted {i : Nat} {x : Str} (hg : Gl X "sorted") (hm : X.mg "sorted" = none) (hx : PE X (.Name x p2) (tVar i)) (hs : starEach [.Name x p2] X.env = (false, eval (.Name x p2) X.env) :: starEach [] X.env := by rfl) : VF X c EK (.Call (.Name "sorted" p) [.Name x p2] [] pos) (bSort i) := by
  refine ⟨PE.imp (pe_callB (cr_sorted.or cr_sortedTp) hg hm (by decide +kernel) (pa_cons hx pa_nil hs) (he := hs)) fun σ H Q ⟨M, env, Y, rp, w⟩ => ?_⟩
  obtain ⟨d, ed, q1⟩ := peek_run w
  obtain ⟨v, hv, bw⟩ := rp.peek ed
  obtain ⟨r, er, q2⟩ := opt_run q1
  refine ⟨v, hv, ?_⟩
  unfold sortD at er
  split at er
  · rename_i z
    obtain ⟨ns, e1, e2⟩ := Option.bind_eq_some_iff.mp er
    split at e2
    · rename_i hz
      cases e2
      obtain ⟨a, vs, rfl, _, al, hq, _⟩ := bw.seq _ (.inl (by injection z))
      have := al.intsOf e1
      subst this
      refine .inl ⟨_, ns, rfl, hq (by injection z), hz, fun ns' p pm st hp => ?_⟩
      rw [srtI_uniq pm st]
      exact q2 _ _ _ _ (.tmpNew hp) (rp.tmpNew hp) (.ofInts _)
    · cases e2
  · rename_i z
    obtain ⟨ns, e1, e2⟩ := Option.bind_eq_some_iff.mp er
    split at e2
    · rename_i hz
      cases e2
      obtain ⟨a, vs, rfl, _, al, _, hq⟩ := bw.seq _ (.inr (by injection z))
      have := al.intsOf e1
      subst this
      refine .inr ⟨_, ns, rfl, (hq (by injection z)).1, hz, fun ns' p pm st hp => ?_⟩
      rw [srtI_uniq pm st]
      exact q2 _ _ _ _ (.tmpNew hp) (rp.tmpNew hp) (.ofInts _)
    · cases e2
  · cases er
/-! ### list(range(..)), tuple(range(..)) -/
instance (a b : Int) : Decidable (RgOk a b) := Classical.propDecidable _
theorem at_rg {K : PySem.W.Frag} {M : Addr → Prop} {H : Hp} (a b : Int) : AtL ix K M H (rgV a b) (rngD a (b - a).toNat) := by
  have e1 : rgV a b = ((List.range (b - a).toNat).map fun k : Nat => a + (k : Int)).map V.int := by unfold rgV; rw [List.map_map]; rfl
  have e2 : rngD a (b - a).toNat = ((List.range (b - a).toNat).map fun k : Nat => a + (k : Int)).map PyData.int := by unfold rngD; rw [List.map_map]; rfl
  rw [e1, e2]
  exact .ofInts _
def lrgD (a b : Int) : Option (List PyData) := if RgOk a b then some (rngD a (b - a).toNat) else none
def fRg1 (m : Mo PyData) : Mo (List PyData) := Mo.bind m fun d => Mo.lift (W.opt (match d with
  | .int n => lrgD 0 n
  | _ => none))
def fRg2 (m n : Mo PyData) : Mo (List PyData) := Mo.bind m fun d => Mo.bind n fun e => Mo.lift (W.opt (match d, e with
  | .int i, .int j => lrgD i j
  | _, _ => none))
def eRg1 (m : Mo PyData) : Mo PyData := Mo.bind (fRg1 m) fun ds => Mo.ret (.tuple ds)
def eRg2 (m n : Mo PyData) : Mo PyData := Mo.bind (fRg2 m n) fun ds => Mo.ret (.tuple ds)
theorem lrg_some {a b : Int} {es : List PyData} (h : lrgD a b = some es) : RgOk a b ∧ es = rngD a (b - a).toNat := by
  unfold lrgD at h
  split at h
  · rename_i z; cases h; exact ⟨z, rfl⟩
  · cases h
theorem vf_listRg1 {p3 : Pos} (hc : X.calm = true) (hg : Gl X "list") (hm : X.mg "list" = none) (hg2 : Gl X "range") (hm2 : X.mg "range" = none) (h : VE X c EK e m) (hs : starEach [e] X.env = (false, eval e X.env) :: starEach [] X.env := by rfl)
    (na : starEach [.Call (.Name "range" p2) [e] [] p3] X.env = (false, eval (.Call (.Name "range" p2) [e] [] p3) X.env) :: starEach [] X.env := by rfl) : VF X c EK (.Call (.Name "list" p) [.Call (.Name "range" p2) [e] [] p3] [] pos) (fRg1 m) := by
  refine ⟨PE.imp (pe_listRg hc hg hm (prg_1 hg2 hm2 h.pe hs) na) fun σ H Q ⟨M, env, Y, rp, w⟩ => ?_⟩
  refine seq_V w rp (fun _ h => h) fun d env1 v M1 H1 s1 rp1 a1 q1 => ?_
  obtain ⟨es, ee, q2⟩ := opt_run q1
  cases a1 with
  | int n =>
    obtain ⟨ok, rfl⟩ := lrg_some ee
    exact ⟨n, rfl, ok, fun q hq => q2 _ _ _ _ (s1.trans (.tmpNew hq)) (rp1.tmpNew hq) (at_rg _ _)⟩
  | _ => cases ee
theorem vf_listRg2 {p3 : Pos} (hc : X.calm = true) (hg : Gl X "list") (hm : X.mg "list" = none) (hg2 : Gl X "range") (hm2 : X.mg "range" = none) (h : VE X c EK a ma) (h' : VE X c EK b mb) (hs : starEach [a, b] X.env = (false, eval a X.env) :: starEach [b] X.env := by rfl) (hs2 : starEach [b] X.env = (false, eval b X.env) :: starEach [] X.env := by rfl) (hpl : (backTo p3 (starEach [b] X.env)).any (·.1) = false := by rfl)
    (na : starEach [.Call (.Name "range" p2) [a, b] [] p3] X.env = (false, eval (.Call (.Name "range" p2) [a, b] [] p3) X.env) :: starEach [] X.env := by rfl) : VF X c EK (.Call (.Name "list" p) [.Call (.Name "range" p2) [a, b] [] p3] [] pos) (fRg2 ma mb) := by
  refine ⟨PE.imp (pe_listRg hc hg hm (prg_2 hg2 hm2 h.pe h'.pe hs hs2 hpl) na) fun σ H Q ⟨M, env, Y, rp, w⟩ => ?_⟩
  refine seq_V w rp (fun _ h => h) fun d env1 v M1 H1 s1 rp1 a1 q1 => ?_
  refine seq_V q1 rp1 (fun _ h => h) fun d2 env2 v2 M2 H2 s2 rp2 a2 q2 => ?_
  obtain ⟨es, ee, q3⟩ := opt_run q2
  cases a1 with
  | int i =>
    cases a2 with
    | int j =>
      obtain ⟨ok, rfl⟩ := lrg_some ee
      exact ⟨i, j, rfl, rfl, ok, fun q hq => q3 _ _ _ _ ((s1.trans s2).trans (.tmpNew hq)) (rp2.tmpNew hq) (at_rg _ _)⟩
    | _ => cases ee
  | _ => cases ee
theorem ve_tupRg1 {p3 : Pos} (hc : X.calm = true) (hg : Gl X "tuple") (hm : X.mg "tuple" = none) (hg2 : Gl X "range") (hm2 : X.mg "range" = none) (h : VE X c EK e m) (hs : starEach [e] X.env = (false, eval e X.env) :: starEach [] X.env := by rfl)
    (na : starEach [.Call (.Name "range" p2) [e] [] p3] X.env = (false, eval (.Call (.Name "range" p2) [e] [] p3) X.env) :: starEach [] X.env := by rfl) : VE X c EK (.Call (.Name "tuple" p) [.Call (.Name "range" p2) [e] [] p3] [] pos) (eRg1 m) := by
  refine ⟨PE.imp (pe_tupRgF hc hg hm (prg_1 hg2 hm2 h.pe hs) na) fun σ H Q ⟨M, env, Y, rp, w⟩ => ?_⟩
  unfold eRg1 fRg1 at w
  rw [Mo.bind_assoc] at w
  refine seq_V w rp (fun _ h => h) fun d env1 v M1 H1 s1 rp1 a1 q1 => ?_
  obtain ⟨es, ee, q2⟩ := opt_run q1
  cases a1 with
  | int n =>
    obtain ⟨ok, rfl⟩ := lrg_some ee
    exact ⟨n, rfl, ok, fun q o hq ho => q2 _ M1 _ (s1.trans (.of (.new hq))) (rp1.kp1 (.new hq)) (.newTup hq ho (at_rg _ _))⟩
  | _ => cases ee
theorem ve_tupRg2 {p3 : Pos} (hc : X.calm = true) (hg : Gl X "tuple") (hm : X.mg "tuple" = none) (hg2 : Gl X "range") (hm2 : X.mg "range" = none) (h : VE X c EK a ma) (h' : VE X c EK b mb) (hs : starEach [a, b] X.env = (false, eval a X.env) :: starEach [b] X.env := by rfl) (hs2 : starEach [b] X.env = (false, eval b X.env) :: starEach [] X.env := by rfl) (hpl : (backTo p3 (starEach [b] X.env)).any (·.1) = false := by rfl)
    (na : starEach [.Call (.Name "range" p2) [a, b] [] p3] X.env = (false, eval (.Call (.Name "range" p2) [a, b] [] p3) X.env) :: starEach [] X.env := by rfl) : VE X c EK (.Call (.Name "tuple" p) [.Call (.Name "range" p2) [a, b] [] p3] [] pos) (eRg2 ma mb) := by
  refine ⟨PE.imp (pe_tupRgF hc hg hm (prg_2 hg2 hm2 h.pe h'.pe hs hs2 hpl) na) fun σ H Q ⟨M, env, Y, rp, w⟩ => ?_⟩
  unfold eRg2 fRg2 at w
  rw [Mo.bind_assoc] at w
  refine seq_V w rp (fun _ h => h) fun d env1 v M1 H1 s1 rp1 a1 q1 => ?_
  rw [Mo.bind_assoc] at q1
  refine seq_V q1 rp1 (fun _ h => h) fun d2 env2 v2 M2 H2 s2 rp2 a2 q2 => ?_
  obtain ⟨es, ee, q3⟩ := opt_run q2
  cases a1 with
  | int i =>
    cases a2 with
    | int j =>
      obtain ⟨ok, rfl⟩ := lrg_some ee
      exact ⟨i, j, rfl, rfl, ok, fun q o hq ho => q3 _ M2 _ ((s1.trans s2).trans (.of (.new hq))) (rp2.kp1 (.new hq)) (.newTup hq ho (at_rg _ _))⟩
    | _ => cases ee
  | _ => cases ee
/-! ### new lists by operators -/
def appD : PyData → PyData → Option (List PyData)
  | .list xs, .list ys => if Le_ (xs.length + ys.length) then some (xs ++ ys) else none
  | _, _ => none
def repD : PyData → PyData → Option (List PyData)
  | .list xs, .int k => if Rp_ xs.length k then some (List.replicate k.toNat xs).flatten else none
  | _, _ => none
def op2F (f : PyData → PyData → Option (List PyData)) (ma mb : Mo PyData) : Mo (List PyData) := Mo.bind ma fun a => Mo.bind mb fun b => Mo.lift (W.opt (f a b))
theorem vf_add (ha : VE X c EK a ma) (hb : VE X c EK b mb) : VF X c EK (.BinOp a .Add b pos) (op2F appD ma mb) := by
  refine ⟨PE.imp (pe_op op_cat ha.pe hb.pe) fun σ H Q ⟨M, env, Y, rp, q⟩ => ?_⟩
  refine seq_V q rp (fun _ h => h) fun a env1 v M1 H1 s1 rp1 a1 q1 => ?_
  refine seq_V q1 rp1 (fun _ h => h) fun b env2 w M2 H2 s2 rp2 a2 q2 => ?_
  obtain ⟨d, ed, q3⟩ := opt_run q2
  unfold appD at ed
  split at ed
  · split at ed
    · rename_i hz
      cases ed
      have a1' := a1.stp s2
      cases a1' with
      | lst ea na aa =>
        cases a2 with
        | lst eb nb ab => exact ⟨_, _, _, _, rfl, rfl, ea, eb, by rw [aa.length, ab.length]; exact hz, fun p hp => q3 _ _ _ _ ((s1.trans s2).trans (.tmpNew hp)) (rp2.tmpNew hp) ((aa.append ab).stp (.tmpNew hp))⟩
    · cases ed
  · cases ed
theorem vf_rep (ha : VE X c EK a ma) (hb : VE X c EK b mb) : VF X c EK (.BinOp a .Mult b pos) (op2F repD ma mb) := by
  refine ⟨PE.imp (pe_op op_rep ha.pe hb.pe) fun σ H Q ⟨M, env, Y, rp, q⟩ => ?_⟩
  refine seq_V q rp (fun _ h => h) fun a env1 v M1 H1 s1 rp1 a1 q1 => ?_
  refine seq_V q1 rp1 (fun _ h => h) fun b env2 w M2 H2 s2 rp2 a2 q2 => ?_
  obtain ⟨d, ed, q3⟩ := opt_run q2
  unfold repD at ed
  split at ed
  · split at ed
    · rename_i hz
      cases ed
      have a1' := a1.stp s2
      cases a2
      cases a1' with
      | lst ea na aa => exact ⟨_, _, _, rfl, rfl, ea, hz.2.1, hz.1, by rw [aa.length]; exact hz.2.2, fun p hp => q3 _ _ _ _ ((s1.trans s2).trans (.tmpNew hp)) (rp2.tmpNew hp) ((aa.rep _).stp (.tmpNew hp))⟩
    · cases ed
  · cases ed
/-- x + e, x one's own -/
def bAddL (i : Nat) (m : Mo PyData) : Mo (List PyData) := Mo.bind (peek i) fun _ => Mo.bind m fun b => Mo.bind (peek i) fun a => Mo.lift (W.opt (appD a b))
theorem vb_addL {i : Nat} {x : Str} (hx : PE X (.Name x p2) (tVar i)) (hb : VE X c EK b mb) : VF X c EK (.BinOp (.Name x p2) .Add b pos) (bAddL i mb) := by
  refine ⟨PE.imp (pe_op op_cat hx hb.pe) fun σ H Q ⟨M, env, Y, rp, w⟩ => ?_⟩
  obtain ⟨d0, ed0, w⟩ := peek_run w
  obtain ⟨v, hv, _⟩ := rp.peek ed0
  refine ⟨v, hv, ?_⟩
  refine seq_V w rp (fun _ h => h) fun b env1 u M1 H1 s1 rp1 a1 q1 => ?_
  obtain ⟨d, ed, q2⟩ := peek_run q1
  obtain ⟨v', hv', bw⟩ := rp1.peek ed
  rw [hv] at hv'
  cases hv'
  obtain ⟨r, er, q3⟩ := opt_run q2
  unfold appD at er
  split at er
  · split at er
    · rename_i hz
      cases er
      cases a1 with
      | lst eb nb ab =>
        cases bw with
        | at_ h =>
          cases h with
          | lst ea na aa => exact ⟨_, _, _, _, rfl, rfl, ea, eb, by rw [aa.length, ab.length]; exact hz, fun p hp => q3 _ _ _ _ (s1.trans (.tmpNew hp)) (rp1.tmpNew hp) ((aa.append ab).stp (.tmpNew hp))⟩
        | l ea aa => exact ⟨_, _, _, _, rfl, rfl, ea, eb, by rw [aa.length, ab.length]; exact hz, fun p hp => q3 _ _ _ _ (s1.trans (.tmpNew hp)) (rp1.tmpNew hp) ((aa.append ab).stp (.tmpNew hp))⟩
    · cases er
  · cases er
end
/-! ### f() -/
def eCall0 (m : List PyData → W PyData) : Mo PyData := Mo.lift (m [])
theorem ve_call0 {m : List PyData → W PyData} {k j : Nat} {x : Str} {ps : List Str} {p pos : Pos} (G : Callee X.prog X.w X.K X.mg X.base k x ps (spV X.K X.mg T ix 0 m)) (hx : ∀ σ, PassesAt (L2.CX X.prog X.w) X σ EK) (hr : Room j X.A) (hkj : k ≤ j) (hg : Gl X x)
    (hdb : (x == ("__debug__" : Str)) = false := by decide) : VE X c EK (.Call (.Name x p) [] [] pos) (eCall0 m) := by
  obtain ⟨f, fd, F, hb, hk, hm⟩ := G.ex
  refine ⟨⟨fun pins s σ H Q I h => ?_⟩⟩
  obtain ⟨M, env, Y, rp, w⟩ := h
  have w : ((m []).bind fun a => W.ret (a, env)).run _ _ := w
  have := (pe_call0 (E := EK) (pos := pos) (p := p) F (hr.mono hkj) hg hm hk hb .nil (fun pins σ H s e s' I c => hx σ pins H s e s' I c) hdb).run pins s σ H Q I
  refine this ⟨M, [], rfl, .nil, rp.al, rp.tb, (m []).mono (fun d h v H' kk av => ?_) (fun e h cls dd H' ea kk => ?_) w⟩
  · exact h v M H' (.of kk.any) (rp.kp1 kk) av
  · exact h cls dd H' ea (rp.kp.trans kk.any) fun a l z => (rp.st a l z).1.kp kk
end
end VL

set_option Elab.async false
set_option linter.all false
set_option maxRecDepth 100000
set_option maxHeartbeats 1000000
/-! The value layer: defs, in a form that is quick to check. -/
namespace VL
noncomputable section
open PySem PySem.Spec PyProof.Rows L2 GxR GA KR GenW
section
variable {T : List Addr} {ix : Bool} {P : Program} {w : World} {K : PySem.W.Frag} {mg : Str → Option Value} {base : Heap}
variable {x : Str} {st : Stmt} {f : Addr} {fd : FuncData} {ps : List Str} {m : List PyData → W PyData}
/-- what is to be shown of a body -/
def BodyOk (T : List Addr) (ix : Bool) (P : Program) (w : World) (K : PySem.W.Frag) (mg : Str → Option Value) (base : Heap) (N : List Str) (x : Str) (st : Stmt) (k : Nat) (b : SM) : Prop := ∀ (f : Addr) (c : Ctx T ix) (cd : Value) (A : Around) (outer : List PySem.Env) (s : Shared) (H : Hp) (E : XK), Bd (cxV P w K mg base N x st f cd A outer s H E) E k → VSs (cxV P w K mg base N x st f cd A outer s H E) c E (defBody st) b
/-- .. where the code's object is known -/
def BodyOkT (T : List Addr) (ix : Bool) (P : Program) (w : World) (K : PySem.W.Frag) (mg : Str → Option Value) (base : Heap) (N : List Str) (x : Str) (st : Stmt) (k : Nat) (cd : Addr) (b : SM) : Prop := ∀ (f : Addr) (c : Ctx T ix) (A : Around) (outer : List PySem.Env) (s : Shared) (H : Hp) (E : XK), Bd (cxV P w K mg base N x st f (.ref cd) A outer s H E) E k → VSs (cxV P w K mg base N x st f (.ref cd) A outer s H E) c E (defBody st) b
theorem mk_ok (N : List Str) (k n nn : Nat) (b : SM) (hb : BodyOk T ix P w K mg base N x st k b) (F : Fun K x x st f fd) (S : FnScope N ps (defScope st)) (bF : Binds K fd ps []) (kF : PySem.W.keepIn K (.ref f) = true) (mF : mg x = some (.ref f)) (hm : callM nn b = m) (hN : N.length = nn) (hn : ps.length = n) :
    Callee P w K mg base (k + 1) x ps (spV K mg T ix n m) := by
  subst hm hN
  exact def_ok F S hn bF kF mF fun c cd A outer s H E B => hb f c cd A outer s H E B
theorem mk_okT {cd : Addr} (N : List Str) (k n nn : Nat) (b : SM) (hb : BodyOkT T ix P w K mg base N x st k cd b) (F : FunT K x x st f fd cd) (S : FnScope N ps (defScope st)) (bF : Binds K fd ps []) (kF : PySem.W.keepIn K (.ref f) = true) (mF : mg x = some (.ref f)) (hm : callM nn b = m) (hN : N.length = nn) (hn : ps.length = n) :
    Callee P w K mg base (k + 1) x ps (spV K mg T ix n m) := by
  subst hm hN
  exact def_okT F S hn bF kF mF fun c A outer s H E B => hb f c A outer s H E B
theorem mk_okS (N : List Str) (k n nn : Nat) (b : SM) (hb : BodyOk T ix P w K mg base N x st k b) (F : Fun K x x st f fd) (S : FnScope N ps (defScope st)) (bF : Binds K fd ps []) (kF : PySem.W.keepIn K (.ref f) = true) (mF : mg x = some (.ref f)) (hm : callMS nn b = m) (hN : N.length = nn) (hn : ps.length = n) :
    Callee P w K mg base (k + 1) x ps (spS K mg T ix n m) := by
  subst hm hN
  exact def_okS F S hn bF kF mF fun c cd A outer s H E B => hb f c cd A outer s H E B
theorem mk_okST {cd : Addr} (N : List Str) (k n nn : Nat) (b : SM) (hb : BodyOkT T ix P w K mg base N x st k cd b) (F : FunT K x x st f fd cd) (S : FnScope N ps (defScope st)) (bF : Binds K fd ps []) (kF : PySem.W.keepIn K (.ref f) = true) (mF : mg x = some (.ref f)) (hm : callMS nn b = m) (hN : N.length = nn) (hn : ps.length = n) :
    Callee P w K mg base (k + 1) x ps (spS K mg T ix n m) := by
  subst hm hN
  exact def_okST F S hn bF kF mF fun c A outer s H E B => hb f c A outer s H E B
end
end
end VL

set_option Elab.async false
set_option linter.all false
set_option maxRecDepth 100000
set_option maxHeartbeats 1000000
/-! The value layer: how computations are worked out. -/
namespace VL
noncomputable section
open PySem
/-! ### slots -/
theorem sAt_z (s : Sl) (e : En) : sAt (s :: e) 0 = s := rfl
theorem sAt_s (s : Sl) (e : En) (n : Nat) : sAt (s :: e) (n + 1) = sAt e n := rfl
theorem sAt_nil (n : Nat) : sAt [] n = .no := by cases n <;> rfl
theorem W_run_ret {α : Type} (a : α) (Q : α → Prop) (E : Er → Prop) : (W.ret a).run Q E = Q a := rfl
theorem W_run_bind {α β : Type} (m : W α) (f : α → W β) (Q : β → Prop) (E : Er → Prop) : (W.bind m f).run Q E = m.run (fun a => (f a).run Q E) E := rfl
theorem W_bind_assoc {α β γ : Type} (m : W α) (f : α → W β) (g : β → W γ) : W.bind (W.bind m f) g = W.bind m fun a => W.bind (f a) g := rfl
theorem setD_lt {i : Nat} {s : Sl} {env : En} (h : i < env.length) : setD i s env = some (env.set i s) := if_pos h
/-! ### isinstance -/
theorem isi_int_int (i : Int) : isiD "int" (.int i) = some (.bool true) := by simp [isiD]
theorem isi_int_bool (b : Bool) : isiD "int" (.bool b) = some (.bool true) := by simp [isiD]
theorem isi_int_str (b : Str) : isiD "int" (.str b) = some (.bool false) := by simp [isiD]
theorem isi_int_non : isiD "int" .none = some (.bool false) := by simp [isiD]
theorem isi_int_tup (b : List PyData) : isiD "int" (.tuple b) = some (.bool false) := by simp [isiD]
theorem isi_int_lst (b : List PyData) : isiD "int" (.list b) = some (.bool false) := by simp [isiD]
theorem isi_bool_int (i : Int) : isiD "bool" (.int i) = some (.bool false) := by simp [isiD]
theorem isi_bool_bool (b : Bool) : isiD "bool" (.bool b) = some (.bool true) := by simp [isiD]
theorem isi_bool_str (b : Str) : isiD "bool" (.str b) = some (.bool false) := by simp [isiD]
theorem isi_bool_non : isiD "bool" .none = some (.bool false) := by simp [isiD]
theorem isi_bool_tup (b : List PyData) : isiD "bool" (.tuple b) = some (.bool false) := by simp [isiD]
theorem isi_bool_lst (b : List PyData) : isiD "bool" (.list b) = some (.bool false) := by simp [isiD]
theorem isi_str_int (i : Int) : isiD "str" (.int i) = some (.bool false) := by simp [isiD]
theorem isi_str_bool (b : Bool) : isiD "str" (.bool b) = some (.bool false) := by simp [isiD]
theorem isi_str_str (b : Str) : isiD "str" (.str b) = some (.bool true) := by simp [isiD]
theorem isi_str_non : isiD "str" .none = some (.bool false) := by simp [isiD]
theorem isi_str_tup (b : List PyData) : isiD "str" (.tuple b) = some (.bool false) := by simp [isiD]
theorem isi_str_lst (b : List PyData) : isiD "str" (.list b) = some (.bool false) := by simp [isiD]
theorem isi_tup_int (i : Int) : isiD "tuple" (.int i) = some (.bool false) := by simp [isiD]
theorem isi_tup_bool (b : Bool) : isiD "tuple" (.bool b) = some (.bool false) := by simp [isiD]
theorem isi_tup_str (b : Str) : isiD "tuple" (.str b) = some (.bool false) := by simp [isiD]
theorem isi_tup_non : isiD "tuple" .none = some (.bool false) := by simp [isiD]
theorem isi_tup_tup (b : List PyData) : isiD "tuple" (.tuple b) = some (.bool true) := by simp [isiD]
theorem isi_tup_lst (b : List PyData) : isiD "tuple" (.list b) = some (.bool false) := by simp [isiD]
theorem isi_lst_int (i : Int) : isiD "list" (.int i) = some (.bool false) := by simp [isiD]
theorem isi_lst_bool (b : Bool) : isiD "list" (.bool b) = some (.bool false) := by simp [isiD]
theorem isi_lst_str (b : Str) : isiD "list" (.str b) = some (.bool false) := by simp [isiD]
theorem isi_lst_non : isiD "list" .none = some (.bool false) := by simp [isiD]
theorem isi_lst_tup (b : List PyData) : isiD "list" (.tuple b) = some (.bool false) := by simp [isiD]
theorem isi_lst_lst (b : List PyData) : isiD "list" (.list b) = some (.bool true) := by simp [isiD]
theorem tru_bool (b : Bool) : truD (.bool b) = some b := rfl
theorem not_bool (b : Bool) : notD (.bool b) = some (.bool (!b)) := rfl
theorem isN_none (neg : Bool) : isND neg .none = some (.bool (neg.xor true)) := rfl
theorem isN_bool (neg b : Bool) : isND neg (.bool b) = some (.bool (neg.xor false)) := rfl
theorem isN_int (neg : Bool) (i : Int) : isND neg (.int i) = some (.bool (neg.xor false)) := rfl
theorem isN_str (neg : Bool) (x : Str) : isND neg (.str x) = some (.bool (neg.xor false)) := rfl
theorem isN_tup (neg : Bool) (x : List PyData) : isND neg (.tuple x) = some (.bool (neg.xor false)) := rfl
theorem isN_lst (neg : Bool) (x : List PyData) : isND neg (.list x) = some (.bool (neg.xor false)) := rfl
theorem isB_bool (neg b x : Bool) : isBD neg b (.bool x) = some (.bool (neg.xor (x == b))) := rfl
theorem cmp_int (p : Int → Int → Bool) (i j : Int) : cmpI p (.int i) (.int j) = some (.bool (p i j)) := rfl
theorem add_int (i j : Int) : addD (.int i) (.int j) = some (.int (i + j)) := rfl
theorem iadd_int (i j : Int) : iaddD (.int i) (.int j) = some (.int (i + j)) := rfl
theorem sub_int (i j : Int) : subD (.int i) (.int j) = some (.int (i - j)) := rfl
theorem neg_int (i : Int) : negD (.int i) = some (.int (-i)) := rfl
theorem len_tup (xs : List PyData) : lenD [.tuple xs] = some (.int xs.length) := rfl
theorem len_lst (xs : List PyData) : lenD [.list xs] = some (.int xs.length) := rfl
theorem tuple_lst (xs : List PyData) : tupleD [.list xs] = some (.tuple xs) := rfl
theorem tuple_tup (xs : List PyData) : tupleD [.tuple xs] = some (.tuple xs) := rfl
theorem list_lst (xs : List PyData) : listD [.list xs] = some xs := rfl
theorem list_tup (xs : List PyData) : listD [.tuple xs] = some xs := rfl
theorem seq_lst (xs : List PyData) : seqD (.list xs) = some xs := rfl
theorem seq_tup (xs : List PyData) : seqD (.tuple xs) = some xs := rfl
theorem ix_tup (xs : List PyData) (i : Int) : ixD (.tuple xs) (.int i) = L2.atI xs i := rfl
theorem ix_lst (xs : List PyData) (i : Int) : ixD (.list xs) (.int i) = L2.atI xs i := rfl
theorem tupD_le {ds : List PyData} (h : ds.length ≤ 1000) : tupD ds = some (.tuple ds) := if_pos h
theorem lstD_le {ds : List PyData} (h : ds.length ≤ 1000) : lstD ds = some ds := if_pos h
/-! places in lists -/
theorem atI_0 {α : Type} (a : α) (l : List α) : L2.atI (a :: l) 0 = some a := by
  unfold L2.atI L2.ixN
  simp
theorem atI_nat {α : Type} {xs : List α} {n : Nat} (h : n < xs.length) : L2.atI xs (n : Int) = xs[n]? := by
  unfold L2.atI L2.ixN
  have h1 : (0 : Int) ≤ (n : Int) := by omega
  simp [h]
theorem atI_1 {α : Type} (a b : α) (l : List α) : L2.atI (a :: b :: l) 1 = some b := atI_nat (xs := a :: b :: l) (n := 1) (by simp)
theorem atI_2 {α : Type} (a b c : α) (l : List α) : L2.atI (a :: b :: c :: l) 2 = some c := atI_nat (xs := a :: b :: c :: l) (n := 2) (by simp)
theorem atI_3 {α : Type} (a b c d : α) (l : List α) : L2.atI (a :: b :: c :: d :: l) 3 = some d := atI_nat (xs := a :: b :: c :: d :: l) (n := 3) (by simp)
/-! ### equality -/
theorem eqD_sh {a b : PyData} (ha : SeqAt.shaped a = true) (hb : SeqAt.shaped b = true) : eqD a b = some (.bool (PyData.eqv a b)) := if_pos ⟨ha, hb⟩
theorem neD_sh {a b : PyData} (ha : SeqAt.shaped a = true) (hb : SeqAt.shaped b = true) : neD a b = some (.bool (!PyData.eqv a b)) := if_pos ⟨ha, hb⟩
theorem sh_int (i : Int) : SeqAt.shaped (.int i) = true := rfl
theorem sh_bool (i : Bool) : SeqAt.shaped (.bool i) = true := rfl
theorem sh_none : SeqAt.shaped .none = true := rfl
theorem eqD_int (i j : Int) : eqD (.int i) (.int j) = some (.bool (i == j)) := by
  rw [eqD_sh (sh_int i) (sh_int j)]
  unfold PyData.eqv
  rfl
theorem neD_int (i j : Int) : neD (.int i) (.int j) = some (.bool (i != j)) := by
  rw [neD_sh (sh_int i) (sh_int j)]
  unfold PyData.eqv
  rfl
theorem eqD_bool (i j : Bool) : eqD (.bool i) (.bool j) = some (.bool (i == j)) := by
  rw [eqD_sh (sh_bool i) (sh_bool j)]
  unfold PyData.eqv
  rfl
/-- how deep, nothing unusual within -/
structure Dn (n : Nat) (d : PyData) : Prop where
  c : d.canLay0 = true
  d : d.depth ≤ n
theorem Dn.sh {n : Nat} {d : PyData} (h : Dn n d) (hn : n ≤ 64) : SeqAt.shaped d = true := by
  unfold SeqAt.shaped
  rw [h.c, Bool.true_and]
  exact decide_eq_true (Nat.le_trans h.d hn)
theorem Dn.mono {m n : Nat} {d : PyData} (h : Dn m d) (hn : m ≤ n) : Dn n d := ⟨h.c, Nat.le_trans h.d hn⟩
theorem Dn.int {n : Nat} (i : Int) : Dn n (.int i) := ⟨rfl, by unfold PyData.depth; omega⟩
theorem Dn.bool {n : Nat} (i : Bool) : Dn n (.bool i) := ⟨rfl, by unfold PyData.depth; omega⟩
theorem Dn.none {n : Nat} : Dn n .none := ⟨rfl, by unfold PyData.depth; omega⟩
theorem Dn.str {n : Nat} {x : Str} (h : PyData.strOk x = true) : Dn n (.str x) := ⟨by unfold PyData.canLay0; exact h, by unfold PyData.depth; omega⟩
theorem dn_all {n : Nat} : ∀ {xs : List PyData}, (∀ x ∈ xs, Dn n x) → PyData.canLayAll0 xs = true ∧ PyData.depthAll xs ≤ n
  | [], _ => ⟨by unfold PyData.canLayAll0; rfl, by unfold PyData.depthAll; omega⟩
  | x :: xs, h => by
    obtain ⟨h1, h2⟩ := h x List.mem_cons_self
    obtain ⟨h3, h4⟩ := dn_all (xs := xs) fun y hy => h y (List.mem_cons_of_mem _ hy)
    refine ⟨?_, ?_⟩
    · unfold PyData.canLayAll0; rw [h1, h3]; rfl
    · unfold PyData.depthAll; omega
theorem Dn.tup {n : Nat} {xs : List PyData} (h : ∀ x ∈ xs, Dn n x) : Dn (n + 1) (.tuple xs) := by
  obtain ⟨h1, h2⟩ := dn_all h
  exact ⟨by unfold PyData.canLay0; exact h1, by unfold PyData.depth; omega⟩
theorem Dn.lst {n : Nat} {xs : List PyData} (h : ∀ x ∈ xs, Dn n x) : Dn (n + 1) (.list xs) := by
  obtain ⟨h1, h2⟩ := dn_all h
  exact ⟨by unfold PyData.canLay0; exact h1, by unfold PyData.depth; omega⟩
mutual
/-- no truth values, no dicts: equal is the same -/
def nb : PyData → Bool
  | .none => true
  | .int _ => true
  | .str _ => true
  | .bool _ => false
  | .dict _ => false
  | .list xs => nbAll xs
  | .tuple xs => nbAll xs
def nbAll : List PyData → Bool
  | [] => true
  | x :: xs => nb x && nbAll xs
end
theorem nb_int (i : Int) : nb (.int i) = true := by unfold nb; rfl
theorem nb_str (i : Str) : nb (.str i) = true := by unfold nb; rfl
theorem nb_none : nb .none = true := by unfold nb; rfl
theorem nbAll_of {xs : List PyData} (h : ∀ x ∈ xs, nb x = true) : nbAll xs = true := by
  induction xs with
  | nil => unfold nbAll; rfl
  | cons x r ih =>
    unfold nbAll
    rw [h x List.mem_cons_self, ih fun y hy => h y (List.mem_cons_of_mem _ hy)]
    rfl
theorem nb_tup {xs : List PyData} (h : ∀ x ∈ xs, nb x = true) : nb (.tuple xs) = true := by unfold nb; exact nbAll_of h
theorem nb_lst {xs : List PyData} (h : ∀ x ∈ xs, nb x = true) : nb (.list xs) = true := by unfold nb; exact nbAll_of h
mutual
theorem eqv_eq : ∀ (a b : PyData), nb a = true → nb b = true → (PyData.eqv a b = true ↔ a = b)
  | .bool _, _, h, _ => by unfold nb at h; cases h
  | .dict _, _, h, _ => by unfold nb at h; cases h
  | .none, b, _, hb => by
    cases b with
    | none => exact ⟨fun _ => rfl, fun _ => by unfold PyData.eqv; rfl⟩
    | bool _ => unfold nb at hb; cases hb
    | dict _ => unfold nb at hb; cases hb
    | _ => exact ⟨fun h => by (unfold PyData.eqv at h; cases h), fun h => by (cases h)⟩
  | .int i, b, _, hb => by
    cases b with
    | int j =>
      unfold PyData.eqv
      rw [beq_iff_eq]
      exact ⟨fun h => by (rw [h]), fun h => by (injection h)⟩
    | bool _ => unfold nb at hb; cases hb
    | dict _ => unfold nb at hb; cases hb
    | _ => exact ⟨fun h => by (unfold PyData.eqv at h; cases h), fun h => by (cases h)⟩
  | .str i, b, _, hb => by
    cases b with
    | str j =>
      unfold PyData.eqv
      rw [beq_iff_eq]
      exact ⟨fun h => by (rw [h]), fun h => by (injection h)⟩
    | bool _ => unfold nb at hb; cases hb
    | dict _ => unfold nb at hb; cases hb
    | _ => exact ⟨fun h => by (unfold PyData.eqv at h; cases h), fun h => by (cases h)⟩
  | .list xs, b, ha, hb => by
    cases b with
    | list ys =>
      unfold nb at ha hb
      have := eqv_eqAll xs ys ha hb
      unfold PyData.eqv
      rw [this]
      exact ⟨fun h => by (rw [h]), fun h => by (injection h)⟩
    | bool _ => unfold nb at hb; cases hb
    | dict _ => unfold nb at hb; cases hb
    | _ => exact ⟨fun h => by (unfold PyData.eqv at h; cases h), fun h => by (cases h)⟩
  | .tuple xs, b, ha, hb => by
    cases b with
    | tuple ys =>
      unfold nb at ha hb
      have := eqv_eqAll xs ys ha hb
      unfold PyData.eqv
      rw [this]
      exact ⟨fun h => by (rw [h]), fun h => by (injection h)⟩
    | bool _ => unfold nb at hb; cases hb
    | dict _ => unfold nb at hb; cases hb
    | _ => exact ⟨fun h => by (unfold PyData.eqv at h; cases h), fun h => by (cases h)⟩
theorem eqv_eqAll : ∀ (xs ys : List PyData), nbAll xs = true → nbAll ys = true → (PyData.eqvAll xs ys = true ↔ xs = ys)
  | [], [], _, _ => ⟨fun _ => rfl, fun _ => by unfold PyData.eqvAll; rfl⟩
  | [], y :: ys, _, _ => ⟨fun h => by (unfold PyData.eqvAll at h; cases h), fun h => by cases h⟩
  | x :: xs, [], _, _ => ⟨fun h => by (unfold PyData.eqvAll at h; cases h), fun h => by cases h⟩
  | x :: xs, y :: ys, ha, hb => by
    unfold nbAll at ha hb
    rw [Bool.and_eq_true] at ha hb
    unfold PyData.eqvAll
    rw [Bool.and_eq_true, eqv_eq x y ha.1 hb.1, eqv_eqAll xs ys ha.2 hb.2]
    exact ⟨fun h => by rw [h.1, h.2], fun h => by injection h with h1 h2; exact ⟨h1, h2⟩⟩
end
theorem eqv_dec {a b : PyData} {p : Prop} [Decidable p] (ha : nb a = true) (hb : nb b = true) (h : a = b ↔ p) : PyData.eqv a b = decide p := by
  rw [Bool.eq_iff_iff, eqv_eq a b ha hb, h, decide_eq_true_eq]
/-- good data: to be compared with == -/
structure Gd (n : Nat) (d : PyData) : Prop where
  dn : Dn n d
  nb : nb d = true
theorem Gd.int {n : Nat} (i : Int) : Gd n (.int i) := ⟨.int i, nb_int i⟩
theorem Gd.none {n : Nat} : Gd n .none := ⟨.none, nb_none⟩
theorem Gd.str {n : Nat} {x : Str} (h : PyData.strOk x = true) : Gd n (.str x) := ⟨.str h, nb_str x⟩
theorem Gd.tup {n : Nat} {xs : List PyData} (h : ∀ x ∈ xs, Gd n x) : Gd (n + 1) (.tuple xs) := ⟨.tup fun x hx => (h x hx).dn, nb_tup fun x hx => (h x hx).nb⟩
theorem Gd.lst {n : Nat} {xs : List PyData} (h : ∀ x ∈ xs, Gd n x) : Gd (n + 1) (.list xs) := ⟨.lst fun x hx => (h x hx).dn, nb_lst fun x hx => (h x hx).nb⟩
theorem Gd.mono {m n : Nat} {d : PyData} (h : Gd m d) (hn : m ≤ n) : Gd n d := ⟨h.dn.mono hn, h.nb⟩
theorem Gd.ints {n : Nat} (l : List Int) : Gd (n + 1) (.tuple (l.map .int)) := .tup fun x hx => by
  obtain ⟨i, _, rfl⟩ := List.mem_map.mp hx
  exact .int i
theorem eqD_gd {m n : Nat} {a b : PyData} {p : Prop} [Decidable p] (ha : Gd m a) (hb : Gd n b) (h : a = b ↔ p) (hm : m ≤ 64 := by decide) (hn : n ≤ 64 := by decide) : eqD a b = some (.bool (decide p)) := by
  rw [eqD_sh (ha.dn.sh hm) (hb.dn.sh hn), eqv_dec ha.nb hb.nb h]
theorem neD_gd {m n : Nat} {a b : PyData} {p : Prop} [Decidable p] (ha : Gd m a) (hb : Gd n b) (h : a = b ↔ p) (hm : m ≤ 64 := by decide) (hn : n ≤ 64 := by decide) : neD a b = some (.bool (!decide p)) := by
  rw [neD_sh (ha.dn.sh hm) (hb.dn.sh hn), eqv_dec ha.nb hb.nb h]
theorem any_dec {ds : List PyData} {a : PyData} {p : Prop} [Decidable p] (ha : nb a = true) (hd : ∀ x ∈ ds, nb x = true) (h : a ∈ ds ↔ p) : (ds.any fun z => PyData.eqv z a) = decide p := by
  rw [Bool.eq_iff_iff, List.any_eq_true, decide_eq_true_eq, ← h]
  exact ⟨fun ⟨z, hz, e⟩ => by rw [← (eqv_eq z a (hd z hz) ha).mp e]; exact hz, fun hz => ⟨a, hz, (eqv_eq a a ha ha).mpr rfl⟩⟩
theorem gd_of {n : Nat} {xs : List PyData} (h : Gd (n + 1) (.tuple xs)) : ∀ x ∈ xs, nb x = true := by
  have := h.nb
  unfold VL.nb at this
  clear h
  induction xs with
  | nil => exact fun x hx => nomatch hx
  | cons y r ih =>
    unfold nbAll at this
    rw [Bool.and_eq_true] at this
    intro x hx
    rcases List.mem_cons.mp hx with z | z
    · rw [z]; exact this.1
    · exact ih this.2 x z
theorem inD_tup {m n : Nat} {neg : Bool} {a : PyData} {ds : List PyData} {p : Prop} [Decidable p] (ha : Gd m a) (hd : ∀ x ∈ ds, Gd n x) (h : a ∈ ds ↔ p) (hm : m ≤ 64 := by decide) (hn : n + 1 ≤ 64 := by decide) : inD neg a (.tuple ds) = some (.bool (neg.xor (decide p))) := by
  have hg : Gd (n + 1) (.tuple ds) := .tup hd
  have e : inD neg a (.tuple ds) = some (.bool (neg.xor (ds.any fun z => PyData.eqv z a))) := if_pos ⟨ha.dn.sh hm, hg.dn.sh hn⟩
  rw [e, any_dec ha.nb (fun x hx => (hd x hx).nb) h]
theorem inD_lst {m n : Nat} {neg : Bool} {a : PyData} {ds : List PyData} {p : Prop} [Decidable p] (ha : Gd m a) (hd : ∀ x ∈ ds, Gd n x) (h : a ∈ ds ↔ p) (hm : m ≤ 64 := by decide) (hn : n + 1 ≤ 64 := by decide) : inD neg a (.list ds) = some (.bool (neg.xor (decide p))) := by
  have hg : Gd (n + 1) (.list ds) := .lst hd
  have e : inD neg a (.list ds) = some (.bool (neg.xor (ds.any fun z => PyData.eqv z a))) := if_pos ⟨ha.dn.sh hm, hg.dn.sh hn⟩
  rw [e, any_dec ha.nb (fun x hx => (hd x hx).nb) h]
/-! ### loops -/
theorem forW_run {g : GF} {b : SM} {Q : Fl × En → Prop} {E : Er → Prop} : ∀ {xs : List PyData} {env : En} (P : Nat → En → Prop), P 0 env →
    (∀ i x env, xs[i]? = some x → P i env → ∃ env1, g x env = some env1 ∧ (b env1).run (fun r => match r.1 with
      | .nx => P (i + 1) r.2
      | .ct => P (i + 1) r.2
      | .bk => Q (.nx, r.2)
      | .rt d => Q (.rt d, r.2)) E) → (∀ env, P xs.length env → Q (.nx, env)) → (forW g b xs env).run Q E
  | [], env, P, h0, _, hd => hd env h0
  | x :: xs, env, P, h0, hs, hd => by
    obtain ⟨env1, e1, h1⟩ := hs 0 x env rfl h0
    unfold forW
    rw [e1]
    refine (b env1).mono (fun r hr => ?_) (fun _ z => z) h1
    obtain ⟨f, env2⟩ := r
    have go : P 1 env2 → (forW g b xs env2).run Q E := fun h => forW_run (fun i => P (i + 1)) h (fun i y e hy hp => hs (i + 1) y e hy hp) hd
    cases f with
    | nx => exact go hr
    | ct => exact go hr
    | bk => exact hr
    | rt d => exact hr
theorem whileN_run {t : Mo Bool} {b : SM} {Q : Fl × En → Prop} {E : Er → Prop} (P : Nat → En → Prop) (hs : ∀ m env, P m env → (t env).run (fun r => if r.1 = true then (b r.2).run (fun r => match r.1 with
      | .nx => ∃ k, k < m ∧ P k r.2
      | .ct => ∃ k, k < m ∧ P k r.2
      | .bk => Q (.nx, r.2)
      | .rt d => Q (.rt d, r.2)) E else Q (.nx, r.2)) E) : ∀ (m : Nat) (env : En), P m env → ∀ n, m < n → (whileN t b n env).run Q E := by
  intro m
  induction m using Nat.strongRecOn with
  | _ m ih =>
    intro env hp n hn
    cases n with
    | zero => omega
    | succ n =>
      refine (t env).mono (fun r hr => ?_) (fun _ z => z) (hs m env hp)
      show (if r.1 = true then _ else _ : W (Fl × En)).run Q E
      split at hr
      · rename_i hb
        rw [if_pos hb]
        refine (b r.2).mono (fun r2 hr2 => ?_) (fun _ z => z) hr
        obtain ⟨f, env2⟩ := r2
        cases f with
        | nx => obtain ⟨k, hk, hp2⟩ := hr2; exact ih k hk env2 hp2 n (by omega)
        | ct => obtain ⟨k, hk, hp2⟩ := hr2; exact ih k hk env2 hp2 n (by omega)
        | bk => exact hr2
        | rt d => exact hr2
      · rename_i hb
        rw [if_neg hb]
        exact hr
theorem sWhile_run {t : Mo Bool} {b : SM} {Q : Fl × En → Prop} {E : Er → Prop} {env : En} (P : Nat → En → Prop) (h0 : ∃ m, P m env) (hs : ∀ m env, P m env → (t env).run (fun r => if r.1 = true then (b r.2).run (fun r => match r.1 with
      | .nx => ∃ k, k < m ∧ P k r.2
      | .ct => ∃ k, k < m ∧ P k r.2
      | .bk => Q (.nx, r.2)
      | .rt d => Q (.rt d, r.2)) E else Q (.nx, r.2)) E) : (sWhile t b env).run Q E := by
  obtain ⟨m, h0⟩ := h0
  exact ⟨m + 1, whileN_run P hs m env h0 (m + 1) (Nat.lt_succ_self m)⟩
/-! ### comprehensions -/
theorem En.ext {e1 e2 : En} (hl : e1.length = e2.length) (h : ∀ j, sAt e1 j = sAt e2 j) : e1 = e2 := by
  refine List.ext_getElem? fun j => ?_
  by_cases q : j < e1.length
  · have q2 : j < e2.length := by omega
    have := h j
    unfold sAt at this
    rw [List.getD_eq_getElem?_getD, List.getD_eq_getElem?_getD, List.getElem?_eq_getElem q, List.getElem?_eq_getElem q2] at this
    rw [List.getElem?_eq_getElem q, List.getElem?_eq_getElem q2]
    exact congrArg some this
  · rw [List.getElem?_eq_none (by omega), List.getElem?_eq_none (by omega)]
theorem restE_of {vs : List Nat} {e env : En} (h : wipeE vs e = wipeE vs env) : restE env vs e = env := by
  have hl : env.length = e.length := by
    have := congrArg List.length h
    rw [wipeE_len, wipeE_len] at this
    exact this.symm
  refine En.ext (by rw [restE_len]; exact hl.symm) fun j => ?_
  rw [sAt_rest env vs e hl j]
  split
  · rfl
  · rename_i m
    have : sAt (wipeE vs e) j = sAt (wipeE vs env) j := by rw [h]
    rw [sAt_wipe, sAt_wipe, if_neg m, if_neg m] at this
    exact this
theorem lcW_eq {vs : List Nat} {g : GF} {t : Mo Bool} {m : Mo PyData} (b : PyData → Bool) (f : PyData → PyData) (env0 : En) : ∀ {xs : List PyData} {env : En}, wipeE vs env = wipeE vs env0 →
    (∀ x ∈ xs, ∃ e, g x (wipeE vs env0) = some e ∧ t e = W.ret (b x, e) ∧ (b x = true → m e = W.ret (f x, e)) ∧ wipeE vs e = wipeE vs env0) → ∃ env', lcW vs g t m xs env = W.ret ((xs.filter b).map f, env') ∧ wipeE vs env' = wipeE vs env0
  | [], env, hw, _ => ⟨env, rfl, hw⟩
  | x :: xs, env, hw, h => by
    obtain ⟨e, e1, e2, e3, e4⟩ := h x List.mem_cons_self
    obtain ⟨env', h1, h2⟩ := lcW_eq b f env0 (xs := xs) (env := e) e4 fun y hy => h y (List.mem_cons_of_mem _ hy)
    refine ⟨env', ?_, h2⟩
    unfold lcW
    rw [hw, e1]
    show ((t e).nox.bind fun r => _) = _
    rw [e2]
    show (if b x = true then _ else _) = _
    rw [List.filter_cons]
    cases hb : b x with
    | true =>
      rw [if_pos rfl, if_pos rfl, e3 hb]
      show ((lcW vs g t m xs e).bind fun q => W.ret (f x :: q.1, q.2)) = _
      rw [h1]
      rfl
    | false =>
      rw [if_neg Bool.false_ne_true, if_neg Bool.false_ne_true]
      exact h1
theorem lcM_eq {vs : List Nat} {g : GF} {t : Mo Bool} {m : Mo PyData} {mi : Mo (List PyData)} {xs : List PyData} {env : En} (b : PyData → Bool) (f : PyData → PyData) (hi : mi env = W.ret (xs, env)) (hl : xs.length < sizeLine) (hp : vs.all (fun j => plainS (sAt env j)) = true)
    (h : ∀ x ∈ xs, ∃ e, g x (wipeE vs env) = some e ∧ t e = W.ret (b x, e) ∧ (b x = true → m e = W.ret (f x, e)) ∧ wipeE vs e = wipeE vs env) : lcM vs mi g t m env = W.ret ((xs.filter b).map f, env) := by
  obtain ⟨env', h1, h2⟩ := lcW_eq (g := g) (t := t) (m := m) b f env (xs := xs) (env := env) rfl h
  unfold lcM
  rw [hi]
  show ((W.opt (if Lc_ (vs.all fun j => plainS (sAt env j)) xs.length then some () else none)).bind fun _ => (lcW vs g t m xs env).bind fun q => W.ret (q.1, restE env vs q.2)) = _
  rw [if_pos ⟨hp, hl⟩, h1]
  show W.ret ((xs.filter b).map f, restE env vs env') = _
  rw [restE_of h2]
/-- .. without a test -/
theorem lcM_map {vs : List Nat} {g : GF} {m : Mo PyData} {mi : Mo (List PyData)} {xs : List PyData} {env : En} (f : PyData → PyData) (hi : mi env = W.ret (xs, env)) (hl : xs.length < sizeLine) (hp : vs.all (fun j => plainS (sAt env j)) = true)
    (h : ∀ x ∈ xs, ∃ e, g x (wipeE vs env) = some e ∧ m e = W.ret (f x, e) ∧ wipeE vs e = wipeE vs env) : lcM vs mi g tTr m env = W.ret (xs.map f, env) := by
  have := lcM_eq (t := tTr) (fun _ => true) f hi hl hp fun x hx => by
    obtain ⟨e, e1, e2, e3⟩ := h x hx
    exact ⟨e, e1, rfl, fun _ => e2, e3⟩
  rw [this, List.filter_eq_self.mpr fun _ _ => rfl]
theorem lcFW_eq {vs : List Nat} {g : GF} {m : Mo (List PyData)} (f : PyData → List PyData) (env0 : En) : ∀ {xs : List PyData} {env : En}, wipeE vs env = wipeE vs env0 →
    (∀ x ∈ xs, ∃ e, g x (wipeE vs env0) = some e ∧ m e = W.ret (f x, e) ∧ wipeE vs e = wipeE vs env0) → ∃ env', lcFW vs g m xs env = W.ret (xs.map f, env') ∧ wipeE vs env' = wipeE vs env0
  | [], env, hw, _ => ⟨env, rfl, hw⟩
  | x :: xs, env, hw, h => by
    obtain ⟨e, e1, e3, e4⟩ := h x List.mem_cons_self
    obtain ⟨env', h1, h2⟩ := lcFW_eq f env0 (xs := xs) (env := e) e4 fun y hy => h y (List.mem_cons_of_mem _ hy)
    refine ⟨env', ?_, h2⟩
    unfold lcFW
    rw [hw, e1]
    show ((m e).nox.bind fun r => _) = _
    rw [e3]
    show ((lcFW vs g m xs e).bind fun q => W.ret (f x :: q.1, q.2)) = _
    rw [h1]
    rfl
theorem lcFM_eq {vs : List Nat} {g : GF} {m : Mo (List PyData)} {mi : Mo (List PyData)} {xs : List PyData} {env : En} (f : PyData → List PyData) (hi : mi env = W.ret (xs, env)) (hl : xs.length < sizeLine) (hp : vs.all (fun j => plainS (sAt env j)) = true)
    (h : ∀ x ∈ xs, ∃ e, g x (wipeE vs env) = some e ∧ m e = W.ret (f x, e) ∧ wipeE vs e = wipeE vs env) : lcFM vs mi g m env = W.ret (xs.map f, env) := by
  obtain ⟨env', h1, h2⟩ := lcFW_eq (g := g) (m := m) f env (xs := xs) (env := env) rfl h
  unfold lcFM
  rw [hi]
  show ((W.opt (if Lc_ (vs.all fun j => plainS (sAt env j)) xs.length then some () else none)).bind fun _ => (lcFW vs g m xs env).bind fun q => W.ret (q.1, restE env vs q.2)) = _
  rw [if_pos ⟨hp, hl⟩, h1]
  show W.ret (xs.map f, restE env vs env') = _
  rw [restE_of h2]
theorem genW_eq {vs : List Nat} {g : GF} {m : Mo PyData} {stop : Bool} (b : PyData → Bool) (env0 : En) : ∀ {xs : List PyData} {env : En}, wipeE vs env = wipeE vs env0 →
    (∀ x ∈ xs, ∃ e, g x (wipeE vs env0) = some e ∧ m e = W.ret (.bool (b x), e) ∧ wipeE vs e = wipeE vs env0) → ∃ env', genW stop vs g m xs env = W.ret ((if stop = true then xs.any b else xs.all b), env') ∧ wipeE vs env' = wipeE vs env0
  | [], env, hw, _ => ⟨env, by cases stop <;> rfl, hw⟩
  | x :: xs, env, hw, h => by
    obtain ⟨e, e1, e3, e4⟩ := h x List.mem_cons_self
    obtain ⟨env', h1, h2⟩ := genW_eq b env0 (xs := xs) (env := e) e4 fun y hy => h y (List.mem_cons_of_mem _ hy)
    unfold genW
    rw [hw, e1]
    show ∃ env', ((m e).nox.bind fun r => _) = _ ∧ _
    rw [e3]
    show ∃ env', (if b x = stop then W.ret (stop, e) else genW stop vs g m xs e) = _ ∧ _
    by_cases hb : b x = stop
    · rw [if_pos hb]
      refine ⟨e, ?_, e4⟩
      cases stop with
      | true => rw [if_pos rfl, List.any_cons, hb]; rfl
      | false => rw [if_neg Bool.false_ne_true, List.all_cons, hb]; rfl
    · rw [if_neg hb]
      refine ⟨env', ?_, h2⟩
      rw [h1]
      cases stop with
      | true => rw [if_pos rfl, if_pos rfl, List.any_cons, Bool.eq_false_iff.mpr hb]; rfl
      | false =>
        have : b x = true := by cases q : b x with
          | true => rfl
          | false => exact absurd q hb
        rw [if_neg Bool.false_ne_true, if_neg Bool.false_ne_true, List.all_cons, this]; rfl
theorem genM_eq {vs : List Nat} {g : GF} {m : Mo PyData} {stop : Bool} {mi : Mo (List PyData)} {xs : List PyData} {env : En} (b : PyData → Bool) (hi : mi env = W.ret (xs, env)) (hp : vs.all (fun j => plainS (sAt env j)) = true)
    (h : ∀ x ∈ xs, ∃ e, g x (wipeE vs env) = some e ∧ m e = W.ret (.bool (b x), e) ∧ wipeE vs e = wipeE vs env) : genM stop vs mi g m env = W.ret (.bool (if stop = true then xs.any b else xs.all b), env) := by
  obtain ⟨env', h1, h2⟩ := genW_eq (g := g) (m := m) (stop := stop) b env (xs := xs) (env := env) rfl h
  unfold genM
  rw [hi]
  show ((W.opt (if vs.all (fun j => plainS (sAt env j)) = true then some () else none)).bind fun _ => (genW stop vs g m xs env).bind fun q => W.ret (PyData.bool q.1, restE env vs q.2)) = _
  rw [if_pos hp, h1]
  show W.ret (PyData.bool _, restE env vs env') = _
  rw [restE_of h2]
end
end VL
namespace VL
noncomputable section
open PySem
theorem ite_ap {α β : Type} {p : Prop} [Decidable p] (f g : α → β) (a : α) : (if p then f else g) a = if p then f a else g a := by split <;> rfl
theorem W_bind_ite {α β : Type} {p : Prop} [Decidable p] (m n : W α) (f : α → W β) : W.bind (if p then m else n) f = if p then W.bind m f else W.bind n f := by split <;> rfl
theorem W_run_ite {α : Type} {p : Prop} [Decidable p] (m n : W α) (Q : α → Prop) (E : Er → Prop) : (if p then m else n : W α).run Q E = if p then m.run Q E else n.run Q E := by split <;> rfl
theorem W_nox_ite {α : Type} {p : Prop} [Decidable p] (m n : W α) : W.nox (if p then m else n) = if p then W.nox m else W.nox n := by split <;> rfl
theorem W_opt_ite {α : Type} {p : Prop} [Decidable p] (m n : Option α) : W.opt (if p then m else n) = if p then W.opt m else W.opt n := by split <;> rfl
end
end VL
namespace VL
noncomputable section
open PySem
/-! ### comprehensions over things of a kind -/
section
variable {α : Type}
theorem lcW_of {vs : List Nat} {g : GF} {t : Mo Bool} {m : Mo PyData} (emb : α → PyData) (b : α → Bool) (f : α → PyData) (env0 : En) : ∀ {l : List α} {env : En}, wipeE vs env = wipeE vs env0 →
    (∀ x ∈ l, ∃ e, g (emb x) (wipeE vs env0) = some e ∧ t e = W.ret (b x, e) ∧ (b x = true → m e = W.ret (f x, e)) ∧ wipeE vs e = wipeE vs env0) → ∃ env', lcW vs g t m (l.map emb) env = W.ret ((l.filter b).map f, env') ∧ wipeE vs env' = wipeE vs env0
  | [], env, hw, _ => ⟨env, rfl, hw⟩
  | x :: xs, env, hw, h => by
    obtain ⟨e, e1, e2, e3, e4⟩ := h x List.mem_cons_self
    obtain ⟨env', h1, h2⟩ := lcW_of emb b f env0 (l := xs) (env := e) e4 fun y hy => h y (List.mem_cons_of_mem _ hy)
    refine ⟨env', ?_, h2⟩
    rw [List.map_cons]
    unfold lcW
    rw [hw, e1]
    show ((t e).nox.bind fun r => _) = _
    rw [e2]
    show (if b x = true then _ else _) = _
    rw [List.filter_cons]
    cases hb : b x with
    | true =>
      rw [if_pos rfl, if_pos rfl, e3 hb]
      show ((lcW vs g t m (xs.map emb) e).bind fun q => W.ret (f x :: q.1, q.2)) = _
      rw [h1]
      rfl
    | false =>
      rw [if_neg Bool.false_ne_true, if_neg Bool.false_ne_true]
      exact h1
theorem lcM_of {vs : List Nat} {g : GF} {t : Mo Bool} {m : Mo PyData} {mi : Mo (List PyData)} {env : En} (l : List α) (emb : α → PyData) (b : α → Bool) (f : α → PyData) (hi : mi env = W.ret (l.map emb, env)) (hl : l.length < sizeLine) (hp : vs.all (fun j => plainS (sAt env j)) = true)
    (h : ∀ x ∈ l, ∃ e, g (emb x) (wipeE vs env) = some e ∧ t e = W.ret (b x, e) ∧ (b x = true → m e = W.ret (f x, e)) ∧ wipeE vs e = wipeE vs env) : lcM vs mi g t m env = W.ret ((l.filter b).map f, env) := by
  obtain ⟨env', h1, h2⟩ := lcW_of (g := g) (t := t) (m := m) emb b f env (l := l) (env := env) rfl h
  unfold lcM
  rw [hi]
  show ((W.opt (if Lc_ (vs.all fun j => plainS (sAt env j)) (l.map emb).length then some () else none)).bind fun _ => (lcW vs g t m (l.map emb) env).bind fun q => W.ret (q.1, restE env vs q.2)) = _
  rw [if_pos ⟨hp, by rw [List.length_map]; exact hl⟩, h1]
  show W.ret ((l.filter b).map f, restE env vs env') = _
  rw [restE_of h2]
theorem lcM_mapOf {vs : List Nat} {g : GF} {m : Mo PyData} {mi : Mo (List PyData)} {env : En} (l : List α) (emb : α → PyData) (f : α → PyData) (hi : mi env = W.ret (l.map emb, env)) (hl : l.length < sizeLine) (hp : vs.all (fun j => plainS (sAt env j)) = true)
    (h : ∀ x ∈ l, ∃ e, g (emb x) (wipeE vs env) = some e ∧ m e = W.ret (f x, e) ∧ wipeE vs e = wipeE vs env) : lcM vs mi g tTr m env = W.ret (l.map f, env) := by
  have := lcM_of (t := tTr) l emb (fun _ => true) f hi hl hp fun x hx => by
    obtain ⟨e, e1, e2, e3⟩ := h x hx
    exact ⟨e, e1, rfl, fun _ => e2, e3⟩
  rw [this, List.filter_eq_self.mpr fun _ _ => rfl]
theorem lcFW_of {vs : List Nat} {g : GF} {m : Mo (List PyData)} (emb : α → PyData) (f : α → List PyData) (env0 : En) : ∀ {l : List α} {env : En}, wipeE vs env = wipeE vs env0 →
    (∀ x ∈ l, ∃ e, g (emb x) (wipeE vs env0) = some e ∧ m e = W.ret (f x, e) ∧ wipeE vs e = wipeE vs env0) → ∃ env', lcFW vs g m (l.map emb) env = W.ret (l.map f, env') ∧ wipeE vs env' = wipeE vs env0
  | [], env, hw, _ => ⟨env, rfl, hw⟩
  | x :: xs, env, hw, h => by
    obtain ⟨e, e1, e3, e4⟩ := h x List.mem_cons_self
    obtain ⟨env', h1, h2⟩ := lcFW_of emb f env0 (l := xs) (env := e) e4 fun y hy => h y (List.mem_cons_of_mem _ hy)
    refine ⟨env', ?_, h2⟩
    rw [List.map_cons]
    unfold lcFW
    rw [hw, e1]
    show ((m e).nox.bind fun r => _) = _
    rw [e3]
    show ((lcFW vs g m (xs.map emb) e).bind fun q => W.ret (f x :: q.1, q.2)) = _
    rw [h1]
    rfl
theorem lcFM_of {vs : List Nat} {g : GF} {m : Mo (List PyData)} {mi : Mo (List PyData)} {env : En} (l : List α) (emb : α → PyData) (f : α → List PyData) (hi : mi env = W.ret (l.map emb, env)) (hl : l.length < sizeLine) (hp : vs.all (fun j => plainS (sAt env j)) = true)
    (h : ∀ x ∈ l, ∃ e, g (emb x) (wipeE vs env) = some e ∧ m e = W.ret (f x, e) ∧ wipeE vs e = wipeE vs env) : lcFM vs mi g m env = W.ret (l.map f, env) := by
  obtain ⟨env', h1, h2⟩ := lcFW_of (g := g) (m := m) emb f env (l := l) (env := env) rfl h
  unfold lcFM
  rw [hi]
  show ((W.opt (if Lc_ (vs.all fun j => plainS (sAt env j)) (l.map emb).length then some () else none)).bind fun _ => (lcFW vs g m (l.map emb) env).bind fun q => W.ret (q.1, restE env vs q.2)) = _
  rw [if_pos ⟨hp, by rw [List.length_map]; exact hl⟩, h1]
  show W.ret (l.map f, restE env vs env') = _
  rw [restE_of h2]
theorem genM_of {vs : List Nat} {g : GF} {m : Mo PyData} {stop : Bool} {mi : Mo (List PyData)} {env : En} (l : List α) (emb : α → PyData) (b : α → Bool) (hi : mi env = W.ret (l.map emb, env)) (hp : vs.all (fun j => plainS (sAt env j)) = true)
    (h : ∀ x ∈ l, ∃ e, g (emb x) (wipeE vs env) = some e ∧ m e = W.ret (.bool (b x), e) ∧ wipeE vs e = wipeE vs env) : genM stop vs mi g m env = W.ret (.bool (if stop = true then l.any b else l.all b), env) := by
  have go : ∀ {l : List α} {env1 : En}, wipeE vs env1 = wipeE vs env → (∀ x ∈ l, ∃ e, g (emb x) (wipeE vs env) = some e ∧ m e = W.ret (.bool (b x), e) ∧ wipeE vs e = wipeE vs env) → ∃ env', genW stop vs g m (l.map emb) env1 = W.ret ((if stop = true then l.any b else l.all b), env') ∧ wipeE vs env' = wipeE vs env := by
    intro l
    induction l with
    | nil => exact fun hw _ => ⟨_, by cases stop <;> rfl, hw⟩
    | cons x xs ih =>
      intro env1 hw h
      obtain ⟨e, e1, e3, e4⟩ := h x List.mem_cons_self
      obtain ⟨env', h1, h2⟩ := ih (env1 := e) e4 fun y hy => h y (List.mem_cons_of_mem _ hy)
      rw [List.map_cons]
      unfold genW
      rw [hw, e1]
      show ∃ env', ((m e).nox.bind fun r => _) = _ ∧ _
      rw [e3]
      show ∃ env', (if b x = stop then W.ret (stop, e) else genW stop vs g m (xs.map emb) e) = _ ∧ _
      by_cases hb : b x = stop
      · rw [if_pos hb]
        refine ⟨e, ?_, e4⟩
        cases stop with
        | true => rw [if_pos rfl, List.any_cons, hb]; rfl
        | false => rw [if_neg Bool.false_ne_true, List.all_cons, hb]; rfl
      · rw [if_neg hb]
        refine ⟨env', ?_, h2⟩
        rw [h1]
        cases stop with
        | true => rw [if_pos rfl, if_pos rfl, List.any_cons, Bool.eq_false_iff.mpr hb]; rfl
        | false =>
          have : b x = true := by cases q : b x with
            | true => rfl
            | false => exact absurd q hb
          rw [if_neg Bool.false_ne_true, if_neg Bool.false_ne_true, List.all_cons, this]; rfl
  obtain ⟨env', h1, h2⟩ := go rfl h
  unfold genM
  rw [hi]
  show ((W.opt (if vs.all (fun j => plainS (sAt env j)) = true then some () else none)).bind fun _ => (genW stop vs g m (l.map emb) env).bind fun q => W.ret (PyData.bool q.1, restE env vs q.2)) = _
  rw [if_pos hp, h1]
  show W.ret (PyData.bool _, restE env vs env') = _
  rw [restE_of h2]
end
theorem sl_of {n : Nat} (h : n ≤ 1000000) : n < sizeLine := Nat.lt_of_le_of_lt h (by decide)
theorem shp_strs {l : List Str} (h : ∀ x ∈ l, PyData.strOk x = true) : Gd 1 (.tuple (l.map .str)) := .tup fun x hx => by
  obtain ⟨y, hy, rfl⟩ := List.mem_map.mp hx
  exact .str (h y hy)
theorem mem_strs {l : List Str} {x : Str} : PyData.str x ∈ l.map PyData.str ↔ x ∈ l := by
  rw [List.mem_map]
  exact ⟨fun ⟨y, hy, e⟩ => by (injection e with e; rw [← e]; exact hy), fun h => ⟨x, h, rfl⟩⟩
theorem mem_ints {l : List Int} {x : Int} : PyData.int x ∈ l.map PyData.int ↔ x ∈ l := by
  rw [List.mem_map]
  exact ⟨fun ⟨y, hy, e⟩ => by (injection e with e; rw [← e]; exact hy), fun h => ⟨x, h, rfl⟩⟩
end
end VL

set_option Elab.async false
set_option linter.all false
set_option maxRecDepth 100000
set_option maxHeartbeats 1000000
/-! problems: rules as data, the allowed relations -/
namespace KP
open PySem L2 GxR GA KD
structure Rule where
  f : Nat
  rs : List Str
  s : Nat
def ks : List Str := ["before", "beside", "after"]
def opp (r : Str) : Str := if r = "before" then "after" else if r = "after" then "before" else r
def ruleD (r : Rule) : PyData := .tuple [.int (r.f : Int), .tuple (r.rs.map PyData.str), .int (r.s : Int)]
def probD (n : Nat) (R : List Rule) : PyData := .tuple [.int (n : Int), .tuple (R.map ruleD)]
structure OkR (n : Nat) (r : Rule) : Prop where
  ff : r.f < n
  ss : r.s < n
  ne : r.f ≠ r.s
  some : r.rs ≠ []
  sub : r.rs.Sublist ks
theorem ks_mem {w : Str} : w ∈ ks ↔ w = "before" ∨ w = "beside" ∨ w = "after" := by
  unfold ks
  simp only [List.mem_cons, List.not_mem_nil, or_false]
theorem ks_nodup : ks.Nodup := by decide +kernel
theorem opp_ks {w : Str} (h : w ∈ ks) : opp w ∈ ks ∧ opp (opp w) = w := by
  rw [ks_mem] at h
  rcases h with z | z | z <;> rw [z] <;> decide +kernel
def fits (r : Rule) (x y : Nat) (w : Str) : Bool := (if r.f = x ∧ r.s = y then decide (w ∈ r.rs) else true) && (if r.f = y ∧ r.s = x then decide (opp w ∈ r.rs) else true)
def allw (R : List Rule) (x y : Nat) : List Str := ks.filter fun w => R.all fun r => fits r x y w
theorem allw_nil (x y : Nat) : allw [] x y = ks := by unfold allw; exact List.filter_eq_self.mpr fun _ _ => rfl
theorem allw_snoc (R : List Rule) (r : Rule) (x y : Nat) : allw (R ++ [r]) x y = (allw R x y).filter (fits r x y) := by
  unfold allw
  rw [List.filter_filter]
  refine List.filter_congr fun w _ => ?_
  rw [List.all_append]
  show (_ && (fits r x y w && true)) = _
  rw [Bool.and_true, Bool.and_comm]
theorem allw_take {R : List Rule} {i : Nat} {r : Rule} (h : R[i]? = some r) (x y : Nat) : allw (R.take (i + 1)) x y = (allw (R.take i) x y).filter (fits r x y) := by
  rw [List.take_succ, h]
  exact allw_snoc _ _ _ _
theorem allw_sub (R : List Rule) (x y : Nat) : (allw R x y).Sublist ks := List.filter_sublist
theorem fits_swap {r : Rule} {x y : Nat} {w : Str} (h : w ∈ ks) : fits r y x w = fits r x y (opp w) := by
  unfold fits
  rw [(opp_ks h).2, Bool.and_comm]
theorem allw_swap {R : List Rule} {x y : Nat} {w : Str} (h : w ∈ ks) : w ∈ allw R y x ↔ opp w ∈ allw R x y := by
  unfold allw
  rw [List.mem_filter, List.mem_filter]
  refine ⟨fun ⟨_, b⟩ => ⟨(opp_ks h).1, ?_⟩, fun ⟨_, b⟩ => ⟨h, ?_⟩⟩
  · rw [List.all_eq_true] at b ⊢
    exact fun r hr => by rw [← fits_swap h]; exact b r hr
  · rw [List.all_eq_true] at b ⊢
    exact fun r hr => by rw [fits_swap h]; exact b r hr
section
variable {M : Addr → Prop} {H : Hp} {v : V}
theorem atl_strs : ∀ {l : List Str} {xs : List V}, AtL M H xs (l.map PyData.str) → xs = l.map V.str
  | [], _, h => by cases h; rfl
  | i :: r, _, h => by
    cases h with
    | cons a t => rw [a.str_of, atl_strs t]; rfl
theorem strs_at : ∀ r : List Str, AtL M H (r.map V.str) (r.map PyData.str)
  | [] => .nil
  | x :: r => .cons (.str x) (strs_at r)
theorem prob_at {n : Nat} {R : List Rule} (h : At M H v (probD n R)) : ∃ (a b : Addr) (xs : List V), v = .ref a ∧ H a = some (.tup [.int (n : Int), .ref b]) ∧ H b = some (.tup xs) ∧ AtL M H xs (R.map ruleD) := by
  obtain ⟨a, xs, rfl, hx, hall⟩ := h.tup_of
  cases hall with
  | cons h1 r =>
    cases r with
    | cons h2 r2 =>
      cases r2
      cases h1.int_of
      obtain ⟨b, ys, rfl, hy, hall2⟩ := h2.tup_of
      exact ⟨a, b, ys, rfl, hx, hy, hall2⟩
theorem rule_at {r : Rule} (h : At M H v (ruleD r)) : ∃ (a b : Addr), v = .ref a ∧ H a = some (.tup [.int (r.f : Int), .ref b, .int (r.s : Int)]) ∧ H b = some (.tup (r.rs.map V.str)) := by
  obtain ⟨a, xs, rfl, hx, hall⟩ := h.tup_of
  cases hall with
  | cons h1 q =>
    cases q with
    | cons h2 q2 =>
      cases q2 with
      | cons h3 q3 =>
        cases q3
        cases h1.int_of
        cases h3.int_of
        obtain ⟨b, ys, rfl, hy, hall2⟩ := h2.tup_of
        cases atl_strs hall2
        exact ⟨a, b, rfl, hx, hy⟩
theorem rule_mk {r : Rule} {a b : Addr} (h1 : H a = some (.tup [.int (r.f : Int), .ref b, .int (r.s : Int)])) (h2 : H b = some (.tup (r.rs.map V.str))) : At M H (.ref a) (ruleD r) := .tup h1 (.cons (.int _) (.cons (.tup h2 (strs_at r.rs)) (.cons (.int _) .nil)))
theorem prob_mk {n : Nat} {R : List Rule} {a b : Addr} {xs : List V} (h1 : H a = some (.tup [.int (n : Int), .ref b])) (h2 : H b = some (.tup xs)) (h3 : AtL M H xs (R.map ruleD)) : At M H (.ref a) (probD n R) := .tup h1 (.cons (.int _) (.cons (.tup h2 h3) .nil))
end
end KP

set_option Elab.async false
set_option linter.all false
set_option maxRecDepth 100000
set_option maxHeartbeats 1000000
/-! The value layer: square tables of one's own; the stream's numbers; words and problems. -/
namespace VL
noncomputable section
open PySem
/-- a table -/
def tabS (n : Nat) (F : Nat → Nat → PyData) : List (List PyData) := (List.range n).map fun x => (List.range n).map fun y => F x y
def upd2 (F : Nat → Nat → PyData) (x y : Nat) (d : PyData) : Nat → Nat → PyData := fun a b => if a = x ∧ b = y then d else F a b
theorem tabS_len (n : Nat) (F : Nat → Nat → PyData) : (tabS n F).length = n := by unfold tabS; rw [List.length_map, List.length_range]
theorem tabS_get {n x : Nat} {F : Nat → Nat → PyData} (h : x < n) : (tabS n F)[x]? = some ((List.range n).map fun y => F x y) := by
  unfold tabS
  rw [List.getElem?_map, List.getElem?_range h]
  rfl
theorem row_get {n y : Nat} {f : Nat → PyData} (h : y < n) : ((List.range n).map f)[y]? = some (f y) := by
  rw [List.getElem?_map, List.getElem?_range h]
  rfl
theorem tabS_set {n x y : Nat} {F : Nat → Nat → PyData} {d : PyData} (hx : x < n) (hy : y < n) : (tabS n F).set x (((List.range n).map fun b => F x b).set y d) = tabS n (upd2 F x y d) := by
  refine List.ext_getElem? fun a => ?_
  rw [List.getElem?_set]
  by_cases ha : a < n
  · rw [tabS_get ha, tabS_get ha]
    by_cases e : x = a
    · subst e
      rw [if_pos rfl, if_pos (by rw [tabS_len]; exact hx)]
      refine congrArg some (List.ext_getElem? fun b => ?_)
      rw [List.getElem?_set]
      by_cases hb : b < n
      · rw [row_get hb, row_get hb]
        unfold upd2
        by_cases e2 : y = b
        · subst e2
          rw [if_pos rfl, if_pos (by simpa using hy), if_pos ⟨rfl, rfl⟩]
        · rw [if_neg e2, if_neg (fun z => e2 z.2.symm)]
      · rw [List.getElem?_eq_none (l := (List.range n).map _) (by simpa using hb), List.getElem?_eq_none (l := (List.range n).map _) (by simpa using hb)]
        split
        · rename_i z
          subst z
          exact absurd hy hb
        · rfl
    · rw [if_neg e]
      refine congrArg some (List.map_congr_left fun b _ => ?_)
      unfold upd2
      rw [if_neg fun z => e z.1.symm]
  · have h1 : ¬ a < (tabS n F).length := by rw [tabS_len]; exact ha
    rw [List.getElem?_eq_none (l := tabS n F) (by omega), List.getElem?_eq_none (l := tabS n (upd2 F x y d)) (by rw [tabS_len]; omega)]
    split
    · rename_i z
      subst z
      exact absurd hx ha
    · rfl
theorem ixN_nat {n x : Nat} (h : x < n) : L2.ixN n (x : Int) = some x := by
  have h1 : (0 : Int) ≤ (x : Int) := by omega
  simp [L2.ixN, h]
theorem bIx2_tab {i n x y : Nat} {F : Nat → Nat → PyData} {fa fb : En → Option PyData} {env : En} (hs : sAt env i = .ll (tabS n F)) (ha : fa env = some (.int (x : Nat))) (hb : fb env = some (.int (y : Nat))) (hx : x < n) (hy : y < n) : bIx2 i fa fb env = W.ret (F x y, env) := by
  unfold bIx2
  rw [hs, ha, hb]
  show (W.opt ((L2.ixN (tabS n F).length (x : Int)).bind fun n1 => (tabS n F)[n1]?.bind fun xs => ixD (.list xs) (.int (y : Int)))).bind _ = _
  rw [tabS_len, ixN_nat hx]
  show (W.opt ((tabS n F)[x]?.bind fun xs => ixD (.list xs) (.int (y : Int)))).bind _ = _
  rw [tabS_get hx]
  show (W.opt (L2.atI ((List.range n).map fun y => F x y) (y : Int))).bind _ = _
  rw [atI_nat (by simpa using hy), row_get hy]
  rfl
theorem sPut2_tab {i n x y : Nat} {F : Nat → Nat → PyData} {fa fb : En → Option PyData} {me : Mo PyData} {env env1 : En} {d : PyData} (hm : me env = W.ret (d, env1)) (hs : sAt env1 i = .ll (tabS n F)) (ha : fa env1 = some (.int (x : Nat))) (hb : fb env1 = some (.int (y : Nat))) (hx : x < n) (hy : y < n) :
    sPut2 i fa fb me env = W.ret (.nx, env1.set i (.ll (tabS n (upd2 F x y d)))) := by
  unfold sPut2
  rw [hm]
  show (match sAt env1 i with
  | .ll xss => (W.opt ((fa env1).bind fun a => (fb env1).bind fun b => match a, b with
    | .int k, .int j => (L2.ixN xss.length k).bind fun n => xss[n]?.bind fun xs => (L2.ixN xs.length j).bind fun m => some (xss.set n (xs.set m d))
    | _, _ => none)).bind fun yss => W.ret (Fl.nx, env1.set i (.ll yss))
  | _ => W.fail) = _
  rw [hs, ha, hb]
  show (W.opt ((L2.ixN (tabS n F).length (x : Int)).bind fun n1 => (tabS n F)[n1]?.bind fun xs => (L2.ixN xs.length (y : Int)).bind fun m => some ((tabS n F).set n1 (xs.set m d)))).bind _ = _
  rw [tabS_len, ixN_nat hx]
  show (W.opt ((tabS n F)[x]?.bind fun xs => (L2.ixN xs.length (y : Int)).bind fun m => some ((tabS n F).set x (xs.set m d)))).bind _ = _
  rw [tabS_get hx]
  show (W.opt ((L2.ixN ((List.range n).map fun y => F x y).length (y : Int)).bind fun m => some ((tabS n F).set x (((List.range n).map fun y => F x y).set m d)))).bind _ = _
  rw [List.length_map, List.length_range, ixN_nat hy]
  show (W.opt (some ((tabS n F).set x (((List.range n).map fun y => F x y).set y d)))).bind _ = _
  rw [tabS_set hx hy]
  rfl
/-! ### the stream -/
theorem mNext_run {m : Int} {Q : PyData → Prop} {E : Er → Prop} (h1 : 0 < m) (h2 : m < 1000) (h : ∀ i : Int, 0 ≤ i → i < m → Q (.int i)) : (mNext [.int m]).run Q E :=
  ⟨⟨h1, h2⟩, fun d ⟨i, e, a, b⟩ => by rw [e]; exact h i a b⟩
theorem rng1D_nat {n : Nat} (h : n ≤ 1000000) : rng1D [.int (n : Int)] = some ((List.range n).map fun k : Nat => PyData.int (k : Int)) := by
  have hb : R62 (n : Int) := ⟨by omega, by omega⟩
  have e : rng1D [.int (n : Int)] = some (rngD 0 (n : Int).toNat) := by
    simp only [rng1D]
    rw [if_pos hb]
  rw [e]
  unfold rngD
  refine congrArg some ?_
  rw [Int.toNat_natCast]
  exact List.map_congr_left fun k _ => by rw [Int.zero_add]
theorem nat_of {i : Int} (h : 0 ≤ i) : ∃ n : Nat, i = (n : Int) := ⟨i.toNat, by omega⟩
end
end VL
namespace VL
noncomputable section
open PySem KP
theorem forW_of {α : Type} {g : GF} {b : SM} {Q : Fl × En → Prop} {E : Er → Prop} {env : En} (l : List α) (emb : α → PyData) (P : Nat → En → Prop) (h0 : P 0 env)
    (hs : ∀ i x env, l[i]? = some x → P i env → ∃ env1, g (emb x) env = some env1 ∧ (b env1).run (fun r => match r.1 with
      | .nx => P (i + 1) r.2
      | .ct => P (i + 1) r.2
      | .bk => Q (.nx, r.2)
      | .rt d => Q (.rt d, r.2)) E) (hd : ∀ env, P l.length env → Q (.nx, env)) : (forW g b (l.map emb) env).run Q E := by
  refine forW_run P h0 (fun i x env hx hp => ?_) (fun env hp => hd env (by rw [List.length_map] at hp; exact hp))
  rw [List.getElem?_map] at hx
  cases e : l[i]? with
  | none => rw [e] at hx; cases hx
  | some r =>
    rw [e] at hx
    cases hx
    exact hs i r env e hp
/-- .. as an equation: the slots behind i turns -/
theorem forW_eq {α : Type} {g : GF} {b : SM} (l : List α) (emb : α → PyData) (e : Nat → En) (hs : ∀ i x, l[i]? = some x → ∃ env1, g (emb x) (e i) = some env1 ∧ (b env1 = W.ret (.nx, e (i + 1)) ∨ b env1 = W.ret (.ct, e (i + 1)))) : forW g b (l.map emb) (e 0) = W.ret (.nx, e l.length) := by
  induction l generalizing e with
  | nil => rfl
  | cons x r ih =>
    obtain ⟨env1, e1, e2⟩ := hs 0 x rfl
    rw [List.map_cons]
    unfold forW
    rw [e1]
    have := ih (fun i => e (i + 1)) fun i y hy => hs (i + 1) y hy
    rcases e2 with e2 | e2
    · show ((b env1).bind fun r => _) = _
      rw [e2]
      exact this
    · show ((b env1).bind fun r => _) = _
      rw [e2]
      exact this
/-! ### words -/
theorem ks_ok : ∀ x ∈ ks, PyData.strOk x = true := by
  intro x hx
  rw [ks_mem] at hx
  rcases hx with h | h | h <;> subst h <;> decide +kernel
theorem sub_ok {l : List Str} (h : ∀ x ∈ l, x ∈ ks) : ∀ x ∈ l, PyData.strOk x = true := fun x hx => ks_ok x (h x hx)
theorem OkR.ok {n : Nat} {r : Rule} (h : OkR n r) : ∀ x ∈ r.rs, PyData.strOk x = true := sub_ok fun x hx => h.sub.subset hx
theorem allw_ks {R : List Rule} {x y : Nat} : ∀ w ∈ allw R x y, w ∈ ks := fun w hw => (allw_sub R x y).subset hw
theorem ks_len : ks.length = 3 := rfl
theorem allw_len (R : List Rule) (x y : Nat) : (allw R x y).length ≤ 3 := (allw_sub R x y).length_le
abbrev oppT : List (Str × Str) := [("before", "after"), ("beside", "beside"), ("after", "before")]
theorem kd_opp {w : Str} (h : w ∈ ks) : kdD oppT (.str w) = some (.str (opp w)) := by
  rw [ks_mem] at h
  rcases h with h | h | h <;> subst h <;> rfl
theorem sub_filter {l : List Str} (h : l.Sublist ks) : ks.filter (fun x => decide (x ∈ l)) = l := by
  have key : ∀ {a b : List Str}, a.Nodup → b.Sublist a → a.filter (fun x => decide (x ∈ b)) = b := by
    intro a b hn hs
    induction hs with
    | slnil => rfl
    | @cons b' a' y hs ih =>
      rw [List.nodup_cons] at hn
      rw [List.filter_cons, if_neg, ih hn.2]
      simp only [decide_eq_true_eq]
      exact fun z => hn.1 (hs.subset z)
    | @cons_cons b' a' y hs ih =>
      rw [List.nodup_cons] at hn
      rw [List.filter_cons, if_pos (by simp)]
      refine congrArg (y :: ·) ?_
      rw [← ih hn.2]
      refine List.filter_congr fun z hz => ?_
      rw [ih hn.2]
      have : z ≠ y := fun q => hn.1 (by rw [← q]; exact hz)
      simp [this]
  exact key ks_nodup h
end
end VL
namespace VL
noncomputable section
open PySem
theorem repD_ok {xs : List PyData} {k : Nat} (hk : k ≤ 1000000) (h : xs.length * k ≤ 1000000) : repD (.list xs) (.int (k : Int)) = some (List.replicate k xs).flatten := by
  have hz : xs.length * (k : Int).toNat ≤ sizeLine := by
    rw [Int.toNat_natCast]
    exact Nat.le_of_lt (sl_of h)
  have hb : Rp_ xs.length (k : Int) := ⟨by omega, by omega, hz⟩
  simp only [repD]
  rw [if_pos hb, Int.toNat_natCast]
theorem flat_one {α : Type} (a : α) (n : Nat) : (List.replicate n [a]).flatten = List.replicate n a := by
  induction n with
  | zero => rfl
  | succ n ih => rw [List.replicate_succ, List.replicate_succ, List.flatten_cons, ih]; rfl
end
end VL
namespace VL
noncomputable section
open PySem
theorem forW_ex {α : Type} {g : GF} {b : SM} (l : List α) (emb : α → PyData) (P : Nat → En → Prop) (hs : ∀ i x env, l[i]? = some x → P i env → ∃ env1 env2, g (emb x) env = some env1 ∧ (b env1 = W.ret (.nx, env2) ∨ b env1 = W.ret (.ct, env2)) ∧ P (i + 1) env2) : ∀ env, P 0 env → ∃ env', forW g b (l.map emb) env = W.ret (.nx, env') ∧ P l.length env' := by
  induction l generalizing P with
  | nil => exact fun env h => ⟨env, rfl, h⟩
  | cons x r ih =>
    intro env h
    obtain ⟨env1, env2, e1, e2, h2⟩ := hs 0 x env rfl h
    obtain ⟨env', e3, h3⟩ := ih (fun i => P (i + 1)) (fun i y e hy hp => hs (i + 1) y e hy hp) env2 h2
    refine ⟨env', ?_, h3⟩
    rw [List.map_cons]
    unfold forW
    rw [e1]
    rcases e2 with e2 | e2
    · show ((b env1).bind fun r => _) = _
      rw [e2]
      exact e3
    · show ((b env1).bind fun r => _) = _
      rw [e2]
      exact e3
end
end VL

set_option Elab.async false
set_option linter.all false
set_option maxRecDepth 100000
set_option maxHeartbeats 1000000
/-! The value layer: one step of a computation at known slots. -/
namespace VL
noncomputable section
open PySem
variable (s : Sl) (e : En)
def bD : PyData → Option Bool
  | .bool b => some b
  | _ => none
theorem bD_bool (b : Bool) : bD (.bool b) = some b := rfl
/-- with what was found -/
def outD {α : Type} (o : Option α) (e : En) : W (α × En) := (W.opt o).bind fun d => W.ret (d, e)
theorem outD_some {α : Type} (a : α) (e : En) : outD (some a) e = W.ret (a, e) := rfl
theorem c_op1 (f m) : op1 f m (s :: e) = (m (s :: e)).bind fun a => outD (f a.1) a.2 := rfl
theorem c_op2 (f ma mb) : op2 f ma mb (s :: e) = (ma (s :: e)).bind fun a => (mb a.2).bind fun b => outD (f a.1 b.1) b.2 := rfl
theorem c_op2T (f ma mb) : op2T f ma mb (s :: e) = (ma (s :: e)).bind fun a => (mb a.2).bind fun b => outD ((f a.1 b.1).bind bD) b.2 := rfl
theorem c_op2F (f ma mb) : op2F f ma mb (s :: e) = (ma (s :: e)).bind fun a => (mb a.2).bind fun b => outD (f a.1 b.1) b.2 := rfl
theorem c_opL (f m) : opL f m (s :: e) = (m (s :: e)).bind fun a => outD (f a.1) a.2 := rfl
theorem c_opF (f m) : opF f m (s :: e) = (m (s :: e)).bind fun a => outD (f a.1) a.2 := rfl
theorem c_aCons (m ms) : aCons m ms (s :: e) = (m (s :: e)).bind fun a => (ms a.2).bind fun b => W.ret (a.1 :: b.1, b.2) := rfl
theorem c_eList (m) : eList m (s :: e) = (m (s :: e)).bind fun a => W.ret (.list a.1, a.2) := rfl
theorem c_eCall (m ms) : eCall m ms (s :: e) = (ms (s :: e)).bind fun a => (m a.1).bind fun d => W.ret (d, a.2) := rfl
theorem c_eCall0 (m) : eCall0 m (s :: e) = (m []).bind fun d => W.ret (d, s :: e) := rfl
/-- with the stream -/
def stS (sl : Sl) (w : W (PyData × En)) : W (PyData × En) := match sl with
  | .s => w
  | _ => W.fail
theorem stS_s (w) : stS .s w = w := rfl
theorem c_eCallS (i m ms) : eCallS i m ms (s :: e) = stS (sAt (s :: e) i) ((ms (s :: e)).bind fun a => (m a.1).bind fun d => W.ret (d, a.2)) := by
  unfold eCallS stS
  cases sAt (s :: e) i <;> rfl
theorem c_toT (m) : toT m (s :: e) = (m (s :: e)).bind fun a => outD (truD a.1) a.2 := rfl
theorem c_tB1 (m) : tB1 m (s :: e) = (m (s :: e)).bind fun a => outD (bD a.1) a.2 := by
  unfold tB1 Mo.bind
  refine congrArg (W.bind (m (s :: e))) (funext fun a => ?_)
  obtain ⟨d, e'⟩ := a
  cases d <;> rfl
theorem c_tNotM (m) : tNotM m (s :: e) = (m (s :: e)).bind fun a => W.ret (!a.1, a.2) := rfl
theorem c_tAndM (m n) : tAndM m n (s :: e) = (m (s :: e)).bind fun a => if a.1 = true then n a.2 else W.ret (false, a.2) := by
  unfold tAndM Mo.bind
  refine congrArg (W.bind (m (s :: e))) (funext fun a => ?_)
  obtain ⟨d, e'⟩ := a
  cases d <;> rfl
theorem c_tOrM (m n) : tOrM m n (s :: e) = (m (s :: e)).bind fun a => if a.1 = true then W.ret (true, a.2) else n a.2 := by
  unfold tOrM Mo.bind
  refine congrArg (W.bind (m (s :: e))) (funext fun a => ?_)
  obtain ⟨d, e'⟩ := a
  cases d <;> rfl
theorem c_eAnd (m n) : eAnd m n (s :: e) = (m (s :: e)).bind fun a => bCase a.1 (n a.2) (W.ret (.bool false, a.2)) W.fail := by
  unfold eAnd Mo.bind
  refine congrArg (W.bind (m (s :: e))) (funext fun a => ?_)
  obtain ⟨d, e'⟩ := a
  cases d with
  | bool b => cases b <;> rfl
  | _ => rfl
theorem c_eOr (m n) : eOr m n (s :: e) = (m (s :: e)).bind fun a => bCase a.1 (W.ret (.bool true, a.2)) (n a.2) W.fail := by
  unfold eOr Mo.bind
  refine congrArg (W.bind (m (s :: e))) (funext fun a => ?_)
  obtain ⟨d, e'⟩ := a
  cases d with
  | bool b => cases b <;> rfl
  | _ => rfl
theorem c_eIf (t m n) : eIf t m n (s :: e) = (t (s :: e)).bind fun a => if a.1 = true then m a.2 else n a.2 := by
  unfold eIf Mo.bind
  refine congrArg (W.bind (t (s :: e))) (funext fun a => ?_)
  obtain ⟨d, e'⟩ := a
  cases d <;> rfl
def chD {α : Type} (p : Int → Int → Bool) (a b : PyData) (x y : W α) : W α := match a, b with
  | .int i, .int j => if p i j = true then x else y
  | _, _ => W.fail
theorem chD_int {α : Type} (p : Int → Int → Bool) (i j : Int) (x y : W α) : chD p (.int i) (.int j) x y = if p i j = true then x else y := rfl
theorem c_eChain (p q ma mb md) : eChain p q ma mb md (s :: e) = (ma (s :: e)).bind fun a => (mb a.2).bind fun b => chD p a.1 b.1 ((md b.2).bind fun d => outD (cmpI q b.1 d.1) d.2) (W.ret (.bool false, b.2)) := by
  unfold eChain Mo.bind
  refine congrArg (W.bind (ma (s :: e))) (funext fun a => ?_)
  refine congrArg (W.bind (mb a.2)) (funext fun b => ?_)
  obtain ⟨d, e'⟩ := a
  obtain ⟨d2, e2⟩ := b
  cases d <;> try rfl
  cases d2 <;> try rfl
  unfold chD
  dsimp only
  split <;> rfl
def intO : PyData → Option (Option Int)
  | .int i => some (some i)
  | _ => none
theorem intO_int (i : Int) : intO (.int i) = some (some i) := rfl
theorem c_toO (m) : toO m (s :: e) = (m (s :: e)).bind fun a => outD (intO a.1) a.2 := by
  unfold toO Mo.bind
  refine congrArg (W.bind (m (s :: e))) (funext fun a => ?_)
  obtain ⟨d, e'⟩ := a
  cases d <;> rfl
theorem c_eSlice (m ml mh) : eSlice m ml mh (s :: e) = (m (s :: e)).bind fun a => (ml a.2).bind fun b => (mh b.2).bind fun d => outD (slD a.1 b.1 d.1) d.2 := rfl
theorem c_toI (m) : toI m (s :: e) = (m (s :: e)).bind fun a => outD (seqD a.1) a.2 := rfl
theorem c_ret {α : Type} (a : α) : Mo.ret a (s :: e) = W.ret (a, s :: e) := rfl
theorem c_bind {α β : Type} (m : Mo α) (f : α → Mo β) : Mo.bind m f (s :: e) = (m (s :: e)).bind fun a => f a.1 a.2 := rfl
/-- a slot's data -/
def vS (sl : Sl) (i : Nat) (e : En) : W (PyData × En) := match sl with
  | .d x => W.ret (x, e)
  | .l xs => W.ret (.list xs, e.set i (.d (.list xs)))
  | .ll xss => W.ret (.list (xss.map .list), e.set i (.d (.list (xss.map .list))))
  | .t kvs => W.ret (.dict (kvs.map fun p => (.tuple (p.1.map kD), p.2)), e.set i (.d (.dict (kvs.map fun p => (.tuple (p.1.map kD), p.2)))))
  | _ => W.fail
theorem vS_d (x i e) : vS (.d x) i e = W.ret (x, e) := rfl
theorem vS_l (x i e) : vS (.l x) i e = W.ret (.list x, e.set i (.d (.list x))) := rfl
theorem vS_ll (x i e) : vS (.ll x) i e = W.ret (.list (x.map .list), e.set i (.d (.list (x.map .list)))) := rfl
theorem c_eVar (i) : eVar i (s :: e) = vS (sAt (s :: e) i) i (s :: e) := by
  unfold eVar vS
  cases sAt (s :: e) i <;> rfl
theorem peekS_d (x) : peekS (.d x) = some x := rfl
theorem peekS_l (x) : peekS (.l x) = some (.list x) := rfl
theorem c_peek (i) : peek i (s :: e) = outD (peekS (sAt (s :: e) i)) (s :: e) := by
  unfold peek
  cases peekS (sAt (s :: e) i) <;> rfl
theorem bind_peek {α : Type} (i : Nat) (e : En) (f : PyData × En → W α) : (peek i e).bind f = (W.opt (peekS (sAt e i))).bind fun a => f (a, e) := by
  unfold peek
  cases peekS (sAt e i) <;> rfl
theorem c_bLen (i) : bLen i (s :: e) = (W.opt (peekS (sAt (s :: e) i))).bind fun a => outD (lenD [a]) (s :: e) := bind_peek i (s :: e) _
theorem c_bIx (i m) : bIx i m (s :: e) = (m (s :: e)).bind fun k => (W.opt (peekS (sAt k.2 i))).bind fun d => outD (ixD d k.1) k.2 := by
  unfold bIx Mo.bind
  refine congrArg (W.bind (m (s :: e))) (funext fun a => ?_)
  exact bind_peek i a.2 _
theorem c_bIn (neg i m) : bIn neg i m (s :: e) = (m (s :: e)).bind fun k => (W.opt (peekS (sAt k.2 i))).bind fun d => outD (inD neg k.1 d) k.2 := by
  unfold bIn Mo.bind
  refine congrArg (W.bind (m (s :: e))) (funext fun a => ?_)
  exact bind_peek i a.2 _
theorem c_bTru (i) : bTru i (s :: e) = (W.opt (peekS (sAt (s :: e) i))).bind fun a => outD (truD a) (s :: e) := bind_peek i (s :: e) _
theorem c_bTup (i) : bTup i (s :: e) = (W.opt (peekS (sAt (s :: e) i))).bind fun a => outD (tupleD [a]) (s :: e) := bind_peek i (s :: e) _
theorem c_bLst (i) : bLst i (s :: e) = (W.opt (peekS (sAt (s :: e) i))).bind fun a => outD (listD [a]) (s :: e) := bind_peek i (s :: e) _
theorem c_bSort (i) : bSort i (s :: e) = (W.opt (peekS (sAt (s :: e) i))).bind fun a => outD (sortD [a]) (s :: e) := bind_peek i (s :: e) _
theorem c_bAddL (i m) : bAddL i m (s :: e) = (W.opt (peekS (sAt (s :: e) i))).bind fun _ => (m (s :: e)).bind fun b => (W.opt (peekS (sAt b.2 i))).bind fun a => outD (appD a b.1) b.2 := by
  unfold bAddL Mo.bind
  rw [bind_peek]
  refine congrArg (W.bind _) (funext fun a => ?_)
  refine congrArg (W.bind (m (s :: e))) (funext fun b => ?_)
  exact bind_peek i b.2 _
/-- one's own list -/
def lS : Sl → Option (List PyData)
  | .l xs => some xs
  | _ => none
theorem lS_l (xs) : lS (.l xs) = some xs := rfl
theorem bind_isL {α : Type} (i : Nat) (e : En) (f : Unit × En → W α) : (isL i e).bind f = (W.opt (lS (sAt e i))).bind fun _ => f ((), e) := by
  unfold isL
  cases sAt e i <;> rfl
theorem appL_eq (i : Nat) (f : List PyData → Option (List PyData × PyData)) (e : En) : appL i f e = (W.opt (lS (sAt e i))).bind fun xs => (W.opt (f xs)).bind fun r => W.ret (r.2, e.set i (.l r.1)) := by
  unfold appL
  cases sAt e i <;> rfl
def app1 (xs : List PyData) (d : PyData) : Option (List PyData × PyData) := if Lt_ xs.length then some (xs ++ [d], .none) else none
theorem app1_ok {xs : List PyData} {d : PyData} (h : xs.length ≤ 1000000) : app1 xs d = some (xs ++ [d], .none) := if_pos (sl_of h)
def ext1 (xs : List PyData) : PyData → Option (List PyData × PyData)
  | .list ys => if Le_ (xs.length + ys.length) then some (xs ++ ys, .none) else none
  | .tuple ys => if Le_ (xs.length + ys.length) then some (xs ++ ys, .none) else none
  | _ => none
theorem ext1_lst {xs ys : List PyData} (h : xs.length + ys.length ≤ 1000000) : ext1 xs (.list ys) = some (xs ++ ys, .none) := if_pos (Nat.le_of_lt (sl_of h))
theorem ext1_tup {xs ys : List PyData} (h : xs.length + ys.length ≤ 1000000) : ext1 xs (.tuple ys) = some (xs ++ ys, .none) := if_pos (Nat.le_of_lt (sl_of h))
theorem c_eAppend (i m) : eAppend i m (s :: e) = (W.opt (lS (sAt (s :: e) i))).bind fun _ => (m (s :: e)).bind fun d => (W.opt (lS (sAt d.2 i))).bind fun xs => (W.opt (app1 xs d.1)).bind fun r => W.ret (r.2, d.2.set i (.l r.1)) := by
  unfold eAppend Mo.bind
  rw [bind_isL]
  refine congrArg (W.bind _) (funext fun a => ?_)
  refine congrArg (W.bind (m (s :: e))) (funext fun b => ?_)
  exact appL_eq i (fun xs => app1 xs b.1) b.2
theorem c_eExtend (i m) : eExtend i m (s :: e) = (W.opt (lS (sAt (s :: e) i))).bind fun _ => (m (s :: e)).bind fun d => (W.opt (lS (sAt d.2 i))).bind fun xs => (W.opt (ext1 xs d.1)).bind fun r => W.ret (r.2, d.2.set i (.l r.1)) := by
  unfold eExtend Mo.bind
  rw [bind_isL]
  refine congrArg (W.bind _) (funext fun a => ?_)
  refine congrArg (W.bind (m (s :: e))) (funext fun b => ?_)
  exact appL_eq i (fun xs => ext1 xs b.1) b.2
theorem c_ePop (i) : ePop i (s :: e) = (W.opt (lS (sAt (s :: e) i))).bind fun xs => (W.opt (xs[xs.length - 1]?.bind fun d => some (xs.dropLast, d))).bind fun r => W.ret (r.2, (s :: e).set i (.l r.1)) := by
  unfold ePop Mo.bind
  rw [bind_isL]
  show ((W.opt (lS (sAt (s :: e) i))).bind fun _ => appL i _ (s :: e)) = _
  rw [appL_eq]
  cases lS (sAt (s :: e) i) <;> rfl
def popAt1 (xs : List PyData) : PyData → Option (List PyData × PyData)
  | .int j => if P63 j then (seqIndex? j xs.length).bind fun n => xs[n]?.bind fun d => some (xs.eraseIdx n, d) else none
  | _ => none
theorem c_ePopAt (i m) : ePopAt i m (s :: e) = (W.opt (lS (sAt (s :: e) i))).bind fun _ => (m (s :: e)).bind fun d => (W.opt (lS (sAt d.2 i))).bind fun xs => (W.opt (popAt1 xs d.1)).bind fun r => W.ret (r.2, d.2.set i (.l r.1)) := by
  unfold ePopAt Mo.bind
  rw [bind_isL]
  refine congrArg (W.bind _) (funext fun a => ?_)
  refine congrArg (W.bind (m (s :: e))) (funext fun b => ?_)
  exact appL_eq i (fun xs => popAt1 xs b.1) b.2
/-! statements -/
def seqR (n : SM) (r : Fl × En) : W (Fl × En) := match r.1 with
  | .nx => n r.2
  | .bk => W.ret (.bk, r.2)
  | .ct => W.ret (.ct, r.2)
  | .rt d => W.ret (.rt d, r.2)
theorem seqR_nx (n e) : seqR n (.nx, e) = n e := rfl
theorem seqR_bk (n e) : seqR n (.bk, e) = W.ret (.bk, e) := rfl
theorem seqR_ct (n e) : seqR n (.ct, e) = W.ret (.ct, e) := rfl
theorem seqR_rt (n d e) : seqR n (.rt d, e) = W.ret (.rt d, e) := rfl
theorem c_sSeq (m n) : sSeq m n (s :: e) = (m (s :: e)).bind (seqR n) := rfl
theorem c_sNil : sNil (s :: e) = W.ret (.nx, s :: e) := rfl
theorem c_sRet (m) : sRet m (s :: e) = (m (s :: e)).bind fun r => W.ret (.rt r.1, r.2) := rfl
theorem c_sRetN : sRetN (s :: e) = W.ret (.rt .none, s :: e) := rfl
theorem c_sExpr (m) : sExpr m (s :: e) = (m (s :: e)).bind fun r => W.ret (.nx, r.2) := rfl
theorem c_sBreak : sBreak (s :: e) = W.ret (.bk, s :: e) := rfl
theorem c_sCont : sCont (s :: e) = W.ret (.ct, s :: e) := rfl
/-- a slot is set -/
def stD (i : Nat) (x : Sl) (e : En) : W (Fl × En) := (W.opt (setD i x e)).bind fun e => W.ret (.nx, e)
theorem c_stD (i x) : stD i x (s :: e) = if i < (s :: e).length then W.ret (.nx, (s :: e).set i x) else W.fail := by
  unfold stD setD
  split <;> rfl
theorem c_sSet (i m) : sSet i m (s :: e) = (m (s :: e)).bind fun r => stD i (.d r.1) r.2 := rfl
theorem c_sSetL (i m) : sSetL i m (s :: e) = (m (s :: e)).bind fun r => stD i (.l r.1) r.2 := rfl
theorem c_sSetLL (i m) : sSetLL i m (s :: e) = (m (s :: e)).bind fun r => stD i (.ll r.1) r.2 := rfl
theorem c_sIf (t m n) : sIf t m n (s :: e) = (t (s :: e)).bind fun r => if r.1 = true then m r.2 else n r.2 := rfl
def gR (f : GF) (r : PyData × En) : W (Fl × En) := (W.opt (f r.1 r.2)).bind fun e => W.ret (.nx, e)
theorem c_sAsg (f m) : sAsg f m (s :: e) = (m (s :: e)).bind (gR f) := rfl
theorem c_gR (f d) : gR f (d, s :: e) = (W.opt (f d (s :: e))).bind fun e => W.ret (.nx, e) := rfl
def dS : Sl → Option PyData
  | .d x => some x
  | _ => none
theorem dS_d (x) : dS (.d x) = some x := rfl
theorem c_sAug (i f m) : sAug i f m (s :: e) = (W.opt (dS (sAt (s :: e) i))).bind fun x => (m (s :: e)).bind fun r => (W.opt (f x r.1)).bind fun d => stD i (.d d) r.2 := by
  unfold sAug
  cases sAt (s :: e) i <;> rfl
theorem c_sFor (mi g b) : sFor mi g b (s :: e) = (mi (s :: e)).bind fun r => forW g b r.1 r.2 := rfl
def raR (cls fld : Str) : PyData → W (Fl × En)
  | .str s => W.throw ⟨cls, [(fld, .str s)]⟩
  | _ => W.fail
theorem raR_str (cls fld s) : raR cls fld (.str s) = W.throw ⟨cls, [(fld, .str s)]⟩ := rfl
theorem c_sRaise (cls fld m) : sRaise cls fld m (s :: e) = (m (s :: e)).bind fun r => raR cls fld r.1 := by
  unfold sRaise
  refine congrArg (W.bind (m (s :: e))) (funext fun a => ?_)
  obtain ⟨d, e'⟩ := a
  cases d <;> rfl
theorem c_gN (i d) : gN i d (s :: e) = if i < (s :: e).length then some ((s :: e).set i (.d d)) else none := rfl
theorem gTp_tup (n g ds) : gTp n g (.tuple ds) (s :: e) = if ds.length = n then g ds (s :: e) else none := rfl
def callR (r : Fl × En) : W PyData := match r.1 with
  | .nx => W.ret .none
  | .rt d => W.ret d
  | _ => W.fail
theorem callR_nx (e) : callR (.nx, e) = W.ret .none := rfl
theorem callR_rt (d e) : callR (.rt d, e) = W.ret d := rfl
theorem c_callM (n b ds) : callM n b ds = (b (start0 n ds)).bind callR := rfl
theorem c_callMS (n b ds) : callMS n b ds = (b (.s :: start0 (n - 1) ds)).bind callR := rfl
theorem c_wipe (v : Nat) (vs : List Nat) (e : En) : wipeE (v :: vs) e = (wipeE vs e).set v .no := rfl
theorem c_wipe0 (e : En) : wipeE [] e = e := rfl
theorem mod_pos {a b : Int} (h : 0 < b) : modD (.int a) (.int b) = some (.int (a % b)) := by
  simp only [modD]
  rw [if_pos h]
theorem fdiv_pos {a b : Int} (h : 0 < b) (h2 : b < 1073741824) : fdivD (.int a) (.int b) = some (.int (a / b)) := by
  have : Dv_ b := ⟨h, h2⟩
  simp only [fdivD]
  rw [if_pos this]
theorem run_eq {α : Type} {m : W α} {a : α} {Q : α → Prop} {E : Er → Prop} (h : m = W.ret a) (q : Q a) : m.run Q E := by rw [h]; exact q
end
end VL

set_option Elab.async false
set_option linter.all false
set_option maxRecDepth 100000
set_option maxHeartbeats 1000000
/-! set(t) of a tuple of whole numbers, as a value -/
namespace KR
open PySem PySem.Spec PyProof.Rows L2 GxR GA KD
section
variable {X : Cx}
def rSetT (K : PySem.W.Frag) (w : World) : List V → Hp → VK → Prop := fun xs H Q => ∃ (p : Addr) (ns : List Int), xs = [V.ref p] ∧ SqT K H p (ns.map V.int) ∧ ns.length ≤ 1000 ∧ ∀ (q : Addr) (c : Nat), c ≤ ns.length → H q = none → Q (.ref q) (upd H q (SetO w q (fun j => decide (j ∈ ns)) c))
theorem cr_setT (hc : X.calm = true) : CallR X (.type "set") (rSetT X.K X.w) := by
  intro pins s σ H xs us Q I r h
  obtain ⟨p, ns, rfl, hs, hl, q⟩ := h
  obtain ⟨its, rv, pt, hz⟩ := I.tuple hs
  rw [Vals.ref1 r]
  have hi : IntsAre its.toArray.toList ns := ints_of_vals rv
  refine call_set_tupI ns (I.ok.hd hc) (show s.heap.IsTuple p its.toArray from pt) hi (by unfold scanBound; omega) fun h' tk c R1 hcn k => ?_
  have hn : H s.heap.objs.size = none := I.hok.fresh (Nat.le_refl _)
  exact ⟨.ref _, upd H s.heap.objs.size (SetO X.w s.heap.objs.size (fun j => decide (j ∈ ns)) c), I.laid (t' := tk) k (Nat.le_refl _) (setO_new R1), rfl, q _ c hcn hn⟩
end
end KR

set_option Elab.async false
set_option linter.all false
set_option maxRecDepth 100000
set_option maxHeartbeats 1000000
/-! The value layer: sorted(set(e)); dicts with tuples as keys. -/
namespace VL
noncomputable section
open PySem PySem.Spec PyProof.Rows L2 GxR GA KR GenW
variable {T : List Addr} {ix : Bool} {X : Cx} {c : Ctx T ix} {EK : XK}
/-! ### sorted(set(e)) -/
def ddI : List Int → List Int
  | [] => []
  | x :: r => if x ∈ r then ddI r else x :: ddI r
theorem ddI_mem : ∀ {l : List Int} {x : Int}, x ∈ ddI l ↔ x ∈ l
  | [], x => Iff.rfl
  | y :: r, x => by
    unfold ddI
    split
    · rename_i h
      rw [ddI_mem, List.mem_cons]
      exact ⟨.inr, fun z => z.elim (fun e => by rw [e]; exact h) id⟩
    · rw [List.mem_cons, List.mem_cons, ddI_mem]
theorem ddI_nodup : ∀ l : List Int, (ddI l).Nodup
  | [] => List.nodup_nil
  | y :: r => by
    unfold ddI
    split
    · exact ddI_nodup r
    · rename_i h
      exact List.nodup_cons.mpr ⟨fun z => h (ddI_mem.mp z), ddI_nodup r⟩
theorem lt_le {l : List Int} (h : l.Pairwise (· < ·)) : l.Pairwise (· ≤ ·) := h.imp fun z => Int.le_of_lt z
theorem lt_nodup {l : List Int} (h : l.Pairwise (· < ·)) : l.Nodup := h.imp fun z => Int.ne_of_lt z
/-- the one rising list of these numbers -/
theorem srtdd_uniq {l ns : List Int} (h : ns.Pairwise (· < ·)) (m : ∀ k, k ∈ ns ↔ k ∈ l) : ns = srtI (ddI l) :=
  srtI_uniq ((List.perm_ext_iff_of_nodup (lt_nodup h) (ddI_nodup l)).mpr fun k => by rw [m k, ddI_mem]) (lt_le h)
def sortSetD : PyData → Option (List PyData)
  | .tuple xs => (intsD xs).bind fun ns => if S64 ns.length then some ((srtI (ddI ns)).map PyData.int) else none
  | _ => none
def fSortSet (m : Mo PyData) : Mo (List PyData) := Mo.bind m fun d => Mo.lift (W.opt (sortSetD d))
theorem vf_sortedSet {e : Expr} {m : Mo PyData} {k : Nat} {p p2 p3 pos : Pos} (hr : Room k X.A) (hc : X.calm = true) (hg : Gl X "sorted") (hm : X.mg "sorted" = none) (hg2 : Gl X "set") (hm2 : X.mg "set" = none) (h : VE X c EK e m)
    (hs : starEach [e] X.env = (false, eval e X.env) :: starEach [] X.env := by rfl) (hs2 : starEach [.Call (.Name "set" p2) [e] [] p3] X.env = (false, eval (.Call (.Name "set" p2) [e] [] p3) X.env) :: starEach [] X.env := by rfl) :
    VF X c EK (.Call (.Name "sorted" p) [.Call (.Name "set" p2) [e] [] p3] [] pos) (fSortSet m) := by
  refine ⟨PE.imp (pe_callB (cr_sortedSet hc) hg hm (by decide +kernel) (pa_cons (pe_callTy (cr_setT hc) hg2 hm2 (by decide +kernel) (pa_cons h.pe pa_nil hs) (he := hs)) pa_nil hs2) (he := hs2)) fun σ H Q ⟨M, env, Y, rp, w⟩ => ?_⟩
  refine seq_V w rp (fun _ h => h) fun d env1 v M1 H1 s1 rp1 a1 q1 => ?_
  obtain ⟨r, er, q2⟩ := opt_run q1
  unfold sortSetD at er
  split at er
  · obtain ⟨ns, e1, e2⟩ := Option.bind_eq_some_iff.mp er
    split at e2
    · rename_i hz
      have hz : ns.length < 64 := hz
      cases e2
      cases a1 with
      | @tup a us ds tq aa =>
        have := aa.intsOf e1
        subst this
        refine ⟨a, ns, rfl, tq.1, by omega, fun q cc hcc hq => ?_⟩
        have k1 : Kp MN H1 (upd H1 q (SetO X.w q (fun j => decide (j ∈ ns)) cc)) := .new hq
        have rp2 := rp1.kp1 k1
        refine ⟨q, _, cc, rfl, upd_same, by omega, fun ns' p pm st hl hp => ?_⟩
        rw [srtdd_uniq (l := ns) pm fun k => by rw [st k, decide_eq_true_eq]]
        exact q2 _ _ _ _ ((s1.trans (.of k1.any)).trans (.tmpNew hp)) (rp2.tmpNew hp) (.ofInts _)
      | _ => cases er
    · cases e2
  · cases er
/-! ### dicts with tuples as keys -/
def dKey : PyData → Option Key
  | .int i => some (.inl i)
  | .str x => some (.inr x)
  | _ => none
def keysD : List PyData → Option (List Key)
  | [] => some []
  | d :: ds => (dKey d).bind fun k => (keysD ds).bind fun ks => some (k :: ks)
theorem AtL.keys {K : PySem.W.Frag} {M : Addr → Prop} {H : Hp} : ∀ {ds : List PyData} {vs : List V} {ks : List Key}, AtL ix K M H vs ds → keysD ds = some ks → vs = ks.map kV
  | [], vs, ks, h, e => by cases h; cases e; rfl
  | d :: ds, vs, ks, h, e => by
    cases h with
    | @cons v vs _ _ a r =>
      unfold keysD at e
      obtain ⟨k, e1, e⟩ := Option.bind_eq_some_iff.mp e
      obtain ⟨ks', e2, e⟩ := Option.bind_eq_some_iff.mp e
      cases e
      rw [List.map_cons, AtL.keys r e2]
      refine congrArg (· :: _) ?_
      cases a with
      | int i => cases e1; rfl
      | str x => cases e1; rfl
      | _ => cases e1
/-- what stands under the key -/
def valD (kvs : List (List Key × PyData)) (k : List Key) : Option PyData := (kvs.find? fun p => decide (p.1 = k)).map (·.2)
def putD (kvs : List (List Key × PyData)) (k : List Key) (d : PyData) : List (List Key × PyData) :=
  if (kvs.any fun p => decide (p.1 = k)) = true then kvs.map (fun p => if p.1 = k then (p.1, d) else p) else kvs ++ [(k, d)]
theorem valD_put (kvs : List (List Key × PyData)) (k j : List Key) (d : PyData) : valD (putD kvs k d) j = if j = k then some d else valD kvs j := by
  have miss : ∀ l : List (List Key × PyData), (l.any fun p => decide (p.1 = k)) = false → valD (l ++ [(k, d)]) j = if j = k then some d else valD l j := by
    intro l
    induction l with
    | nil =>
      intro _
      show ((List.find? (fun p => decide (p.1 = j)) [(k, d)]).map (·.2)) = _
      rw [List.find?_cons]
      by_cases e : k = j
      · rw [if_pos e.symm, decide_eq_true e]; rfl
      · rw [if_neg fun z => e z.symm, decide_eq_false e]; rfl
    | cons p r ih =>
      intro h
      rw [List.any_cons, Bool.or_eq_false_iff] at h
      have ih := ih h.2
      have hp : p.1 ≠ k := of_decide_eq_false h.1
      unfold valD at ih ⊢
      rw [List.cons_append, List.find?_cons, List.find?_cons]
      by_cases e : p.1 = j
      · rw [decide_eq_true e, if_neg fun z => hp (by rw [e, z])]
      · rw [decide_eq_false e]
        exact ih
  have hit : ∀ l : List (List Key × PyData), valD (l.map fun p => if p.1 = k then (p.1, d) else p) j = if j = k then (if (l.any fun p => decide (p.1 = k)) = true then some d else none) else valD l j := by
    intro l
    induction l with
    | nil => split <;> rfl
    | cons p r ih =>
      unfold valD at ih ⊢
      rw [List.map_cons, List.find?_cons, List.find?_cons, List.any_cons]
      by_cases e : p.1 = k
      · rw [if_pos e, decide_eq_true e, Bool.true_or]
        by_cases e2 : p.1 = j
        · rw [decide_eq_true e2, if_pos (e2.symm.trans e), if_pos rfl]; rfl
        · rw [decide_eq_false e2, if_neg fun z => e2 (by rw [e, z])]
          rw [ih, if_neg fun z => e2 (by rw [e, z])]
      · rw [if_neg e, decide_eq_false e, Bool.false_or]
        by_cases e2 : p.1 = j
        · rw [decide_eq_true e2, if_neg fun z => e (by rw [e2, z])]
        · rw [decide_eq_false e2]
          exact ih
  unfold putD
  split
  · rename_i h
    rw [hit, if_pos h]
  · rename_i h
    exact miss kvs (Bool.eq_false_iff.mpr h)
structure DR {K : PySem.W.Frag} {M : Addr → Prop} {H : Hp} (cvs : List (List Key × V)) (kvs : List (List Key × PyData)) : Prop where
  ks : kvs.map (·.1) = cvs.map (·.1)
  at_ : AtL ix K M H (cvs.map (·.2)) (kvs.map (·.2))
theorem zip_parts : ∀ {cvs : List (List Key × V)} {es : List PyData}, cvs.length = es.length → ((cvs.map (·.1)).zip es).map (·.1) = cvs.map (·.1) ∧ ((cvs.map (·.1)).zip es).map (·.2) = es
  | [], [], _ => ⟨rfl, rfl⟩
  | p :: cvs, d :: es, h => by
    obtain ⟨h1, h2⟩ := zip_parts (cvs := cvs) (es := es) (Nat.succ.inj h)
    rw [List.map_cons, List.zip_cons_cons, List.map_cons, List.map_cons, h1, h2]
    exact ⟨rfl, rfl⟩
theorem zip_back : ∀ {kvs : List (List Key × PyData)}, (kvs.map (·.1)).zip (kvs.map (·.2)) = kvs
  | [] => rfl
  | p :: r => by rw [List.map_cons, List.map_cons, List.zip_cons_cons, zip_back]
theorem DR.len {K : PySem.W.Frag} {M : Addr → Prop} {H : Hp} {cvs : List (List Key × V)} {kvs : List (List Key × PyData)} (h : DR (ix := ix) (K := K) (M := M) (H := H) cvs kvs) : cvs.length = kvs.length := by
  have := congrArg List.length h.ks
  rw [List.length_map, List.length_map] at this
  exact this.symm
theorem any_keys {k : List Key} : ∀ {cvs : List (List Key × V)} {kvs : List (List Key × PyData)}, kvs.map (·.1) = cvs.map (·.1) → (cvs.any fun p => decide (p.1 = k)) = (kvs.any fun p => decide (p.1 = k))
  | [], [], _ => rfl
  | [], _ :: _, h => by cases h
  | _ :: _, [], h => by cases h
  | p :: cvs, q :: kvs, h => by
    rw [List.map_cons, List.map_cons] at h
    injection h with h1 h2
    rw [List.any_cons, List.any_cons, any_keys h2, h1]
theorem DR.put {K : PySem.W.Frag} {M : Addr → Prop} {H : Hp} {cvs : List (List Key × V)} {kvs : List (List Key × PyData)} {k : List Key} {v : V} {d : PyData} (h : DR (ix := ix) (K := K) (M := M) (H := H) cvs kvs) (a : At ix K M H v d) : DR (ix := ix) (K := K) (M := M) (H := H) (putK cvs k v) (putD kvs k d) := by
  unfold putK putD
  rw [any_keys h.ks]
  split
  · rename_i z
    clear z
    obtain ⟨h1, h2⟩ := h
    induction cvs generalizing kvs with
    | nil =>
      cases kvs with
      | nil => exact ⟨rfl, .nil⟩
      | cons _ _ => cases h1
    | cons p cvs ih =>
      cases kvs with
      | nil => cases h1
      | cons q kvs =>
        rw [List.map_cons, List.map_cons] at h1 h2
        injection h1 with h3 h4
        cases h2 with
        | cons a1 r1 =>
          obtain ⟨i1, i2⟩ := ih h4 r1
          refine ⟨?_, ?_⟩
          · rw [List.map_cons, List.map_cons, List.map_cons, List.map_cons, i1, h3]
            refine congrArg (· :: _) ?_
            split
            · rfl
            · exact h3
          · rw [List.map_cons, List.map_cons, List.map_cons, List.map_cons, h3]
            refine .cons ?_ i2
            split
            · exact a
            · exact a1
  · refine ⟨?_, ?_⟩
    · rw [List.map_append, List.map_append, h.ks]; rfl
    · rw [List.map_append, List.map_append]
      exact h.at_.append (.one a)
/-- x = {} -/
def sSetT (i : Nat) : SM := fun env => (W.opt (setD i (.t []) env)).bind fun e => W.ret (.nx, e)
theorem set_upd {α : Type} (l : List α) (i : Nat) (a b : α) : (l.set i a).set i b = l.set i b := by
  refine List.ext_getElem? fun j => ?_
  rw [List.getElem?_set, List.getElem?_set, List.getElem?_set, List.length_set]
  split <;> rfl
theorem Rp.setT {K : PySem.W.Frag} {σ : L2.St} {M : Addr → Prop} {H : Hp} {env : En} {Y : Tmp} {i : Nat} {p : Addr} (r : Rp K c σ M H env Y) (hi : i < env.length) (hp : H p = none) :
    Rp K c (σ.set i (some (.ref p))) (fun a => M a ∨ a = p) (upd H p (.dT [])) (env.set i (.t [])) Y := by
  have r1 := (r.tmpNew (vs := []) hp).setL hi .nil
  have hl : i < σ.length := by rw [← r.len]; exact hi
  have e1 : (σ.set i (some (V.ref p))).getD i none = some (.ref p) := by rw [getD_set hl, if_pos rfl]
  have e2 : sAt (env.set i (.l [])) i = .l [] := by rw [sAt_set hi, if_pos rfl]
  obtain ⟨r2, _⟩ := r1.put (i := i) (a := p) (o := .lst []) (o' := .dT []) (os := [p]) (s := .t []) (by rw [List.length_set]; exact hi)
    (by rw [e1, e2]; exact .l upd_same .nil (.inr rfl)) List.mem_cons_self (fun os' h => by
      rw [e1, e2] at h
      cases h
      rfl) upd_same rfl (by rw [e1]; exact .t upd_same .nil rfl (.inr rfl))
  rw [upd_upd, set_upd] at r2
  exact r2
theorem vs_setT {i : Nat} {x : Str} {p p2 pos : Pos} (hN : X.N.Nodup) (hi : X.N[i]? = some x := by rfl) (hx : Loc X.env.scope x := by first | exact Or.inl rfl | exact Or.inr rfl)
    (hs : swapsWith (.Dict [] [] p2) (some (.Name x p)) pos.line X.env = pure false := by rfl) (hf : X.fn x = true ∨ X.env.scope.names.lookup x = some .local := by first | exact .inl rfl | exact .inr rfl | assumption) : VS X c EK (.Assign [.Name x p] (.Dict [] [] p2) pos) (sSetT i) := by
  refine ⟨PS.imp (ps_set hN hi hx pe_dnewT hs hf) fun D σ H ⟨M, env, rp, q⟩ => ?_⟩
  obtain ⟨e, ee, q'⟩ := wopt_run q
  obtain ⟨hi, rfl⟩ := setD_some ee
  intro p hp
  exact q' _ _ _ (.tmpNew hp) (rp.setT hi hp)
/-- the dict of one's own in slot i -/
theorem Rp.ownT {K : PySem.W.Frag} {σ : L2.St} {M : Addr → Prop} {H : Hp} {env : En} {Y : Tmp} {i : Nat} {kvs : List (List Key × PyData)} (r : Rp K c σ M H env Y) (e : sAt env i = .t kvs) : ∃ a cvs, σ[i]? = some (some (.ref a)) ∧ H a = some (.dT cvs) ∧ DR (ix := ix) (K := K) (M := M) (H := H) cvs kvs ∧
    ∀ cvs' kvs', DR (ix := ix) (K := K) (M := M) (H := H) cvs' kvs' → Rp K c σ M (upd H a (.dT cvs')) (env.set i (.t kvs')) Y ∧ Stp M H M (upd H a (.dT cvs')) := by
  obtain ⟨w, h1, h2, h3, h4⟩ := r.own
  have hs := h1 i
  have hi : i < env.length := slot_lt e (fun z => by cases z)
  rw [e] at hs
  generalize hv : σ.getD i none = ov at hs
  generalize ho : w i = os at hs
  cases hs with
  | @t a cvs es _ ea al z m =>
    have hl : cvs.length = es.length := by
      have := al.length
      rw [List.length_map] at this
      exact this
    obtain ⟨z1, z2⟩ := zip_parts hl
    have dr : DR (ix := ix) (K := K) (M := M) (H := H) cvs kvs := ⟨by rw [z, z1], by rw [z, z2]; exact al⟩
    refine ⟨a, cvs, slot_val hv, ea, dr, fun cvs' kvs' d' => ?_⟩
    have stp : Stp M H M (upd H a (.dT cvs')) := .of (Kp.put m ea rfl)
    have hov : SlAt ix K c.S M H (σ.getD i none) (sAt env i) [a] := by
      rw [hv, e]
      exact .t ea al z m
    refine r.put hi hov List.mem_cons_self (fun os' h => ?_) ea rfl ?_
    · rw [hv, e] at h
      cases h
      rfl
    · rw [hv]
      refine .t upd_same (d'.at_.stp stp) ?_ m
      rw [← d'.ks, zip_back]
/-- x[a, ..] = e -/
def keysK (ks : List PyData) : Option (List Key) := if K_ ks.length then keysD ks else none
def sDPut (i : Nat) (mk : Mo (List PyData)) (me : Mo PyData) : SM := fun env => (me env).bind fun r => match sAt r.2 i with
  | .t _ => (mk r.2).bind fun k => match sAt k.2 i with
    | .t kvs => (W.opt (keysK k.1)).bind fun ks => (W.opt (if Lt_ kvs.length then some () else none)).bind fun _ => W.ret (.nx, k.2.set i (.t (putD kvs ks r.1)))
    | _ => W.fail
  | _ => W.fail
theorem keysK_some {ks : List PyData} {k : List Key} (h : keysK ks = some k) : ks.length ≤ 1000 ∧ keysD ks = some k := by
  unfold keysK at h
  split at h
  · rename_i z; exact ⟨z, h⟩
  · cases h
theorem vs_dput {i : Nat} {x : Str} {es : List Expr} {e : Expr} {mk : Mo (List PyData)} {me : Mo PyData} {x1} {p2 p3 tp pos : Pos} {k : Nat} (hr : Room k X.A) (hx : PE X (.Name x p2) (tVar i)) (hk : VA X c EK es mk) (he : VE X c EK e me)
    (hsub : ∀ v, assign (.Subscript (.Name x p2) (.Tuple es x1 p3) tp) X.env v = (do
      let ov ← holding [v] (eval (.Name x p2) X.env)
      let iv ← holding [v, ov] (eval (.Tuple es x1 p3) X.env)
      standAt tp
      holding [v, ov, iv] (setItem ov iv v)
      release [v, ov, iv] []) := by intro _; rfl)
    (hs : swapsWithSole [.Subscript (.Name x p2) (.Tuple es x1 p3) tp] e pos.line X.env = pure false := by rfl) (hw : swappedStores [.Subscript (.Name x p2) (.Tuple es x1 p3) tp] e X.env = pure none := by rfl)
    (h1 : (assignEach [.Subscript (.Name x p2) (.Tuple es x1 p3) tp] X.env).map (·.2) = [assign (.Subscript (.Name x p2) (.Tuple es x1 p3) tp) X.env] := by rfl) : VS X c EK (.Assign [.Subscript (.Name x p2) (.Tuple es x1 p3) tp] e pos) (sDPut i mk me) := by
  refine ⟨PS.imp (ps_asg he.pe (pg_sub hx (pe_tup hk.pa) (set_dict (by have := room65 hr; omega)) hsub) hs hw h1) fun D σ H ⟨M, env, rp, q⟩ => ?_⟩
  refine ⟨M, env, [], rp, (me env).mono (fun r h v M1 H1 s1 rp1 av => ?_) (fun _ h => h) q⟩
  obtain ⟨d, env1⟩ := r
  have rp1 : Rp X.K c σ M1 H1 env1 [] := rp1
  dsimp only at h
  cases es1 : sAt env1 i with
  | t kvs0 =>
    rw [es1] at h
    obtain ⟨a, cvs0, hv, _, _, _⟩ := rp1.ownT es1
    refine ⟨_, hv, ?_⟩
    refine ⟨M1, env1, [], rp1, (mk env1).mono (fun r h vs M2 H2 s2 rp2 al => ?_) (fun _ h => h) h⟩
    obtain ⟨ks, env2⟩ := r
    have rp2 : Rp X.K c σ M2 H2 env2 [] := rp2
    dsimp only at h
    cases es2 : sAt env2 i with
    | t kvs =>
      rw [es2] at h
      obtain ⟨k, ek, h⟩ := wopt_run h
      obtain ⟨_, el, h⟩ := wopt_run h
      split at el
      case isFalse => cases el
      rename_i hz
      obtain ⟨hk1, ek⟩ := keysK_some ek
      have ev := AtL.keys al ek
      subst ev
      refine ⟨by rw [al.length]; exact small _ hk1, fun b hb => ?_⟩
      have kn : Kp MN H2 (upd H2 b (.tup (k.map kV))) := .new hb
      have rp3 := rp2.kp1 kn
      obtain ⟨a', cvs, hv', ea, dr, put⟩ := rp3.ownT es2
      rw [hv] at hv'
      cases hv'
      have s3 : Stp M1 H1 M2 (upd H2 b (.tup (k.map kV))) := s2.trans (.of kn.any)
      obtain ⟨r4, s4⟩ := put (putK cvs k v) (putD kvs k d) (dr.put (av.stp s3))
      exact ⟨a, _, rfl, DPut.t ea upd_same (by rw [dr.len]; exact hz), h σ M2 _ ((s1.trans s3).trans s4) r4⟩
    | _ => rw [es2] at h; exact h.elim
  | _ => rw [es1] at h; exact h.elim
/-! ### d[a, ..] of a dict that is data -/
def kEqL : List PyData → List PyData → Bool
  | [], [] => true
  | a :: as, b :: bs => kEq a b && kEqL as bs
  | _, _ => false
def kEqT : PyData → List PyData → Bool
  | .tuple xs, ks => kEqL xs ks
  | _, _ => false
def dgTD : PyData → List PyData → Option PyData
  | .dict ds, ks => (ds.find? fun p => kEqT p.1 ks).map (·.2)
  | _, _ => none
def eDGet (mo : Mo PyData) (mk : Mo (List PyData)) : Mo PyData := Mo.bind mo fun d => Mo.bind mk fun ks => Mo.lift (W.opt ((keysK ks).bind fun _ => dgTD d ks))
theorem dKey_some {d : PyData} {k : Key} (h : dKey d = some k) : d = kD k := by
  cases d with
  | int i => cases h; rfl
  | str x => cases h; rfl
  | _ => cases h
theorem kEqL_keys : ∀ {ks : List PyData} {k : List Key} (k' : List Key), keysD ks = some k → kEqL (k'.map kD) ks = decide (k' = k)
  | [], k, k', h => by
    cases h
    cases k' with
    | nil => rfl
    | cons _ _ => rfl
  | d :: ds, k, k', h => by
    unfold keysD at h
    obtain ⟨j, e1, h⟩ := Option.bind_eq_some_iff.mp h
    obtain ⟨js, e2, h⟩ := Option.bind_eq_some_iff.mp h
    cases h
    cases k' with
    | nil => rfl
    | cons y r =>
      show (kEq (kD y) d && kEqL (r.map kD) ds) = _
      rw [kEqL_keys r e2, kEq_key y (dKey_some e1), Bool.eq_iff_iff, Bool.and_eq_true, decide_eq_true_eq, decide_eq_true_eq, decide_eq_true_eq]
      exact ⟨fun z => by rw [z.1, z.2], fun z => by injection z with z1 z2; exact ⟨z1, z2⟩⟩
theorem dt_find {K : PySem.W.Frag} {M : Addr → Prop} {H : Hp} {ks : List PyData} {k : List Key} (hk : keysD ks = some k) : ∀ {kvs : List (List Key × V)} {es : List PyData} {d : PyData}, AtL ix K M H (kvs.map (·.2)) es → ((((kvs.map fun p => PyData.tuple (p.1.map kD)).zip es).find? fun p => kEqT p.1 ks).map (·.2)) = some d → ∃ v, valV kvs k = some v ∧ At ix K M H v d
  | [], es, d, h, e => by cases h; cases e
  | p :: kvs, es, d, h, e => by
    rw [List.map_cons] at h
    cases h with
    | @cons _ _ d' ds a r =>
      rw [List.map_cons, List.zip_cons_cons, List.find?_cons] at e
      have e1 : kEqT (PyData.tuple (p.1.map kD)) ks = decide (p.1 = k) := kEqL_keys p.1 hk
      rw [e1] at e
      by_cases q : p.1 = k
      · rw [decide_eq_true q] at e
        cases e
        exact ⟨_, valV_pos q, a⟩
      · rw [decide_eq_false q] at e
        obtain ⟨v, hv, av⟩ := dt_find hk r e
        exact ⟨v, by rw [valV_neg q]; exact hv, av⟩
theorem ve_dgetT {o : Expr} {es : List Expr} {mo : Mo PyData} {mk : Mo (List PyData)} {x1} {p3 pos : Pos} {k : Nat} (hr : Room k X.A) (ho : VE X c EK o mo) (hk : VA X c EK es mk) (hs : NoSl (.Tuple es x1 p3) := by first | trivial | decide | (intro _ _; rfl)) : VE X c EK (.Subscript o (.Tuple es x1 p3) pos) (eDGet mo mk) := by
  refine ⟨PE.imp (pe_dget (by have := room65 hr; omega) ho.pe (pe_tup hk.pa) hs) fun σ H Q ⟨M, env, Y, rp, w⟩ => ?_⟩
  refine seq_V w rp (fun _ h => h) fun d env1 v M1 H1 s1 rp1 a1 q1 => ?_
  refine seq_A q1 rp1 (fun _ h => h) fun ks env2 vs M2 H2 s2 rp2 a2 q2 => ?_
  obtain ⟨r, er, q3⟩ := opt_run q2
  obtain ⟨k, ek, er⟩ := Option.bind_eq_some_iff.mp er
  obtain ⟨hk1, ek⟩ := keysK_some ek
  have ev := AtL.keys a2 ek
  subst ev
  refine ⟨by rw [a2.length]; exact small _ hk1, fun b hb => ?_⟩
  have kn : Kp MN H2 (upd H2 b (.tup (k.map kV))) := .new hb
  have rp3 := rp2.kp1 kn
  have s3 : Stp M1 H1 M2 (upd H2 b (.tup (k.map kV))) := s2.trans (.of kn.any)
  have a1' := a1.stp s3
  cases a1' with
  | @dT a kvs es ds rd nm al ez =>
    subst ez
    obtain ⟨v', hv, av⟩ := dt_find ek al er
    exact ⟨a, v', rfl, .inr ⟨kvs, k, b, .inl rd, rfl, upd_same, hv.symm⟩, q3 _ M2 _ (s1.trans s3) rp3 av⟩
  | @dK a kvs es ds rd nm al ez =>
    subst ez
    exfalso
    have er' : ((((kvs.map fun p => kD p.1).zip es).find? fun p => kEqT p.1 ks).map (·.2)) = some r := er
    have : (((kvs.map fun p => kD p.1).zip es).find? fun p => kEqT p.1 ks) = none := by
      rw [List.find?_eq_none]
      intro p hp
      obtain ⟨h1, _⟩ := List.of_mem_zip hp
      obtain ⟨q, _, eq⟩ := List.mem_map.mp h1
      rw [← eq]
      cases q.1 <;> exact Bool.false_ne_true
    rw [this] at er'
    cases er'
  | _ => cases er
end
end VL

set_option Elab.async false
set_option linter.all false
set_option maxRecDepth 100000
set_option maxHeartbeats 1000000
/-! The value layer: all and any of generator expressions of two clauses. -/
namespace VL
noncomputable section
open PySem PySem.Spec PyProof.Rows L2 GxR GA KR GenW
variable {T : List Addr} {ix : Bool} {X : Cx} {c : Ctx T ix} {EK : XK}
def genW2 (stop : Bool) (vs vs1 : List Nat) (g : GF) (mi1 : Mo (List PyData)) (g1 : GF) (m : Mo PyData) : List PyData → En → W (Bool × En)
  | [], env => W.ret (!stop, env)
  | x :: xs, env => (W.opt (g x (wipeE vs env))).bind fun e => (mi1 e).nox.bind fun r => (W.opt (if K_ r.1.length then some () else none)).bind fun _ =>
    (genW stop vs1 g1 m r.1 r.2).bind fun q => if q.1 = stop then W.ret (stop, q.2) else genW2 stop vs vs1 g mi1 g1 m xs q.2
def genM2 (stop : Bool) (vs vs1 : List Nat) (mi : Mo (List PyData)) (g : GF) (mi1 : Mo (List PyData)) (g1 : GF) (m : Mo PyData) : Mo PyData := fun env => (mi env).bind fun r => (W.opt (if vs.all (fun j => plainS (sAt r.2 j)) = true then some () else none)).bind fun _ =>
  (genW2 stop vs vs1 g mi1 g1 m r.1 r.2).bind fun q => W.ret (.bool q.1, restE r.2 vs q.2)
theorem woptr {α : Type} {o : Option α} {R : α → Prop} {E : Er → Prop} (h : (W.opt o).run R E) : ∃ d, o = some d ∧ R d := by
  cases o with
  | none => exact h.elim
  | some d => exact ⟨d, rfl, h⟩
theorem wipeE_in {vs vs1 : List Nat} {env : En} (hv : ∀ i ∈ vs1, i ∈ vs) : wipeE vs (wipeE vs1 env) = wipeE vs env := by
  refine En.ext (by rw [wipeE_len, wipeE_len, wipeE_len]) fun j => ?_
  rw [sAt_wipe, sAt_wipe, sAt_wipe]
  by_cases h : j ∈ vs
  · rw [if_pos h, if_pos h]
  · rw [if_neg h, if_neg h, if_neg fun z => h (hv j z)]
theorem wipe_in {vs vs1 : List Nat} {σ : L2.St} (hv : ∀ i ∈ vs1, i ∈ vs) : L2.wipe (L2.wipe σ vs1) vs = L2.wipe σ vs :=
  wipe_same (vs := vs) (wipe_length σ vs1) fun j hj => by rw [getD_wipe, if_neg fun z => hj (hv j z)]
section
variable {elt tg iter tg1 iter1 : Expr} {scope : Scope} {own : List (Str × Nat)} {p pos gpos : Pos} {mi mi1 : Mo (List PyData)} {t t1 : TG} {is is1 : List Nat} {g g1 : GF} {me : Mo PyData} {cd P : Addr} {k : Nat}
theorem gen2_sound {stop : Bool} {σ : L2.St} {M : Addr → Prop} {H : Hp} {env : En} {Y : Tmp} {Q : VK} {vs vs1 : List Nat} (hP : P ∈ T) (gs : GSem X.K c t is g) (his : ∀ i ∈ is, i ∈ vs) (gs1 : GSem X.K c t1 is1 g1) (his1 : ∀ i ∈ is1, i ∈ vs1) (hv : ∀ i ∈ vs1, i ∈ vs) (rp : Rp X.K c σ M H env Y)
    (q : (genM2 stop vs vs1 mi g mi1 g1 me env).run (fun r => ∀ v M' H', Stp M H M' H' → Rp X.K c σ M' H' r.2 Y → At ix X.K M' H' v r.1 → Q v H') (EX X.mg c EK)) : tGen2 stop P (tI X.K X.mg c EK mi) t (tI X.K X.mg c E0 mi1) t1 (tV X.K X.mg c E0 me) vs vs1 σ H Q := by
  refine ⟨M, env, Y, rp, (mi env).mono (fun r h M1 H1 J s1 rp1 jok => ⟨rp1.tb P hP, fun H2 hT => ?_⟩) (fun _ h => h) q⟩
  obtain ⟨xs, env1⟩ := r
  have rp1 : Rp X.K c σ M1 H1 env1 Y := rp1
  obtain ⟨u, eu, h⟩ := wopt_run h
  split at eu
  case isFalse => cases eu
  rename_i hc
  have hpl : ∀ j ∈ vs, plainS (sAt env1 j) = true := fun j hj => (List.all_eq_true.mp hc) j hj
  have kT : Kp MN H1 H2 := Kp.tabbed (rp1.tb P hP) hT
  have sT : Stp M1 H1 M1 H2 := .of kT.any
  refine ⟨fun i m H' => m = (xs.length - i) * 1002 ∧ i ≤ xs.length ∧ ∃ M' env', Stp M1 H1 M' H' ∧ Rp X.K c (wipe σ vs) M' H' (wipeE vs env') Y ∧
    (genW2 stop vs vs1 g mi1 g1 me (xs.drop i) env').run (fun q => ∀ v M' H', Stp M H M' H' → Rp X.K c σ M' H' (restE env1 vs q.2) Y → At ix X.K M' H' v (.bool q.1) → Q v H') (EX X.mg c EK), ⟨_, rfl, Nat.zero_le _, M1, env1, sT, (rp1.kp1 kT).wipe vs, h⟩, ?_⟩
  rintro i m H' ⟨rfl, hi', M', env', s', rp', q'⟩
  have sM := s1.trans s'
  have hi' : i ≤ xs.length := hi'
  obtain ⟨j1, j2⟩ := jok M' H' s'
  have fin : ∀ {M3 : Addr → Prop} {H3 : Hp} {σ3 : L2.St} {e3 : En}, Stp M1 H1 M3 H3 → Rp X.K c (wipe σ vs) M3 H3 (wipeE vs e3) Y → Rp X.K c σ M3 H3 (restE env1 vs e3) Y := fun {M3 H3 σ3 e3} s r => by
    have := Rp.unwipe rp1 s r hpl
    rw [restE_wipe vs rp1 r (wipe_length σ vs)] at this
    exact this
  by_cases hlt : i < xs.length
  · have e1 : xs.drop i = xs[i] :: xs.drop (i + 1) := List.drop_eq_getElem_cons hlt
    rw [e1] at q'
    obtain ⟨g1', g2⟩ := j1 i xs[i] (List.getElem?_eq_getElem hlt)
    refine .inr ⟨g1', fun x H2 yy => ?_⟩
    obtain ⟨k2, a2⟩ := g2 x H2 yy
    have s2 : Stp M' H' M' H2 := .of k2.any
    obtain ⟨e, ee, q2⟩ := wopt_run q'
    refine gs _ M' H2 _ _ x xs[i] e _ (rp'.kp1 k2) a2 ee fun σ3 rp3 l3 o3 => ?_
    have hw : wipe σ3 vs = wipe σ vs := wipe_same (vs := vs) (l3.trans (wipe_length σ vs)) (fun j hj => (o3 j fun z => hj (his j z)).trans (by rw [getD_wipe, if_neg hj]))
    refine ⟨hw, ?_⟩
    refine ⟨M', e, Y, rp3, (mi1 e).mono (fun r hr M4 H4 J1 s4 rp4 jok1 => ?_) (fun _ z => z.elim) q2⟩
    obtain ⟨xs1, e4⟩ := r
    have rp4 : Rp X.K c σ3 M4 H4 e4 Y := rp4
    obtain ⟨u4, ek, hr⟩ := wopt_run hr
    split at ek
    case isFalse => cases ek
    rename_i hk
    have hk : xs1.length ≤ 1000 := hk
    have s14 : Stp M1 H1 M4 H4 := (s'.trans s2).trans s4
    refine ⟨fun j kk H' => kk = (xs.length - i - 1) * 1002 + (xs1.length - j) ∧ j ≤ xs1.length ∧ ∃ M5 e5, Stp M4 H4 M5 H' ∧ Rp X.K c (wipe σ3 vs1) M5 H' (wipeE vs1 e5) Y ∧
      ((genW stop vs1 g1 me (xs1.drop j) e5).bind fun q => if q.1 = stop then W.ret (stop, q.2) else genW2 stop vs vs1 g mi1 g1 me (xs.drop (i + 1)) q.2).run (fun q => ∀ v M' H', Stp M H M' H' → Rp X.K c σ M' H' (restE env1 vs q.2) Y → At ix X.K M' H' v (.bool q.1) → Q v H') (EX X.mg c EK),
      ⟨_, rfl, Nat.zero_le _, M4, e4, .refl, rp4.wipe vs1, hr⟩, ?_, ?_⟩
    · rintro j kk H5 ⟨hkk, _⟩
      have : (xs.length - i) * 1002 = (xs.length - i - 1) * 1002 + 1002 := by
        have : xs.length - i = (xs.length - i - 1) + 1 := by omega
        rw [this, Nat.add_mul]
        omega
      omega
    rintro j kk H5 ⟨rfl, hj, M5, e5, s5, rp5, q5⟩
    obtain ⟨k1, k2'⟩ := jok1 M5 H5 s5
    have hj : j ≤ xs1.length := hj
    by_cases hlt1 : j < xs1.length
    · have e6 : xs1.drop j = xs1[j] :: xs1.drop (j + 1) := List.drop_eq_getElem_cons hlt1
      rw [e6] at q5
      obtain ⟨g6, g7⟩ := k1 j xs1[j] (List.getElem?_eq_getElem hlt1)
      refine .inr ⟨g6, fun y H6 yy => ?_⟩
      obtain ⟨k6, a6⟩ := g7 y H6 yy
      have s6 : Stp M5 H5 M5 H6 := .of k6.any
      obtain ⟨e7, ee7, q7⟩ := woptr (o := g1 xs1[j] (wipeE vs1 e5)) q5
      refine gs1 _ M5 H6 _ _ y xs1[j] e7 _ (rp5.kp1 k6) a6 ee7 fun σ7 rp7 l7 o7 => ?_
      have hw1 : wipe σ7 vs1 = wipe σ3 vs1 := wipe_same (vs := vs1) (l7.trans (wipe_length σ3 vs1)) (fun j hj => (o7 j fun z => hj (his1 j z)).trans (by rw [getD_wipe, if_neg hj]))
      refine ⟨hw1, ?_⟩
      refine ⟨M5, e7, Y, rp7, (me e7).mono (fun r hr v M8 H8 s8 rp8 a8 => ?_) (fun _ z => z.elim) q7⟩
      obtain ⟨d, e8⟩ := r
      have rp8 : Rp X.K c σ7 M8 H8 e8 Y := rp8
      have s18 : Stp M1 H1 M8 H8 := ((s14.trans s5).trans s6).trans s8
      have hw8 : wipe σ7 vs = wipe σ vs := by rw [← wipe_in (σ := σ7) hv, hw1, wipe_in hv, hw]
      have rw8 := rp8.wipe vs
      rw [hw8] at rw8
      have rv8 := rp8.wipe vs1
      rw [hw1] at rv8
      cases a8 with
      | bl b =>
        refine ⟨b, rfl, fun eb => ?_, fun eb => ?_⟩
        · subst eb
          have hr : (W.bind (if b = b then W.ret (b, e8) else genW b vs1 g1 me (xs1.drop (j + 1)) e8) fun q => if q.1 = b then W.ret (b, q.2) else genW2 b vs vs1 g mi1 g1 me (xs.drop (i + 1)) q.2).run _ _ := hr
          rw [if_pos rfl] at hr
          have hr : (if b = b then W.ret (b, e8) else genW2 b vs vs1 g mi1 g1 me (xs.drop (i + 1)) e8).run _ _ := hr
          rw [if_pos rfl] at hr
          exact hr _ M8 H8 (s1.trans s18) (fin (σ3 := σ7) s18 rw8) (.bl _)
        · have nb : b ≠ stop := fun z => by rw [z] at eb; cases stop <;> cases eb
          have hr : (W.bind (if b = stop then W.ret (stop, e8) else genW stop vs1 g1 me (xs1.drop (j + 1)) e8) fun q => if q.1 = stop then W.ret (stop, q.2) else genW2 stop vs vs1 g mi1 g1 me (xs.drop (i + 1)) q.2).run _ _ := hr
          rw [if_neg nb] at hr
          exact ⟨(xs.length - i - 1) * 1002 + (xs1.length - (j + 1)), by omega, rfl, hlt1, M8, e8, (s5.trans s6).trans s8, rv8, hr⟩
      | _ => exact hr.elim
    · have e : j = xs1.length := by omega
      subst e
      rw [List.drop_length] at q5
      have ne : ¬ ((!stop) = stop) := by cases stop <;> decide
      have q5 : (if (!stop) = stop then W.ret (stop, e5) else genW2 stop vs vs1 g mi1 g1 me (xs.drop (i + 1)) e5).run _ _ := q5
      rw [if_neg ne] at q5
      have r9 := rp5.wipe vs
      rw [wipe_in hv, wipeE_in hv, hw] at r9
      exact .inl ⟨k2' _ (Nat.le_refl _), (xs.length - (i + 1)) * 1002, by rw [Nat.sub_sub]; omega, rfl, hlt, M5, e5, s14.trans s5, r9, q5⟩
  · have e : i = xs.length := by omega
    subst e
    rw [List.drop_length] at q'
    exact .inl ⟨j2 _ (Nat.le_refl _), q' _ M' H' sM (fin (σ3 := σ) s' rp') (.bl _)⟩
theorem ve_all2 {vs1 : List Nat} (hr : Room (k + 1) X.A) (hgl : Gl X "all") (hm : X.mg "all" = none) (TB : TabB X.base X.mg cd P) (hP : P ∈ T) (hN : X.N.Nodup) (hi : VI X c EK tg iter mi) (ok : GOk X.N X.env.scope scope own) (hv : ∀ i ∈ vs1, i ∈ own.map (·.2)) (gs : GSem X.K c t is g) (his : ∀ i ∈ is, i ∈ own.map (·.2))
    (hg : ∀ (A' : Around) (s : Shared) (H : Hp) (C : Addr) (code : Value) (fp : List Addr), PG (gcx X A' s H (genEnv scope (cloFrom X.env.cells scope.names []) C code builtinsNs X.env) fp) tg t)
    (hi1 : ∀ (A' : Around) (s : Shared) (H : Hp) (C : Addr) (code : Value) (fp : List Addr), Room k A' → VI (gcx X A' s H (genEnv scope (cloFrom X.env.cells scope.names []) C code builtinsNs X.env) fp) c E0 tg1 iter1 mi1)
    (gs1 : GSem X.K c t1 is1 g1) (his1 : ∀ i ∈ is1, i ∈ vs1)
    (hg1 : ∀ (A' : Around) (s : Shared) (H : Hp) (C : Addr) (code : Value) (fp : List Addr), PG (gcx X A' s H (genEnv scope (cloFrom X.env.cells scope.names []) C code builtinsNs X.env) fp) tg1 t1)
    (he : ∀ (A' : Around) (s : Shared) (H : Hp) (C : Addr) (code : Value) (fp : List Addr), Room k A' → VE (gcx X A' s H (genEnv scope (cloFrom X.env.cells scope.names []) C code builtinsNs X.env) fp) c E0 elt me) (hcode : X.env.code = .ref cd := by rfl)
    (hs1 : ∀ env x, foldedSetIterable iter1 env x = pure x := by intro _ _; rfl) (hs : ∀ v, genFold iter X.env v = pure v := by intro _; rfl)
    (hst : starEach [ge2 elt tg iter tg1 iter1 scope gpos] X.env = (false, eval (ge2 elt tg iter tg1 iter1 scope gpos) X.env) :: starEach [] X.env := by rfl) :
    VE X c EK (.Call (.Name "all" p) [ge2 elt tg iter tg1 iter1 scope gpos] [] pos) (genM2 false (own.map (·.2)) vs1 mi g mi1 g1 me) :=
  ⟨PE.imp (pe_all2 hr hgl hm TB hcode hN ok hi.pi hv (fun A' s H C code fp r => (hi1 A' s H C code fp r).pi) hg1 hs1 hg (fun A' s H C code fp r => (he A' s H C code fp r).pe) hs hst) fun σ H Q ⟨M, env, Y, rp, q⟩ => gen2_sound hP gs his gs1 his1 hv rp q⟩
theorem ve_any2 {vs1 : List Nat} (hr : Room (k + 1) X.A) (hgl : Gl X "any") (hm : X.mg "any" = none) (TB : TabB X.base X.mg cd P) (hP : P ∈ T) (hN : X.N.Nodup) (hi : VI X c EK tg iter mi) (ok : GOk X.N X.env.scope scope own) (hv : ∀ i ∈ vs1, i ∈ own.map (·.2)) (gs : GSem X.K c t is g) (his : ∀ i ∈ is, i ∈ own.map (·.2))
    (hg : ∀ (A' : Around) (s : Shared) (H : Hp) (C : Addr) (code : Value) (fp : List Addr), PG (gcx X A' s H (genEnv scope (cloFrom X.env.cells scope.names []) C code builtinsNs X.env) fp) tg t)
    (hi1 : ∀ (A' : Around) (s : Shared) (H : Hp) (C : Addr) (code : Value) (fp : List Addr), Room k A' → VI (gcx X A' s H (genEnv scope (cloFrom X.env.cells scope.names []) C code builtinsNs X.env) fp) c E0 tg1 iter1 mi1)
    (gs1 : GSem X.K c t1 is1 g1) (his1 : ∀ i ∈ is1, i ∈ vs1)
    (hg1 : ∀ (A' : Around) (s : Shared) (H : Hp) (C : Addr) (code : Value) (fp : List Addr), PG (gcx X A' s H (genEnv scope (cloFrom X.env.cells scope.names []) C code builtinsNs X.env) fp) tg1 t1)
    (he : ∀ (A' : Around) (s : Shared) (H : Hp) (C : Addr) (code : Value) (fp : List Addr), Room k A' → VE (gcx X A' s H (genEnv scope (cloFrom X.env.cells scope.names []) C code builtinsNs X.env) fp) c E0 elt me) (hcode : X.env.code = .ref cd := by rfl)
    (hs1 : ∀ env x, foldedSetIterable iter1 env x = pure x := by intro _ _; rfl) (hs : ∀ v, genFold iter X.env v = pure v := by intro _; rfl)
    (hst : starEach [ge2 elt tg iter tg1 iter1 scope gpos] X.env = (false, eval (ge2 elt tg iter tg1 iter1 scope gpos) X.env) :: starEach [] X.env := by rfl) :
    VE X c EK (.Call (.Name "any" p) [ge2 elt tg iter tg1 iter1 scope gpos] [] pos) (genM2 true (own.map (·.2)) vs1 mi g mi1 g1 me) :=
  ⟨PE.imp (pe_any2 hr hgl hm TB hcode hN ok hi.pi hv (fun A' s H C code fp r => (hi1 A' s H C code fp r).pi) hg1 hs1 hg (fun A' s H C code fp r => (he A' s H C code fp r).pe) hs hst) fun σ H Q ⟨M, env, Y, rp, q⟩ => gen2_sound hP gs his gs1 his1 hv rp q⟩
end
end
end VL


set_option Elab.async false
set_option linter.all false
set_option maxRecDepth 100000
/-! What the defs of k24_ties_and_hindrances compute, read from their texts. -/
namespace VM
open PySem VL
noncomputable section
/-- require -/
def b_require  : SM := (sIf (tNotM (toT (eVar 0)))
  (sRaise "BadValue" "name" (eVar 1))
  sNil)
def m_require : List PyData → W PyData := callM 2 b_require
/-- is_integer -/
def b_is_integer  : SM := (sRet (eAnd (op1 (isiD "int") (eVar 0)) (op1 notD (op1 (isiD "bool") (eVar 0)))))
def m_is_integer : List PyData → W PyData := callM 1 b_is_integer
/-- is_size -/
def b_is_size  : SM := (sRet (eAnd (eCall m_is_integer (aCons (eVar 0) (Mo.ret []))) (eChain (fun i j => decide (i ≤ j)) (fun i j => decide (i ≤ j)) (Mo.ret (.int 1)) (eVar 0) (Mo.ret (.int 7)))))
def m_is_size : List PyData → W PyData := callM 1 b_is_size
/-- is_index -/
def b_is_index  : SM := (sRet (eAnd (eCall m_is_integer (aCons (eVar 0) (Mo.ret []))) (eChain (fun i j => decide (i ≤ j)) (fun i j => decide (i < j)) (Mo.ret (.int 0)) (eVar 0) (eVar 1))))
def m_is_index : List PyData → W PyData := callM 2 b_is_index
/-- common -/
def b_common  : SM := (sRet (opL tupleD (aCons (eList (lcM [2] (toI (eVar 0)) (gN 2) (op2T (inD false) (eVar 2) (eVar 1)) (eVar 2))) (Mo.ret []))))
def m_common : List PyData → W PyData := callM 3 b_common
/-- is_rule -/
def b_is_rule  : SM := (sSeq (sIf (tOrM (tNotM (toT (op1 (isiD "tuple") (eVar 0)))) (op2T neD (opL lenD (aCons (eVar 0) (Mo.ret []))) (Mo.ret (.int 3))))
  (sRet (Mo.ret (.bool false)))
  sNil)
  (sSeq (sAsg (gTp 3 (gCs (gN 2) (gCs (gN 3) (gCs (gN 4) gNl)))) (eVar 0))
  (sSeq (sIf (tOrM (tNotM (toT (eCall m_is_index (aCons (eVar 2) (aCons (eVar 1) (Mo.ret [])))))) (tOrM (tNotM (toT (eCall m_is_index (aCons (eVar 4) (aCons (eVar 1) (Mo.ret [])))))) (op2T eqD (eVar 2) (eVar 4))))
  (sRet (Mo.ret (.bool false)))
  sNil)
  (sRet (eAnd (op1 (isiD "tuple") (eVar 3)) (eAnd (op2 gtD (opL lenD (aCons (eVar 3) (Mo.ret []))) (Mo.ret (.int 0))) (op2 eqD (eVar 3) (eCall m_common (aCons (Mo.ret (.tuple [(.str "before"), (.str "beside"), (.str "after")])) (aCons (eVar 3) (Mo.ret [])))))))))))
def m_is_rule : List PyData → W PyData := callM 5 b_is_rule
/-- is_problem -/
def b_is_problem  : SM := (sSeq (sIf (tOrM (tNotM (toT (op1 (isiD "tuple") (eVar 0)))) (op2T neD (opL lenD (aCons (eVar 0) (Mo.ret []))) (Mo.ret (.int 2))))
  (sRet (Mo.ret (.bool false)))
  sNil)
  (sSeq (sAsg (gTp 2 (gCs (gN 1) (gCs (gN 2) gNl))) (eVar 0))
  (sSeq (sIf (tOrM (tNotM (toT (eCall m_is_size (aCons (eVar 1) (Mo.ret []))))) (tOrM (tNotM (toT (op1 (isiD "tuple") (eVar 2)))) (op2T gtD (opL lenD (aCons (eVar 2) (Mo.ret []))) (Mo.ret (.int 20)))))
  (sRet (Mo.ret (.bool false)))
  sNil)
  (sRet (genM false [3] (toI (eVar 2)) (gN 3) (eCall m_is_rule (aCons (eVar 3) (aCons (eVar 1) (Mo.ret [])))))))))
def m_is_problem : List PyData → W PyData := callM 4 b_is_problem
/-- check_problem -/
def b_check_problem  : SM := (sExpr (eCall m_require (aCons (eCall m_is_problem (aCons (eVar 0) (Mo.ret []))) (aCons (Mo.ret (.str "problem")) (Mo.ret [])))))
def m_check_problem : List PyData → W PyData := callM 1 b_check_problem
/-- check_pair -/
def b_check_pair  : SM := (sSeq (sExpr (eCall m_check_problem (aCons (eVar 0) (Mo.ret []))))
  (sSeq (sExpr (eCall m_require (aCons (eCall m_is_index (aCons (eVar 1) (aCons (op2 ixD (eVar 0) (Mo.ret (.int 0))) (Mo.ret [])))) (aCons (Mo.ret (.str "first")) (Mo.ret [])))))
  (sExpr (eCall m_require (aCons (eAnd (eCall m_is_index (aCons (eVar 2) (aCons (op2 ixD (eVar 0) (Mo.ret (.int 0))) (Mo.ret [])))) (op2 neD (eVar 2) (eVar 1))) (aCons (Mo.ret (.str "second")) (Mo.ret [])))))))
def m_check_pair : List PyData → W PyData := callM 3 b_check_pair
/-- opposites_of -/
def b_opposites_of  : SM := (sRet (opL tupleD (aCons (eList (lcM [1] (toI (Mo.ret (.tuple [(.str "before"), (.str "beside"), (.str "after")]))) (gN 1) (op2T (inD false) (op1 (kdD [("before", "after"), ("beside", "beside"), ("after", "before")]) (eVar 1)) (eVar 0)) (eVar 1))) (Mo.ret []))))
def m_opposites_of : List PyData → W PyData := callM 2 b_opposites_of
/-- choices_of: loop 1 -/
def l1_choices_of  : SM := (sSeq (sPut2 4 (pVar 5) (pVar 7) (eCall m_common (aCons (bIx2 4 (pVar 5) (pVar 7)) (aCons (eVar 6) (Mo.ret [])))))
  (sPut2 4 (pVar 7) (pVar 5) (eCall m_opposites_of (aCons (bIx2 4 (pVar 5) (pVar 7)) (Mo.ret [])))))
/-- choices_of -/
def b_choices_of  : SM := (sSeq (sAsg (gTp 2 (gCs (gN 1) (gCs (gN 2) gNl))) (eVar 0))
  (sSeq (sSetLL 4 (lcFM [3] (opF rng1D (aCons (eVar 1) (Mo.ret []))) (gN 3) (op2F repD (eList (opF lstD (aCons (Mo.ret (.tuple [(.str "before"), (.str "beside"), (.str "after")])) (Mo.ret [])))) (eVar 1))))
  (sSeq (sFor (toI (eVar 2)) (gTp 3 (gCs (gN 5) (gCs (gN 6) (gCs (gN 7) gNl))))
  (l1_choices_of))
  (sRet (eVar 4)))))
def m_choices_of : List PyData → W PyData := callM 8 b_choices_of
/-- is_tied -/
def b_is_tied  : SM := (sSeq (sExpr (eCall m_check_pair (aCons (eVar 0) (aCons (eVar 1) (aCons (eVar 2) (Mo.ret []))))))
  (sRet (op2 (inD true) (Mo.ret (.str "beside")) (op2 ixD (op2 ixD (eCall m_choices_of (aCons (eVar 0) (Mo.ret []))) (eVar 1)) (eVar 2)))))
def m_is_tied : List PyData → W PyData := callM 3 b_is_tied
/-- hinders -/
def b_hinders  : SM := (sSeq (sExpr (eCall m_check_pair (aCons (eVar 0) (aCons (eVar 1) (aCons (eVar 2) (Mo.ret []))))))
  (sRet (op2 (inD true) (Mo.ret (.str "before")) (op2 ixD (op2 ixD (eCall m_choices_of (aCons (eVar 0) (Mo.ret []))) (eVar 1)) (eVar 2)))))
def m_hinders : List PyData → W PyData := callM 3 b_hinders
/-- _law_is_integer -/
def b__law_is_integer  : SM := (sRet (eAnd (op1 (isiD "int") (eVar 0)) (op1 notD (op1 (isiD "bool") (eVar 0)))))
def m__law_is_integer : List PyData → W PyData := callM 1 b__law_is_integer
/-- _law_equal -/
def b__law_equal (rec__law_equal : List PyData → W PyData) : SM := (sSeq (sIf (tB1 (op1 (isND false) (eVar 1)))
  (sRet (op1 (isND false) (eVar 0)))
  sNil)
  (sSeq (sIf (toT (op1 (isiD "bool") (eVar 1)))
  (sRet (eAnd (op1 (isiD "bool") (eVar 0)) (op2 eqD (eVar 0) (eVar 1))))
  sNil)
  (sSeq (sIf (toT (op1 (isiD "int") (eVar 1)))
  (sRet (eAnd (eCall m__law_is_integer (aCons (eVar 0) (Mo.ret []))) (op2 eqD (eVar 0) (eVar 1))))
  sNil)
  (sSeq (sIf (toT (op1 (isiD "str") (eVar 1)))
  (sRet (eAnd (op1 (isiD "str") (eVar 0)) (op2 eqD (eVar 0) (eVar 1))))
  sNil)
  (sSeq (sIf (tAndM (toT (op1 (isiD "tuple") (eVar 1))) (tNotM (toT (op1 (isiD "tuple") (eVar 0)))))
  (sRet (Mo.ret (.bool false)))
  sNil)
  (sSeq (sIf (tAndM (toT (op1 (isiD "list") (eVar 1))) (tNotM (toT (op1 (isiD "list") (eVar 0)))))
  (sRet (Mo.ret (.bool false)))
  sNil)
  (sSeq (sIf (op2T neD (opL lenD (aCons (eVar 0) (Mo.ret []))) (opL lenD (aCons (eVar 1) (Mo.ret []))))
  (sRet (Mo.ret (.bool false)))
  sNil)
  (sRet (opL allD (aCons (eList (lcM [2] (opF rng1D (aCons (opL lenD (aCons (eVar 1) (Mo.ret []))) (Mo.ret []))) (gN 2) tTr (eCall rec__law_equal (aCons (op2 ixD (eVar 0) (eVar 2)) (aCons (op2 ixD (eVar 1) (eVar 2)) (Mo.ret [])))))) (Mo.ret [])))))))))))
def m__law_equal_n : Nat → List PyData → W PyData
  | 0 => fun _ => W.fail
  | n + 1 => callM 3 (b__law_equal (m__law_equal_n n))
def m__law_equal : List PyData → W PyData := m__law_equal_n 20
/-- _law_problem: loop 1 -/
def l1__law_problem  : SM := (sSeq (sSet 7 (eCallS 0 mNext (aCons (eVar 4) (Mo.ret []))))
  (sSeq (sSet 8 (op2 modD (op2 addD (op2 addD (eVar 7) (Mo.ret (.int 1))) (eCallS 0 mNext (aCons (op2 subD (eVar 4) (Mo.ret (.int 1))) (Mo.ret [])))) (eVar 4)))
  (sSeq (sSet 9 (op2 addD (Mo.ret (.int 1)) (eCallS 0 mNext (aCons (Mo.ret (.int 7)) (Mo.ret [])))))
  (sSeq (sSet 10 (eList (opF lstD (aCons (Mo.ret (.str "before")) (aCons (Mo.ret (.str "beside")) (aCons (Mo.ret (.str "after")) (Mo.ret [])))))))
  (sSeq (sSet 12 (opL tupleD (aCons (eList (lcM [11] (opF rng1D (aCons (Mo.ret (.int 3)) (Mo.ret []))) (gN 11) (op2T eqD (op2 modD (op2 fdivD (eVar 9) (op2 ixD (eList (opF lstD (aCons (Mo.ret (.int 1)) (aCons (Mo.ret (.int 2)) (aCons (Mo.ret (.int 4)) (Mo.ret [])))))) (eVar 11))) (Mo.ret (.int 2))) (Mo.ret (.int 1))) (op2 ixD (eVar 10) (eVar 11)))) (Mo.ret []))))
  (sExpr (eAppend 5 (opL tupD (aCons (eVar 7) (aCons (eVar 12) (aCons (eVar 8) (Mo.ret []))))))))))))
/-- _law_problem -/
def b__law_problem  : SM := (sSeq (sSet 4 (op2 addD (eVar 1) (eCallS 0 mNext (aCons (op2 addD (op2 subD (eVar 2) (eVar 1)) (Mo.ret (.int 1))) (Mo.ret [])))))
  (sSeq (sSetL 5 (opF lstD (Mo.ret [])))
  (sSeq (sIf (op2T gtD (eVar 4) (Mo.ret (.int 1)))
  (sFor (opF rng1D (aCons (eCallS 0 mNext (aCons (op2 addD (eVar 3) (Mo.ret (.int 1))) (Mo.ret []))) (Mo.ret []))) (gN 6)
  (l1__law_problem))
  sNil)
  (sRet (opL tupD (aCons (eVar 4) (aCons (bTup 5) (Mo.ret []))))))))
def m__law_problem : List PyData → W PyData := callMS 13 b__law_problem
/-- _law_allowed: loop 1 -/
def l1__law_allowed  : SM := (sSeq (sIf (op2T eqD (opL tupD (aCons (eVar 5) (aCons (eVar 7) (Mo.ret [])))) (opL tupD (aCons (eVar 1) (aCons (eVar 2) (Mo.ret [])))))
  (sSet 4 (eList (lcM [8] (toI (eVar 4)) (gN 8) (op2T (inD false) (eVar 8) (eVar 6)) (eVar 8))))
  sNil)
  (sIf (op2T eqD (opL tupD (aCons (eVar 5) (aCons (eVar 7) (Mo.ret [])))) (opL tupD (aCons (eVar 2) (aCons (eVar 1) (Mo.ret [])))))
  (sSet 4 (eList (lcM [8] (toI (eVar 4)) (gN 8) (op2T (inD false) (op2 dgD (eVar 3) (eVar 8)) (eVar 6)) (eVar 8))))
  sNil))
/-- _law_allowed -/
def b__law_allowed  : SM := (sSeq (sSet 3 (Mo.ret (.dict [(.str "before", .str "after"), (.str "beside", .str "beside"), (.str "after", .str "before")])))
  (sSeq (sSet 4 (eList (opF lstD (aCons (Mo.ret (.str "before")) (aCons (Mo.ret (.str "beside")) (aCons (Mo.ret (.str "after")) (Mo.ret [])))))))
  (sSeq (sFor (toI (op2 ixD (eVar 0) (Mo.ret (.int 1)))) (gTp 3 (gCs (gN 5) (gCs (gN 6) (gCs (gN 7) gNl))))
  (l1__law_allowed))
  (sRet (eVar 4)))))
def m__law_allowed : List PyData → W PyData := callM 9 b__law_allowed
end
end VM

set_option Elab.async false
set_option linter.all false
set_option maxRecDepth 100000
/-! What the defs of k25_reached_tasks compute, read from their texts. -/
namespace VM
open PySem VL
noncomputable section
/-- are_indexes -/
def b_are_indexes  : SM := (sRet (eAnd (op1 (isiD "tuple") (eVar 0)) (genM false [2] (toI (eVar 0)) (gN 2) (eCall m_is_index (aCons (eVar 2) (aCons (eVar 1) (Mo.ret [])))))))
def m_are_indexes : List PyData → W PyData := callM 3 b_are_indexes
/-- is_set -/
def b_is_set  : SM := (sRet (eAnd (eCall m_are_indexes (aCons (eVar 0) (aCons (eVar 1) (Mo.ret [])))) (op2 eqD (eList (opF listD (aCons (eVar 0) (Mo.ret [])))) (eList (fSortSet (eVar 0))))))
def m_is_set : List PyData → W PyData := callM 2 b_is_set
/-- check_chosen -/
def b_check_chosen  : SM := (sSeq (sExpr (eCall m_check_problem (aCons (eVar 0) (Mo.ret []))))
  (sExpr (eCall m_require (aCons (eAnd (eCall m_is_set (aCons (eVar 1) (aCons (op2 ixD (eVar 0) (Mo.ret (.int 0))) (Mo.ret [])))) (op2 geD (opL lenD (aCons (eVar 1) (Mo.ret []))) (eVar 2))) (aCons (Mo.ret (.str "chosen")) (Mo.ret []))))))
def m_check_chosen : List PyData → W PyData := callM 3 b_check_chosen
/-- links: loop 1 -/
def l1_links  : SM := (sIf (tAndM (tB1 (bIn true 4 (eVar 7))) (op2T (inD true) (eVar 3) (op2 ixD (op2 ixD (eVar 0) (Mo.bind (peek 4) fun _ => bIx 4 (eVar 6))) (eVar 7))))
  (sSeq (sExpr (eAppend 5 (opL tupD (aCons (Mo.bind (peek 4) fun _ => bIx 4 (eVar 6)) (aCons (eVar 7) (Mo.ret []))))))
  (sExpr (eAppend 4 (eVar 7))))
  sNil)
/-- links: loop 2 -/
def l2_links  : SM := (sSeq (sFor (toI (eVar 1)) (gN 7)
  (l1_links))
  (sAug 6 iaddD (Mo.ret (.int 1))))
/-- links -/
def b_links  : SM := (sSeq (sSetL 4 (opF lstD (aCons (eVar 2) (Mo.ret []))))
  (sSeq (sSetL 5 (opF lstD (Mo.ret [])))
  (sSeq (sSet 6 (Mo.ret (.int 0)))
  (sSeq (sWhile (op2T ltD (eVar 6) (bLen 4))
  (l2_links))
  (sRet (eVar 5))))))
def m_links : List PyData → W PyData := callM 8 b_links
/-- reached_in -/
def b_reached_in  : SM := (sRet (opL tupleD (aCons (eList (opF sortD (aCons (op2 addD (eList (opF lstD (aCons (eVar 2) (Mo.ret [])))) (eList (lcM [4] (toI (eCall m_links (aCons (eVar 0) (aCons (eVar 1) (aCons (eVar 2) (aCons (eVar 3) (Mo.ret []))))))) (gN 4) tTr (op2 ixD (eVar 4) (Mo.ret (.int 1)))))) (Mo.ret [])))) (Mo.ret []))))
def m_reached_in : List PyData → W PyData := callM 5 b_reached_in
/-- reached -/
def b_reached  : SM := (sSeq (sExpr (eCall m_check_chosen (aCons (eVar 0) (aCons (eVar 1) (aCons (Mo.ret (.int 1)) (Mo.ret []))))))
  (sSeq (sExpr (eCall m_require (aCons (eAnd (eCall m_is_index (aCons (eVar 2) (aCons (op2 ixD (eVar 0) (Mo.ret (.int 0))) (Mo.ret [])))) (op2 (inD false) (eVar 2) (eVar 1))) (aCons (Mo.ret (.str "task")) (Mo.ret [])))))
  (sSeq (sSet 3 (eCall m_choices_of (aCons (eVar 0) (Mo.ret []))))
  (sRet (opL tupD (aCons (eCall m_reached_in (aCons (eVar 3) (aCons (eVar 1) (aCons (eVar 2) (aCons (Mo.ret (.str "beside")) (Mo.ret [])))))) (aCons (eCall m_reached_in (aCons (eVar 3) (aCons (eVar 1) (aCons (eVar 2) (aCons (Mo.ret (.str "before")) (Mo.ret [])))))) (Mo.ret []))))))))
def m_reached : List PyData → W PyData := callM 4 b_reached
/-- _law_table: loop 1 -/
def l1__law_table  : SM := (sIf (op2T neD (eVar 2) (eVar 3))
  (sDPut 1 (aCons (eVar 2) (aCons (eVar 3) (Mo.ret []))) (eCall m__law_allowed (aCons (eVar 0) (aCons (eVar 2) (aCons (eVar 3) (Mo.ret []))))))
  sNil)
/-- _law_table: loop 2 -/
def l2__law_table  : SM := (sFor (opF rng1D (aCons (op2 ixD (eVar 0) (Mo.ret (.int 0))) (Mo.ret []))) (gN 3)
  (l1__law_table))
/-- _law_table -/
def b__law_table  : SM := (sSeq (sSetT 1)
  (sSeq (sFor (opF rng1D (aCons (op2 ixD (eVar 0) (Mo.ret (.int 0))) (Mo.ret []))) (gN 2)
  (l2__law_table))
  (sRet (eVar 1))))
def m__law_table : List PyData → W PyData := callM 4 b__law_table
/-- _law_chosen -/
def b__law_chosen  : SM := (sSeq (sSet 4 (opL tupleD (aCons (eList (lcM [3] (opF rng1D (aCons (eVar 1) (Mo.ret []))) (gN 3) (op2T gtD (eCallS 0 mNext (aCons (Mo.ret (.int 4)) (Mo.ret []))) (Mo.ret (.int 0))) (eVar 3))) (Mo.ret []))))
  (sSeq (sIf (op2T ltD (opL lenD (aCons (eVar 4) (Mo.ret []))) (eVar 2))
  (sSet 4 (eRg1 (eVar 1)))
  sNil)
  (sRet (eVar 4))))
def m__law_chosen : List PyData → W PyData := callMS 5 b__law_chosen
/-- _law_reach: loop 1 -/
def l1__law_reach  : SM := (sIf (tAndM (tB1 (bIn true 4 (eVar 6))) (op2T (inD true) (eVar 3) (eDGet (eVar 0) (aCons (Mo.bind (peek 4) fun _ => bIx 4 (eVar 5)) (aCons (eVar 6) (Mo.ret []))))))
  (sExpr (eAppend 4 (eVar 6)))
  sNil)
/-- _law_reach: loop 2 -/
def l2__law_reach  : SM := (sIf (op2T ltD (eVar 5) (bLen 4))
  (sFor (toI (eVar 1)) (gN 6)
  (l1__law_reach))
  sNil)
/-- _law_reach -/
def b__law_reach  : SM := (sSeq (sSetL 4 (opF lstD (aCons (eVar 2) (Mo.ret []))))
  (sSeq (sFor (opF rng1D (aCons (opL lenD (aCons (eVar 1) (Mo.ret []))) (Mo.ret []))) (gN 5)
  (l2__law_reach))
  (sRet (opL tupleD (aCons (eList (bSort 4)) (Mo.ret []))))))
def m__law_reach : List PyData → W PyData := callM 7 b__law_reach
end
end VM

set_option Elab.async false
set_option linter.all false
set_option maxRecDepth 100000
/-! What the defs of k26_whole_stuck_or_split compute, read from their texts. -/
namespace VM
open PySem VL
noncomputable section
/-- without -/
def b_without  : SM := (sRet (opL tupleD (aCons (eList (lcM [2] (toI (eVar 0)) (gN 2) (op2T (inD true) (eVar 2) (eVar 1)) (eVar 2))) (Mo.ret []))))
def m_without : List PyData → W PyData := callM 3 b_without
/-- split_in: loop 1 -/
def l1_split_in  : SM := (sSeq (sSet 4 (eCall m_reached_in (aCons (eVar 0) (aCons (eVar 1) (aCons (eVar 3) (aCons (op1 (kdD [("beside", "beside"), ("then", "before")]) (eVar 2)) (Mo.ret [])))))))
  (sIf (op2T neD (eVar 4) (eVar 1))
  (sRet (opL tupD (aCons (eVar 2) (aCons (eVar 4) (aCons (eCall m_without (aCons (eVar 1) (aCons (eVar 4) (Mo.ret [])))) (Mo.ret []))))))
  sNil))
/-- split_in: loop 2 -/
def l2_split_in  : SM := (sFor (toI (eVar 1)) (gN 3)
  (l1_split_in))
/-- split_in -/
def b_split_in  : SM := (sSeq (sFor (toI (opL tupD (aCons (Mo.ret (.str "beside")) (aCons (Mo.ret (.str "then")) (Mo.ret []))))) (gN 2)
  (l2_split_in))
  (sRet (Mo.ret .none)))
def m_split_in : List PyData → W PyData := callM 5 b_split_in
/-- is_stuck_in -/
def b_is_stuck_in  : SM := (sRet (eAnd (op2 gtD (opL lenD (aCons (eVar 1) (Mo.ret []))) (Mo.ret (.int 1))) (op1 (isND false) (eCall m_split_in (aCons (eVar 0) (aCons (eVar 1) (Mo.ret [])))))))
def m_is_stuck_in : List PyData → W PyData := callM 2 b_is_stuck_in
/-- is_stuck -/
def b_is_stuck  : SM := (sSeq (sExpr (eCall m_check_chosen (aCons (eVar 0) (aCons (eVar 1) (aCons (Mo.ret (.int 1)) (Mo.ret []))))))
  (sRet (eCall m_is_stuck_in (aCons (eCall m_choices_of (aCons (eVar 0) (Mo.ret []))) (aCons (eVar 1) (Mo.ret []))))))
def m_is_stuck : List PyData → W PyData := callM 2 b_is_stuck
/-- split_of -/
def b_split_of  : SM := (sSeq (sExpr (eCall m_check_chosen (aCons (eVar 0) (aCons (eVar 1) (aCons (Mo.ret (.int 1)) (Mo.ret []))))))
  (sRet (eCall m_split_in (aCons (eCall m_choices_of (aCons (eVar 0) (Mo.ret []))) (aCons (eVar 1) (Mo.ret []))))))
def m_split_of : List PyData → W PyData := callM 2 b_split_of
/-- _law_may_split -/
def b__law_may_split  : SM := (sSeq (sIf (op2T eqD (eVar 1) (Mo.ret (.str "then")))
  (sSet 1 (Mo.ret (.str "before")))
  sNil)
  (sRet (opL allD (aCons (eList (lcM [4] (toI (eVar 2)) (gN 4) tTr (opL allD (aCons (eList (lcM [5] (toI (eVar 3)) (gN 5) tTr (op2 (inD false) (eVar 1) (eDGet (eVar 0) (aCons (eVar 4) (aCons (eVar 5) (Mo.ret []))))))) (Mo.ret []))))) (Mo.ret [])))))
def m__law_may_split : List PyData → W PyData := callM 6 b__law_may_split
end
end VM

set_option Elab.async false
set_option linter.all false
set_option maxRecDepth 100000
/-! What the defs of k27_told_splits compute, read from their texts. -/
namespace VM
open PySem VL
noncomputable section
/-- may_be_split -/
def b_may_be_split  : SM := (sRet (genM2 false [4, 5] [5] (toI (eVar 2)) (gN 4) (toI (eVar 3)) (gN 5) (op2 (inD false) (op1 (kdD [("beside", "beside"), ("then", "before")]) (eVar 1)) (op2 ixD (op2 ixD (eVar 0) (eVar 4)) (eVar 5)))))
def m_may_be_split : List PyData → W PyData := callM 6 b_may_be_split
/-- is_split -/
def b_is_split  : SM := (sSeq (sIf (tOrM (tNotM (toT (op1 (isiD "tuple") (eVar 2)))) (tOrM (op2T neD (opL lenD (aCons (eVar 2) (Mo.ret []))) (Mo.ret (.int 3))) (op2T (inD true) (op2 ixD (eVar 2) (Mo.ret (.int 0))) (Mo.ret (.tuple [(.str "then"), (.str "beside")])))))
  (sRet (Mo.ret (.bool false)))
  sNil)
  (sSeq (sAsg (gTp 3 (gCs (gN 3) (gCs (gN 4) (gCs (gN 5) gNl)))) (eVar 2))
  (sSeq (sIf (tOrM (tNotM (toT (eCall m_is_set (aCons (eVar 4) (aCons (opL lenD (aCons (eVar 0) (Mo.ret []))) (Mo.ret [])))))) (tOrM (tNotM (toT (eCall m_is_set (aCons (eVar 5) (aCons (opL lenD (aCons (eVar 0) (Mo.ret []))) (Mo.ret [])))))) (tOrM (op2T eqD (eVar 4) (opL tupD (Mo.ret []))) (op2T eqD (eVar 5) (opL tupD (Mo.ret []))))))
  (sRet (Mo.ret (.bool false)))
  sNil)
  (sRet (eAnd (op2 eqD (eList (opF sortD (aCons (op2 addD (eVar 4) (eVar 5)) (Mo.ret [])))) (eList (opF listD (aCons (eVar 1) (Mo.ret []))))) (eCall m_may_be_split (aCons (eVar 0) (aCons (eVar 3) (aCons (eVar 4) (aCons (eVar 5) (Mo.ret [])))))))))))
def m_is_split : List PyData → W PyData := callM 6 b_is_split
/-- accepts_split -/
def b_accepts_split  : SM := (sSeq (sExpr (eCall m_check_chosen (aCons (eVar 0) (aCons (eVar 1) (aCons (Mo.ret (.int 1)) (Mo.ret []))))))
  (sRet (eCall m_is_split (aCons (eCall m_choices_of (aCons (eVar 0) (Mo.ret []))) (aCons (eVar 1) (aCons (eVar 2) (Mo.ret [])))))))
def m_accepts_split : List PyData → W PyData := callM 3 b_accepts_split
/-- _law_split: loop 1 -/
def l1__law_split  : SM := (sSeq (sSet 2 (eCall m__law_reach (aCons (eVar 0) (aCons (eVar 1) (aCons (eVar 3) (aCons (Mo.ret (.str "before")) (Mo.ret [])))))))
  (sIf (op2T ltD (opL lenD (aCons (eVar 2) (Mo.ret []))) (opL lenD (aCons (eVar 1) (Mo.ret []))))
  (sRet (opL tupD (aCons (Mo.ret (.str "then")) (aCons (eVar 2) (aCons (opL tupleD (aCons (eList (lcM [4] (toI (eVar 1)) (gN 4) (op2T (inD true) (eVar 4) (eVar 2)) (eVar 4))) (Mo.ret []))) (Mo.ret []))))))
  sNil))
/-- _law_split -/
def b__law_split  : SM := (sSeq (sSet 2 (eCall m__law_reach (aCons (eVar 0) (aCons (eVar 1) (aCons (op2 ixD (eVar 1) (Mo.ret (.int 0))) (aCons (Mo.ret (.str "beside")) (Mo.ret [])))))))
  (sSeq (sIf (op2T ltD (opL lenD (aCons (eVar 2) (Mo.ret []))) (opL lenD (aCons (eVar 1) (Mo.ret []))))
  (sRet (opL tupD (aCons (Mo.ret (.str "beside")) (aCons (eVar 2) (aCons (opL tupleD (aCons (eList (lcM [3] (toI (eVar 1)) (gN 3) (op2T (inD true) (eVar 3) (eVar 2)) (eVar 3))) (Mo.ret []))) (Mo.ret []))))))
  sNil)
  (sSeq (sFor (toI (eVar 1)) (gN 3)
  (l1__law_split))
  (sRet (Mo.ret .none)))))
def m__law_split : List PyData → W PyData := callM 5 b__law_split
end
end VM

set_option Elab.async false
set_option linter.all false
set_option maxRecDepth 100000
/-! What the defs of k29_grounds_for_stuck_sets compute, read from their texts. -/
namespace VM
open PySem VL
noncomputable section
/-- exchanged -/
def b_exchanged  : SM := (sRet (eList (lcM [1] (toI (eVar 0)) (gN 1) tTr (opL tupD (aCons (op2 ixD (eVar 1) (Mo.ret (.int 1))) (aCons (op2 ixD (eVar 1) (Mo.ret (.int 0))) (Mo.ret [])))))))
def m_exchanged : List PyData → W PyData := callM 2 b_exchanged
/-- grounds_for -/
def b_grounds_for  : SM := (sSeq (sExpr (eCall m_check_chosen (aCons (eVar 0) (aCons (eVar 1) (aCons (Mo.ret (.int 1)) (Mo.ret []))))))
  (sSeq (sSet 2 (eCall m_choices_of (aCons (eVar 0) (Mo.ret []))))
  (sSeq (sIf (tNotM (toT (eCall m_is_stuck_in (aCons (eVar 2) (aCons (eVar 1) (Mo.ret []))))))
  (sRet (Mo.ret .none))
  sNil)
  (sSeq (sSet 3 (op2 ixD (eVar 1) (Mo.ret (.int 0))))
  (sSeq (sSet 4 (eCall m_links (aCons (eVar 2) (aCons (eVar 1) (aCons (eVar 3) (aCons (Mo.ret (.str "beside")) (Mo.ret [])))))))
  (sSeq (sSet 5 (eCall m_links (aCons (eVar 2) (aCons (eVar 1) (aCons (eVar 3) (aCons (Mo.ret (.str "before")) (Mo.ret [])))))))
  (sSeq (sSet 6 (eCall m_exchanged (aCons (eCall m_links (aCons (eVar 2) (aCons (eVar 1) (aCons (eVar 3) (aCons (Mo.ret (.str "after")) (Mo.ret [])))))) (Mo.ret []))))
  (sRet (opL tupD (aCons (opL tupleD (aCons (eVar 4) (Mo.ret []))) (aCons (opL tupleD (aCons (eVar 5) (Mo.ret []))) (aCons (opL tupleD (aCons (eVar 6) (Mo.ret []))) (Mo.ret [])))))))))))))
def m_grounds_for : List PyData → W PyData := callM 7 b_grounds_for
/-- are_pairs -/
def b_are_pairs  : SM := (sSeq (sIf (tOrM (tNotM (toT (op1 (isiD "tuple") (eVar 0)))) (op2T neD (opL lenD (aCons (eVar 0) (Mo.ret []))) (eVar 1)))
  (sRet (Mo.ret (.bool false)))
  sNil)
  (sRet (genM false [3] (toI (eVar 0)) (gN 3) (eAnd (eCall m_are_indexes (aCons (eVar 3) (aCons (eVar 2) (Mo.ret [])))) (op2 eqD (opL lenD (aCons (eVar 3) (Mo.ret []))) (Mo.ret (.int 2)))))))
def m_are_pairs : List PyData → W PyData := callM 4 b_are_pairs
/-- meets_all: loop 1 -/
def l1_meets_all  : SM := (sSeq (sIf (tOrM (tB1 (bIn true 4 (eVar 5))) (tOrM (op2T (inD true) (eVar 6) (eVar 1)) (tOrM (tB1 (bIn false 4 (eVar 6))) (op2T (inD false) (eVar 3) (op2 ixD (op2 ixD (eVar 0) (eVar 5)) (eVar 6))))))
  (sRet (Mo.ret (.bool false)))
  sNil)
  (sExpr (eAppend 4 (eVar 6))))
/-- meets_all -/
def b_meets_all  : SM := (sSeq (sSetL 4 (opF lstD (aCons (op2 ixD (eVar 1) (Mo.ret (.int 0))) (Mo.ret []))))
  (sSeq (sFor (toI (eVar 2)) (gTp 2 (gCs (gN 5) (gCs (gN 6) gNl)))
  (l1_meets_all))
  (sRet (Mo.ret (.bool true)))))
def m_meets_all : List PyData → W PyData := callM 7 b_meets_all
/-- accepts_grounds -/
def b_accepts_grounds  : SM := (sSeq (sExpr (eCall m_check_chosen (aCons (eVar 0) (aCons (eVar 1) (aCons (Mo.ret (.int 1)) (Mo.ret []))))))
  (sSeq (sSet 3 (op2 ixD (eVar 0) (Mo.ret (.int 0))))
  (sSeq (sIf (tOrM (op2T eqD (opL lenD (aCons (eVar 1) (Mo.ret []))) (Mo.ret (.int 1))) (tOrM (tNotM (toT (op1 (isiD "tuple") (eVar 2)))) (op2T neD (opL lenD (aCons (eVar 2) (Mo.ret []))) (Mo.ret (.int 3)))))
  (sRet (Mo.ret (.bool false)))
  sNil)
  (sSeq (sIf (tNotM (toT (genM false [4] (toI (eVar 2)) (gN 4) (eCall m_are_pairs (aCons (eVar 4) (aCons (op2 subD (opL lenD (aCons (eVar 1) (Mo.ret []))) (Mo.ret (.int 1))) (aCons (eVar 3) (Mo.ret []))))))))
  (sRet (Mo.ret (.bool false)))
  sNil)
  (sSeq (sSet 5 (eCall m_choices_of (aCons (eVar 0) (Mo.ret []))))
  (sSeq (sAsg (gTp 3 (gCs (gN 6) (gCs (gN 7) (gCs (gN 8) gNl)))) (eVar 2))
  (sSeq (sIf (tOrM (tNotM (toT (eCall m_meets_all (aCons (eVar 5) (aCons (eVar 1) (aCons (eVar 6) (aCons (Mo.ret (.str "beside")) (Mo.ret [])))))))) (tNotM (toT (eCall m_meets_all (aCons (eVar 5) (aCons (eVar 1) (aCons (eVar 7) (aCons (Mo.ret (.str "before")) (Mo.ret [])))))))))
  (sRet (Mo.ret (.bool false)))
  sNil)
  (sRet (eCall m_meets_all (aCons (eVar 5) (aCons (eVar 1) (aCons (eCall m_exchanged (aCons (eVar 8) (Mo.ret []))) (aCons (Mo.ret (.str "after")) (Mo.ret []))))))))))))))
def m_accepts_grounds : List PyData → W PyData := callM 9 b_accepts_grounds
/-- _law_meets: loop 1 -/
def l1__law_meets  : SM := (sSeq (sAsg (gTp 2 (gCs (gN 8) (gCs (gN 9) gNl))) (eIf (toT (eVar 4)) (opL tupD (aCons (eVar 7) (aCons (eVar 6) (Mo.ret [])))) (opL tupD (aCons (eVar 6) (aCons (eVar 7) (Mo.ret []))))))
  (sSeq (sIf (tOrM (tB1 (bIn true 5 (eVar 8))) (tOrM (tB1 (bIn false 5 (eVar 9))) (tOrM (op2T (inD true) (eVar 9) (eVar 1)) (op2T (inD false) (eVar 3) (eDGet (eVar 0) (aCons (eVar 6) (aCons (eVar 7) (Mo.ret []))))))))
  (sRet (Mo.ret (.bool false)))
  sNil)
  (sExpr (eAppend 5 (eVar 9)))))
/-- _law_meets -/
def b__law_meets  : SM := (sSeq (sSetL 5 (opF lstD (aCons (op2 ixD (eVar 1) (Mo.ret (.int 0))) (Mo.ret []))))
  (sSeq (sFor (toI (eVar 2)) (gTp 2 (gCs (gN 6) (gCs (gN 7) gNl)))
  (l1__law_meets))
  (sRet (op2 eqD (bLen 5) (opL lenD (aCons (eVar 1) (Mo.ret [])))))))
def m__law_meets : List PyData → W PyData := callM 10 b__law_meets
/-- _law_are_grounds: loop 1 -/
def l1__law_are_grounds  : SM := (sIf (tOrM (tNotM (toT (op1 (isiD "tuple") (eVar 4)))) (tOrM (op2T neD (opL lenD (aCons (eVar 4) (Mo.ret []))) (Mo.ret (.int 2))) (tNotM (toT (opL allD (aCons (eList (lcM [5] (toI (eVar 4)) (gN 5) tTr (eCall m__law_is_integer (aCons (eVar 5) (Mo.ret []))))) (Mo.ret [])))))))
  (sRet (Mo.ret (.bool false)))
  sNil)
/-- _law_are_grounds: loop 2 -/
def l2__law_are_grounds  : SM := (sSeq (sIf (tNotM (toT (op1 (isiD "tuple") (eVar 3))))
  (sRet (Mo.ret (.bool false)))
  sNil)
  (sFor (toI (eVar 3)) (gN 4)
  (l1__law_are_grounds)))
/-- _law_are_grounds -/
def b__law_are_grounds  : SM := (sSeq (sIf (tOrM (tNotM (toT (op1 (isiD "tuple") (eVar 2)))) (tOrM (op2T neD (opL lenD (aCons (eVar 2) (Mo.ret []))) (Mo.ret (.int 3))) (op2T ltD (opL lenD (aCons (eVar 1) (Mo.ret []))) (Mo.ret (.int 2)))))
  (sRet (Mo.ret (.bool false)))
  sNil)
  (sSeq (sFor (toI (eVar 2)) (gN 3)
  (l2__law_are_grounds))
  (sSeq (sIf (tNotM (toT (eCall m__law_meets (aCons (eVar 0) (aCons (eVar 1) (aCons (op2 ixD (eVar 2) (Mo.ret (.int 0))) (aCons (Mo.ret (.str "beside")) (aCons (Mo.ret (.bool false)) (Mo.ret [])))))))))
  (sRet (Mo.ret (.bool false)))
  sNil)
  (sSeq (sIf (tNotM (toT (eCall m__law_meets (aCons (eVar 0) (aCons (eVar 1) (aCons (op2 ixD (eVar 2) (Mo.ret (.int 1))) (aCons (Mo.ret (.str "before")) (aCons (Mo.ret (.bool false)) (Mo.ret [])))))))))
  (sRet (Mo.ret (.bool false)))
  sNil)
  (sRet (eCall m__law_meets (aCons (eVar 0) (aCons (eVar 1) (aCons (op2 ixD (eVar 2) (Mo.ret (.int 2))) (aCons (Mo.ret (.str "before")) (aCons (Mo.ret (.bool true)) (Mo.ret []))))))))))))
def m__law_are_grounds : List PyData → W PyData := callM 6 b__law_are_grounds
end
end VM

set_option Elab.async false
set_option linter.all false
set_option maxRecDepth 100000
/-! What the defs of k30_whole_any_grounds compute, read from their texts. -/
namespace VM
open PySem VL
noncomputable section
/-- _law_drawn: loop 1 -/
def l1__law_drawn  : SM := (sSeq (sSet 7 (opL tupD (aCons (Mo.bind (peek 4) fun _ => bIx 4 (eCallS 0 mNext (aCons (bLen 4) (Mo.ret [])))) (aCons (eVar 6) (Mo.ret [])))))
  (sSeq (sIf (op2T eqD (eVar 3) (Mo.ret (.int 2)))
  (sSet 7 (opL tupD (aCons (op2 ixD (eVar 7) (Mo.ret (.int 1))) (aCons (op2 ixD (eVar 7) (Mo.ret (.int 0))) (Mo.ret [])))))
  sNil)
  (sSeq (sExpr (eAppend 5 (eVar 7)))
  (sExpr (eAppend 4 (eVar 6))))))
/-- _law_drawn: loop 2 -/
def l2__law_drawn  : SM := (sSeq (sSetL 4 (opF lstD (aCons (op2 ixD (eVar 1) (Mo.ret (.int 0))) (Mo.ret []))))
  (sSeq (sSetL 5 (opF lstD (Mo.ret [])))
  (sSeq (sFor (toI (eSlice (eVar 1) (toO (Mo.ret (.int 1))) (Mo.ret none))) (gN 6)
  (l1__law_drawn))
  (sExpr (eAppend 2 (bTup 5))))))
/-- _law_drawn -/
def b__law_drawn  : SM := (sSeq (sSetL 2 (opF lstD (Mo.ret [])))
  (sSeq (sFor (opF rng1D (aCons (Mo.ret (.int 3)) (Mo.ret []))) (gN 3)
  (l2__law_drawn))
  (sRet (bTup 2))))
def m__law_drawn : List PyData → W PyData := callMS 8 b__law_drawn
/-- _law_turned -/
def b__law_turned  : SM := (sSeq (sSet 3 (eCallS 0 mNext (aCons (Mo.ret (.int 3)) (Mo.ret []))))
  (sSeq (sSet 4 (op2 ixD (eVar 2) (eVar 3)))
  (sSeq (sSet 5 (eCallS 0 mNext (aCons (opL lenD (aCons (eVar 4) (Mo.ret []))) (Mo.ret []))))
  (sSeq (sSet 6 (eCallS 0 mNext (aCons (Mo.ret (.int 7)) (Mo.ret []))))
  (sSeq (sIf (op2T eqD (eVar 6) (Mo.ret (.int 0)))
  (sSet 4 (op2 addD (eSlice (eVar 4) (Mo.ret none) (toO (eVar 5))) (eSlice (eVar 4) (toO (op2 addD (eVar 5) (Mo.ret (.int 1)))) (Mo.ret none))))
  (sIf (op2T eqD (eVar 6) (Mo.ret (.int 1)))
  (sSet 4 (op2 addD (op2 addD (eSlice (eVar 4) (Mo.ret none) (toO (eVar 5))) (opL tupD (aCons (opL tupD (aCons (op2 ixD (op2 ixD (eVar 4) (eVar 5)) (Mo.ret (.int 1))) (aCons (op2 ixD (op2 ixD (eVar 4) (eVar 5)) (Mo.ret (.int 0))) (Mo.ret [])))) (Mo.ret [])))) (eSlice (eVar 4) (toO (op2 addD (eVar 5) (Mo.ret (.int 1)))) (Mo.ret none))))
  (sIf (op2T eqD (eVar 6) (Mo.ret (.int 2)))
  (sSet 4 (op2 addD (eSlice (eVar 4) (toO (eVar 5)) (Mo.ret none)) (eSlice (eVar 4) (Mo.ret none) (toO (eVar 5)))))
  (sIf (op2T eqD (eVar 6) (Mo.ret (.int 3)))
  (sSet 4 (op2 addD (op2 addD (eSlice (eVar 4) (Mo.ret none) (toO (eVar 5))) (opL tupD (aCons (opL tupD (aCons (eCallS 0 mNext (aCons (eVar 1) (Mo.ret []))) (aCons (op2 ixD (op2 ixD (eVar 4) (eVar 5)) (Mo.ret (.int 1))) (Mo.ret [])))) (Mo.ret [])))) (eSlice (eVar 4) (toO (op2 addD (eVar 5) (Mo.ret (.int 1)))) (Mo.ret none))))
  (sIf (op2T eqD (eVar 6) (Mo.ret (.int 4)))
  (sSet 4 (op2 addD (eVar 4) (eSlice (eVar 4) (toO (eVar 5)) (toO (op2 addD (eVar 5) (Mo.ret (.int 1)))))))
  (sIf (op2T eqD (eVar 6) (Mo.ret (.int 5)))
  (sRet (op2 addD (eSlice (eVar 2) (toO (Mo.ret (.int 1))) (Mo.ret none)) (eSlice (eVar 2) (Mo.ret none) (toO (Mo.ret (.int 1))))))
  (sSet 4 (op1 revD (eVar 4)))))))))
  (sRet (op2 addD (op2 addD (eSlice (eVar 2) (Mo.ret none) (toO (eVar 3))) (opL tupD (aCons (eVar 4) (Mo.ret [])))) (eSlice (eVar 2) (toO (op2 addD (eVar 3) (Mo.ret (.int 1)))) (Mo.ret none)))))))))
def m__law_turned : List PyData → W PyData := callMS 7 b__law_turned
end
end VM

set_option Elab.async false
set_option linter.all false
set_option maxRecDepth 100000
set_option maxHeartbeats 1000000
/-! The value layer: more steps at known slots; while as an equation; comprehensions that draw; natural numbers as data. -/
namespace VL
noncomputable section
open PySem
theorem c_fSortSet (m s e) : fSortSet m (s :: e) = (m (s :: e)).bind fun a => outD (sortSetD a.1) a.2 := rfl
theorem c_eDGet (mo mk s e) : eDGet mo mk (s :: e) = (mo (s :: e)).bind fun a => (mk a.2).bind fun b => outD ((keysK b.1).bind fun _ => dgTD a.1 b.1) b.2 := rfl
theorem c_sSetT (i s e) : sSetT i (s :: e) = stD i (.t []) (s :: e) := rfl
def lrg1 : PyData → Option (List PyData)
  | .int n => lrgD 0 n
  | _ => none
theorem c_eRg1 (m s e) : eRg1 m (s :: e) = (m (s :: e)).bind fun a => (W.opt (lrg1 a.1)).bind fun ds => W.ret (.tuple ds, a.2) := by
  show ((m (s :: e)).bind fun a => (W.opt (match a.1 with
    | .int n => lrgD 0 n
    | _ => none)).bind fun ds => W.ret (PyData.tuple ds, a.2)) = _
  refine congrArg (W.bind _) (funext fun a => ?_)
  cases a.1 <;> rfl
theorem vS_t (x i e) : vS (.t x) i e = W.ret (.dict (x.map fun p => (.tuple (p.1.map kD), p.2)), e.set i (.d (.dict (x.map fun p => (.tuple (p.1.map kD), p.2))))) := rfl
/-! natural numbers as data -/
abbrev iN (k : Nat) : PyData := .int (k : Int)
abbrev tN (l : List Nat) : PyData := .tuple (l.map iN)
theorem iN_inj {a b : Nat} : iN a = iN b ↔ a = b := ⟨fun h => by injection h with h; exact Int.ofNat.inj h, fun h => by rw [h]⟩
theorem mem_iN {l : List Nat} {x : Nat} : iN x ∈ l.map iN ↔ x ∈ l := by
  rw [List.mem_map]
  exact ⟨fun ⟨y, hy, e⟩ => by rw [← iN_inj.mp e]; exact hy, fun h => ⟨x, h, rfl⟩⟩
theorem map_iN_inj : ∀ {l m : List Nat}, l.map iN = m.map iN ↔ l = m
  | [], [] => ⟨fun _ => rfl, fun _ => rfl⟩
  | [], y :: m => ⟨(fun h => nomatch h), (fun h => nomatch h)⟩
  | y :: m, [] => ⟨(fun h => nomatch h), (fun h => nomatch h)⟩
  | x :: l, y :: m => by
    rw [List.map_cons, List.map_cons, List.cons.injEq, List.cons.injEq, iN_inj, map_iN_inj]
theorem gd_iN (l : List Nat) {n : Nat} : ∀ x ∈ l.map iN, Gd n x := fun x hx => by
  obtain ⟨k, _, rfl⟩ := List.mem_map.mp hx
  exact .int _
theorem gd_tN (l : List Nat) {n : Nat} : Gd (n + 1) (tN l) := .tup (gd_iN l)
theorem gd_lN (l : List Nat) {n : Nat} : Gd (n + 1) (.list (l.map iN)) := .lst (gd_iN l)
theorem inN_tup (neg : Bool) (x : Nat) (l : List Nat) : inD neg (iN x) (tN l) = some (.bool (neg.xor (decide (x ∈ l)))) := inD_tup (m := 0) (n := 0) (.int _) (gd_iN l) mem_iN
theorem inN_lst (neg : Bool) (x : Nat) (l : List Nat) : inD neg (iN x) (.list (l.map iN)) = some (.bool (neg.xor (decide (x ∈ l)))) := inD_lst (m := 0) (n := 0) (.int _) (gd_iN l) mem_iN
theorem eqN_tup (l m : List Nat) : eqD (tN l) (tN m) = some (.bool (decide (l = m))) := eqD_gd (gd_tN l (n := 0)) (gd_tN m (n := 0)) (by rw [PyData.tuple.injEq, map_iN_inj])
theorem neN_tup (l m : List Nat) : neD (tN l) (tN m) = some (.bool (!decide (l = m))) := neD_gd (gd_tN l (n := 0)) (gd_tN m (n := 0)) (by rw [PyData.tuple.injEq, map_iN_inj])
theorem eqN_lst (l m : List Nat) : eqD (.list (l.map iN)) (.list (m.map iN)) = some (.bool (decide (l = m))) := eqD_gd (gd_lN l (n := 0)) (gd_lN m (n := 0)) (by rw [PyData.list.injEq, map_iN_inj])
theorem neN_lst (l m : List Nat) : neD (.list (l.map iN)) (.list (m.map iN)) = some (.bool (!decide (l = m))) := neD_gd (gd_lN l (n := 0)) (gd_lN m (n := 0)) (by rw [PyData.list.injEq, map_iN_inj])
theorem ixN_tup {l : List Nat} {i a : Nat} (h : l[i]? = some a) : ixD (tN l) (.int (i : Nat)) = some (iN a) := by
  rw [ix_tup, atI_nat (by rw [List.length_map]; exact (List.getElem?_eq_some_iff.mp h).1), List.getElem?_map, h]
  rfl
theorem ixN_lst {l : List Nat} {i a : Nat} (h : l[i]? = some a) : ixD (.list (l.map iN)) (.int (i : Nat)) = some (iN a) := by
  rw [ix_lst, atI_nat (by rw [List.length_map]; exact (List.getElem?_eq_some_iff.mp h).1), List.getElem?_map, h]
  rfl
theorem map_iN (l : List Nat) : l.map iN = (l.map fun k : Nat => (k : Int)).map PyData.int := by rw [List.map_map]; rfl
theorem intsN (l : List Nat) : intsD (l.map iN) = some (l.map fun k : Nat => (k : Int)) := by rw [map_iN, intsD_map]
/-- rising -/
def Up (l : List Nat) : Prop := l.Pairwise (· < ·)
theorem Up.nd {l : List Nat} (h : Up l) : l.Nodup := h.imp fun z => Nat.ne_of_lt z
theorem up_int {l : List Nat} : (l.map fun k : Nat => (k : Int)).Pairwise (· < ·) ↔ Up l := by
  rw [List.pairwise_map]
  exact ⟨fun h => h.imp fun z => by omega, fun h => h.imp fun z => by omega⟩
/-- numbers from 0 on, in order: sorted -/
theorem srt_nat {l m : List Nat} (p : m.Perm l) (h : Up m) : srtI (l.map fun k : Nat => (k : Int)) = m.map fun k : Nat => (k : Int) :=
  (srtI_uniq (p.map _) (lt_le (up_int.mpr h))).symm
theorem sortXN {l m : List Nat} (p : m.Perm l) (h : Up m) (hl : l.length < 64) : sortX (l.map iN) = some (m.map iN) := by
  unfold sortX
  rw [intsN]
  show (if S64 _ then some ((srtI (l.map fun k : Nat => (k : Int))).map PyData.int) else none) = _
  rw [if_pos (by show List.length _ < 64; rw [List.length_map]; exact hl), srt_nat p h, map_iN]
theorem sortN_lst {l m : List Nat} (p : m.Perm l) (h : Up m) (hl : l.length < 64) : sortD [.list (l.map iN)] = some (m.map iN) := sortXN p h hl
theorem sortN_tup {l m : List Nat} (p : m.Perm l) (h : Up m) (hl : l.length < 64) : sortD [tN l] = some (m.map iN) := sortXN p h hl
/-- the rising list of what stands in l -/
def upOf (l : List Nat) : List Nat := (srtI (ddI (l.map fun k : Nat => (k : Int)))).map Int.toNat
theorem upOf_eq (l : List Nat) : srtI (ddI (l.map fun k : Nat => (k : Int))) = (upOf l).map fun k : Nat => (k : Int) := by
  unfold upOf
  rw [List.map_map]
  refine (List.map_id _).symm.trans (List.map_congr_left fun x hx => ?_)
  have hx := ddI_mem.mp ((srtI_perm _).mem_iff.mp hx)
  obtain ⟨k, _, rfl⟩ := List.mem_map.mp hx
  show (k : Int) = ((Int.toNat (k : Int) : Nat) : Int)
  omega
theorem upOf_mem {l : List Nat} {x : Nat} : x ∈ upOf l ↔ x ∈ l := by
  have h : (x : Int) ∈ srtI (ddI (l.map fun k : Nat => (k : Int))) ↔ x ∈ l := by
    rw [(srtI_perm _).mem_iff, ddI_mem, List.mem_map]
    exact ⟨fun ⟨k, hk, e⟩ => by have : k = x := by omega
                                rw [← this]; exact hk, fun h => ⟨x, h, rfl⟩⟩
  rw [upOf_eq, List.mem_map] at h
  rw [← h]
  exact ⟨fun z => ⟨x, z, rfl⟩, fun ⟨k, hk, e⟩ => by
    have : k = x := by omega
    rw [← this]; exact hk⟩
theorem upOf_up (l : List Nat) : Up (upOf l) := by
  rw [← up_int, ← upOf_eq]
  have h1 := srtI_sorted (ddI (l.map fun k : Nat => (k : Int)))
  have h2 : (srtI (ddI (l.map fun k : Nat => (k : Int)))).Nodup := (srtI_perm _).nodup_iff.mpr (ddI_nodup _)
  exact List.Pairwise.imp₂ (fun a b h n => by omega) h1 h2
theorem upOf_id {l : List Nat} : l = upOf l ↔ Up l := by
  refine ⟨fun h => by rw [h]; exact upOf_up l, fun h => ?_⟩
  have := srtdd_uniq (l := l.map fun k : Nat => (k : Int)) (up_int.mpr h) fun k => Iff.rfl
  rw [upOf_eq] at this
  have inj : ∀ {a b : List Nat}, (a.map fun k : Nat => (k : Int)) = b.map (fun k : Nat => (k : Int)) → a = b := by
    intro a
    induction a with
    | nil => intro b h; cases b with
      | nil => rfl
      | cons _ _ => cases h
    | cons x r ih =>
      intro b h
      cases b with
      | nil => cases h
      | cons y s =>
        rw [List.map_cons, List.map_cons] at h
        injection h with h1 h2
        rw [ih h2]
        have : x = y := by omega
        rw [this]
  exact inj this
theorem sortSetN {l : List Nat} (hl : l.length < 64) : sortSetD (tN l) = some ((upOf l).map iN) := by
  unfold sortSetD
  show (intsD (l.map iN)).bind _ = _
  rw [intsN]
  show (if S64 _ then some ((srtI (ddI (l.map fun k : Nat => (k : Int)))).map PyData.int) else none) = _
  rw [if_pos (by show List.length _ < 64; rw [List.length_map]; exact hl), upOf_eq, map_iN]
theorem lrgN {n : Nat} (h : n ≤ 100000) : lrg1 (.int (n : Nat)) = some ((List.range n).map iN) := by
  have e : lrg1 (.int (n : Nat)) = lrgD 0 (n : Nat) := rfl
  rw [e]
  unfold lrgD
  have ok : L2.RgOk 0 (n : Int) := L2.RgOk.of_le (by omega) (by omega) (by omega) (by omega)
  rw [if_pos ok]
  unfold rngD
  rw [Int.sub_zero, Int.toNat_natCast]
  exact congrArg some (List.map_congr_left fun k _ => by rw [Int.zero_add])
end
end VL

set_option Elab.async false
set_option linter.all false
set_option maxRecDepth 100000
set_option maxHeartbeats 1000000
/-! The value layer: while as an equation; comprehensions that draw; a dict's entries. -/
namespace VL
noncomputable section
open PySem
theorem whileN_eq {t : Mo Bool} {b : SM} {k : Nat} (P : Nat → En → Prop) (hs : ∀ i env, i < k → P i env → t env = W.ret (true, env) ∧ ∃ env', (b env = W.ret (.nx, env') ∨ b env = W.ret (.ct, env')) ∧ P (i + 1) env') (he : ∀ env, P k env → t env = W.ret (false, env)) :
    ∀ (j i : Nat) (env : En), i + j = k → P i env → ∃ env', P k env' ∧ ∀ n, whileN t b n env = if j < n then W.ret (.nx, env') else W.fail := by
  intro j
  induction j with
  | zero =>
    intro i env e hp
    have : i = k := by omega
    subst this
    refine ⟨env, hp, fun n => ?_⟩
    cases n with
    | zero => rfl
    | succ n =>
      rw [if_pos (Nat.succ_pos n)]
      unfold whileN
      rw [he env hp]
      rfl
  | succ j ih =>
    intro i env e hp
    obtain ⟨t1, env1, b1, p1⟩ := hs i env (by omega) hp
    obtain ⟨env', p', h⟩ := ih (i + 1) env1 (by omega) p1
    refine ⟨env', p', fun n => ?_⟩
    cases n with
    | zero => rfl
    | succ n =>
      have h' := h n
      have e2 : (if j + 1 < n + 1 then W.ret (Fl.nx, env') else W.fail) = if j < n then W.ret (Fl.nx, env') else W.fail := by
        by_cases q : j < n
        · rw [if_pos q, if_pos (by omega)]
        · rw [if_neg q, if_neg (by omega)]
      rw [e2, ← h']
      unfold whileN
      rw [t1]
      rcases b1 with b1 | b1
      · show (W.bind (b env) _) = _
        rw [b1]
        cases n <;> rfl
      · show (W.bind (b env) _) = _
        rw [b1]
        cases n <;> rfl
theorem sWhile_eq {t : Mo Bool} {b : SM} {k : Nat} {env : En} (P : Nat → En → Prop) (h0 : P 0 env) (hs : ∀ i env, i < k → P i env → t env = W.ret (true, env) ∧ ∃ env', (b env = W.ret (.nx, env') ∨ b env = W.ret (.ct, env')) ∧ P (i + 1) env') (he : ∀ env, P k env → t env = W.ret (false, env)) : ∃ env', sWhile t b env = W.ret (.nx, env') ∧ P k env' := by
  obtain ⟨env', p, h⟩ := whileN_eq P hs he k 0 env (Nat.zero_add k) h0
  refine ⟨env', W.ext fun Q E => ⟨fun ⟨n, q⟩ => ?_, fun q => ⟨k + 1, ?_⟩⟩, p⟩
  · rw [h n] at q
    split at q
    · exact q
    · exact q.elim
  · show (whileN t b (k + 1) env).run Q E
    rw [h (k + 1), if_pos (Nat.lt_succ_self k)]
    exact q
/-! comprehensions whose test draws -/
theorem lcW_any {α : Type} {vs : List Nat} {g : GF} {t : Mo Bool} {m : Mo PyData} (emb : α → PyData) (f : α → PyData) (env0 : En) : ∀ {l : List α} {env : En}, wipeE vs env = wipeE vs env0 →
    (∀ x ∈ l, ∃ e, g (emb x) (wipeE vs env0) = some e ∧ (t e).run (fun r => wipeE vs r.2 = wipeE vs env0 ∧ (r.1 = true → m r.2 = W.ret (f x, r.2))) (fun _ => False)) →
    ∀ (Q : List PyData × En → Prop) (E : Er → Prop), (∀ (l' : List α) (env' : En), l'.Sublist l → wipeE vs env' = wipeE vs env0 → Q (l'.map f, env')) → (lcW vs g t m (l.map emb) env).run Q E
  | [], env, hw, _, Q, E, hq => hq [] env .slnil hw
  | x :: l, env, hw, h, Q, E, hq => by
    obtain ⟨e, e1, e2⟩ := h x List.mem_cons_self
    rw [List.map_cons]
    unfold lcW
    rw [hw, e1]
    refine (t e).mono (fun r hr => ?_) (fun _ z => z) e2
    obtain ⟨b, e'⟩ := r
    obtain ⟨w', hm⟩ := hr
    have rest : ∀ (Q' : List PyData × En → Prop), (∀ (l' : List α) (env' : En), l'.Sublist l → wipeE vs env' = wipeE vs env0 → Q' (l'.map f, env')) → (lcW vs g t m (l.map emb) e').run Q' E := fun Q' hq' =>
      lcW_any emb f env0 w' (fun y hy => h y (List.mem_cons_of_mem _ hy)) Q' E hq'
    cases b with
    | true =>
      show (W.bind (W.nox (m e')) _).run Q E
      rw [hm rfl]
      exact rest (fun q => Q (f x :: q.1, q.2)) fun l' env' s w => hq (x :: l') env' (.cons_cons x s) w
    | false => exact rest Q fun l' env' s w => hq l' env' (.cons x s) w
theorem lcM_any {α : Type} {vs : List Nat} {g : GF} {t : Mo Bool} {m : Mo PyData} {mi : Mo (List PyData)} {env : En} {Q : List PyData × En → Prop} {E : Er → Prop} (l : List α) (emb : α → PyData) (f : α → PyData) (hi : mi env = W.ret (l.map emb, env)) (hl : l.length < sizeLine) (hp : vs.all (fun j => plainS (sAt env j)) = true)
    (h : ∀ x ∈ l, ∃ e, g (emb x) (wipeE vs env) = some e ∧ (t e).run (fun r => wipeE vs r.2 = wipeE vs env ∧ (r.1 = true → m r.2 = W.ret (f x, r.2))) (fun _ => False)) (hq : ∀ l' : List α, l'.Sublist l → Q (l'.map f, env)) : (lcM vs mi g t m env).run Q E := by
  unfold lcM
  rw [hi]
  show ((W.opt (if Lc_ (vs.all fun j => plainS (sAt env j)) (l.map emb).length then some () else none)).bind fun _ => (lcW vs g t m (l.map emb) env).bind fun q => W.ret (q.1, restE env vs q.2)).run Q E
  rw [if_pos ⟨hp, by rw [List.length_map]; exact hl⟩]
  refine lcW_any emb f env rfl h _ E fun l' env' s w => ?_
  show Q (l'.map f, restE env vs env')
  rw [restE_of w]
  exact hq l' s
/-! an entry of a dict -/
theorem keys2 (a b : Nat) : keysK [iN a, iN b] = some [.inl (a : Int), .inl (b : Int)] := by
  unfold keysK
  rw [if_pos (by show (2 : Nat) ≤ 1000; omega)]
  rfl
theorem sDPut_eq {i : Nat} {mk : Mo (List PyData)} {me : Mo PyData} {env : En} {d : PyData} {ks : List PyData} {k : List L2.Key} {kvs : List (List L2.Key × PyData)} (hm : me env = W.ret (d, env)) (hk : mk env = W.ret (ks, env)) (hs : sAt env i = .t kvs) (he : keysK ks = some k) (hl : kvs.length ≤ 1000) :
    sDPut i mk me env = W.ret (Fl.nx, env.set i (.t (putD kvs k d))) := by
  unfold sDPut
  rw [hm]
  show (match sAt env i with
    | .t _ => (mk env).bind fun k => match sAt k.2 i with
      | .t kvs => (W.opt (keysK k.1)).bind fun ks => (W.opt (if Lt_ kvs.length then some () else none)).bind fun _ => W.ret (Fl.nx, k.2.set i (.t (putD kvs ks d)))
      | _ => W.fail
    | _ => W.fail) = _
  rw [hs]
  show ((mk env).bind fun k => match sAt k.2 i with
      | .t kvs => (W.opt (keysK k.1)).bind fun ks => (W.opt (if Lt_ kvs.length then some () else none)).bind fun _ => W.ret (Fl.nx, k.2.set i (.t (putD kvs ks d)))
      | _ => W.fail) = _
  rw [hk]
  show (match sAt env i with
      | .t kvs => (W.opt (keysK ks)).bind fun ks => (W.opt (if Lt_ kvs.length then some () else none)).bind fun _ => W.ret (Fl.nx, env.set i (.t (putD kvs ks d)))
      | _ => W.fail) = _
  rw [hs, he]
  show ((W.opt (if Lt_ kvs.length then some () else none)).bind fun _ => W.ret (Fl.nx, env.set i (.t (putD kvs k d)))) = _
  rw [if_pos (show Lt_ kvs.length from sl_of (by omega))]
  rfl
theorem putD_len (kvs : List (List L2.Key × PyData)) (k : List L2.Key) (d : PyData) : (putD kvs k d).length ≤ kvs.length + 1 := by
  unfold putD
  split
  · rw [List.length_map]; omega
  · rw [List.length_append]; exact Nat.le_refl _
abbrev dictD (kvs : List (List L2.Key × PyData)) : PyData := .dict (kvs.map fun p => (.tuple (p.1.map kD), p.2))
theorem dgT_val {ks : List PyData} {k : List L2.Key} (h : keysD ks = some k) (kvs : List (List L2.Key × PyData)) : dgTD (dictD kvs) ks = valD kvs k := by
  show (((kvs.map fun p => (PyData.tuple (p.1.map kD), p.2)).find? fun p => kEqT p.1 ks).map (·.2)) = _
  unfold valD
  induction kvs with
  | nil => rfl
  | cons p r ih =>
    rw [List.map_cons, List.find?_cons, List.find?_cons]
    have e1 : kEqT (PyData.tuple (p.1.map kD)) ks = decide (p.1 = k) := kEqL_keys p.1 h
    rw [e1]
    by_cases q : p.1 = k
    · rw [decide_eq_true q]; rfl
    · rw [decide_eq_false q]
      exact ih
theorem dg2 (a b : Nat) (kvs : List (List L2.Key × PyData)) : (keysK [iN a, iN b]).bind (fun _ => dgTD (dictD kvs) [iN a, iN b]) = valD kvs [.inl (a : Int), .inl (b : Int)] := by
  rw [keys2]
  exact dgT_val (keysK_some (keys2 a b)).2 kvs
end
end VL

set_option Elab.async false
set_option linter.all false
set_option maxRecDepth 100000
set_option maxHeartbeats 1000000
/-! The value layer: generator expressions of two clauses, worked out; sorted lists of natural numbers. -/
namespace VL
noncomputable section
open PySem
theorem genW_of {α : Type} {vs : List Nat} {g : GF} {m : Mo PyData} {stop : Bool} (emb : α → PyData) (b : α → Bool) (env : En) : ∀ {l : List α} {env1 : En}, wipeE vs env1 = wipeE vs env →
    (∀ x ∈ l, ∃ e, g (emb x) (wipeE vs env) = some e ∧ m e = W.ret (.bool (b x), e) ∧ wipeE vs e = wipeE vs env) → ∃ env', genW stop vs g m (l.map emb) env1 = W.ret ((if stop = true then l.any b else l.all b), env') ∧ wipeE vs env' = wipeE vs env
  | [], env1, hw, _ => ⟨_, by cases stop <;> rfl, hw⟩
  | x :: xs, env1, hw, h => by
    obtain ⟨e, e1, e3, e4⟩ := h x List.mem_cons_self
    obtain ⟨env', h1, h2⟩ := genW_of emb b env (l := xs) (env1 := e) e4 fun y hy => h y (List.mem_cons_of_mem _ hy)
    rw [List.map_cons]
    unfold genW
    rw [hw, e1]
    show ∃ env', ((m e).nox.bind fun r => _) = _ ∧ _
    rw [e3]
    show ∃ env', (if b x = stop then W.ret (stop, e) else genW stop vs g m (xs.map emb) e) = _ ∧ _
    by_cases hb : b x = stop
    · rw [if_pos hb]
      refine ⟨e, ?_, e4⟩
      cases stop with
      | true => rw [if_pos rfl, List.any_cons, hb]; rfl
      | false => rw [if_neg Bool.false_ne_true, List.all_cons, hb]; rfl
    · rw [if_neg hb]
      refine ⟨env', ?_, h2⟩
      rw [h1]
      cases stop with
      | true => rw [if_pos rfl, if_pos rfl, List.any_cons, Bool.eq_false_iff.mpr hb]; rfl
      | false =>
        have : b x = true := by cases q : b x with
          | true => rfl
          | false => exact absurd q hb
        rw [if_neg Bool.false_ne_true, if_neg Bool.false_ne_true, List.all_cons, this]; rfl
theorem genW2_of {α β : Type} {vs vs1 : List Nat} {g g1 : GF} {mi1 : Mo (List PyData)} {m : Mo PyData} {stop : Bool} (hv : ∀ i ∈ vs1, i ∈ vs) (emb : α → PyData) (l1 : α → List β) (emb1 : β → PyData) (b : α → β → Bool) (env : En) : ∀ {l : List α} {env1 : En}, wipeE vs env1 = wipeE vs env →
    (∀ x ∈ l, ∃ e, g (emb x) (wipeE vs env) = some e ∧ wipeE vs e = wipeE vs env ∧ mi1 e = W.ret ((l1 x).map emb1, e) ∧ (l1 x).length ≤ 1000 ∧ ∀ y ∈ l1 x, ∃ e', g1 (emb1 y) (wipeE vs1 e) = some e' ∧ m e' = W.ret (.bool (b x y), e') ∧ wipeE vs1 e' = wipeE vs1 e) →
    ∃ env', genW2 stop vs vs1 g mi1 g1 m (l.map emb) env1 = W.ret ((if stop = true then l.any fun x => (l1 x).any (b x) else l.all fun x => (l1 x).all (b x)), env') ∧ wipeE vs env' = wipeE vs env
  | [], env1, hw, _ => ⟨_, by cases stop <;> rfl, hw⟩
  | x :: xs, env1, hw, h => by
    obtain ⟨e, e1, e2, e3, e4, e5⟩ := h x List.mem_cons_self
    obtain ⟨ei, i1, i2⟩ := genW_of (stop := stop) emb1 (b x) e (l := l1 x) (env1 := e) rfl e5
    have i3 : wipeE vs ei = wipeE vs env := by rw [← wipeE_in hv (env := ei), i2, wipeE_in hv, e2]
    obtain ⟨env', h1, h2⟩ := genW2_of (stop := stop) hv emb l1 emb1 b env (l := xs) (env1 := ei) i3 fun y hy => h y (List.mem_cons_of_mem _ hy)
    rw [List.map_cons]
    unfold genW2
    rw [hw, e1]
    show ∃ env', ((mi1 e).nox.bind fun r => (W.opt (if K_ r.1.length then some () else none)).bind fun _ => (genW stop vs1 g1 m r.1 r.2).bind fun q => if q.1 = stop then W.ret (stop, q.2) else genW2 stop vs vs1 g mi1 g1 m (xs.map emb) q.2) = _ ∧ _
    rw [e3]
    show ∃ env', ((W.opt (if K_ ((l1 x).map emb1).length then some () else none)).bind fun _ => (genW stop vs1 g1 m ((l1 x).map emb1) e).bind fun q => if q.1 = stop then W.ret (stop, q.2) else genW2 stop vs vs1 g mi1 g1 m (xs.map emb) q.2) = _ ∧ _
    rw [if_pos (show K_ _ from by show _ ≤ 1000; rw [List.length_map]; exact e4), i1]
    show ∃ env', (if (if stop = true then (l1 x).any (b x) else (l1 x).all (b x)) = stop then W.ret (stop, ei) else genW2 stop vs vs1 g mi1 g1 m (xs.map emb) ei) = _ ∧ _
    by_cases hb : (if stop = true then (l1 x).any (b x) else (l1 x).all (b x)) = stop
    · rw [if_pos hb]
      refine ⟨ei, ?_, i3⟩
      cases stop with
      | true => rw [if_pos rfl] at hb; rw [if_pos rfl, List.any_cons, hb]; rfl
      | false => rw [if_neg Bool.false_ne_true] at hb; rw [if_neg Bool.false_ne_true, List.all_cons, hb]; rfl
    · rw [if_neg hb]
      refine ⟨env', ?_, h2⟩
      rw [h1]
      cases stop with
      | true => rw [if_pos rfl] at hb; rw [if_pos rfl, if_pos rfl, List.any_cons, Bool.eq_false_iff.mpr hb]; rfl
      | false =>
        rw [if_neg Bool.false_ne_true] at hb
        have : (l1 x).all (b x) = true := by cases q : (l1 x).all (b x) with
          | true => rfl
          | false => exact absurd q hb
        rw [if_neg Bool.false_ne_true, if_neg Bool.false_ne_true, List.all_cons, this]; rfl
theorem genM2_of {α β : Type} {vs vs1 : List Nat} {g g1 : GF} {mi mi1 : Mo (List PyData)} {m : Mo PyData} {stop : Bool} {env : En} (l : List α) (emb : α → PyData) (l1 : α → List β) (emb1 : β → PyData) (b : α → β → Bool) (hi : mi env = W.ret (l.map emb, env)) (hp : vs.all (fun j => plainS (sAt env j)) = true) (hv : ∀ i ∈ vs1, i ∈ vs)
    (h : ∀ x ∈ l, ∃ e, g (emb x) (wipeE vs env) = some e ∧ wipeE vs e = wipeE vs env ∧ mi1 e = W.ret ((l1 x).map emb1, e) ∧ (l1 x).length ≤ 1000 ∧ ∀ y ∈ l1 x, ∃ e', g1 (emb1 y) (wipeE vs1 e) = some e' ∧ m e' = W.ret (.bool (b x y), e') ∧ wipeE vs1 e' = wipeE vs1 e) :
    genM2 stop vs vs1 mi g mi1 g1 m env = W.ret (.bool (if stop = true then l.any fun x => (l1 x).any (b x) else l.all fun x => (l1 x).all (b x)), env) := by
  obtain ⟨env', h1, h2⟩ := genW2_of (stop := stop) (g := g) (m := m) hv emb l1 emb1 b env (l := l) (env1 := env) rfl h
  unfold genM2
  rw [hi]
  show ((W.opt (if vs.all (fun j => plainS (sAt env j)) = true then some () else none)).bind fun _ => (genW2 stop vs vs1 g mi1 g1 m (l.map emb) env).bind fun q => W.ret (PyData.bool q.1, restE env vs q.2)) = _
  rw [if_pos hp, h1]
  show W.ret (PyData.bool _, restE env vs env') = _
  rw [restE_of h2]
/-! sorted lists of natural numbers -/
def srtN (l : List Nat) : List Nat := l.mergeSort fun a b => decide (a ≤ b)
theorem srtN_perm (l : List Nat) : (srtN l).Perm l := List.mergeSort_perm l _
theorem srtN_sorted (l : List Nat) : (srtN l).Pairwise (· ≤ ·) := by
  have := List.pairwise_mergeSort (le := fun a b : Nat => decide (a ≤ b)) (fun a b c h1 h2 => by simp at *; omega) (fun a b => by simp; omega) l
  exact this.imp fun h => of_decide_eq_true h
theorem srtN_int (l : List Nat) : srtI (l.map fun k : Nat => (k : Int)) = (srtN l).map fun k : Nat => (k : Int) := by
  refine (srtI_uniq ((srtN_perm l).map _) ?_).symm
  rw [List.pairwise_map]
  exact (srtN_sorted l).imp fun h => by omega
theorem sortX_nat {l : List Nat} (hl : l.length < 64) : sortX (l.map iN) = some ((srtN l).map iN) := by
  unfold sortX
  rw [intsN]
  show (if S64 _ then some ((srtI (l.map fun k : Nat => (k : Int))).map PyData.int) else none) = _
  rw [if_pos (by show List.length _ < 64; rw [List.length_map]; exact hl), srtN_int, map_iN]
theorem sort_nat_tup {l : List Nat} (hl : l.length < 64) : sortD [tN l] = some ((srtN l).map iN) := sortX_nat hl
theorem sort_nat_lst {l : List Nat} (hl : l.length < 64) : sortD [.list (l.map iN)] = some ((srtN l).map iN) := sortX_nat hl
theorem perm_sorted_eq : ∀ {l m : List Nat}, l.Perm m → l.Pairwise (· ≤ ·) → m.Pairwise (· ≤ ·) → l = m
  | [], m, p, _, _ => by rw [p.nil_eq]
  | x :: l, m, p, hl, hm => by
    cases m with
    | nil => exact absurd p.length_eq (by simp)
    | cons y m =>
      have e : x = y := by
        have h1 : x ∈ y :: m := p.mem_iff.mp List.mem_cons_self
        have h2 : y ∈ x :: l := p.mem_iff.mpr List.mem_cons_self
        rw [List.pairwise_cons] at hl hm
        rcases List.mem_cons.mp h1 with q | q
        · exact q
        · rcases List.mem_cons.mp h2 with q2 | q2
          · exact q2.symm
          · have := hl.1 y q2; have := hm.1 x q; omega
      subst e
      rw [List.pairwise_cons] at hl hm
      rw [perm_sorted_eq (List.Perm.cons_inv p) hl.2 hm.2]
theorem up_le {l : List Nat} (h : Up l) : l.Pairwise (· ≤ ·) := h.imp fun z => Nat.le_of_lt z
theorem srtN_eq {l C : List Nat} (hC : Up C) : srtN l = C ↔ C.Perm l := by
  refine ⟨fun h => by rw [← h]; exact srtN_perm l, fun p => ?_⟩
  exact perm_sorted_eq ((srtN_perm l).trans p.symm) (srtN_sorted l) (up_le hC)
end
end VL

set_option Elab.async false
set_option linter.all false
set_option maxRecDepth 100000
set_option maxHeartbeats 1000000
/-! The value layer: index of a list that is data. -/
namespace VL
noncomputable section
open PySem PySem.Spec PyProof.Rows L2 GxR GA KR GenW
variable {T : List Addr} {ix : Bool} {X : Cx} {c : Ctx T ix} {EK : XK}
def lsD : PyData → Option Unit
  | .list _ => some ()
  | _ => none
def indexD : PyData → PyData → Option PyData
  | .list ds, d => if SeqAt.shaped (.list ds) = true ∧ SeqAt.shaped d = true then (ds.findIdx? fun z => PyData.eqv z d).map fun j => .int (j : Nat) else none
  | _, _ => none
def eIndexL (mo me : Mo PyData) : Mo PyData := Mo.bind mo fun d => Mo.bind (Mo.lift (W.opt (lsD d))) fun _ => Mo.bind me fun e => Mo.lift (W.opt (indexD d e))
theorem c_eIndexL (mo me s e) : eIndexL mo me (s :: e) = (mo (s :: e)).bind fun a => (W.opt (lsD a.1)).bind fun _ => (me a.2).bind fun b => outD (indexD a.1 b.1) b.2 := rfl
theorem ve_indexL {o e : Expr} {mo me : Mo PyData} {apos cpos : Pos} {k : Nat} (hr : Room k X.A) (ho : VE X c EK o mo) (ha : VE X c EK e me)
    (hbase : attributeBase o "index" X.env (eval o X.env) = eval o X.env := by rfl)
    (hfew : ((backTo cpos (starEach [e] X.env)).all (fun x => !x.1) && (backToKw cpos (keywordEach [] X.env)).all (fun x => x.1.isSome)
      && decide (([e] : List Expr).length + ([] : List Keyword).length + (if ([] : List Keyword).isEmpty then 0 else 1) < 30)) = true := by rfl)
    (hline : (apos.endLine == cpos.line) = true := by rfl) (hs : starEach [e] X.env = (false, eval e X.env) :: starEach [] X.env := by rfl) (hplain : (backTo cpos (starEach [] X.env)).any (·.1) = false := by rfl) :
    VE X c EK (.Call (.Attribute o "index" apos) [e] [] cpos) (eIndexL mo me) := by
  refine ⟨PE.imp (pe_bm PySem.F.plainAttrs_list PySem.F.slot_list_index PySem.F.type_list_index (mt_indexD (by have := room65 hr; omega)) ho.pe (pa_cons ha.pe pa_nil hs) hbase hfew hline hs hplain) fun σ H Q ⟨M, env, Y, rp, w⟩ => ?_⟩
  refine seq_V w rp (fun _ h => h) fun d env1 v M1 H1 s1 rp1 a1 q1 => ?_
  obtain ⟨_, el, q1⟩ := opt_run q1
  cases d with
  | list ds =>
    have a1' := a1
    cases a1 with
    | @lst a vs _ ea nm al =>
      refine ⟨.inl ⟨rfl, vs, SqL.of ea⟩, ?_⟩
      refine seq_V q1 rp1 (fun _ h => h) fun b env2 w M2 H2 s2 rp2 a2 q2 => ?_
      obtain ⟨r, er, q3⟩ := opt_run q2
      have er : (if SeqAt.shaped (.list ds) = true ∧ SeqAt.shaped b = true then (ds.findIdx? fun z => PyData.eqv z b).map fun j => PyData.int (j : Nat) else none) = some r := er
      split at er
      · rename_i hsh
        obtain ⟨j, ej, er⟩ := Option.map_eq_some_iff.mp er
        subst er
        obtain ⟨hj, e1, e2⟩ := List.findIdx?_eq_some_iff_getElem.mp ej
        refine ⟨a, w, b, ds, j, ds[j], rfl, rfl, (a1'.stp s2).dp hsh.1, a2.dp hsh.2, hsh.1, hsh.2, List.getElem?_eq_getElem hj, e1, fun m z' hm hz => ?_, q3 _ M2 H2 (s1.trans s2) rp2 (.int _)⟩
        obtain ⟨hm2, rfl⟩ := List.getElem?_eq_some_iff.mp hz
        exact Bool.eq_false_iff.mpr (e2 m hm)
      · cases er
  | _ => cases el
end
end VL

set_option Elab.async false
set_option linter.all false
set_option maxRecDepth 100000
/-! What the defs of k18_allowed_relations compute, read from their texts. -/
namespace VM
open PySem VL
noncomputable section
/-- allowed -/
def b_allowed  : SM := (sSeq (sExpr (eCall m_check_pair (aCons (eVar 0) (aCons (eVar 1) (aCons (eVar 2) (Mo.ret []))))))
  (sRet (op2 ixD (op2 ixD (eCall m_choices_of (aCons (eVar 0) (Mo.ret []))) (eVar 1)) (eVar 2))))
def m_allowed : List PyData → W PyData := callM 3 b_allowed
/-- rule_turned -/
def b_rule_turned  : SM := (sSeq (sExpr (eCall m_check_problem (aCons (eVar 0) (Mo.ret []))))
  (sSeq (sSet 2 (op2 ixD (eVar 0) (Mo.ret (.int 1))))
  (sSeq (sExpr (eCall m_require (aCons (eCall m_is_index (aCons (eVar 1) (aCons (opL lenD (aCons (eVar 2) (Mo.ret []))) (Mo.ret [])))) (aCons (Mo.ret (.str "index")) (Mo.ret [])))))
  (sSeq (sAsg (gTp 3 (gCs (gN 3) (gCs (gN 4) (gCs (gN 5) gNl)))) (op2 ixD (eVar 2) (eVar 1)))
  (sRet (opL tupD (aCons (eVar 5) (aCons (eCall m_opposites_of (aCons (eVar 4) (Mo.ret []))) (aCons (eVar 3) (Mo.ret []))))))))))
def m_rule_turned : List PyData → W PyData := callM 6 b_rule_turned
/-- _law_tasks: loop 1 -/
def l1__law_tasks (rec__law_tasks : List PyData → W PyData) : SM := (sSet 1 (op2 addD (eVar 1) (eCall rec__law_tasks (aCons (eVar 2) (Mo.ret [])))))
/-- _law_tasks -/
def b__law_tasks (rec__law_tasks : List PyData → W PyData) : SM := (sSeq (sIf (toT (op1 (isiD "int") (eVar 0)))
  (sRet (eList (opF lstD (aCons (eVar 0) (Mo.ret [])))))
  sNil)
  (sSeq (sSet 1 (eList (opF lstD (Mo.ret []))))
  (sSeq (sFor (toI (op2 ixD (eVar 0) (Mo.ret (.int 1)))) (gN 2)
  (l1__law_tasks rec__law_tasks))
  (sRet (eVar 1)))))
def m__law_tasks_n : Nat → List PyData → W PyData
  | 0 => fun _ => W.fail
  | n + 1 => callM 3 (b__law_tasks (m__law_tasks_n n))
def m__law_tasks : List PyData → W PyData := m__law_tasks_n 20
/-- _law_relation: loop 1 -/
def l1__law_relation (rec__law_relation : List PyData → W PyData) : SM := (sExpr (eAppend 3 (op2 ixD (eList (lcM [5] (opF rng1D (aCons (opL lenD (aCons (op2 ixD (eVar 0) (Mo.ret (.int 1))) (Mo.ret []))) (Mo.ret []))) (gN 5) (op2T (inD false) (eVar 4) (eCall m__law_tasks (aCons (op2 ixD (op2 ixD (eVar 0) (Mo.ret (.int 1))) (eVar 5)) (Mo.ret [])))) (eVar 5))) (Mo.ret (.int 0)))))
/-- _law_relation -/
def b__law_relation (rec__law_relation : List PyData → W PyData) : SM := (sSeq (sIf (toT (op1 (isiD "int") (eVar 0)))
  (sRet (Mo.ret (.str "same")))
  sNil)
  (sSeq (sSetL 3 (opF lstD (Mo.ret [])))
  (sSeq (sFor (toI (eList (opF lstD (aCons (eVar 1) (aCons (eVar 2) (Mo.ret [])))))) (gN 4)
  (l1__law_relation rec__law_relation))
  (sSeq (sIf (op2T eqD (Mo.bind (peek 3) fun _ => bIx 3 (Mo.ret (.int 0))) (Mo.bind (peek 3) fun _ => bIx 3 (Mo.ret (.int 1))))
  (sRet (eCall rec__law_relation (aCons (op2 ixD (op2 ixD (eVar 0) (Mo.ret (.int 1))) (Mo.bind (peek 3) fun _ => bIx 3 (Mo.ret (.int 0)))) (aCons (eVar 1) (aCons (eVar 2) (Mo.ret []))))))
  sNil)
  (sSeq (sIf (op2T eqD (op2 ixD (eVar 0) (Mo.ret (.int 0))) (Mo.ret (.str "beside")))
  (sRet (Mo.ret (.str "beside")))
  sNil)
  (sRet (op2 ixD (eList (opF lstD (aCons (Mo.ret (.str "after")) (aCons (Mo.ret (.str "before")) (Mo.ret []))))) (opL intD (aCons (op2 ltD (Mo.bind (peek 3) fun _ => bIx 3 (Mo.ret (.int 0))) (Mo.bind (peek 3) fun _ => bIx 3 (Mo.ret (.int 1)))) (Mo.ret []))))))))))
def m__law_relation_n : Nat → List PyData → W PyData
  | 0 => fun _ => W.fail
  | n + 1 => callM 6 (b__law_relation (m__law_relation_n n))
def m__law_relation : List PyData → W PyData := m__law_relation_n 20
/-- _law_drawn_plan: loop 1 -/
def l1__law_drawn_plan (rec__law_drawn_plan : List PyData → W PyData) : SM := (sIf (bTru 3)
  (sSeq (sSet 6 (op2 addD (Mo.ret (.int 1)) (eCallS 0 mNext (aCons (op2 subD (bLen 3) (opL intD (aCons (op2 eqD (eVar 5) (Mo.ret (.int 0))) (Mo.ret [])))) (Mo.ret [])))))
  (sSeq (sSet 8 (eList (lcM [7] (opF rng1D (aCons (eVar 6) (Mo.ret []))) (gN 7) tTr (ePopAt 3 (eCallS 0 mNext (aCons (bLen 3) (Mo.ret [])))))))
  (sExpr (eAppend 4 (eCallS 0 rec__law_drawn_plan (aCons (eVar 8) (aCons (op2 ixD (eList (opF lstD (aCons (Mo.ret (.str "then")) (aCons (Mo.ret (.str "beside")) (Mo.ret []))))) (opL intD (aCons (op2 eqD (eVar 2) (Mo.ret (.str "then"))) (Mo.ret [])))) (Mo.ret []))))))))
  sNil)
/-- _law_drawn_plan -/
def b__law_drawn_plan (rec__law_drawn_plan : List PyData → W PyData) : SM := (sSeq (sIf (op2T eqD (opL lenD (aCons (eVar 1) (Mo.ret []))) (Mo.ret (.int 1)))
  (sRet (op2 ixD (eVar 1) (Mo.ret (.int 0))))
  sNil)
  (sSeq (sSetL 3 (opF listD (aCons (eVar 1) (Mo.ret []))))
  (sSeq (sSetL 4 (opF lstD (Mo.ret [])))
  (sSeq (sFor (opF rng1D (aCons (opL lenD (aCons (eVar 1) (Mo.ret []))) (Mo.ret []))) (gN 5)
  (l1__law_drawn_plan rec__law_drawn_plan))
  (sRet (opL tupD (aCons (eVar 2) (aCons (bTup 4) (Mo.ret [])))))))))
def m__law_drawn_plan_n : Nat → List PyData → W PyData
  | 0 => fun _ => W.fail
  | n + 1 => callMS 9 (b__law_drawn_plan (m__law_drawn_plan_n n))
def m__law_drawn_plan : List PyData → W PyData := m__law_drawn_plan_n 20
/-- _law_some_plan -/
def b__law_some_plan  : SM := (sRet (eCallS 0 m__law_drawn_plan (aCons (eList (fRg1 (eVar 1))) (aCons (op2 ixD (eList (opF lstD (aCons (Mo.ret (.str "then")) (aCons (Mo.ret (.str "beside")) (Mo.ret []))))) (eCallS 0 mNext (aCons (Mo.ret (.int 2)) (Mo.ret [])))) (Mo.ret [])))))
def m__law_some_plan : List PyData → W PyData := callMS 2 b__law_some_plan
/-- _law_relations -/
def b__law_relations  : SM := (sRet (eList (opF lstD (aCons (Mo.ret (.str "before")) (aCons (Mo.ret (.str "beside")) (aCons (Mo.ret (.str "after")) (Mo.ret [])))))))
def m__law_relations : List PyData → W PyData := callM 0 b__law_relations
/-- _law_opposite -/
def b__law_opposite  : SM := (sRet (op2 ixD (eList (opF lstD (aCons (Mo.ret (.str "after")) (aCons (Mo.ret (.str "beside")) (aCons (Mo.ret (.str "before")) (Mo.ret [])))))) (eIndexL (eCall0 m__law_relations) (eVar 0))))
def m__law_opposite : List PyData → W PyData := callM 1 b__law_opposite
/-- _law_opposites -/
def b__law_opposites  : SM := (sRet (opL tupleD (aCons (eList (lcM [1] (toI (eCall0 m__law_relations)) (gN 1) (op2T (inD false) (eCall m__law_opposite (aCons (eVar 1) (Mo.ret []))) (eVar 0)) (eVar 1))) (Mo.ret []))))
def m__law_opposites : List PyData → W PyData := callM 2 b__law_opposites
/-- _law_rule -/
def b__law_rule  : SM := (sSeq (sSet 3 (eCallS 0 mNext (aCons (eVar 1) (Mo.ret []))))
  (sSeq (sSet 4 (eCallS 0 mNext (aCons (op2 subD (eVar 1) (Mo.ret (.int 1))) (Mo.ret []))))
  (sSeq (sSet 4 (op2 addD (eVar 4) (opL intD (aCons (op2 geD (eVar 4) (eVar 3)) (Mo.ret [])))))
  (sSeq (sSetL 6 (lcM [5] (toI (eCall0 m__law_relations)) (gN 5) (op2T eqD (eCallS 0 mNext (aCons (Mo.ret (.int 2)) (Mo.ret []))) (Mo.ret (.int 1))) (eVar 5)))
  (sSeq (sIf (tB1 (op1 (isND true) (eVar 2)))
  (sExpr (eAppend 6 (eCall m__law_relation (aCons (eVar 2) (aCons (eVar 3) (aCons (eVar 4) (Mo.ret [])))))))
  sNil)
  (sSeq (sIf (tNotM (bTru 6))
  (sSetL 6 (opF lstD (aCons (op2 ixD (eCall0 m__law_relations) (eCallS 0 mNext (aCons (Mo.ret (.int 3)) (Mo.ret [])))) (Mo.ret []))))
  sNil)
  (sRet (opL tupD (aCons (eVar 3) (aCons (opL tupleD (aCons (eList (lcM [5] (toI (eCall0 m__law_relations)) (gN 5) (tB1 (bIn false 6 (eVar 5))) (eVar 5))) (Mo.ret []))) (aCons (eVar 4) (Mo.ret []))))))))))))
def m__law_rule : List PyData → W PyData := callMS 7 b__law_rule
/-- _law_problem: loop 1 -/
def l1__law_problem_2  : SM := (sIf (tAndM (op2T eqD (eVar 6) (Mo.ret (.int 0))) (op2T eqD (eCallS 0 mNext (aCons (Mo.ret (.int 3)) (Mo.ret []))) (Mo.ret (.int 0))))
  (sExpr (eAppend 7 (eCallS 0 m__law_rule (aCons (eVar 4) (aCons (Mo.ret .none) (Mo.ret []))))))
  (sExpr (eAppend 7 (eCallS 0 m__law_rule (aCons (eVar 4) (aCons (eVar 5) (Mo.ret [])))))))
/-- _law_problem -/
def b__law_problem_2  : SM := (sSeq (sSet 4 (op2 addD (eVar 1) (eCallS 0 mNext (aCons (op2 addD (op2 subD (eVar 2) (eVar 1)) (Mo.ret (.int 1))) (Mo.ret [])))))
  (sSeq (sSet 5 (Mo.ret .none))
  (sSeq (sIf (op2T gtD (eCallS 0 mNext (aCons (Mo.ret (.int 3)) (Mo.ret []))) (Mo.ret (.int 0)))
  (sSet 5 (eCallS 0 m__law_some_plan (aCons (eVar 4) (Mo.ret []))))
  sNil)
  (sSeq (sIf (op2T eqD (eVar 4) (Mo.ret (.int 1)))
  (sRet (opL tupD (aCons (Mo.ret (.int 1)) (aCons (opL tupD (Mo.ret [])) (Mo.ret [])))))
  sNil)
  (sSeq (sSet 6 (eCallS 0 mNext (aCons (Mo.ret (.int 4)) (Mo.ret []))))
  (sSeq (sSetL 7 (opF lstD (Mo.ret [])))
  (sSeq (sFor (opF rng1D (aCons (eCallS 0 mNext (aCons (op2 addD (eVar 3) (Mo.ret (.int 1))) (Mo.ret []))) (Mo.ret []))) (gN 8)
  (l1__law_problem_2))
  (sRet (opL tupD (aCons (eVar 4) (aCons (bTup 7) (Mo.ret []))))))))))))
def m__law_problem_2 : List PyData → W PyData := callMS 9 b__law_problem_2
/-- _law_allowed: loop 1 -/
def l1__law_allowed_2  : SM := (sSeq (sIf (op2T eqD (opL tupD (aCons (eVar 4) (aCons (eVar 6) (Mo.ret [])))) (opL tupD (aCons (eVar 1) (aCons (eVar 2) (Mo.ret [])))))
  (sSet 3 (eList (lcM [7] (toI (eVar 3)) (gN 7) (op2T (inD false) (eVar 7) (eVar 5)) (eVar 7))))
  sNil)
  (sIf (op2T eqD (opL tupD (aCons (eVar 4) (aCons (eVar 6) (Mo.ret [])))) (opL tupD (aCons (eVar 2) (aCons (eVar 1) (Mo.ret [])))))
  (sSet 3 (eList (lcM [7] (toI (eVar 3)) (gN 7) (op2T (inD false) (eCall m__law_opposite (aCons (eVar 7) (Mo.ret []))) (eVar 5)) (eVar 7))))
  sNil))
/-- _law_allowed -/
def b__law_allowed_2  : SM := (sSeq (sSet 3 (eCall0 m__law_relations))
  (sSeq (sFor (toI (op2 ixD (eVar 0) (Mo.ret (.int 1)))) (gTp 3 (gCs (gN 4) (gCs (gN 5) (gCs (gN 6) gNl))))
  (l1__law_allowed_2))
  (sRet (opL tupleD (aCons (eVar 3) (Mo.ret []))))))
def m__law_allowed_2 : List PyData → W PyData := callM 8 b__law_allowed_2
end
end VM

set_option Elab.async false
set_option linter.all false
set_option maxRecDepth 100000
set_option maxHeartbeats 1000000
/-! The value layer: str of a small number. -/
namespace VL
noncomputable section
open PySem PySem.Spec PyProof.Rows L2 GxR GA KR GenW
variable {T : List Addr} {ix : Bool} {X : Cx} {c : Ctx T ix} {EK : XK}
def strD : List PyData → Option PyData
  | [.int i] => if 0 ≤ i ∧ i ≤ 9 then some (.str (toString i)) else none
  | _ => none
theorem s_str : SL ix X.K (fun xs H Q => ∃ i, xs = [.int i] ∧ i.natAbs.log2 < 1920 ∧ Q (.str (toString i)) H) strD := by
  intro M H vs ds d Q a al e q
  unfold strD at e
  split at e
  · rename_i i
    split at e
    · rename_i h
      cases e
      obtain ⟨v, rfl, av⟩ := a.one_of
      cases av
      refine ⟨_, rfl, ?_, q _ _ .refl (.str _)⟩
      have : i = 0 ∨ i = 1 ∨ i = 2 ∨ i = 3 ∨ i = 4 ∨ i = 5 ∨ i = 6 ∨ i = 7 ∨ i = 8 ∨ i = 9 := by omega
      rcases this with rfl | rfl | rfl | rfl | rfl | rfl | rfl | rfl | rfl | rfl <;> decide
    · cases e
  · cases e
theorem ve_strI {e : Expr} {ms : Mo (List PyData)} {p pos : Pos} (hg : Gl X "str") (hm : X.mg "str" = none) (h : VA X c EK [e] ms) (hs : starEach [e] X.env = (false, eval e X.env) :: starEach [] X.env := by rfl) : VE X c EK (.Call (.Name "str" p) [e] [] pos) (opL strD ms) := ve_callL (fun h => pe_callTy call_str_int hg hm (by decide +kernel) h (he := hs)) s_str h
def mulTD : PyData → PyData → Option PyData
  | .tuple xs, .int k => if 0 < xs.length ∧ 2 ≤ k ∧ k ≤ 1000 ∧ xs.length ≤ 1000 then some (.tuple (List.replicate k.toNat xs).flatten) else none
  | _, _ => none
theorem s_mulT : S2 false X.K (rRepT X.K) mulTD := by
  intro M H v w a b d Q ha hb al e q
  unfold mulTD at e
  split at e
  · split at e
    · rename_i xs k hz
      cases e
      cases hb
      cases ha with
      | tup qa aa =>
        refine ⟨_, _, _, rfl, rfl, qa.1, (fun z => ?_), hz.2.1, hz.2.2.1, by rw [aa.length]; exact hz.2.2.2, fun p hp => q _ _ (.new hp) (.tup ⟨.inl (.inl upd_same), fun z => nomatch z⟩ ((aa.rep _).kp (.new hp)))⟩
        subst z
        have := aa.length
        rw [← this] at hz
        exact absurd hz.1 (Nat.lt_irrefl 0)
    · cases e
  · cases e
theorem ve_mulT {c : Ctx T false} {a b : Expr} {ma mb : Mo PyData} {pos : Pos} (ha : VE X c EK a ma) (hb : VE X c EK b mb) : VE X c EK (.BinOp a .Mult b pos) (op2 mulTD ma mb) := ve_op2 (fun h h' => pe_op op_repT h h') s_mulT ha hb
end
end VL

set_option Elab.async false
set_option linter.all false
set_option maxRecDepth 100000
/-! What the defs of k17_forms_of_problems compute, read from their texts. -/
namespace VM
open PySem VL
noncomputable section
/-- _law_wrong_rules -/
def b__law_wrong_rules  : SM := (sSeq (sAsg (gTp 3 (gCs (gN 3) (gCs (gN 4) (gCs (gN 5) gNl)))) (eVar 2))
  (sSeq (sSetL 6 (opF lstD (aCons (Mo.ret .none) (aCons (eList (opF lstD (aCons (eVar 3) (aCons (eVar 4) (aCons (eVar 5) (Mo.ret [])))))) (aCons (opL tupD (aCons (eVar 3) (aCons (eVar 4) (Mo.ret [])))) (aCons (opL tupD (aCons (eVar 3) (aCons (eVar 4) (aCons (eVar 5) (aCons (Mo.ret (.int 0)) (Mo.ret [])))))) (aCons (opL tupD (aCons (eVar 3) (aCons (eVar 4) (aCons (eVar 3) (Mo.ret []))))) (aCons (opL tupD (aCons (eVar 1) (aCons (eVar 4) (aCons (eVar 5) (Mo.ret []))))) (Mo.ret [])))))))))
  (sSeq (sSetL 6 (bAddL 6 (eList (opF lstD (aCons (opL tupD (aCons (op1 negD (Mo.ret (.int 1))) (aCons (eVar 4) (aCons (eVar 5) (Mo.ret []))))) (aCons (opL tupD (aCons (eVar 3) (aCons (eVar 4) (aCons (eVar 1) (Mo.ret []))))) (aCons (opL tupD (aCons (eVar 3) (aCons (eVar 4) (aCons (op1 negD (Mo.ret (.int 1))) (Mo.ret []))))) (aCons (opL tupD (aCons (Mo.ret .none) (aCons (eVar 4) (aCons (eVar 5) (Mo.ret []))))) (aCons (opL tupD (aCons (eVar 3) (aCons (eList (opF listD (aCons (eVar 4) (Mo.ret [])))) (aCons (eVar 5) (Mo.ret []))))) (Mo.ret []))))))))))
  (sSeq (sSetL 6 (bAddL 6 (eList (opF lstD (aCons (opL tupD (aCons (eVar 3) (aCons (opL tupD (Mo.ret [])) (aCons (eVar 5) (Mo.ret []))))) (aCons (opL tupD (aCons (eVar 3) (aCons (opL tupD (aCons (Mo.ret (.str "after")) (aCons (Mo.ret (.str "before")) (Mo.ret [])))) (aCons (eVar 5) (Mo.ret []))))) (aCons (opL tupD (aCons (eVar 3) (aCons (opL tupD (aCons (Mo.ret (.str "before")) (aCons (Mo.ret (.str "before")) (Mo.ret [])))) (aCons (eVar 5) (Mo.ret []))))) (aCons (opL tupD (aCons (eVar 3) (aCons (opL tupD (aCons (Mo.ret (.str "behind")) (Mo.ret []))) (aCons (eVar 5) (Mo.ret []))))) (Mo.ret [])))))))))
  (sSeq (sSetL 6 (bAddL 6 (eList (opF lstD (aCons (opL tupD (aCons (eVar 3) (aCons (Mo.ret (.str "before")) (aCons (eVar 5) (Mo.ret []))))) (aCons (opL tupD (aCons (eVar 3) (aCons (opL tupD (aCons (Mo.ret (.int 1)) (Mo.ret []))) (aCons (eVar 5) (Mo.ret []))))) (aCons (opL tupD (aCons (eVar 3) (aCons (opL tupD (aCons (Mo.ret (.str "before")) (aCons (Mo.ret (.str "beside")) (aCons (Mo.ret (.str "after")) (aCons (Mo.ret (.str "after")) (Mo.ret [])))))) (aCons (eVar 5) (Mo.ret []))))) (aCons (Mo.ret (.str "rule")) (Mo.ret [])))))))))
  (sSeq (sSetL 6 (bAddL 6 (eList (opF lstD (aCons (opL tupD (aCons (eVar 3) (aCons (opL tupD (aCons (Mo.ret (.str "beside")) (aCons (Mo.ret (.str "before")) (aCons (Mo.ret (.str "after")) (Mo.ret []))))) (aCons (eVar 5) (Mo.ret []))))) (aCons (opL tupD (aCons (opL strD (aCons (eVar 3) (Mo.ret []))) (aCons (eVar 4) (aCons (eVar 5) (Mo.ret []))))) (Mo.ret [])))))))
  (sSeq (sIf (op2T ltD (eVar 3) (Mo.ret (.int 2)))
  (sExpr (eAppend 6 (opL tupD (aCons (op2 eqD (eVar 3) (Mo.ret (.int 1))) (aCons (eVar 4) (aCons (eVar 5) (Mo.ret [])))))))
  sNil)
  (sSeq (sIf (op2T ltD (eVar 5) (Mo.ret (.int 2)))
  (sExpr (eAppend 6 (opL tupD (aCons (eVar 3) (aCons (eVar 4) (aCons (op2 eqD (eVar 5) (Mo.ret (.int 1))) (Mo.ret [])))))))
  sNil)
  (sRet (Mo.bind (peek 6) fun _ => bIx 6 (eCallS 0 mNext (aCons (bLen 6) (Mo.ret [])))))))))))))
def m__law_wrong_rules : List PyData → W PyData := callMS 7 b__law_wrong_rules
end
end VM

set_option Elab.async false
set_option linter.all false
set_option maxRecDepth 100000
/-! k17_forms_of_problems: what the law computes -/
namespace K17
open PySem VL VM
noncomputable section
def l1_law : SM := (sSeq (sSet 9 (eCallS 1 m__law_wrong_rules (aCons (eVar 3) (aCons (eCallS 1 m__law_rule (aCons (eVar 3) (aCons (Mo.ret .none) (Mo.ret [])))) (Mo.ret [])))))
  (sIf (tB1 (op1 (isBD true false) (eCall m_is_problem (aCons (opL tupD (aCons (eVar 3) (aCons (op2 addD (op2 addD (eSlice (eSlice (eVar 4) (Mo.ret none) (toO (eVar 7))) (Mo.ret none) (toO (Mo.ret (.int 19)))) (opL tupD (aCons (eVar 9) (Mo.ret [])))) (eSlice (eSlice (eVar 4) (toO (eVar 7)) (Mo.ret none)) (Mo.ret none) (toO (op2 subD (Mo.ret (.int 19)) (eVar 7))))) (Mo.ret [])))) (Mo.ret [])))))
  (sRet (Mo.ret (.bool false)))
  sNil))
def b_law : SM := (sSeq (sSet 2 (eCallS 1 m__law_problem_2 (aCons (Mo.ret (.int 1)) (aCons (Mo.ret (.int 7)) (aCons (Mo.ret (.int 20)) (Mo.ret []))))))
  (sSeq (sIf (tB1 (op1 (isBD true true) (eCall m_is_problem (aCons (eVar 2) (Mo.ret [])))))
  (sRet (Mo.ret (.bool false)))
  sNil)
  (sSeq (sAsg (gTp 2 (gCs (gN 3) (gCs (gN 4) gNl))) (eVar 2))
  (sSeq (sSet 5 (eList (opF lstD (aCons (Mo.ret .none) (aCons (eList (opF listD (aCons (eVar 2) (Mo.ret [])))) (aCons (opL tupD (aCons (eVar 3) (Mo.ret []))) (aCons (opL tupD (aCons (eVar 3) (aCons (eVar 4) (aCons (opL tupD (Mo.ret [])) (Mo.ret []))))) (aCons (opL tupD (aCons (Mo.ret (.int 0)) (aCons (opL tupD (Mo.ret [])) (Mo.ret [])))) (aCons (opL tupD (aCons (Mo.ret (.int 8)) (aCons (eVar 4) (Mo.ret [])))) (aCons (opL tupD (aCons (op1 negD (Mo.ret (.int 1))) (aCons (opL tupD (Mo.ret [])) (Mo.ret [])))) (aCons (opL tupD (aCons (Mo.ret (.bool true)) (aCons (opL tupD (Mo.ret [])) (Mo.ret [])))) (aCons (opL tupD (aCons (opL strD (aCons (eVar 3) (Mo.ret []))) (aCons (eVar 4) (Mo.ret [])))) (aCons (opL tupD (aCons (eVar 3) (aCons (eList (opF listD (aCons (eVar 4) (Mo.ret [])))) (Mo.ret [])))) (aCons (opL tupD (aCons (Mo.ret .none) (aCons (eVar 4) (Mo.ret [])))) (Mo.ret [])))))))))))))))
  (sSeq (sIf (tB1 (op1 (isBD true false) (eCall m_is_problem (aCons (op2 ixD (eVar 5) (eCallS 1 mNext (aCons (opL lenD (aCons (eVar 5) (Mo.ret []))) (Mo.ret [])))) (Mo.ret [])))))
  (sRet (Mo.ret (.bool false)))
  sNil)
  (sSeq (sIf (op2T eqD (eVar 3) (Mo.ret (.int 1)))
  (sRet (op1 (isBD false false) (eCall m_is_problem (aCons (opL tupD (aCons (Mo.ret (.int 1)) (aCons (opL tupD (aCons (opL tupD (aCons (Mo.ret (.int 0)) (aCons (opL tupD (aCons (Mo.ret (.str "before")) (Mo.ret []))) (aCons (Mo.ret (.int 0)) (Mo.ret []))))) (Mo.ret []))) (Mo.ret [])))) (Mo.ret [])))))
  sNil)
  (sSeq (sSet 6 (eCallS 1 m__law_rule (aCons (eVar 3) (aCons (Mo.ret .none) (Mo.ret [])))))
  (sSeq (sSet 7 (op2 ixD (eList (opF lstD (aCons (Mo.ret (.int 0)) (aCons (op2 fdivD (opL lenD (aCons (eVar 4) (Mo.ret []))) (Mo.ret (.int 2))) (aCons (opL lenD (aCons (eVar 4) (Mo.ret []))) (Mo.ret [])))))) (eCallS 1 mNext (aCons (Mo.ret (.int 3)) (Mo.ret [])))))
  (sSeq (sFor (opF rng1D (aCons (Mo.ret (.int 4)) (Mo.ret []))) (gN 8)
  l1_law)
  (sSeq (sSet 10 (eSlice (op2 addD (eVar 4) (op2 mulTD (opL tupD (aCons (eVar 6) (Mo.ret []))) (Mo.ret (.int 20)))) (Mo.ret none) (toO (Mo.ret (.int 20)))))
  (sRet (eAnd (op1 (isBD false true) (eCall m_is_problem (aCons (opL tupD (aCons (eVar 3) (aCons (eVar 10) (Mo.ret [])))) (Mo.ret [])))) (op1 (isBD false false) (eCall m_is_problem (aCons (opL tupD (aCons (eVar 3) (aCons (op2 addD (eVar 10) (opL tupD (aCons (eVar 6) (Mo.ret [])))) (Mo.ret [])))) (Mo.ret []))))))))))))))))
end
end K17

set_option Elab.async false
set_option linter.all false
set_option maxRecDepth 100000
set_option maxHeartbeats 1000000
/-! What the computations are worth: basics, problems, allowed relations. -/
namespace VM
open PySem VL KP
local macro_rules | `(tactic| walk_at "vl") => `(tactic| simp only [c_op1, c_op2, c_op2T, c_op2F, c_opL, c_opF, c_aCons, c_eList, c_eCall, c_eCall0, c_eCallS, stS_s, c_toT, c_tB1, c_tNotM, c_tAndM, c_tOrM, c_eAnd, c_eOr, c_eIf, c_eChain, chD_int, c_toO, intO_int, c_eSlice, c_toI, c_ret, c_bind, c_eVar, vS_d, vS_l, vS_ll, peekS_d, peekS_l, c_peek, c_bLen, c_bIx, c_bIn, c_bTru, c_bTup, c_bLst, c_bSort, c_bAddL, lS_l, c_eAppend, c_eExtend, c_ePop, c_ePopAt, seqR_nx, seqR_bk, seqR_ct, seqR_rt, c_sSeq, c_sNil, c_sRet, c_sRetN, c_sExpr, c_sBreak, c_sCont, c_stD, c_sSet, c_sSetL, c_sSetLL, c_sIf, c_sAsg, c_gR, dS_d, c_sAug, c_sFor, raR_str, c_sRaise, c_gN, gTp_tup, gCs, gNl, callR_nx, callR_rt, c_callM, c_callMS, c_wipe, c_wipe0, bD_bool, outD_some, W.ret_bind, W_bind_assoc, W.opt_some, W.opt_none, W.nox_ret, sAt_z, sAt_s, sAt_nil, Option.bind_some, Option.bind_none, Option.map_some, List.set_cons_zero, List.set_cons_succ, List.length_cons, List.length_nil, List.length_set, start0, List.map_cons, List.map_nil, List.cons_append, List.nil_append, List.append_nil, List.replicate_succ, List.replicate_zero, Nat.reduceAdd, Nat.reduceSub, Nat.reduceLT, Nat.reduceLeDiff, Nat.zero_add, Nat.add_zero, Nat.lt_add_left_iff_pos, Nat.succ_pos, if_true, if_false, ite_true, ite_false, reduceIte, reduceCtorEq, Bool.false_eq_true, Bool.true_and, Bool.and_true, Bool.false_and, Bool.and_false, Bool.not_true, Bool.not_false, Bool.xor_false, Bool.xor_true, Bool.false_xor, Bool.true_xor, Bool.not_not, decide_eq_true_eq, decide_true, decide_false, decide_eq_false_iff_not, Bool.not_eq_true', Bool.not_eq_false', beq_self_eq_true, isi_int_int, isi_int_bool, isi_int_str, isi_int_non, isi_int_tup, isi_int_lst, isi_bool_int, isi_bool_bool, isi_bool_str, isi_bool_non, isi_bool_tup, isi_bool_lst, isi_str_int, isi_str_bool, isi_str_str, isi_str_non, isi_str_tup, isi_str_lst, isi_tup_int, isi_tup_bool, isi_tup_str, isi_tup_non, isi_tup_tup, isi_tup_lst, isi_lst_int, isi_lst_bool, isi_lst_str, isi_lst_non, isi_lst_tup, isi_lst_lst, tru_bool, not_bool, isN_none, isN_bool, isN_int, isN_str, isN_tup, isN_lst, isB_bool, cmp_int, add_int, iadd_int, sub_int, neg_int, len_tup, len_lst, tuple_lst, tuple_tup, list_lst, list_tup, seq_lst, seq_tup, ix_tup, ix_lst, tupD, lstD, K_, atI_0, atI_1, atI_2, atI_3, eqD_int, neD_int, eqD_bool, bCase_bool, Int.cast_ofNat_Int, Int.natCast_zero, Int.natCast_one, Int.reduceBNe, Int.reduceBEq, Int.reduceLT, Int.reduceLE, bne_self_eq_false])
local macro_rules | `(tactic| walk_at "vls") => `(tactic| simp only [c_op1, c_op2, c_op2T, c_op2F, c_opL, c_opF, c_aCons, c_eList, c_eCall, c_eCall0, c_eCallS, stS_s, c_toT, c_tB1, c_tNotM, c_tAndM, c_tOrM, c_eAnd, c_eOr, c_eIf, c_eChain, chD_int, c_toO, intO_int, c_eSlice, c_toI, c_ret, c_bind, c_eVar, vS_d, vS_l, vS_ll, peekS_d, peekS_l, c_peek, c_bLen, c_bIx, c_bIn, c_bTru, c_bTup, c_bLst, c_bSort, c_bAddL, lS_l, c_eAppend, c_eExtend, c_ePop, c_ePopAt, seqR_nx, seqR_bk, seqR_ct, seqR_rt, c_sSeq, c_sNil, c_sRet, c_sRetN, c_sExpr, c_sBreak, c_sCont, c_stD, c_sSet, c_sSetL, c_sSetLL, c_sIf, c_sAsg, c_gR, dS_d, c_sAug, c_sFor, raR_str, c_sRaise, c_gN, gTp_tup, gCs, gNl, callR_nx, callR_rt, c_callM, c_callMS, c_wipe, c_wipe0, bD_bool, outD_some, W.ret_bind, W_bind_assoc, W.opt_some, W.opt_none, W.nox_ret, sAt_z, sAt_s, sAt_nil, Option.bind_some, Option.bind_none, Option.map_some, List.set_cons_zero, List.set_cons_succ, List.length_cons, List.length_nil, List.length_set, start0, List.map_cons, List.map_nil, List.cons_append, List.nil_append, List.append_nil, List.replicate_succ, List.replicate_zero, Nat.reduceAdd, Nat.reduceSub, Nat.reduceLT, Nat.reduceLeDiff, Nat.zero_add, Nat.add_zero, Nat.lt_add_left_iff_pos, Nat.succ_pos, if_true, if_false, ite_true, ite_false, reduceIte, reduceCtorEq, Bool.false_eq_true, Bool.true_and, Bool.and_true, Bool.false_and, Bool.and_false, Bool.not_true, Bool.not_false, Bool.xor_false, Bool.xor_true, Bool.false_xor, Bool.true_xor, Bool.not_not, decide_eq_true_eq, decide_true, decide_false, decide_eq_false_iff_not, Bool.not_eq_true', Bool.not_eq_false', beq_self_eq_true, isi_int_int, isi_int_bool, isi_int_str, isi_int_non, isi_int_tup, isi_int_lst, isi_bool_int, isi_bool_bool, isi_bool_str, isi_bool_non, isi_bool_tup, isi_bool_lst, isi_str_int, isi_str_bool, isi_str_str, isi_str_non, isi_str_tup, isi_str_lst, isi_tup_int, isi_tup_bool, isi_tup_str, isi_tup_non, isi_tup_tup, isi_tup_lst, isi_lst_int, isi_lst_bool, isi_lst_str, isi_lst_non, isi_lst_tup, isi_lst_lst, tru_bool, not_bool, isN_none, isN_bool, isN_int, isN_str, isN_tup, isN_lst, isB_bool, cmp_int, add_int, iadd_int, sub_int, neg_int, len_tup, len_lst, tuple_lst, tuple_tup, list_lst, list_tup, seq_lst, seq_tup, ix_tup, ix_lst, tupD, lstD, K_, atI_0, atI_1, atI_2, atI_3, eqD_int, neD_int, eqD_bool, bCase_bool, Int.cast_ofNat_Int, Int.natCast_zero, Int.natCast_one, Int.reduceBNe, Int.reduceBEq, Int.reduceLT, Int.reduceLE, bne_self_eq_false, *])
theorem require_t (x : PyData) : m_require [.bool true, x] = W.ret .none := by
  unfold m_require b_require
  walk_at "vl"
theorem is_integer_int (i : Int) : m_is_integer [.int i] = W.ret (.bool true) := by
  unfold m_is_integer b_is_integer
  walk_at "vl"
theorem is_index_int (i n : Int) : m_is_index [.int i, .int n] = W.ret (.bool (decide (0 ≤ i ∧ i < n))) := by
  unfold m_is_index b_is_index
  walk_at "vl"
  rw [is_integer_int]
  walk_at "vl"
  by_cases h : 0 ≤ i <;> simp [h]
theorem is_size_int (i : Int) : m_is_size [.int i] = W.ret (.bool (decide (1 ≤ i ∧ i ≤ 7))) := by
  unfold m_is_size b_is_size
  walk_at "vl"
  rw [is_integer_int]
  walk_at "vl"
  by_cases h : 1 ≤ i <;> simp [h]
theorem is_index_t {i n : Nat} (h : i < n) : m_is_index [.int (i : Nat), .int (n : Nat)] = W.ret (.bool true) := by
  rw [is_index_int, decide_eq_true (by omega)]
theorem is_size_t {n : Nat} (h : 1 ≤ n) (h7 : n ≤ 7) : m_is_size [.int (n : Nat)] = W.ret (.bool true) := by
  rw [is_size_int, decide_eq_true (by omega)]
/-- the words of a list that stand in another -/
theorem common_strs (l r : List Str) (hl : l.length ≤ 1000) (ho : ∀ x ∈ l, PyData.strOk x = true) (hr : ∀ x ∈ r, PyData.strOk x = true) : m_common [.tuple (l.map .str), .tuple (r.map .str)] = W.ret (.tuple ((l.filter fun x => decide (x ∈ r)).map .str)) := by
  unfold m_common b_common
  walk_at "vl"
  rw [lcM_of l .str (fun x => decide (x ∈ r)) .str (by walk_at "vl") (sl_of (by omega)) rfl ?h]
  · walk_at "vl"
  · intro x hx
    refine ⟨_, rfl, ?_⟩
    refine ⟨?_, fun _ => ?_, rfl⟩
    · walk_at "vl"
      rw [inD_tup (Gd.str (n := 0) (ho x hx)) (fun z hz => by obtain ⟨y, hy, rfl⟩ := List.mem_map.mp hz; exact Gd.str (n := 0) (hr y hy)) mem_strs]
      walk_at "vl"
    · walk_at "vl"
theorem rels_eq : ([(.str "before"), (.str "beside"), (.str "after")] : List PyData) = ks.map .str := rfl
theorem rule_ok {n : Nat} {r : Rule} (h : OkR n r) : m_is_rule [ruleD r, .int (n : Nat)] = W.ret (.bool true) := by
  unfold m_is_rule b_is_rule ruleD
  have f1 := is_index_t h.ff
  have f2 := is_index_t h.ss
  have ne : ((r.f : Int) == (r.s : Int)) = false := by
    rw [beq_eq_false_iff_ne]
    have := h.ne
    omega
  have hpos : (0 : Int) < ((r.rs.map PyData.str).length : Int) := by
    rw [List.length_map]
    have := List.length_pos_iff.mpr h.some
    omega
  have hg : Gd 1 (.tuple (r.rs.map PyData.str)) := shp_strs (OkR.ok h)
  have f3 := common_strs ks r.rs (by decide) ks_ok (OkR.ok h)
  rw [sub_filter h.sub, ← rels_eq] at f3
  have f4 := eqD_gd (p := True) hg hg (by simp)
  walk_at "vls"
structure OkP (mx n : Nat) (R : List Rule) : Prop where
  lo : 1 ≤ n
  hi : n ≤ 7
  len : R.length ≤ mx
  ok : ∀ r ∈ R, OkR n r
theorem problem_ok {mx n : Nat} {R : List Rule} (h : OkP mx n R) (hm : mx ≤ 20) : m_is_problem [probD n R] = W.ret (.bool true) := by
  unfold m_is_problem b_is_problem probD
  walk_at "vl"
  rw [is_size_t h.lo h.hi]
  have hl := h.len
  have h20 : ¬ (20 : Int) < ((R.map ruleD).length : Int) := by rw [List.length_map]; omega
  walk_at "vl"
  simp only [h20]
  walk_at "vl"
  rw [genM_of R ruleD (fun _ => true) (by walk_at "vl") rfl ?h]
  · rw [if_neg Bool.false_ne_true, List.all_eq_true.mpr fun _ _ => rfl]
    walk_at "vl"
  · intro r hr
    refine ⟨_, rfl, ?_⟩
    refine ⟨?_, rfl⟩
    walk_at "vl"
    rw [rule_ok (h.ok r hr)]
    walk_at "vl"
theorem check_problem_ok {mx n : Nat} {R : List Rule} (h : OkP mx n R) (hm : mx ≤ 20) : m_check_problem [probD n R] = W.ret .none := by
  unfold m_check_problem b_check_problem
  walk_at "vl"
  rw [problem_ok h hm]
  walk_at "vl"
  rw [require_t]
  walk_at "vl"
theorem probD_0 (n : Nat) (R : List Rule) : ixD (probD n R) (.int 0) = some (.int (n : Nat)) := atI_0 _ _
theorem check_pair_ok {mx n x y : Nat} {R : List Rule} (h : OkP mx n R) (hm : mx ≤ 20) (hx : x < n) (hy : y < n) (ne : x ≠ y) : m_check_pair [probD n R, .int (x : Nat), .int (y : Nat)] = W.ret .none := by
  unfold m_check_pair b_check_pair
  have hne : ((y : Int) != (x : Int)) = true := by
    rw [bne_iff_ne]
    omega
  have f1 := check_problem_ok h hm
  have f2 := probD_0 n R
  have f3 := is_index_t hx
  have f4 := is_index_t hy
  have f5 := require_t
  walk_at "vls"
theorem opposites_ok (l : List Str) (hl : ∀ x ∈ l, x ∈ ks) : m_opposites_of [.tuple (l.map .str)] = W.ret (.tuple ((ks.filter fun x => decide (opp x ∈ l)).map .str)) := by
  unfold m_opposites_of b_opposites_of
  walk_at "vl"
  rw [lcM_of ks .str (fun x => decide (opp x ∈ l)) .str (by walk_at "vl"; rfl) (by decide) rfl ?h]
  · walk_at "vl"
  · intro x hx
    refine ⟨_, rfl, ?_⟩
    refine ⟨?_, fun _ => ?_, rfl⟩
    · walk_at "vl"
      have hk : kdD [("before", "after"), ("beside", "beside"), ("after", "before")] (.str x) = some (.str (opp x)) := kd_opp hx
      rw [hk]
      walk_at "vl"
      rw [inD_tup (Gd.str (n := 0) (ks_ok _ (opp_ks hx).1)) (fun z hz => by obtain ⟨y, hy, rfl⟩ := List.mem_map.mp hz; exact Gd.str (n := 0) (sub_ok hl y hy)) mem_strs]
      walk_at "vl"
    · walk_at "vl"
/-- the relations that the rules allow, as the program's table -/
def chF (R : List Rule) (x y : Nat) : PyData := .tuple ((allw R x y).map .str)
theorem chF_nil (n : Nat) : tabS n (chF []) = (List.range n).map fun _ => List.replicate n (.tuple (ks.map .str)) := by
  unfold tabS
  refine List.map_congr_left fun x _ => ?_
  refine List.ext_getElem? fun y => ?_
  by_cases h : y < n
  · rw [row_get h, List.getElem?_replicate_of_lt h]
    unfold chF
    rw [allw_nil]
  · rw [List.getElem?_eq_none (l := (List.range n).map _) (by simpa using h), List.getElem?_eq_none (by simpa using h)]
theorem filter_mem_comm {R : List Rule} {i : Nat} {r : Rule} {n : Nat} (h : R[i]? = some r) (ok : OkR n r) : (allw (R.take i) r.f r.s).filter (fun x => decide (x ∈ r.rs)) = allw (R.take (i + 1)) r.f r.s := by
  rw [allw_take h]
  refine List.filter_congr fun w _ => ?_
  unfold fits
  rw [if_pos ⟨rfl, rfl⟩, if_neg fun z => ok.ne z.1, Bool.and_true]
theorem opp_swap {R : List Rule} {x y : Nat} : ks.filter (fun w => decide (opp w ∈ allw R x y)) = allw R y x := by
  have : ∀ w ∈ ks, (decide (opp w ∈ allw R x y)) = (R.all fun r => fits r y x w) := fun w hw => by
    rw [Bool.eq_iff_iff, decide_eq_true_eq, ← allw_swap hw]
    unfold allw
    rw [List.mem_filter]
    exact ⟨fun z => z.2, fun z => ⟨hw, z⟩⟩
  rw [List.filter_congr this]
  rfl
theorem chF_step {R : List Rule} {i n : Nat} {r : Rule} (h : R[i]? = some r) (ok : OkR n r) : tabS n (upd2 (upd2 (chF (R.take i)) r.f r.s (chF (R.take (i + 1)) r.f r.s)) r.s r.f (chF (R.take (i + 1)) r.s r.f)) = tabS n (chF (R.take (i + 1))) := by
  unfold tabS
  refine List.map_congr_left fun x _ => List.map_congr_left fun y _ => ?_
  unfold upd2
  split
  · rename_i z
    rw [z.1, z.2]
  · rename_i z1
    split
    · rename_i z
      rw [z.1, z.2]
    · rename_i z2
      unfold chF
      rw [allw_take h]
      refine congrArg (fun l => PyData.tuple (List.map PyData.str l)) ?_
      refine (List.filter_eq_self.mpr fun w _ => ?_).symm
      unfold fits
      rw [if_neg fun z => z2 ⟨z.1.symm, z.2.symm⟩, if_neg fun z => z1 ⟨z.2.symm, z.1.symm⟩]
      rfl
theorem choices_turn {n i : Nat} {R : List Rule} {r : Rule} (hr : R[i]? = some r) (ok : OkR n r) (a b c d : Sl) : l1_choices_of [a, b, c, d, .ll (tabS n (chF (R.take i))), .d (.int (r.f : Nat)), .d (.tuple (r.rs.map .str)), .d (.int (r.s : Nat))] =
    W.ret (.nx, [a, b, c, d, .ll (tabS n (chF (R.take (i + 1)))), .d (.int (r.f : Nat)), .d (.tuple (r.rs.map .str)), .d (.int (r.s : Nat))]) := by
  unfold l1_choices_of
  simp only [sSeq]
  rw [sPut2_tab (x := r.f) (y := r.s) (n := n) (F := chF (R.take i)) (d := chF (R.take (i + 1)) r.f r.s) (env1 := [a, b, c, d, .ll (tabS n (chF (R.take i))), .d (.int (r.f : Nat)), .d (.tuple (r.rs.map .str)), .d (.int (r.s : Nat))]) ?m1 rfl rfl rfl ok.ff ok.ss]
  case m1 =>
    walk_at "vl"
    rw [bIx2_tab (x := r.f) (y := r.s) (n := n) (F := chF (R.take i)) rfl rfl rfl ok.ff ok.ss]
    walk_at "vl"
    rw [show chF (R.take i) r.f r.s = .tuple ((allw (R.take i) r.f r.s).map .str) from rfl, common_strs _ _ (by have := allw_len (R.take i) r.f r.s; omega) (sub_ok allw_ks) (OkR.ok ok), filter_mem_comm hr ok]
    walk_at "vl"
    rfl
  walk_at "vl"
  have e : upd2 (chF (R.take i)) r.f r.s (chF (R.take (i + 1)) r.f r.s) r.f r.s = chF (R.take (i + 1)) r.f r.s := if_pos ⟨rfl, rfl⟩
  rw [sPut2_tab (x := r.s) (y := r.f) (n := n) (F := upd2 (chF (R.take i)) r.f r.s (chF (R.take (i + 1)) r.f r.s)) (d := chF (R.take (i + 1)) r.s r.f) (env1 := [a, b, c, d, .ll (tabS n (upd2 (chF (R.take i)) r.f r.s (chF (R.take (i + 1)) r.f r.s))), .d (.int (r.f : Nat)), .d (.tuple (r.rs.map .str)), .d (.int (r.s : Nat))]) ?m2 rfl rfl rfl ok.ss ok.ff]
  case m2 =>
    walk_at "vl"
    rw [bIx2_tab (x := r.f) (y := r.s) (n := n) (F := upd2 (chF (R.take i)) r.f r.s (chF (R.take (i + 1)) r.f r.s)) rfl rfl rfl ok.ff ok.ss, e]
    walk_at "vl"
    rw [show chF (R.take (i + 1)) r.f r.s = .tuple ((allw (R.take (i + 1)) r.f r.s).map .str) from rfl, opposites_ok _ allw_ks, opp_swap]
    walk_at "vl"
    rfl
  rw [chF_step hr ok]
  walk_at "vl"
theorem choices_ok {mx n : Nat} {R : List Rule} (h : OkP mx n R) (hm : mx ≤ 20) : m_choices_of [probD n R] = W.ret (.list ((tabS n (chF R)).map .list)) := by
  have hn := h.hi
  unfold m_choices_of b_choices_of probD
  walk_at "vl"
  rw [lcFM_of (List.range n) (fun k : Nat => PyData.int (k : Int)) (fun _ => List.replicate n (.tuple (ks.map .str))) (by walk_at "vl"; rw [rng1D_nat (by omega)]; walk_at "vl") (sl_of (by rw [List.length_range]; omega)) rfl ?h]
  case h =>
    intro x hx
    refine ⟨_, rfl, ?_⟩
    refine ⟨?_, rfl⟩
    walk_at "vl"
    rw [repD_ok (k := n) (by omega) (by rw [List.length_singleton]; omega), flat_one, rels_eq]
    walk_at "vl"
  rw [← chF_nil]
  walk_at "vl"
  obtain ⟨env', e1, a, b, c, e2⟩ := forW_ex (g := gTp 3 (gCs (gN 5) (gCs (gN 6) (gCs (gN 7) gNl)))) (b := l1_choices_of) R ruleD (fun i env => ∃ a b c, env = [Sl.d (.tuple [.int n, .tuple (R.map ruleD)]), .d (.int n), .d (.tuple (R.map ruleD)), .no, .ll (tabS n (chF (R.take i))), a, b, c]) (by
    rintro i r env hr ⟨a, b, c, rfl⟩
    exact ⟨_, _, rfl, .inl (choices_turn hr (h.ok r (List.mem_of_getElem? hr)) _ _ _ _), _, _, _, rfl⟩) _ ⟨.no, .no, .no, rfl⟩
  rw [List.take_length] at e2
  rw [List.take_zero] at e1
  subst e2
  rw [e1]
  walk_at "vl"
theorem choices_row {n x : Nat} {F : Nat → Nat → PyData} (hx : x < n) : ixD (.list ((tabS n F).map .list)) (.int (x : Nat)) = some (.list ((List.range n).map fun y => F x y)) := by
  rw [ix_lst, atI_nat (by rw [List.length_map, tabS_len]; exact hx), List.getElem?_map, tabS_get hx]
  rfl
theorem row_at {n y : Nat} {f : Nat → PyData} (hy : y < n) : ixD (.list ((List.range n).map f)) (.int (y : Nat)) = some (f y) := by
  rw [ix_lst, atI_nat (by simpa using hy), row_get hy]
theorem is_tied_ok {mx n x y : Nat} {R : List Rule} (h : OkP mx n R) (hm : mx ≤ 20) (hx : x < n) (hy : y < n) (ne : x ≠ y) : m_is_tied [probD n R, .int (x : Nat), .int (y : Nat)] = W.ret (.bool (!decide (("beside" : Str) ∈ allw R x y))) := by
  unfold m_is_tied b_is_tied
  walk_at "vl"
  rw [check_pair_ok h hm hx hy ne]
  walk_at "vl"
  rw [choices_ok h hm]
  walk_at "vl"
  rw [← ix_lst, choices_row hx]
  walk_at "vl"
  rw [← ix_lst, row_at hy]
  walk_at "vl"
  unfold chF
  rw [inD_tup (Gd.str (n := 0) (by decide +kernel)) (fun z hz => by obtain ⟨y, hy, rfl⟩ := List.mem_map.mp hz; exact Gd.str (n := 0) (ks_ok _ (allw_ks _ hy))) mem_strs]
  walk_at "vl"
theorem hinders_ok {mx n x y : Nat} {R : List Rule} (h : OkP mx n R) (hm : mx ≤ 20) (hx : x < n) (hy : y < n) (ne : x ≠ y) : m_hinders [probD n R, .int (x : Nat), .int (y : Nat)] = W.ret (.bool (!decide (("before" : Str) ∈ allw R x y))) := by
  unfold m_hinders b_hinders
  walk_at "vl"
  rw [check_pair_ok h hm hx hy ne]
  walk_at "vl"
  rw [choices_ok h hm]
  walk_at "vl"
  rw [← ix_lst, choices_row hx]
  walk_at "vl"
  rw [← ix_lst, row_at hy]
  walk_at "vl"
  unfold chF
  rw [inD_tup (Gd.str (n := 0) (by decide +kernel)) (fun z hz => by obtain ⟨y, hy, rfl⟩ := List.mem_map.mp hz; exact Gd.str (n := 0) (ks_ok _ (allw_ks _ hy))) mem_strs]
  walk_at "vl"
end VM

set_option Elab.async false
set_option linter.all false
set_option maxRecDepth 100000
set_option maxHeartbeats 1000000
/-! What the laws' own computations are worth: equality, problems drawn, allowed relations. -/
namespace VM
open PySem VL KP
local macro_rules | `(tactic| walk_at "vl") => `(tactic| simp only [c_op1, c_op2, c_op2T, c_op2F, c_opL, c_opF, c_aCons, c_eList, c_eCall, c_eCall0, c_eCallS, stS_s, c_toT, c_tB1, c_tNotM, c_tAndM, c_tOrM, c_eAnd, c_eOr, c_eIf, c_eChain, chD_int, c_toO, intO_int, c_eSlice, c_toI, c_ret, c_bind, c_eVar, vS_d, vS_l, vS_ll, peekS_d, peekS_l, c_peek, c_bLen, c_bIx, c_bIn, c_bTru, c_bTup, c_bLst, c_bSort, c_bAddL, lS_l, c_eAppend, c_eExtend, c_ePop, c_ePopAt, seqR_nx, seqR_bk, seqR_ct, seqR_rt, c_sSeq, c_sNil, c_sRet, c_sRetN, c_sExpr, c_sBreak, c_sCont, c_stD, c_sSet, c_sSetL, c_sSetLL, c_sIf, c_sAsg, c_gR, dS_d, c_sAug, c_sFor, raR_str, c_sRaise, c_gN, gTp_tup, gCs, gNl, callR_nx, callR_rt, c_callM, c_callMS, c_wipe, c_wipe0, bD_bool, outD_some, W.ret_bind, W_bind_assoc, W.opt_some, W.opt_none, W.nox_ret, sAt_z, sAt_s, sAt_nil, Option.bind_some, Option.bind_none, Option.map_some, List.set_cons_zero, List.set_cons_succ, List.length_cons, List.length_nil, List.length_set, start0, List.map_cons, List.map_nil, List.cons_append, List.nil_append, List.append_nil, List.replicate_succ, List.replicate_zero, Nat.reduceAdd, Nat.reduceSub, Nat.reduceLT, Nat.reduceLeDiff, Nat.zero_add, Nat.add_zero, Nat.lt_add_left_iff_pos, Nat.succ_pos, if_true, if_false, ite_true, ite_false, reduceIte, reduceCtorEq, Bool.false_eq_true, Bool.true_and, Bool.and_true, Bool.false_and, Bool.and_false, Bool.not_true, Bool.not_false, Bool.xor_false, Bool.xor_true, Bool.false_xor, Bool.true_xor, Bool.not_not, decide_eq_true_eq, decide_true, decide_false, decide_eq_false_iff_not, Bool.not_eq_true', Bool.not_eq_false', beq_self_eq_true, isi_int_int, isi_int_bool, isi_int_str, isi_int_non, isi_int_tup, isi_int_lst, isi_bool_int, isi_bool_bool, isi_bool_str, isi_bool_non, isi_bool_tup, isi_bool_lst, isi_str_int, isi_str_bool, isi_str_str, isi_str_non, isi_str_tup, isi_str_lst, isi_tup_int, isi_tup_bool, isi_tup_str, isi_tup_non, isi_tup_tup, isi_tup_lst, isi_lst_int, isi_lst_bool, isi_lst_str, isi_lst_non, isi_lst_tup, isi_lst_lst, tru_bool, not_bool, isN_none, isN_bool, isN_int, isN_str, isN_tup, isN_lst, isB_bool, cmp_int, add_int, iadd_int, sub_int, neg_int, len_tup, len_lst, tuple_lst, tuple_tup, list_lst, list_tup, seq_lst, seq_tup, ix_tup, ix_lst, tupD, lstD, K_, atI_0, atI_1, atI_2, atI_3, eqD_int, neD_int, eqD_bool, bCase_bool, Int.cast_ofNat_Int, Int.natCast_zero, Int.natCast_one, Int.reduceBNe, Int.reduceBEq, Int.reduceLT, Int.reduceLE, bne_self_eq_false])
local macro_rules | `(tactic| walk_at "vls") => `(tactic| simp only [c_op1, c_op2, c_op2T, c_op2F, c_opL, c_opF, c_aCons, c_eList, c_eCall, c_eCall0, c_eCallS, stS_s, c_toT, c_tB1, c_tNotM, c_tAndM, c_tOrM, c_eAnd, c_eOr, c_eIf, c_eChain, chD_int, c_toO, intO_int, c_eSlice, c_toI, c_ret, c_bind, c_eVar, vS_d, vS_l, vS_ll, peekS_d, peekS_l, c_peek, c_bLen, c_bIx, c_bIn, c_bTru, c_bTup, c_bLst, c_bSort, c_bAddL, lS_l, c_eAppend, c_eExtend, c_ePop, c_ePopAt, seqR_nx, seqR_bk, seqR_ct, seqR_rt, c_sSeq, c_sNil, c_sRet, c_sRetN, c_sExpr, c_sBreak, c_sCont, c_stD, c_sSet, c_sSetL, c_sSetLL, c_sIf, c_sAsg, c_gR, dS_d, c_sAug, c_sFor, raR_str, c_sRaise, c_gN, gTp_tup, gCs, gNl, callR_nx, callR_rt, c_callM, c_callMS, c_wipe, c_wipe0, bD_bool, outD_some, W.ret_bind, W_bind_assoc, W.opt_some, W.opt_none, W.nox_ret, sAt_z, sAt_s, sAt_nil, Option.bind_some, Option.bind_none, Option.map_some, List.set_cons_zero, List.set_cons_succ, List.length_cons, List.length_nil, List.length_set, start0, List.map_cons, List.map_nil, List.cons_append, List.nil_append, List.append_nil, List.replicate_succ, List.replicate_zero, Nat.reduceAdd, Nat.reduceSub, Nat.reduceLT, Nat.reduceLeDiff, Nat.zero_add, Nat.add_zero, Nat.lt_add_left_iff_pos, Nat.succ_pos, if_true, if_false, ite_true, ite_false, reduceIte, reduceCtorEq, Bool.false_eq_true, Bool.true_and, Bool.and_true, Bool.false_and, Bool.and_false, Bool.not_true, Bool.not_false, Bool.xor_false, Bool.xor_true, Bool.false_xor, Bool.true_xor, Bool.not_not, decide_eq_true_eq, decide_true, decide_false, decide_eq_false_iff_not, Bool.not_eq_true', Bool.not_eq_false', beq_self_eq_true, isi_int_int, isi_int_bool, isi_int_str, isi_int_non, isi_int_tup, isi_int_lst, isi_bool_int, isi_bool_bool, isi_bool_str, isi_bool_non, isi_bool_tup, isi_bool_lst, isi_str_int, isi_str_bool, isi_str_str, isi_str_non, isi_str_tup, isi_str_lst, isi_tup_int, isi_tup_bool, isi_tup_str, isi_tup_non, isi_tup_tup, isi_tup_lst, isi_lst_int, isi_lst_bool, isi_lst_str, isi_lst_non, isi_lst_tup, isi_lst_lst, tru_bool, not_bool, isN_none, isN_bool, isN_int, isN_str, isN_tup, isN_lst, isB_bool, cmp_int, add_int, iadd_int, sub_int, neg_int, len_tup, len_lst, tuple_lst, tuple_tup, list_lst, list_tup, seq_lst, seq_tup, ix_tup, ix_lst, tupD, lstD, K_, atI_0, atI_1, atI_2, atI_3, eqD_int, neD_int, eqD_bool, bCase_bool, Int.cast_ofNat_Int, Int.natCast_zero, Int.natCast_one, Int.reduceBNe, Int.reduceBEq, Int.reduceLT, Int.reduceLE, bne_self_eq_false, *])
theorem law_equal_bool (a b : Bool) : m__law_equal [.bool a, .bool b] = W.ret (.bool (a == b)) := by
  unfold m__law_equal
  unfold m__law_equal_n b__law_equal
  walk_at "vl"
theorem tup2_eq (a b c d : Nat) : eqD (.tuple [.int a, .int b]) (.tuple [.int c, .int d]) = some (.bool (decide (a = c ∧ b = d))) := by
  refine eqD_gd (m := 1) (n := 1) (.tup fun x hx => ?_) (.tup fun x hx => ?_) ?_
  · simp only [List.mem_cons, List.not_mem_nil, or_false] at hx
    rcases hx with rfl | rfl <;> exact .int _
  · simp only [List.mem_cons, List.not_mem_nil, or_false] at hx
    rcases hx with rfl | rfl <;> exact .int _
  · simp only [PyData.tuple.injEq, List.cons.injEq, PyData.int.injEq, and_true]
    omega
/-- the words that are kept, by what the other list holds -/
theorem keepIn_ok {l r : List Str} (hl : ∀ x ∈ l, x ∈ ks) (hn : l.length ≤ 1000) (hr : ∀ x ∈ r, PyData.strOk x = true) (a b c d f g h k : Sl) : lcM [8] (toI (eVar 4)) (gN 8) (op2T (inD false) (eVar 8) (eVar 6)) (eVar 8) [a, b, c, d, .d (.list (l.map .str)), f, .d (.tuple (r.map .str)), h, .no] =
    W.ret ((l.filter fun x => decide (x ∈ r)).map .str, [a, b, c, d, .d (.list (l.map .str)), f, .d (.tuple (r.map .str)), h, .no]) := by
  rw [lcM_of l .str (fun x => decide (x ∈ r)) .str (by walk_at "vl") (sl_of (by omega)) rfl ?h]
  intro x hx
  refine ⟨_, rfl, ?_⟩
  refine ⟨?_, fun _ => ?_, rfl⟩
  · walk_at "vl"
    rw [inD_tup (Gd.str (n := 0) (ks_ok x (hl x hx))) (fun z hz => by obtain ⟨y, hy, rfl⟩ := List.mem_map.mp hz; exact Gd.str (n := 0) (hr y hy)) mem_strs]
    walk_at "vl"
  · walk_at "vl"
abbrev oppD : PyData := .dict [(.str "before", .str "after"), (.str "beside", .str "beside"), (.str "after", .str "before")]
theorem dg_opp {w : Str} (h : w ∈ ks) : dgD oppD (.str w) = some (.str (opp w)) := by
  rw [ks_mem] at h
  rcases h with h | h | h <;> subst h <;> rfl
theorem keepOpp_ok {l r : List Str} (hl : ∀ x ∈ l, x ∈ ks) (hn : l.length ≤ 1000) (hr : ∀ x ∈ r, PyData.strOk x = true) (a b c d f g h k : Sl) : lcM [8] (toI (eVar 4)) (gN 8) (op2T (inD false) (op2 dgD (eVar 3) (eVar 8)) (eVar 6)) (eVar 8) [a, b, c, .d oppD, .d (.list (l.map .str)), f, .d (.tuple (r.map .str)), h, .no] =
    W.ret ((l.filter fun x => decide (opp x ∈ r)).map .str, [a, b, c, .d oppD, .d (.list (l.map .str)), f, .d (.tuple (r.map .str)), h, .no]) := by
  rw [lcM_of l .str (fun x => decide (opp x ∈ r)) .str (by walk_at "vl") (sl_of (by omega)) rfl ?h]
  intro x hx
  refine ⟨_, rfl, ?_⟩
  refine ⟨?_, fun _ => ?_, rfl⟩
  · walk_at "vl"
    have e : dgD (.dict [(.str "before", .str "after"), (.str "beside", .str "beside"), (.str "after", .str "before")]) (.str x) = some (.str (opp x)) := dg_opp (hl x hx)
    rw [e]
    walk_at "vl"
    rw [inD_tup (Gd.str (n := 0) (ks_ok _ (opp_ks (hl x hx)).1)) (fun z hz => by obtain ⟨y, hy, rfl⟩ := List.mem_map.mp hz; exact Gd.str (n := 0) (hr y hy)) mem_strs]
    walk_at "vl"
  · walk_at "vl"
theorem fit1 {R : List Rule} {i x y : Nat} {r : Rule} {n : Nat} (hr : R[i]? = some r) (ok : OkR n r) (h : r.f = x ∧ r.s = y) : (allw (R.take i) x y).filter (fun w => decide (w ∈ r.rs)) = allw (R.take (i + 1)) x y := by
  rw [allw_take hr]
  refine List.filter_congr fun w _ => ?_
  unfold fits
  rw [if_pos h, if_neg fun z => ok.ne (z.1.trans (h.2.symm)), Bool.and_true]
theorem fit2 {R : List Rule} {i x y : Nat} {r : Rule} {n : Nat} (hr : R[i]? = some r) (ok : OkR n r) (h : r.f = y ∧ r.s = x) : (allw (R.take i) x y).filter (fun w => decide (opp w ∈ r.rs)) = allw (R.take (i + 1)) x y := by
  rw [allw_take hr]
  refine List.filter_congr fun w _ => ?_
  unfold fits
  rw [if_pos h, if_neg fun z => ok.ne (z.1.trans (h.2.symm)), Bool.true_and]
theorem fit0 {R : List Rule} {i x y : Nat} {r : Rule} (hr : R[i]? = some r) (h : ¬ (r.f = x ∧ r.s = y)) (h2 : ¬ (r.f = y ∧ r.s = x)) : allw (R.take i) x y = allw (R.take (i + 1)) x y := by
  rw [allw_take hr]
  refine (List.filter_eq_self.mpr fun w _ => ?_).symm
  unfold fits
  rw [if_neg h, if_neg h2]
  rfl
theorem law_allowed_turn {i x y : Nat} {R : List Rule} {r : Rule} {n : Nat} (hr : R[i]? = some r) (ok : OkR n r) (p : Sl) : l1__law_allowed [p, .d (.int (x : Nat)), .d (.int (y : Nat)), .d oppD, .d (.list ((allw (R.take i) x y).map .str)), .d (.int (r.f : Nat)), .d (.tuple (r.rs.map .str)), .d (.int (r.s : Nat)), .no] =
    W.ret (.nx, [p, .d (.int (x : Nat)), .d (.int (y : Nat)), .d oppD, .d (.list ((allw (R.take (i + 1)) x y).map .str)), .d (.int (r.f : Nat)), .d (.tuple (r.rs.map .str)), .d (.int (r.s : Nat)), .no]) := by
  have k1 := keepIn_ok (l := allw (R.take i) x y) (r := r.rs) allw_ks (by have := allw_len (R.take i) x y; omega) (OkR.ok ok) p (.d (.int (x : Nat))) (.d (.int (y : Nat))) (.d oppD) (.d (.int (r.f : Nat))) p (.d (.int (r.s : Nat))) .no
  have k2 := keepOpp_ok (l := allw (R.take i) x y) (r := r.rs) allw_ks (by have := allw_len (R.take i) x y; omega) (OkR.ok ok) p (.d (.int (x : Nat))) (.d (.int (y : Nat))) (.d oppD) (.d (.int (r.f : Nat))) p (.d (.int (r.s : Nat))) .no
  have e1 := tup2_eq r.f r.s x y
  have e2 := tup2_eq r.f r.s y x
  unfold l1__law_allowed
  by_cases h1 : r.f = x ∧ r.s = y
  · have h2 : ¬ (r.f = y ∧ r.s = x) := fun z => ok.ne (z.1.trans h1.2.symm)
    rw [decide_eq_true h1] at e1
    rw [decide_eq_false h2] at e2
    rw [fit1 hr ok h1] at k1
    clear k2 h1 h2
    walk_at "vls"
  · by_cases h2 : r.f = y ∧ r.s = x
    · rw [decide_eq_false h1] at e1
      rw [decide_eq_true h2] at e2
      rw [fit2 hr ok h2] at k2
      clear k1 h1 h2
      walk_at "vls"
    · rw [decide_eq_false h1] at e1
      rw [decide_eq_false h2] at e2
      have e3 := fit0 hr h1 h2
      clear k1 k2 h1 h2
      walk_at "vls"
theorem law_allowed_ok {n x y : Nat} {R : List Rule} (h : ∀ r ∈ R, OkR n r) : m__law_allowed [probD n R, .int (x : Nat), .int (y : Nat)] = W.ret (.list ((allw R x y).map .str)) := by
  unfold m__law_allowed b__law_allowed probD
  walk_at "vl"
  obtain ⟨env', e1, a, b, c, e2⟩ := forW_ex (g := gTp 3 (gCs (gN 5) (gCs (gN 6) (gCs (gN 7) gNl)))) (b := l1__law_allowed) R ruleD (fun i env => ∃ a b c, env = [Sl.d (.tuple [.int n, .tuple (R.map ruleD)]), .d (.int (x : Nat)), .d (.int (y : Nat)), .d oppD, .d (.list ((allw (R.take i) x y).map .str)), a, b, c, .no]) (by
    rintro i r env hr ⟨a, b, c, rfl⟩
    exact ⟨_, _, rfl, .inl (law_allowed_turn hr (h r (List.mem_of_getElem? hr)) _), _, _, _, rfl⟩) _ ⟨.no, .no, .no, rfl⟩
  rw [List.take_length] at e2
  rw [List.take_zero, allw_nil] at e1
  subst e2
  simp only [ks, List.map_cons, List.map_nil] at e1
  rw [e1]
  walk_at "vl"
/-- the words that a number from 1 to 7 tells -/
def wordsOf (m : Int) : List Str := ([(0, 1), (1, 2), (2, 4)] : List (Nat × Int)).filterMap fun p => if m / p.2 % 2 = 1 then ks[p.1]? else none
theorem wordsOf_ok {m : Int} (h : 1 ≤ m) (h7 : m ≤ 7) : wordsOf m ≠ [] ∧ (wordsOf m).Sublist ks := by
  have : m = 1 ∨ m = 2 ∨ m = 3 ∨ m = 4 ∨ m = 5 ∨ m = 6 ∨ m = 7 := by omega
  rcases this with h | h | h | h | h | h | h <;> subst h <;> decide +kernel
theorem words_run {m : Int} (h : 1 ≤ m) (h7 : m ≤ 7) (a b c d e f g i j k : Sl) : lcM [11] (opF rng1D (aCons (Mo.ret (.int 3)) (Mo.ret []))) (gN 11) (op2T eqD (op2 modD (op2 fdivD (eVar 9) (op2 ixD (eList (opF lstD (aCons (Mo.ret (.int 1)) (aCons (Mo.ret (.int 2)) (aCons (Mo.ret (.int 4)) (Mo.ret [])))))) (eVar 11))) (Mo.ret (.int 2))) (Mo.ret (.int 1))) (op2 ixD (eVar 10) (eVar 11))
    [a, b, c, d, e, f, g, i, j, .d (.int m), .d (.list [.str "before", .str "beside", .str "after"]), .no, k] = W.ret ((wordsOf m).map .str, [a, b, c, d, e, f, g, i, j, .d (.int m), .d (.list [.str "before", .str "beside", .str "after"]), .no, k]) := by
  have m2 : ∀ v : Int, modD (.int v) (.int 2) = some (.int (v % 2)) := fun v => mod_pos (by omega)
  have d1 : fdivD (.int m) (.int 1) = some (.int (m / 1)) := fdiv_pos (by omega) (by omega)
  have d2 : fdivD (.int m) (.int 2) = some (.int (m / 2)) := fdiv_pos (by omega) (by omega)
  have d4 : fdivD (.int m) (.int 4) = some (.int (m / 4)) := fdiv_pos (by omega) (by omega)
  rw [lcM_of ([0, 1, 2] : List Nat) (fun k : Nat => PyData.int (k : Int)) (fun k => m / (([1, 2, 4] : List Int)[k]?.getD 1) % 2 == 1) (fun k => .str ((ks[k]?).getD "before")) ?hi (by decide) rfl ?h]
  case hi =>
    walk_at "vl"
    rw [show (3 : Int) = ((3 : Nat) : Int) from rfl, rng1D_nat (by omega)]
    walk_at "vl"
    rfl
  case h =>
    intro x hx
    simp only [List.mem_cons, List.not_mem_nil, or_false] at hx
    refine ⟨_, rfl, ?_⟩
    rcases hx with rfl | rfl | rfl
    · refine ⟨?_, fun _ => ?_, rfl⟩
      · walk_at "vls"
        rfl
      · walk_at "vl"
        rfl
    · refine ⟨?_, fun _ => ?_, rfl⟩
      · walk_at "vls"
        rfl
      · walk_at "vl"
        rfl
    · refine ⟨?_, fun _ => ?_, rfl⟩
      · walk_at "vls"
        rfl
      · walk_at "vl"
        rfl
  clear d1 d2 d4 m2
  have : m = 1 ∨ m = 2 ∨ m = 3 ∨ m = 4 ∨ m = 5 ∨ m = 6 ∨ m = 7 := by omega
  rcases this with h | h | h | h | h | h | h <;> subst h <;> rfl
theorem drawn_turn {n : Nat} (h2 : 1 < n) (h7 : n ≤ 7) {R : List Rule} (hR : R.length ≤ 1000) (a b c t u v x y z : Sl) (Q : Fl × En → Prop) (E : Er → Prop) (hq : ∀ (r : Rule) (u v x z : Sl), OkR n r → Q (.nx, [.s, a, b, c, .d (.int (n : Nat)), .l ((R ++ [r]).map ruleD), t, u, v, x, .d (.list [.str "before", .str "beside", .str "after"]), .no, z])) :
    (l1__law_problem [.s, a, b, c, .d (.int (n : Nat)), .l (R.map ruleD), t, u, v, x, y, .no, z]).run Q E := by
  unfold l1__law_problem
  walk_at "vl"
  rw [W_run_bind]
  refine mNext_run (by omega) (by omega) fun i h0 hi => ?_
  walk_at "vl"
  rw [W_run_bind]
  refine mNext_run (by omega) (by omega) fun j h0' hj => ?_
  walk_at "vl"
  rw [mod_pos (by omega)]
  walk_at "vl"
  rw [W_run_bind]
  refine mNext_run (by omega) (by omega) fun k h0'' hk => ?_
  walk_at "vl"
  rw [words_run (m := 1 + k) (by omega) (by omega)]
  walk_at "vl"
  have ea := app1_ok (xs := R.map ruleD) (d := .tuple [.int i, .tuple ((wordsOf (1 + k)).map .str), .int ((i + 1 + j) % (n : Int))]) (by rw [List.length_map]; omega)
  walk_at "vls"
  obtain ⟨w1, w2⟩ := wordsOf_ok (m := 1 + k) (by omega) (by omega)
  obtain ⟨f, rfl⟩ := nat_of h0
  obtain ⟨s, hs⟩ := nat_of (Int.emod_nonneg ((f : Int) + 1 + j) (b := (n : Int)) (by omega))
  have hs2 := Int.emod_lt_of_pos ((f : Int) + 1 + j) (b := (n : Int)) (by omega)
  have hne : f ≠ s := by
    intro z
    subst z
    have : n = 2 ∨ n = 3 ∨ n = 4 ∨ n = 5 ∨ n = 6 ∨ n = 7 := by omega
    rcases this with e | e | e | e | e | e <;> subst e <;> omega
  rw [W_run_ret]
  have := hq ⟨f, wordsOf (1 + k), s⟩ (.d (.int (f : Nat))) (.d (.int (s : Nat))) (.d (.int (1 + k))) (.d (.tuple ((wordsOf (1 + k)).map .str))) ⟨show f < n by omega, show s < n by omega, hne, w1, w2⟩
  rw [List.map_append, List.map_cons, List.map_nil] at this
  rw [hs]
  exact this
theorem law_problem_run {lo hi mx : Nat} (h1 : 1 ≤ lo) (h2 : lo ≤ hi) (h7 : hi ≤ 7) (hm : mx ≤ 900) {Q : PyData → Prop} {E : Er → Prop} (hq : ∀ n R, lo ≤ n → n ≤ hi → OkP mx n R → Q (probD n R)) :
    (m__law_problem [.int (lo : Nat), .int (hi : Nat), .int (mx : Nat)]).run Q E := by
  unfold m__law_problem b__law_problem
  walk_at "vl"
  rw [W_run_bind]
  refine mNext_run (by omega) (by omega) fun i h0 hi' => ?_
  obtain ⟨n, hn⟩ := nat_of (i := (lo : Int) + i) (by omega)
  walk_at "vl"
  rw [hn]
  have fin : ∀ (R : List Rule) (t u v x y z : Sl), R.length ≤ mx → (∀ r ∈ R, OkR n r) → Q (.tuple [.int (n : Nat), .tuple (R.map ruleD)]) := fun R t u v x y z hl hr => hq n R (by omega) (by omega) ⟨by omega, by omega, hl, hr⟩
  by_cases hz : 1 < n
  · have hz' : (1 : Int) < (n : Int) := by omega
    simp only [hz']
    walk_at "vl"
    rw [W_run_bind]
    refine mNext_run (by omega) (by omega) fun j h0' hj => ?_
    obtain ⟨k, rfl⟩ := nat_of h0'
    try walk_at "vl"
    rw [rng1D_nat (by omega)]
    walk_at "vl"
    rw [W_run_bind]
    refine forW_of (List.range k) (fun k : Nat => PyData.int (k : Int)) (fun i env => ∃ (R : List Rule) (t u v x y z : Sl), R.length = i ∧ (∀ r ∈ R, OkR n r) ∧ env = [.s, .d (.int (lo : Nat)), .d (.int (hi : Nat)), .d (.int (mx : Nat)), .d (.int (n : Nat)), .l (R.map ruleD), t, u, v, x, y, .no, z]) ⟨[], .no, .no, .no, .no, .no, .no, rfl, (fun _ z => nomatch z), rfl⟩ ?hs ?hd
    case hs =>
      rintro i x env hx ⟨R, t, u, v, x', y, z, hl, hr, rfl⟩
      obtain ⟨hi1, hi2⟩ := List.getElem?_eq_some_iff.mp hx
      rw [List.length_range] at hi1
      refine ⟨_, rfl, drawn_turn hz (by omega) (by omega) _ _ _ _ _ _ _ _ _ _ _ fun r u v x z ok => ⟨R ++ [r], _, u, v, x, _, z, by rw [List.length_append, hl]; rfl, fun q hq => ?_, rfl⟩⟩
      rcases List.mem_append.mp hq with h | h
      · exact hr q h
      · rw [List.mem_singleton.mp h]; exact ok
    case hd =>
      rintro env ⟨R, t, u, v, x, y, z, hl, hr, rfl⟩
      walk_at "vl"
      exact fin R t u v x y z (by rw [List.length_range] at hl; omega) hr
  · have hz' : ¬ (1 : Int) < (n : Int) := by omega
    simp only [hz']
    walk_at "vl"
    exact fin [] .no .no .no .no .no .no (Nat.zero_le _) (fun _ z => nomatch z)
end VM

set_option Elab.async false
set_option linter.all false
/-! Tasks that are reached: a row of pairs that grows; what it ends with. -/
namespace RC
section
variable (e : Nat → Nat → Bool)
def ends (x : Nat) (ps : List (Nat × Nat)) : List Nat := x :: ps.map (·.2)
def stepP (x a : Nat) (ps : List (Nat × Nat)) (o : Nat) : List (Nat × Nat) := if o ∉ ends x ps ∧ e a o = true then ps ++ [(a, o)] else ps
def scanP (x a : Nat) (l : List Nat) (ps : List (Nat × Nat)) : List (Nat × Nat) := l.foldl (stepP e x a) ps
def seqP (C : List Nat) (x : Nat) : Nat → List (Nat × Nat)
  | 0 => []
  | i + 1 => match (ends x (seqP C x i))[i]? with
    | some a => scanP e x a C (seqP C x i)
    | none => seqP C x i
end
theorem ends_snoc (x : Nat) (ps : List (Nat × Nat)) (p : Nat × Nat) : ends x (ps ++ [p]) = ends x ps ++ [p.2] := by
  unfold ends
  rw [List.map_append]
  rfl
theorem ends_len (x : Nat) (ps : List (Nat × Nat)) : (ends x ps).length = ps.length + 1 := by
  unfold ends
  rw [List.length_cons, List.length_map]
section
variable {e : Nat → Nat → Bool} {C : List Nat} {x a : Nat}
/-- what holds of the row -/
structure Good (C : List Nat) (x : Nat) (ps : List (Nat × Nat)) : Prop where
  nd : (ends x ps).Nodup
  sub : ∀ y ∈ ends x ps, y ∈ C
theorem Good.len {ps : List (Nat × Nat)} (h : Good C x ps) : (ends x ps).length ≤ C.length := by
  have key : ∀ {l m : List Nat}, l.Nodup → (∀ y ∈ l, y ∈ m) → l.length ≤ m.length := by
    intro l
    induction l with
    | nil => exact fun _ _ => Nat.zero_le _
    | cons y r ih =>
      intro m hn hs
      rw [List.nodup_cons] at hn
      have hy := hs y List.mem_cons_self
      have h2 := ih (m := m.erase y) hn.2 fun z hz => by
        refine (List.mem_erase_of_ne fun q => hn.1 (by rw [← q]; exact hz)).mpr (hs z (List.mem_cons_of_mem _ hz))
      rw [List.length_erase_of_mem hy] at h2
      have := List.length_pos_of_mem hy
      rw [List.length_cons]
      omega
  exact key h.nd h.sub
theorem step_eq {ps : List (Nat × Nat)} {o : Nat} : stepP e x a ps o = ps ∨ (stepP e x a ps o = ps ++ [(a, o)] ∧ o ∉ ends x ps ∧ e a o = true) := by
  unfold stepP
  split
  · rename_i h; exact .inr ⟨rfl, h⟩
  · exact .inl rfl
theorem step_good {ps : List (Nat × Nat)} {o : Nat} (h : Good C x ps) (ho : o ∈ C) : Good C x (stepP e x a ps o) := by
  rcases step_eq (e := e) (x := x) (a := a) (ps := ps) (o := o) with q | ⟨q, q1, q2⟩
  · rw [q]; exact h
  · rw [q]
    refine ⟨?_, fun y hy => ?_⟩
    · rw [ends_snoc, List.nodup_append]
      refine ⟨h.nd, List.pairwise_singleton _ _, fun y hy z hz => ?_⟩
      rw [List.mem_singleton.mp hz]
      exact fun w => q1 (by rw [w] at hy; exact hy)
    · rw [ends_snoc] at hy
      rcases List.mem_append.mp hy with w | w
      · exact h.sub y w
      · rw [List.mem_singleton.mp w]; exact ho
theorem step_mem {ps : List (Nat × Nat)} {o : Nat} (h : e a o = true) : o ∈ ends x (stepP e x a ps o) := by
  unfold stepP
  by_cases q : o ∈ ends x ps
  · rw [if_neg fun z => z.1 q]; exact q
  · rw [if_pos ⟨q, h⟩, ends_snoc]; exact List.mem_append_right _ (List.mem_singleton.mpr rfl)
theorem step_pre {ps : List (Nat × Nat)} {o : Nat} : ps <+: stepP e x a ps o := by
  rcases step_eq (e := e) (x := x) (a := a) (ps := ps) (o := o) with q | ⟨q, _⟩
  · rw [q]; exact List.prefix_rfl
  · rw [q]; exact List.prefix_append _ _
theorem ends_pre {ps qs : List (Nat × Nat)} (h : ps <+: qs) : ends x ps <+: ends x qs := by
  obtain ⟨t, rfl⟩ := h
  unfold ends
  rw [List.map_append]
  exact List.prefix_append (x :: ps.map (·.2)) _
theorem scan_good {l : List Nat} : ∀ {ps : List (Nat × Nat)}, Good C x ps → (∀ o ∈ l, o ∈ C) → Good C x (scanP e x a l ps) := by
  induction l with
  | nil => exact fun h _ => h
  | cons o r ih => exact fun h hl => ih (step_good h (hl o List.mem_cons_self)) fun y hy => hl y (List.mem_cons_of_mem _ hy)
theorem scan_pre {l : List Nat} : ∀ {ps : List (Nat × Nat)}, ps <+: scanP e x a l ps := by
  induction l with
  | nil => exact List.prefix_rfl
  | cons o r ih => exact fun {ps} => (step_pre (ps := ps) (o := o)).trans ih
theorem scan_mem {l : List Nat} : ∀ {ps : List (Nat × Nat)} {o : Nat}, o ∈ l → e a o = true → o ∈ ends x (scanP e x a l ps) := by
  induction l with
  | nil => exact fun h => nomatch h
  | cons y r ih =>
    intro ps o ho he
    rcases List.mem_cons.mp ho with q | q
    · subst q
      have h1 : stepP e x a ps o <+: scanP e x a (o :: r) ps := scan_pre (l := r) (ps := stepP e x a ps o)
      exact (ends_pre h1).subset (step_mem he)
    · exact ih q he
/-- what holds of the pairs: from a to what it leads to -/
theorem scan_all {l : List Nat} (P : Nat × Nat → Prop) : ∀ {ps : List (Nat × Nat)}, (∀ p ∈ ps, P p) → (∀ o ∈ l, e a o = true → P (a, o)) → ∀ p ∈ scanP e x a l ps, P p := by
  induction l with
  | nil => exact fun h _ => h
  | cons o r ih =>
    intro ps h hl
    refine ih (fun p hp => ?_) fun y hy => hl y (List.mem_cons_of_mem _ hy)
    rcases step_eq (e := e) (x := x) (a := a) (ps := ps) (o := o) with q | ⟨q, _, q2⟩
    · rw [q] at hp; exact h p hp
    · rw [q] at hp
      rcases List.mem_append.mp hp with w | w
      · exact h p w
      · rw [List.mem_singleton.mp w]; exact hl o List.mem_cons_self q2
theorem scan_snoc {l : List Nat} {ps : List (Nat × Nat)} {o : Nat} : scanP e x a (l ++ [o]) ps = stepP e x a (scanP e x a l ps) o := by
  unfold scanP
  rw [List.foldl_append]
  rfl
theorem scan_take {i : Nat} {o : Nat} {ps : List (Nat × Nat)} (h : C[i]? = some o) : scanP e x a (C.take (i + 1)) ps = stepP e x a (scanP e x a (C.take i) ps) o := by
  rw [List.take_succ, h]
  exact scan_snoc
theorem seq_good (hx : x ∈ C) : ∀ i, Good C x (seqP e C x i)
  | 0 => ⟨by unfold seqP ends; exact List.pairwise_singleton _ _, fun y hy => by unfold seqP ends at hy; rw [List.mem_singleton.mp hy]; exact hx⟩
  | i + 1 => by
    unfold seqP
    split
    · exact scan_good (seq_good hx i) fun _ h => h
    · exact seq_good hx i
theorem seq_pre : ∀ i, seqP e C x i <+: seqP e C x (i + 1) := fun i => by
  show _ <+: (match (ends x (seqP e C x i))[i]? with | some a => scanP e x a C (seqP e C x i) | none => seqP e C x i)
  split
  · exact scan_pre
  · exact List.prefix_rfl
/-- where the row ends, it stays -/
theorem seq_stay {i : Nat} (h : (ends x (seqP e C x i)).length ≤ i) : ∀ j, i ≤ j → seqP e C x j = seqP e C x i := by
  intro j hj
  induction j with
  | zero =>
    have : i = 0 := by omega
    rw [this]
  | succ j ih =>
    by_cases q : i = j + 1
    · rw [q]
    · have e1 := ih (by omega)
      show (match (ends x (seqP e C x j))[j]? with | some a => scanP e x a C (seqP e C x j) | none => seqP e C x j) = _
      rw [e1, List.getElem?_eq_none (by omega)]
theorem seq_some {i a' : Nat} (h : (ends x (seqP e C x i))[i]? = some a') : seqP e C x (i + 1) = scanP e x a' C (seqP e C x i) := by
  show (match (ends x (seqP e C x i))[i]? with | some a => scanP e x a C (seqP e C x i) | none => seqP e C x i) = _
  rw [h]
theorem seq_none {i : Nat} (h : (ends x (seqP e C x i)).length ≤ i) : seqP e C x (i + 1) = seqP e C x i := seq_stay h _ (Nat.le_succ i)
/-- the pairs at the end -/
def link (e : Nat → Nat → Bool) (C : List Nat) (x : Nat) : List (Nat × Nat) := seqP e C x C.length
def met (e : Nat → Nat → Bool) (C : List Nat) (x : Nat) : List Nat := ends x (link e C x)
/-- the first i are looked through -/
theorem seq_done : ∀ i j b, j < i → (ends x (seqP e C x i))[j]? = some b → ∀ o ∈ C, e b o = true → o ∈ ends x (seqP e C x i)
  | 0, j, b, h, _ => by omega
  | i + 1, j, b, hj, hb => by
    intro o ho he
    have pre := ends_pre (x := x) (seq_pre (e := e) (C := C) (x := x) i)
    by_cases q : j < (ends x (seqP e C x i)).length
    · have hb' : (ends x (seqP e C x i))[j]? = some b := by
        obtain ⟨t, ht⟩ := pre
        rw [← ht, List.getElem?_append_left q] at hb
        exact hb
      by_cases q2 : j < i
      · exact pre.subset (seq_done i j b q2 hb' o ho he)
      · have : j = i := by omega
        subst this
        rw [seq_some hb']
        exact scan_mem ho he
    · by_cases q2 : i < (ends x (seqP e C x i)).length
      · omega
      · rw [seq_none (by omega)] at hb
        rw [List.getElem?_eq_none (by omega)] at hb
        cases hb
theorem met_good (hx : x ∈ C) : Good C x (link e C x) := seq_good hx _
theorem met_x : x ∈ met e C x := List.mem_cons_self
theorem met_sub (hx : x ∈ C) : ∀ y ∈ met e C x, y ∈ C := (met_good hx).sub
theorem met_nd (hx : x ∈ C) : (met e C x).Nodup := (met_good hx).nd
theorem met_len (hx : x ∈ C) : (met e C x).length ≤ C.length := (met_good hx).len
theorem met_closed (hx : x ∈ C) {b o : Nat} (hb : b ∈ met e C x) (ho : o ∈ C) (he : e b o = true) : o ∈ met e C x := by
  obtain ⟨j, hj, ej⟩ := List.getElem_of_mem hb
  have hl := met_len (e := e) hx
  exact seq_done C.length j b (by unfold met at hl hj; unfold link at hl hj; omega) (by rw [← ej]; exact List.getElem?_eq_getElem hj) o ho he
theorem met_least (S : Nat → Prop) (hS : S x) (hc : ∀ b o, S b → o ∈ C → e b o = true → S o) : ∀ y ∈ met e C x, S y := by
  have key : ∀ i, ∀ y ∈ ends x (seqP e C x i), S y := by
    intro i
    induction i with
    | zero =>
      intro y hy
      unfold seqP ends at hy
      rw [List.mem_singleton.mp hy]
      exact hS
    | succ i ih =>
      cases q : (ends x (seqP e C x i))[i]? with
      | none =>
        rw [seq_none (List.getElem?_eq_none_iff.mp q)]
        exact ih
      | some a' =>
        rw [seq_some q]
        have ha := ih a' (List.mem_of_getElem? q)
        have := scan_all (e := e) (x := x) (a := a') (l := C) (fun p => S p.2) (ps := seqP e C x i) (fun p hp => ih p.2 (List.mem_cons_of_mem _ (List.mem_map.mpr ⟨p, hp, rfl⟩))) fun o ho he => hc a' o ha ho he
        intro y hy
        rcases List.mem_cons.mp hy with w | w
        · rw [w]; exact hS
        · obtain ⟨p, hp, rfl⟩ := List.mem_map.mp w
          exact this p hp
  exact key _
/-- which tasks of the set are met, in its sequence -/
def rch (e : Nat → Nat → Bool) (C : List Nat) (x : Nat) : List Nat := C.filter fun y => decide (y ∈ met e C x)
theorem rch_mem (hx : x ∈ C) {y : Nat} : y ∈ rch e C x ↔ y ∈ met e C x := by
  unfold rch
  rw [List.mem_filter, decide_eq_true_eq]
  exact ⟨fun h => h.2, fun h => ⟨met_sub hx y h, h⟩⟩
theorem rch_perm (hn : C.Nodup) (hx : x ∈ C) : (rch e C x).Perm (met e C x) := by
  refine (List.perm_ext_iff_of_nodup (hn.filter _) (met_nd hx)).mpr fun y => rch_mem hx
/-- symmetric: reached from one, from all the same -/
theorem met_symm (hs : ∀ a b, a ∈ C → b ∈ C → e a b = true → e b a = true) (hx : x ∈ C) {y : Nat} (hy : y ∈ met e C x) : x ∈ met e C y := by
  have hyC := met_sub hx y hy
  have := met_least (e := e) (C := C) (x := x) (fun z => z ∈ C ∧ x ∈ met e C z) ⟨hx, met_x⟩ (fun b o hb ho he => ⟨ho, by
    have h1 : b ∈ met e C o := met_closed ho met_x hb.1 (hs b o hb.1 ho he)
    exact met_least (e := e) (C := C) (x := b) (fun z => z ∈ met e C o) h1 (fun p q hp hq hpq => met_closed ho hp hq hpq) x hb.2⟩) y hy
  exact this.2
theorem met_trans (hx : x ∈ C) {y z : Nat} (hy : y ∈ met e C x) (hz : z ∈ met e C y) : z ∈ met e C x :=
  met_least (e := e) (C := C) (x := y) (fun z => z ∈ met e C x) hy (fun _ _ hp hq hpq => met_closed hx hp hq hpq) z hz
end
end RC

set_option Elab.async false
set_option linter.all false
set_option maxRecDepth 100000
set_option maxHeartbeats 1000000
/-! What the computations are worth: sets of tasks, what a task reaches, the law's table. -/
namespace VM
open PySem VL KP RC
local macro_rules | `(tactic| walk_at "vl") => `(tactic| simp only [c_op1, c_op2, c_op2T, c_op2F, c_opL, c_opF, c_aCons, c_eList, c_eCall, c_eCall0, c_eCallS, stS_s, c_toT, c_tB1, c_tNotM, c_tAndM, c_tOrM, c_eAnd, c_eOr, c_eIf, c_eChain, chD_int, c_toO, intO_int, c_eSlice, c_toI, c_ret, c_bind, c_eVar, vS_d, vS_l, vS_ll, peekS_d, peekS_l, c_peek, c_bLen, c_bIx, c_bIn, c_bTru, c_bTup, c_bLst, c_bSort, c_bAddL, lS_l, c_eAppend, c_eExtend, c_ePop, c_ePopAt, seqR_nx, seqR_bk, seqR_ct, seqR_rt, c_sSeq, c_sNil, c_sRet, c_sRetN, c_sExpr, c_sBreak, c_sCont, c_stD, c_sSet, c_sSetL, c_sSetLL, c_sIf, c_sAsg, c_gR, dS_d, c_sAug, c_sFor, raR_str, c_sRaise, c_gN, gTp_tup, gCs, gNl, callR_nx, callR_rt, c_callM, c_callMS, c_wipe, c_wipe0, c_fSortSet, c_eDGet, c_sSetT, c_eRg1, vS_t, bD_bool, outD_some, W.ret_bind, W_bind_assoc, W.opt_some, W.opt_none, W.nox_ret, sAt_z, sAt_s, sAt_nil, Option.bind_some, Option.bind_none, Option.map_some, List.set_cons_zero, List.set_cons_succ, List.length_cons, List.length_nil, List.length_set, start0, List.map_cons, List.map_nil, List.cons_append, List.nil_append, List.append_nil, List.replicate_succ, List.replicate_zero, Nat.reduceAdd, Nat.reduceSub, Nat.reduceLT, Nat.reduceLeDiff, Nat.zero_add, Nat.add_zero, Nat.lt_add_left_iff_pos, Nat.succ_pos, if_true, if_false, ite_true, ite_false, reduceIte, reduceCtorEq, Bool.false_eq_true, Bool.true_and, Bool.and_true, Bool.false_and, Bool.and_false, Bool.not_true, Bool.not_false, Bool.xor_false, Bool.xor_true, Bool.false_xor, Bool.true_xor, Bool.not_not, decide_eq_true_eq, decide_true, decide_false, decide_eq_false_iff_not, Bool.not_eq_true', Bool.not_eq_false', beq_self_eq_true, isi_int_int, isi_int_bool, isi_int_str, isi_int_non, isi_int_tup, isi_int_lst, isi_bool_int, isi_bool_bool, isi_bool_str, isi_bool_non, isi_bool_tup, isi_bool_lst, isi_str_int, isi_str_bool, isi_str_str, isi_str_non, isi_str_tup, isi_str_lst, isi_tup_int, isi_tup_bool, isi_tup_str, isi_tup_non, isi_tup_tup, isi_tup_lst, isi_lst_int, isi_lst_bool, isi_lst_str, isi_lst_non, isi_lst_tup, isi_lst_lst, tru_bool, not_bool, isN_none, isN_bool, isN_int, isN_str, isN_tup, isN_lst, isB_bool, cmp_int, add_int, iadd_int, sub_int, neg_int, len_tup, len_lst, tuple_lst, tuple_tup, list_lst, list_tup, seq_lst, seq_tup, ix_tup, ix_lst, tupD, lstD, K_, atI_0, atI_1, atI_2, atI_3, eqD_int, neD_int, eqD_bool, bCase_bool, Int.cast_ofNat_Int, Int.natCast_zero, Int.natCast_one, Int.reduceBNe, Int.reduceBEq, Int.reduceLT, Int.reduceLE, bne_self_eq_false])
local macro_rules | `(tactic| walk_at "vls") => `(tactic| simp only [c_op1, c_op2, c_op2T, c_op2F, c_opL, c_opF, c_aCons, c_eList, c_eCall, c_eCall0, c_eCallS, stS_s, c_toT, c_tB1, c_tNotM, c_tAndM, c_tOrM, c_eAnd, c_eOr, c_eIf, c_eChain, chD_int, c_toO, intO_int, c_eSlice, c_toI, c_ret, c_bind, c_eVar, vS_d, vS_l, vS_ll, peekS_d, peekS_l, c_peek, c_bLen, c_bIx, c_bIn, c_bTru, c_bTup, c_bLst, c_bSort, c_bAddL, lS_l, c_eAppend, c_eExtend, c_ePop, c_ePopAt, seqR_nx, seqR_bk, seqR_ct, seqR_rt, c_sSeq, c_sNil, c_sRet, c_sRetN, c_sExpr, c_sBreak, c_sCont, c_stD, c_sSet, c_sSetL, c_sSetLL, c_sIf, c_sAsg, c_gR, dS_d, c_sAug, c_sFor, raR_str, c_sRaise, c_gN, gTp_tup, gCs, gNl, callR_nx, callR_rt, c_callM, c_callMS, c_wipe, c_wipe0, c_fSortSet, c_eDGet, c_sSetT, c_eRg1, vS_t, bD_bool, outD_some, W.ret_bind, W_bind_assoc, W.opt_some, W.opt_none, W.nox_ret, sAt_z, sAt_s, sAt_nil, Option.bind_some, Option.bind_none, Option.map_some, List.set_cons_zero, List.set_cons_succ, List.length_cons, List.length_nil, List.length_set, start0, List.map_cons, List.map_nil, List.cons_append, List.nil_append, List.append_nil, List.replicate_succ, List.replicate_zero, Nat.reduceAdd, Nat.reduceSub, Nat.reduceLT, Nat.reduceLeDiff, Nat.zero_add, Nat.add_zero, Nat.lt_add_left_iff_pos, Nat.succ_pos, if_true, if_false, ite_true, ite_false, reduceIte, reduceCtorEq, Bool.false_eq_true, Bool.true_and, Bool.and_true, Bool.false_and, Bool.and_false, Bool.not_true, Bool.not_false, Bool.xor_false, Bool.xor_true, Bool.false_xor, Bool.true_xor, Bool.not_not, decide_eq_true_eq, decide_true, decide_false, decide_eq_false_iff_not, Bool.not_eq_true', Bool.not_eq_false', beq_self_eq_true, isi_int_int, isi_int_bool, isi_int_str, isi_int_non, isi_int_tup, isi_int_lst, isi_bool_int, isi_bool_bool, isi_bool_str, isi_bool_non, isi_bool_tup, isi_bool_lst, isi_str_int, isi_str_bool, isi_str_str, isi_str_non, isi_str_tup, isi_str_lst, isi_tup_int, isi_tup_bool, isi_tup_str, isi_tup_non, isi_tup_tup, isi_tup_lst, isi_lst_int, isi_lst_bool, isi_lst_str, isi_lst_non, isi_lst_tup, isi_lst_lst, tru_bool, not_bool, isN_none, isN_bool, isN_int, isN_str, isN_tup, isN_lst, isB_bool, cmp_int, add_int, iadd_int, sub_int, neg_int, len_tup, len_lst, tuple_lst, tuple_tup, list_lst, list_tup, seq_lst, seq_tup, ix_tup, ix_lst, tupD, lstD, K_, atI_0, atI_1, atI_2, atI_3, eqD_int, neD_int, eqD_bool, bCase_bool, Int.cast_ofNat_Int, Int.natCast_zero, Int.natCast_one, Int.reduceBNe, Int.reduceBEq, Int.reduceLT, Int.reduceLE, bne_self_eq_false, *])
theorem add_lst {xs ys : List PyData} (h : xs.length + ys.length ≤ 1000000) : addD (.list xs) (.list ys) = some (.list (xs ++ ys)) := if_pos (Nat.le_of_lt (sl_of h))
theorem add_tup {xs ys : List PyData} (h : xs.length + ys.length ≤ 1000000) : addD (.tuple xs) (.tuple ys) = some (.tuple (xs ++ ys)) := if_pos (Nat.le_of_lt (sl_of h))
theorem cast_lt {a b : Nat} : decide ((a : Int) < (b : Int)) = decide (a < b) := by rw [decide_eq_decide]; omega
theorem are_indexes_ok (l : List Nat) (n : Nat) : m_are_indexes [tN l, iN n] = W.ret (.bool (l.all fun x => decide (x < n))) := by
  unfold m_are_indexes b_are_indexes
  walk_at "vl"
  rw [genM_of l iN (fun x => decide (x < n)) (by walk_at "vl") rfl ?h]
  · rw [if_neg Bool.false_ne_true]
    walk_at "vl"
  · intro x hx
    refine ⟨_, rfl, ?_⟩
    refine ⟨?_, rfl⟩
    walk_at "vl"
    rw [is_index_int]
    have e : decide ((0 : Int) ≤ (x : Int) ∧ (x : Int) < (n : Int)) = decide (x < n) := by rw [decide_eq_decide]; omega
    rw [e]
    walk_at "vl"
/-- rising tasks -/
structure SetL (n : Nat) (C : List Nat) : Prop where
  up : Up C
  lt : ∀ x ∈ C, x < n
theorem SetL.len {n : Nat} {C : List Nat} (h : SetL n C) : C.length ≤ n := by
  have key : ∀ (l : List Nat) (k : Nat), Up l → (∀ x ∈ l, k ≤ x ∧ x < n) → l.length + k ≤ n ∨ l = [] := by
    intro l
    induction l with
    | nil => exact fun _ _ _ => .inr rfl
    | cons x r ih =>
      intro k hu hl
      unfold Up at hu
      rw [List.pairwise_cons] at hu
      have hx := hl x List.mem_cons_self
      rcases ih (x + 1) hu.2 (fun y hy => ⟨hu.1 y hy, (hl y (List.mem_cons_of_mem _ hy)).2⟩) with h | h
      · left; rw [List.length_cons]; omega
      · left; rw [h]; simp; omega
  rcases key C 0 h.up fun x hx => ⟨Nat.zero_le _, h.lt x hx⟩ with h | h
  · omega
  · rw [h]; exact Nat.zero_le _
instance (l : List Nat) : Decidable (Up l) := by unfold Up; exact inferInstance
theorem is_set_ok (l : List Nat) (n : Nat) (hl : l.length < 64) : m_is_set [tN l, iN n] = W.ret (.bool (decide ((∀ x ∈ l, x < n) ∧ Up l))) := by
  unfold m_is_set b_is_set
  walk_at "vl"
  rw [are_indexes_ok]
  walk_at "vl"
  cases e : (l.all fun x => decide (x < n)) with
  | true =>
    rw [List.all_eq_true] at e
    have e' : ∀ x ∈ l, x < n := fun x hx => of_decide_eq_true (e x hx)
    walk_at "vl"
    rw [sortSetN hl]
    walk_at "vl"
    rw [eqN_lst]
    walk_at "vl"
    have : decide (l = upOf l) = decide ((∀ x ∈ l, x < n) ∧ Up l) := by rw [decide_eq_decide, upOf_id]; exact ⟨fun h => ⟨e', h⟩, fun h => h.2⟩
    rw [this]
  | false =>
    walk_at "vl"
    have : decide ((∀ x ∈ l, x < n) ∧ Up l) = false := by
      rw [decide_eq_false_iff_not]
      intro h
      have : (l.all fun x => decide (x < n)) = true := List.all_eq_true.mpr fun x hx => decide_eq_true (h.1 x hx)
      rw [e] at this
      cases this
    rw [this]
theorem is_set_t {n : Nat} {C : List Nat} (h : SetL n C) (h7 : n ≤ 7) : m_is_set [tN C, iN n] = W.ret (.bool true) := by
  rw [is_set_ok C n (by have := h.len; omega), decide_eq_true ⟨h.lt, h.up⟩]
theorem check_chosen_ok {mx n k : Nat} {R : List Rule} {C : List Nat} (h : OkP mx n R) (hm : mx ≤ 20) (hC : SetL n C) (hk : k ≤ C.length) : m_check_chosen [probD n R, tN C, .int (k : Nat)] = W.ret .none := by
  unfold m_check_chosen b_check_chosen
  walk_at "vl"
  rw [check_problem_ok h hm]
  walk_at "vl"
  rw [probD_0]
  walk_at "vl"
  rw [is_set_t hC h.hi]
  walk_at "vl"
  rw [List.length_map, decide_eq_true (show (k : Int) ≤ (C.length : Int) by omega), require_t]
  walk_at "vl"
/-! ### what a task reaches -/
/-- a word that the two may not have -/
def eW (R : List Rule) (w : Str) (a b : Nat) : Bool := !decide (w ∈ allw R a b)
abbrev chT (n : Nat) (R : List Rule) : PyData := .list ((tabS n (chF R)).map .list)
abbrev pD (p : Nat × Nat) : PyData := .tuple [iN p.1, iN p.2]
theorem ch_at {n x y : Nat} {R : List Rule} (hx : x < n) (hy : y < n) : ((ixD (chT n R) (iN x)).bind fun r => ixD r (iN y)) = some (chF R x y) := by
  rw [choices_row hx]
  exact row_at hy
theorem inW {w : Str} {R : List Rule} {x y : Nat} (neg : Bool) (hw : PyData.strOk w = true) : inD neg (.str w) (chF R x y) = some (.bool (neg.xor (decide (w ∈ allw R x y)))) := by
  unfold chF
  exact inD_tup (Gd.str (n := 0) hw) (fun z hz => by obtain ⟨y, hy, rfl⟩ := List.mem_map.mp hz; exact Gd.str (n := 0) (ks_ok _ (allw_ks _ hy))) mem_strs
theorem links_turn {n x at_ a o : Nat} {R : List Rule} {w : Str} {ps : List (Nat × Nat)} (c2 c3 : Sl) (hw : PyData.strOk w = true) (ha : (ends x ps)[at_]? = some a) (hn : a < n) (ho : o < n) (hl : ps.length ≤ 100) :
    l1_links [.d (chT n R), c2, c3, .d (.str w), .l ((ends x ps).map iN), .l (ps.map pD), .d (iN at_), .d (iN o)] = W.ret (.nx, [.d (chT n R), c2, c3, .d (.str w), .l ((ends x (stepP (eW R w) x a ps o)).map iN), .l ((stepP (eW R w) x a ps o).map pD), .d (iN at_), .d (iN o)]) := by
  have f1 := inN_lst true o (ends x ps)
  have f2 : ixD (.list ((ends x ps).map iN)) (iN at_) = some (iN a) := ixN_lst ha
  have f3 := choices_row (F := chF R) hn
  have f4 := row_at (n := n) (f := fun y => chF R a y) ho
  have f5 := inW (R := R) (x := a) (y := o) true hw
  have l1 : (ends x ps).length ≤ 1000 := by rw [ends_len]; omega
  unfold l1_links
  by_cases h1 : o ∈ ends x ps
  · have e : stepP (eW R w) x a ps o = ps := by unfold stepP; rw [if_neg fun z => z.1 h1]
    rw [e]
    rw [decide_eq_true h1] at f1
    walk_at "vls"
  · rw [decide_eq_false h1] at f1
    by_cases h2 : w ∈ allw R a o
    · have e : stepP (eW R w) x a ps o = ps := by
        unfold stepP eW
        rw [decide_eq_true h2, if_neg fun z => by cases z.2]
      rw [e]
      rw [decide_eq_true h2] at f5
      walk_at "vls"
    · have e : stepP (eW R w) x a ps o = ps ++ [(a, o)] := by
        unfold stepP eW
        rw [decide_eq_false h2, if_pos ⟨h1, rfl⟩]
      rw [e, ends_snoc]
      rw [decide_eq_false h2] at f5
      have e1 := app1_ok (xs := ps.map pD) (d := pD (a, o)) (by rw [List.length_map]; omega)
      have e2 := app1_ok (xs := (ends x ps).map iN) (d := iN o) (by rw [List.length_map]; omega)
      walk_at "vls"
      simp only [List.map_append, List.map_cons, List.map_nil]
theorem Good.le7 {n x : Nat} {C : List Nat} {ps : List (Nat × Nat)} (hC : SetL n C) (h7 : n ≤ 7) (h : Good C x ps) : ps.length ≤ 7 ∧ ∀ y ∈ ends x ps, y < n := by
  have h1 := h.len
  rw [ends_len] at h1
  have := hC.len
  exact ⟨by omega, fun y hy => hC.lt y (h.sub y hy)⟩
/-- a walk through all tasks, at one place -/
theorem links_scan {n x at_ a : Nat} {R : List Rule} {w : Str} {C : List Nat} {ps : List (Nat × Nat)} (hC : SetL n C) (h7 : n ≤ 7) (c3 o : Sl) (hw : PyData.strOk w = true) (g : Good C x ps) (ha : (ends x ps)[at_]? = some a) :
    ∃ o', forW (gN 7) l1_links (C.map iN) [.d (chT n R), .d (tN C), c3, .d (.str w), .l ((ends x ps).map iN), .l (ps.map pD), .d (iN at_), o] = W.ret (.nx, [.d (chT n R), .d (tN C), c3, .d (.str w), .l ((ends x (scanP (eW R w) x a C ps)).map iN), .l ((scanP (eW R w) x a C ps).map pD), .d (iN at_), o']) := by
  have gi : ∀ i, Good C x (scanP (eW R w) x a (C.take i) ps) := fun i => scan_good g fun y hy => List.mem_of_mem_take hy
  obtain ⟨env', e1, o', e2⟩ := forW_ex (g := gN 7) (b := l1_links) C iN (fun i env => ∃ o, env = [.d (chT n R), .d (tN C), c3, .d (.str w), .l ((ends x (scanP (eW R w) x a (C.take i) ps)).map iN), .l ((scanP (eW R w) x a (C.take i) ps).map pD), .d (iN at_), o]) (by
    rintro i y env hy ⟨o, rfl⟩
    have hg := gi i
    obtain ⟨l1, l2⟩ := Good.le7 hC h7 hg
    have ha' : (ends x (scanP (eW R w) x a (C.take i) ps))[at_]? = some a := by
      obtain ⟨t, ht⟩ := ends_pre (x := x) (scan_pre (e := eW R w) (x := x) (a := a) (l := C.take i) (ps := ps))
      rw [← ht, List.getElem?_append_left (List.getElem?_eq_some_iff.mp ha).1]
      exact ha
    refine ⟨_, _, rfl, .inl (links_turn _ _ hw ha' (l2 a (List.mem_of_getElem? ha')) (hC.lt y (List.mem_of_getElem? hy)) (by omega)), .d (iN y), ?_⟩
    rw [scan_take hy]) _ ⟨o, rfl⟩
  rw [List.take_length] at e2
  subst e2
  exact ⟨o', e1⟩
theorem seq_end {e : Nat → Nat → Bool} {C : List Nat} {x : Nat} (hx : x ∈ C) : seqP e C x (ends x (link e C x)).length = link e C x := by
  have h0 := met_len (e := e) hx
  unfold met at h0
  have h1 : (ends x (seqP e C x (ends x (link e C x)).length)).length ≤ (ends x (link e C x)).length := by
    have key : ∀ i j, i ≤ j → (ends x (seqP e C x i)).length ≤ (ends x (seqP e C x j)).length := by
      intro i j h
      induction j with
      | zero =>
        have : i = 0 := by omega
        rw [this]; exact Nat.le_refl _
      | succ j ih =>
        by_cases q : i = j + 1
        · rw [q]; exact Nat.le_refl _
        · exact Nat.le_trans (ih (by omega)) (ends_pre (seq_pre j)).length_le
    exact key _ _ h0
  have := seq_stay h1 C.length h0
  exact this.symm
theorem links_ok {n x : Nat} {R : List Rule} {w : Str} {C : List Nat} (hC : SetL n C) (h7 : n ≤ 7) (hw : PyData.strOk w = true) (hx : x ∈ C) : m_links [chT n R, tN C, iN x, .str w] = W.ret (.list ((link (eW R w) C x).map pD)) := by
  unfold m_links b_links
  walk_at "vl"
  have gs : ∀ i, Good C x (seqP (eW R w) C x i) := fun i => seq_good hx i
  obtain ⟨env', e1, o, e2⟩ := sWhile_eq (t := op2T ltD (eVar 6) (bLen 4)) (b := l2_links) (k := (ends x (link (eW R w) C x)).length) (env := [.d (chT n R), .d (tN C), .d (iN x), .d (.str w), .l [iN x], .l [], .d (.int 0), .no])
    (fun i env => ∃ o, env = [.d (chT n R), .d (tN C), .d (iN x), .d (.str w), .l ((ends x (seqP (eW R w) C x i)).map iN), .l ((seqP (eW R w) C x i).map pD), .d (iN i), o]) ⟨.no, rfl⟩ (by
      rintro i env hi ⟨o, rfl⟩
      have hlt : i < (ends x (seqP (eW R w) C x i)).length := by
        refine Nat.lt_of_not_le fun h => ?_
        have h0 := met_len (e := eW R w) hx
        unfold met at h0
        have := seq_stay h C.length (by omega)
        have e : link (eW R w) C x = seqP (eW R w) C x i := this
        rw [e] at hi
        omega
      have ha := List.getElem?_eq_getElem hlt
      have t1 : cmpI (fun i j => decide (i < j)) (iN i) (.int ((ends x (seqP (eW R w) C x i)).length : Nat)) = some (.bool true) := by
        rw [cmp_int, decide_eq_true (by omega)]
      obtain ⟨o', f1⟩ := links_scan (R := R) hC h7 (.d (iN x)) o hw (gs i) ha
      refine ⟨?_, [.d (chT n R), .d (tN C), .d (iN x), .d (.str w), .l ((ends x (seqP (eW R w) C x (i + 1))).map iN), .l ((seqP (eW R w) C x (i + 1)).map pD), .d (iN (i + 1)), o'], .inl ?_, o', rfl⟩
      · clear f1
        walk_at "vl"
        rw [List.length_map, decide_eq_true (by omega)]
      · unfold l2_links
        rw [seq_some ha]
        clear t1 ha
        walk_at "vls"
        rfl) (by
      rintro env ⟨o, rfl⟩
      rw [seq_end hx]
      walk_at "vl"
      rw [List.length_map, decide_eq_false (by omega)])
  rw [seq_end hx] at e2
  subst e2
  rw [e1]
  walk_at "vl"
theorem rch_up {n : Nat} {C : List Nat} (hC : SetL n C) (e : Nat → Nat → Bool) (x : Nat) : Up (rch e C x) := List.Pairwise.filter _ hC.up
theorem reached_in_ok {n x : Nat} {R : List Rule} {w : Str} {C : List Nat} (hC : SetL n C) (h7 : n ≤ 7) (hw : PyData.strOk w = true) (hx : x ∈ C) : m_reached_in [chT n R, tN C, iN x, .str w] = W.ret (tN (rch (eW R w) C x)) := by
  unfold m_reached_in b_reached_in
  have hl := links_ok (R := R) hC h7 hw hx
  have gl := (Good.le7 hC h7 (met_good (e := eW R w) hx)).1
  walk_at "vl"
  rw [lcM_mapOf (link (eW R w) C x) pD (fun p => iN p.2) (by walk_at "vls") (sl_of (by omega)) rfl ?h]
  case h =>
    intro p hp
    refine ⟨_, rfl, ?_, rfl⟩
    walk_at "vl"
  walk_at "vl"
  have e1 : addD (.list [.int (x : Nat)]) (.list ((link (eW R w) C x).map fun p => iN p.2)) = some (.list ((ends x (link (eW R w) C x)).map iN)) := by
    rw [add_lst (by rw [List.length_map, List.length_singleton]; omega)]
    unfold ends
    rw [List.map_cons, List.map_map]
    rfl
  rw [e1]
  walk_at "vl"
  have hm := met_len (e := eW R w) hx
  have := hC.len
  rw [sortN_lst (l := ends x (link (eW R w) C x)) (rch_perm hC.up.nd hx) (rch_up hC _ x) (by unfold met at hm; omega)]
  walk_at "vl"
end VM

set_option Elab.async false
set_option linter.all false
set_option maxRecDepth 100000
set_option maxHeartbeats 1000000
/-! The laws' table of relations, their sets, what they say is reached; equal data. -/
namespace VM
open PySem VL KP RC
local macro_rules | `(tactic| walk_at "vl") => `(tactic| simp only [c_op1, c_op2, c_op2T, c_op2F, c_opL, c_opF, c_aCons, c_eList, c_eCall, c_eCall0, c_eCallS, stS_s, c_toT, c_tB1, c_tNotM, c_tAndM, c_tOrM, c_eAnd, c_eOr, c_eIf, c_eChain, chD_int, c_toO, intO_int, c_eSlice, c_toI, c_ret, c_bind, c_eVar, vS_d, vS_l, vS_ll, peekS_d, peekS_l, c_peek, c_bLen, c_bIx, c_bIn, c_bTru, c_bTup, c_bLst, c_bSort, c_bAddL, lS_l, c_eAppend, c_eExtend, c_ePop, c_ePopAt, seqR_nx, seqR_bk, seqR_ct, seqR_rt, c_sSeq, c_sNil, c_sRet, c_sRetN, c_sExpr, c_sBreak, c_sCont, c_stD, c_sSet, c_sSetL, c_sSetLL, c_sIf, c_sAsg, c_gR, dS_d, c_sAug, c_sFor, raR_str, c_sRaise, c_gN, gTp_tup, gCs, gNl, callR_nx, callR_rt, c_callM, c_callMS, c_wipe, c_wipe0, c_fSortSet, c_eDGet, c_sSetT, c_eRg1, vS_t, bD_bool, outD_some, W.ret_bind, W_bind_assoc, W.opt_some, W.opt_none, W.nox_ret, sAt_z, sAt_s, sAt_nil, Option.bind_some, Option.bind_none, Option.map_some, List.set_cons_zero, List.set_cons_succ, List.length_cons, List.length_nil, List.length_set, start0, List.map_cons, List.map_nil, List.cons_append, List.nil_append, List.append_nil, List.replicate_succ, List.replicate_zero, Nat.reduceAdd, Nat.reduceSub, Nat.reduceLT, Nat.reduceLeDiff, Nat.zero_add, Nat.add_zero, Nat.lt_add_left_iff_pos, Nat.succ_pos, if_true, if_false, ite_true, ite_false, reduceIte, reduceCtorEq, Bool.false_eq_true, Bool.true_and, Bool.and_true, Bool.false_and, Bool.and_false, Bool.not_true, Bool.not_false, Bool.xor_false, Bool.xor_true, Bool.false_xor, Bool.true_xor, Bool.not_not, decide_eq_true_eq, decide_true, decide_false, decide_eq_false_iff_not, Bool.not_eq_true', Bool.not_eq_false', beq_self_eq_true, isi_int_int, isi_int_bool, isi_int_str, isi_int_non, isi_int_tup, isi_int_lst, isi_bool_int, isi_bool_bool, isi_bool_str, isi_bool_non, isi_bool_tup, isi_bool_lst, isi_str_int, isi_str_bool, isi_str_str, isi_str_non, isi_str_tup, isi_str_lst, isi_tup_int, isi_tup_bool, isi_tup_str, isi_tup_non, isi_tup_tup, isi_tup_lst, isi_lst_int, isi_lst_bool, isi_lst_str, isi_lst_non, isi_lst_tup, isi_lst_lst, tru_bool, not_bool, isN_none, isN_bool, isN_int, isN_str, isN_tup, isN_lst, isB_bool, cmp_int, add_int, iadd_int, sub_int, neg_int, len_tup, len_lst, tuple_lst, tuple_tup, list_lst, list_tup, seq_lst, seq_tup, ix_tup, ix_lst, tupD, lstD, K_, atI_0, atI_1, atI_2, atI_3, eqD_int, neD_int, eqD_bool, bCase_bool, Int.cast_ofNat_Int, Int.natCast_zero, Int.natCast_one, Int.reduceBNe, Int.reduceBEq, Int.reduceLT, Int.reduceLE, bne_self_eq_false])
local macro_rules | `(tactic| walk_at "vls") => `(tactic| simp only [c_op1, c_op2, c_op2T, c_op2F, c_opL, c_opF, c_aCons, c_eList, c_eCall, c_eCall0, c_eCallS, stS_s, c_toT, c_tB1, c_tNotM, c_tAndM, c_tOrM, c_eAnd, c_eOr, c_eIf, c_eChain, chD_int, c_toO, intO_int, c_eSlice, c_toI, c_ret, c_bind, c_eVar, vS_d, vS_l, vS_ll, peekS_d, peekS_l, c_peek, c_bLen, c_bIx, c_bIn, c_bTru, c_bTup, c_bLst, c_bSort, c_bAddL, lS_l, c_eAppend, c_eExtend, c_ePop, c_ePopAt, seqR_nx, seqR_bk, seqR_ct, seqR_rt, c_sSeq, c_sNil, c_sRet, c_sRetN, c_sExpr, c_sBreak, c_sCont, c_stD, c_sSet, c_sSetL, c_sSetLL, c_sIf, c_sAsg, c_gR, dS_d, c_sAug, c_sFor, raR_str, c_sRaise, c_gN, gTp_tup, gCs, gNl, callR_nx, callR_rt, c_callM, c_callMS, c_wipe, c_wipe0, c_fSortSet, c_eDGet, c_sSetT, c_eRg1, vS_t, bD_bool, outD_some, W.ret_bind, W_bind_assoc, W.opt_some, W.opt_none, W.nox_ret, sAt_z, sAt_s, sAt_nil, Option.bind_some, Option.bind_none, Option.map_some, List.set_cons_zero, List.set_cons_succ, List.length_cons, List.length_nil, List.length_set, start0, List.map_cons, List.map_nil, List.cons_append, List.nil_append, List.append_nil, List.replicate_succ, List.replicate_zero, Nat.reduceAdd, Nat.reduceSub, Nat.reduceLT, Nat.reduceLeDiff, Nat.zero_add, Nat.add_zero, Nat.lt_add_left_iff_pos, Nat.succ_pos, if_true, if_false, ite_true, ite_false, reduceIte, reduceCtorEq, Bool.false_eq_true, Bool.true_and, Bool.and_true, Bool.false_and, Bool.and_false, Bool.not_true, Bool.not_false, Bool.xor_false, Bool.xor_true, Bool.false_xor, Bool.true_xor, Bool.not_not, decide_eq_true_eq, decide_true, decide_false, decide_eq_false_iff_not, Bool.not_eq_true', Bool.not_eq_false', beq_self_eq_true, isi_int_int, isi_int_bool, isi_int_str, isi_int_non, isi_int_tup, isi_int_lst, isi_bool_int, isi_bool_bool, isi_bool_str, isi_bool_non, isi_bool_tup, isi_bool_lst, isi_str_int, isi_str_bool, isi_str_str, isi_str_non, isi_str_tup, isi_str_lst, isi_tup_int, isi_tup_bool, isi_tup_str, isi_tup_non, isi_tup_tup, isi_tup_lst, isi_lst_int, isi_lst_bool, isi_lst_str, isi_lst_non, isi_lst_tup, isi_lst_lst, tru_bool, not_bool, isN_none, isN_bool, isN_int, isN_str, isN_tup, isN_lst, isB_bool, cmp_int, add_int, iadd_int, sub_int, neg_int, len_tup, len_lst, tuple_lst, tuple_tup, list_lst, list_tup, seq_lst, seq_tup, ix_tup, ix_lst, tupD, lstD, K_, atI_0, atI_1, atI_2, atI_3, eqD_int, neD_int, eqD_bool, bCase_bool, Int.cast_ofNat_Int, Int.natCast_zero, Int.natCast_one, Int.reduceBNe, Int.reduceBEq, Int.reduceLT, Int.reduceLE, bne_self_eq_false, *])
/-! ### equal data are equal -/
/-- of some depth, as the law compares -/
inductive Sim : Nat → PyData → Prop
  | none (n : Nat) : Sim (n + 1) .none
  | bool (n : Nat) (b : Bool) : Sim (n + 1) (.bool b)
  | int (n : Nat) (i : Int) : Sim (n + 1) (.int i)
  | str (n : Nat) (x : Str) : PyData.strOk x = true → Sim (n + 1) (.str x)
  | tup (n : Nat) (xs : List PyData) : xs.length ≤ 1000 → (∀ x ∈ xs, Sim n x) → Sim (n + 1) (.tuple xs)
  | lst (n : Nat) (xs : List PyData) : xs.length ≤ 1000 → (∀ x ∈ xs, Sim n x) → Sim (n + 1) (.list xs)
theorem Sim.mono {m n : Nat} {d : PyData} (h : Sim m d) (hn : m ≤ n) : Sim n d := by
  induction h generalizing n with
  | none k => obtain ⟨j, rfl⟩ : ∃ j, n = j + 1 := ⟨n - 1, by omega⟩; exact .none j
  | bool k b => obtain ⟨j, rfl⟩ : ∃ j, n = j + 1 := ⟨n - 1, by omega⟩; exact .bool j b
  | int k b => obtain ⟨j, rfl⟩ : ∃ j, n = j + 1 := ⟨n - 1, by omega⟩; exact .int j b
  | str k b h => obtain ⟨j, rfl⟩ : ∃ j, n = j + 1 := ⟨n - 1, by omega⟩; exact .str j b h
  | tup k xs h _ ih => obtain ⟨j, rfl⟩ : ∃ j, n = j + 1 := ⟨n - 1, by omega⟩; exact .tup j xs h fun x hx => ih x hx (by omega)
  | lst k xs h _ ih => obtain ⟨j, rfl⟩ : ∃ j, n = j + 1 := ⟨n - 1, by omega⟩; exact .lst j xs h fun x hx => ih x hx (by omega)
theorem law_is_integer_int (i : Int) : m__law_is_integer [.int i] = W.ret (.bool true) := by
  unfold m__law_is_integer b__law_is_integer
  walk_at "vl"
theorem all_true {α : Type} : ∀ (l : List α), allD [.list (l.map fun _ => .bool true)] = some (.bool true) := by
  intro l
  unfold allD
  have : boolsD (l.map fun _ => PyData.bool true) = some (l.map fun _ => true) := by
    have := boolsD_map (l.map fun _ => true)
    rw [List.map_map] at this
    exact this
  show (boolsD _).map _ = _
  rw [this]
  show some (PyData.bool _) = _
  refine congrArg (fun b => some (PyData.bool b)) (List.all_eq_true.mpr fun x hx => ?_)
  obtain ⟨_, _, rfl⟩ := List.mem_map.mp hx
  rfl
theorem eqD_strs {x : Str} (h : PyData.strOk x = true) : eqD (.str x) (.str x) = some (.bool true) := by
  rw [eqD_gd (p := True) (Gd.str (n := 0) h) (Gd.str (n := 0) h) (by simp)]
  rfl
theorem law_equal_refl {n : Nat} {d : PyData} (h : Sim n d) : m__law_equal_n n [d, d] = W.ret (.bool true) := by
  induction h with
  | none n =>
    unfold m__law_equal_n b__law_equal
    walk_at "vl"
  | bool n b =>
    unfold m__law_equal_n b__law_equal
    walk_at "vl"
  | int n i =>
    unfold m__law_equal_n b__law_equal
    walk_at "vl"
    rw [law_is_integer_int]
    walk_at "vl"
  | str n x hx =>
    have f := eqD_strs hx
    unfold m__law_equal_n b__law_equal
    walk_at "vls"
  | tup n xs hl hx ih =>
    unfold m__law_equal_n b__law_equal
    walk_at "vl"
    rw [lcM_mapOf (List.range xs.length) iN (fun _ => .bool true) (by walk_at "vl"; rw [rng1D_nat (by omega)]; walk_at "vl") (sl_of (by rw [List.length_range]; omega)) rfl ?h]
    case h =>
      intro i hi
      have hi' : i < xs.length := List.mem_range.mp hi
      refine ⟨_, rfl, ?_, rfl⟩
      have f1 : L2.atI xs (i : Int) = some xs[i] := by rw [atI_nat hi', List.getElem?_eq_getElem hi']
      have f2 := ih _ (List.getElem_mem hi')
      clear ih hx
      walk_at "vls"
    walk_at "vl"
    rw [all_true]
    walk_at "vl"
  | lst n xs hl hx ih =>
    unfold m__law_equal_n b__law_equal
    walk_at "vl"
    rw [lcM_mapOf (List.range xs.length) iN (fun _ => .bool true) (by walk_at "vl"; rw [rng1D_nat (by omega)]; walk_at "vl") (sl_of (by rw [List.length_range]; omega)) rfl ?h]
    case h =>
      intro i hi
      have hi' : i < xs.length := List.mem_range.mp hi
      refine ⟨_, rfl, ?_, rfl⟩
      have f1 : L2.atI xs (i : Int) = some xs[i] := by rw [atI_nat hi', List.getElem?_eq_getElem hi']
      have f2 := ih _ (List.getElem_mem hi')
      clear ih hx
      walk_at "vls"
    walk_at "vl"
    rw [all_true]
    walk_at "vl"
theorem law_equal_same {d : PyData} (h : Sim 20 d) : m__law_equal [d, d] = W.ret (.bool true) := law_equal_refl h
theorem sim_tN (l : List Nat) (n : Nat) (hl : l.length ≤ 1000) : Sim (n + 2) (tN l) := .tup _ _ (by rw [List.length_map]; exact hl) fun x hx => by
  obtain ⟨k, _, rfl⟩ := List.mem_map.mp hx
  exact .int _ _
/-! ### the table -/
/-- the table tells the relations -/
def TabOk (n : Nat) (R : List Rule) (d : PyData) : Prop := ∀ a b, a < n → b < n → a ≠ b → (keysK [iN a, iN b]).bind (fun _ => dgTD d [iN a, iN b]) = some (.list ((allw R a b).map .str))
def kk (a b : Nat) : List L2.Key := [.inl (a : Int), .inl (b : Int)]
theorem kk_inj {a b c d : Nat} : kk a b = kk c d ↔ a = c ∧ b = d := by
  unfold kk
  refine ⟨fun h => ?_, fun h => by rw [h.1, h.2]⟩
  injection h with h1 h2
  injection h2 with h2 _
  injection h1 with h1
  injection h2 with h2
  exact ⟨by omega, by omega⟩
structure TabI (n : Nat) (R : List Rule) (i j : Nat) (kvs : List (List L2.Key × PyData)) : Prop where
  len : kvs.length ≤ i * n + j
  val : ∀ a b, a < n → b < n → a ≠ b → (a < i ∨ (a = i ∧ b < j)) → valD kvs (kk a b) = some (.list ((allw R a b).map .str))
theorem table_turn {mx n i j : Nat} {R : List Rule} {kvs : List (List L2.Key × PyData)} (h : OkP mx n R) (hi : i < n) (hj : j < n) (t : TabI n R i j kvs) :
    ∃ kvs', TabI n R i (j + 1) kvs' ∧ l1__law_table [.d (probD n R), .t kvs, .d (iN i), .d (iN j)] = W.ret (.nx, [.d (probD n R), .t kvs', .d (iN i), .d (iN j)]) := by
  unfold l1__law_table
  have hl : kvs.length ≤ 1000 := by
    have h7 := h.hi
    have := t.len
    have : i * n ≤ 7 * 7 := Nat.mul_le_mul (by omega) h7
    omega
  by_cases e : i = j
  · subst e
    refine ⟨kvs, ⟨by have := t.len; omega, fun a b ha hb ne q => ?_⟩, ?_⟩
    · rcases q with q | ⟨q1, q2⟩
      · exact t.val a b ha hb ne (.inl q)
      · exact t.val a b ha hb ne (.inr ⟨q1, by omega⟩)
    · walk_at "vl"
  · have ne : ((i : Int) != (j : Int)) = true := by
      rw [bne_iff_ne]; omega
    refine ⟨putD kvs (kk i j) (.list ((allw R i j).map .str)), ⟨by have := t.len; have := putD_len kvs (kk i j) (.list ((allw R i j).map .str)); omega, fun a b ha hb hab q => ?_⟩, ?_⟩
    · rw [valD_put]
      by_cases z : a = i ∧ b = j
      · rw [if_pos (kk_inj.mpr z), z.1, z.2]
      · rw [if_neg fun y => z (kk_inj.mp y)]
        refine t.val a b ha hb hab ?_
        rcases q with q | ⟨q1, q2⟩
        · exact .inl q
        · exact .inr ⟨q1, by omega⟩
    · have f1 := law_allowed_ok (x := i) (y := j) h.ok
      have f2 : sDPut 1 (aCons (eVar 2) (aCons (eVar 3) (Mo.ret []))) (eCall m__law_allowed (aCons (eVar 0) (aCons (eVar 2) (aCons (eVar 3) (Mo.ret []))))) [.d (probD n R), .t kvs, .d (iN i), .d (iN j)] = _ :=
        sDPut_eq (d := .list ((allw R i j).map .str)) (ks := [iN i, iN j]) (k := kk i j) (kvs := kvs) (by walk_at "vls") (by walk_at "vl") rfl (keys2 i j) hl
      clear f1
      walk_at "vls"
theorem table_ok {mx n : Nat} {R : List Rule} (h : OkP mx n R) : ∃ d, TabOk n R d ∧ m__law_table [probD n R] = W.ret d := by
  have h7 := h.hi
  have hrow : ∀ (i : Nat) (env : En), (∃ (kvs : List (List L2.Key × PyData)) (c : Sl), i < n ∧ TabI n R i 0 kvs ∧ env = [.d (probD n R), .t kvs, .d (iN i), c]) → ∃ env', l2__law_table env = W.ret (.nx, env') ∧ ∃ (kvs : List (List L2.Key × PyData)) (b c : Sl), TabI n R (i + 1) 0 kvs ∧ env' = [.d (probD n R), .t kvs, b, c] := by
    rintro i env ⟨kvs, c, hi, t, rfl⟩
    obtain ⟨env', e1, kvs', c', t', e2⟩ := forW_ex (g := gN 3) (b := l1__law_table) (List.range n) iN (fun j env => ∃ (kvs : List (List L2.Key × PyData)) (c : Sl), TabI n R i j kvs ∧ env = [.d (probD n R), .t kvs, .d (iN i), c]) (by
      rintro j y env hy ⟨kvs, c, t, rfl⟩
      obtain ⟨hj1, hj2⟩ := List.getElem?_eq_some_iff.mp hy
      rw [List.length_range] at hj1
      rw [List.getElem_range] at hj2
      subst hj2
      obtain ⟨kvs', t', e⟩ := table_turn h hi hj1 t
      exact ⟨_, _, rfl, .inl e, kvs', _, t', rfl⟩) _ ⟨kvs, c, t, rfl⟩
    rw [List.length_range] at t'
    subst e2
    refine ⟨[.d (probD n R), .t kvs', .d (iN i), c'], ?_, kvs', .d (iN i), c', ⟨by have := t'.len; rw [Nat.add_mul]; omega, fun a b ha hb ne q => t'.val a b ha hb ne ?_⟩, rfl⟩
    · have h0 := probD_0 n R
      unfold l2__law_table
      walk_at "vls"
      rw [rng1D_nat (by omega)]
      walk_at "vl"
      exact e1
    · rcases q with q | ⟨q1, q2⟩
      · by_cases z : a = i
        · exact .inr ⟨z, hb⟩
        · exact .inl (by omega)
      · omega
  obtain ⟨env', e1, kvs', b', c', t', e2⟩ := forW_ex (g := gN 2) (b := l2__law_table) (List.range n) iN (fun i env => ∃ (kvs : List (List L2.Key × PyData)) (b c : Sl), TabI n R i 0 kvs ∧ env = [.d (probD n R), .t kvs, b, c]) (by
    rintro i y env hy ⟨kvs, b, c, t, rfl⟩
    obtain ⟨hj1, hj2⟩ := List.getElem?_eq_some_iff.mp hy
    rw [List.length_range] at hj1
    rw [List.getElem_range] at hj2
    subst hj2
    obtain ⟨env2, e, q⟩ := hrow _ _ ⟨kvs, c, hj1, t, rfl⟩
    exact ⟨_, _, rfl, .inl e, q⟩) [.d (probD n R), .t [], .no, .no] ⟨[], .no, .no, ⟨Nat.zero_le _, fun a b ha hb ne q => by omega⟩, rfl⟩
  rw [List.length_range] at t'
  refine ⟨dictD kvs', fun a b ha hb ne => ?_, ?_⟩
  · rw [dg2]
    exact t'.val a b ha hb ne (.inl ha)
  · have h0 := probD_0 n R
    unfold m__law_table b__law_table
    walk_at "vls"
    rw [rng1D_nat (by omega)]
    walk_at "vl"
    subst e2
    have e1 : forW (gN 2) l2__law_table ((List.range n).map fun k : Nat => PyData.int (k : Int)) _ = _ := e1
    rw [e1]
    walk_at "vl"
/-! ### the law's sets -/
theorem up_range (n : Nat) : Up (List.range n) := List.pairwise_lt_range
theorem law_chosen_run {n k : Nat} (h7 : n ≤ 7) (hk : k ≤ n) {Q : PyData → Prop} {E : Er → Prop} (hq : ∀ C, SetL n C → k ≤ C.length → Q (tN C)) : (m__law_chosen [.int (n : Nat), .int (k : Nat)]).run Q E := by
  unfold m__law_chosen b__law_chosen
  walk_at "vl"
  rw [W_run_bind]
  refine lcM_any (List.range n) iN iN (by walk_at "vl"; rw [rng1D_nat (by omega)]; walk_at "vl") (sl_of (by rw [List.length_range]; omega)) rfl (fun x hx => ⟨_, rfl, ?_⟩) fun C hC => ?_
  · walk_at "vl"
    rw [W_run_bind]
    refine mNext_run (by omega) (by omega) fun i h0 hi => ?_
    walk_at "vl"
    exact ⟨rfl, fun _ => by walk_at "vl"⟩
  · have hS : SetL n C := ⟨(up_range n).sublist hC, fun x hx => List.mem_range.mp (hC.subset hx)⟩
    walk_at "vl"
    rw [List.length_map]
    by_cases h : C.length < k
    · rw [if_pos (show (C.length : Int) < (k : Int) by omega)]
      walk_at "vl"
      rw [lrgN (by omega)]
      walk_at "vl"
      exact hq _ ⟨up_range n, fun x hx => List.mem_range.mp hx⟩ (by rw [List.length_range]; exact hk)
    · rw [if_neg (show ¬ (C.length : Int) < (k : Int) by omega)]
      walk_at "vl"
      exact hq _ hS (by omega)
/-! ### what the law says is reached -/
theorem strs_inL {w : Str} {l : List Str} (neg : Bool) (hw : PyData.strOk w = true) (h : ∀ x ∈ l, x ∈ ks) : inD neg (.str w) (.list (l.map .str)) = some (.bool (neg.xor (decide (w ∈ l)))) :=
  inD_lst (Gd.str (n := 0) hw) (fun z hz => by obtain ⟨y, hy, rfl⟩ := List.mem_map.mp hz; exact Gd.str (n := 0) (ks_ok _ (h _ hy))) mem_strs
theorem reach_turn {n x at_ a o : Nat} {R : List Rule} {w : Str} {d : PyData} {ps : List (Nat × Nat)} (c1 c2 : Sl) (hd : TabOk n R d) (hw : PyData.strOk w = true) (ha : (ends x ps)[at_]? = some a) (hn : a < n) (ho : o < n) (hl : ps.length ≤ 100) :
    l1__law_reach [.d d, c1, c2, .d (.str w), .l ((ends x ps).map iN), .d (iN at_), .d (iN o)] = W.ret (.nx, [.d d, c1, c2, .d (.str w), .l ((ends x (stepP (eW R w) x a ps o)).map iN), .d (iN at_), .d (iN o)]) := by
  have f1 := inN_lst true o (ends x ps)
  have f2 : ixD (.list ((ends x ps).map iN)) (iN at_) = some (iN a) := ixN_lst ha
  have l1 : (ends x ps).length ≤ 1000 := by rw [ends_len]; omega
  unfold l1__law_reach
  by_cases h1 : o ∈ ends x ps
  · have e : stepP (eW R w) x a ps o = ps := by unfold stepP; rw [if_neg fun z => z.1 h1]
    rw [e]
    rw [decide_eq_true h1] at f1
    walk_at "vls"
  · rw [decide_eq_false h1] at f1
    have ne : a ≠ o := fun z => h1 (by rw [← z]; exact List.mem_of_getElem? ha)
    have f3 := hd a o hn ho ne
    have f5 := strs_inL (l := allw R a o) true hw allw_ks
    by_cases h2 : w ∈ allw R a o
    · have e : stepP (eW R w) x a ps o = ps := by
        unfold stepP eW
        rw [decide_eq_true h2, if_neg fun z => by cases z.2]
      rw [e]
      rw [decide_eq_true h2] at f5
      walk_at "vls"
    · have e : stepP (eW R w) x a ps o = ps ++ [(a, o)] := by
        unfold stepP eW
        rw [decide_eq_false h2, if_pos ⟨h1, rfl⟩]
      rw [e, ends_snoc]
      rw [decide_eq_false h2] at f5
      have e2 := app1_ok (xs := (ends x ps).map iN) (d := iN o) (by rw [List.length_map]; omega)
      walk_at "vls"
      simp only [List.map_append, List.map_cons, List.map_nil]
theorem reach_scan {n x at_ a : Nat} {R : List Rule} {w : Str} {d : PyData} {C : List Nat} {ps : List (Nat × Nat)} (hC : SetL n C) (h7 : n ≤ 7) (hd : TabOk n R d) (c2 o : Sl) (hw : PyData.strOk w = true) (g : Good C x ps) (ha : (ends x ps)[at_]? = some a) :
    ∃ o', forW (gN 6) l1__law_reach (C.map iN) [.d d, .d (tN C), c2, .d (.str w), .l ((ends x ps).map iN), .d (iN at_), o] = W.ret (.nx, [.d d, .d (tN C), c2, .d (.str w), .l ((ends x (scanP (eW R w) x a C ps)).map iN), .d (iN at_), o']) := by
  have gi : ∀ i, Good C x (scanP (eW R w) x a (C.take i) ps) := fun i => scan_good g fun y hy => List.mem_of_mem_take hy
  obtain ⟨env', e1, o', e2⟩ := forW_ex (g := gN 6) (b := l1__law_reach) C iN (fun i env => ∃ o, env = [.d d, .d (tN C), c2, .d (.str w), .l ((ends x (scanP (eW R w) x a (C.take i) ps)).map iN), .d (iN at_), o]) (by
    rintro i y env hy ⟨o, rfl⟩
    have hg := gi i
    obtain ⟨l1, l2⟩ := Good.le7 hC h7 hg
    have ha' : (ends x (scanP (eW R w) x a (C.take i) ps))[at_]? = some a := by
      obtain ⟨t, ht⟩ := ends_pre (x := x) (scan_pre (e := eW R w) (x := x) (a := a) (l := C.take i) (ps := ps))
      rw [← ht, List.getElem?_append_left (List.getElem?_eq_some_iff.mp ha).1]
      exact ha
    refine ⟨_, _, rfl, .inl (reach_turn _ _ hd hw ha' (l2 a (List.mem_of_getElem? ha')) (hC.lt y (List.mem_of_getElem? hy)) (by omega)), .d (iN y), ?_⟩
    rw [scan_take hy]) _ ⟨o, rfl⟩
  rw [List.take_length] at e2
  subst e2
  exact ⟨o', e1⟩
theorem law_reach_ok {n x : Nat} {R : List Rule} {w : Str} {d : PyData} {C : List Nat} (hC : SetL n C) (h7 : n ≤ 7) (hd : TabOk n R d) (hw : PyData.strOk w = true) (hx : x ∈ C) : m__law_reach [d, tN C, iN x, .str w] = W.ret (tN (rch (eW R w) C x)) := by
  have gs : ∀ i, Good C x (seqP (eW R w) C x i) := fun i => seq_good hx i
  have hlen := hC.len
  unfold m__law_reach b__law_reach
  walk_at "vl"
  rw [List.length_map, rng1D_nat (by omega)]
  walk_at "vl"
  obtain ⟨env', e1, t, o, e2⟩ := forW_ex (g := gN 5) (b := l2__law_reach) (List.range C.length) iN (fun i env => ∃ t o, env = [.d d, .d (tN C), .d (iN x), .d (.str w), .l ((ends x (seqP (eW R w) C x i)).map iN), t, o]) (by
    rintro i y env hy ⟨t, o, rfl⟩
    obtain ⟨hj1, hj2⟩ := List.getElem?_eq_some_iff.mp hy
    rw [List.length_range] at hj1
    rw [List.getElem_range] at hj2
    subst hj2
    by_cases hlt : i < (ends x (seqP (eW R w) C x i)).length
    · have ha := List.getElem?_eq_getElem hlt
      obtain ⟨o', f1⟩ := reach_scan (R := R) hC h7 hd (.d (iN x)) o hw (gs i) ha
      refine ⟨[.d d, .d (tN C), .d (iN x), .d (.str w), .l ((ends x (seqP (eW R w) C x i)).map iN), .d (iN i), o], [.d d, .d (tN C), .d (iN x), .d (.str w), .l ((ends x (seqP (eW R w) C x (i + 1))).map iN), .d (iN i), o'], rfl, .inl ?_, _, o', rfl⟩
      rw [seq_some ha]
      have t1 : (i : Int) < ((ends x (seqP (eW R w) C x i)).length : Int) := by omega
      clear ha gs hy
      unfold l2__law_reach
      walk_at "vl"
      rw [List.length_map]
      walk_at "vls"
    · refine ⟨[.d d, .d (tN C), .d (iN x), .d (.str w), .l ((ends x (seqP (eW R w) C x i)).map iN), .d (iN i), o], [.d d, .d (tN C), .d (iN x), .d (.str w), .l ((ends x (seqP (eW R w) C x (i + 1))).map iN), .d (iN i), o], rfl, .inl ?_, _, o, rfl⟩
      rw [seq_none (by omega)]
      have t1 : ¬ (i : Int) < ((ends x (seqP (eW R w) C x i)).length : Int) := by omega
      clear gs hy
      unfold l2__law_reach
      walk_at "vl"
      rw [List.length_map]
      walk_at "vls") [.d d, .d (tN C), .d (iN x), .d (.str w), .l [iN x], .no, .no] ⟨.no, .no, rfl⟩
  rw [List.length_range] at e2
  subst e2
  have e1 : forW (gN 5) l2__law_reach ((List.range C.length).map fun k : Nat => PyData.int (k : Int)) _ = _ := e1
  rw [e1]
  walk_at "vl"
  have hm := met_len (e := eW R w) hx
  rw [sortN_lst (l := ends x (seqP (eW R w) C x C.length)) (rch_perm hC.up.nd hx) (rch_up hC _ x) (by unfold met link at hm; omega)]
  walk_at "vl"
end VM

set_option Elab.async false
set_option linter.all false
set_option maxRecDepth 100000
set_option maxHeartbeats 1000000
/-! Splits: the told one, the law's, those that are accepted. -/
namespace VM
open PySem VL KP RC
local macro_rules | `(tactic| walk_at "vl") => `(tactic| simp only [c_op1, c_op2, c_op2T, c_op2F, c_opL, c_opF, c_aCons, c_eList, c_eCall, c_eCall0, c_eCallS, stS_s, c_toT, c_tB1, c_tNotM, c_tAndM, c_tOrM, c_eAnd, c_eOr, c_eIf, c_eChain, chD_int, c_toO, intO_int, c_eSlice, c_toI, c_ret, c_bind, c_eVar, vS_d, vS_l, vS_ll, peekS_d, peekS_l, c_peek, c_bLen, c_bIx, c_bIn, c_bTru, c_bTup, c_bLst, c_bSort, c_bAddL, lS_l, c_eAppend, c_eExtend, c_ePop, c_ePopAt, seqR_nx, seqR_bk, seqR_ct, seqR_rt, c_sSeq, c_sNil, c_sRet, c_sRetN, c_sExpr, c_sBreak, c_sCont, c_stD, c_sSet, c_sSetL, c_sSetLL, c_sIf, c_sAsg, c_gR, dS_d, c_sAug, c_sFor, raR_str, c_sRaise, c_gN, gTp_tup, gCs, gNl, callR_nx, callR_rt, c_callM, c_callMS, c_wipe, c_wipe0, c_fSortSet, c_eDGet, c_sSetT, c_eRg1, vS_t, bD_bool, outD_some, W.ret_bind, W_bind_assoc, W.opt_some, W.opt_none, W.nox_ret, sAt_z, sAt_s, sAt_nil, Option.bind_some, Option.bind_none, Option.map_some, List.set_cons_zero, List.set_cons_succ, List.length_cons, List.length_nil, List.length_set, start0, List.map_cons, List.map_nil, List.cons_append, List.nil_append, List.append_nil, List.replicate_succ, List.replicate_zero, Nat.reduceAdd, Nat.reduceSub, Nat.reduceLT, Nat.reduceLeDiff, Nat.zero_add, Nat.add_zero, Nat.lt_add_left_iff_pos, Nat.succ_pos, if_true, if_false, ite_true, ite_false, reduceIte, reduceCtorEq, Bool.false_eq_true, Bool.true_and, Bool.and_true, Bool.false_and, Bool.and_false, Bool.not_true, Bool.not_false, Bool.xor_false, Bool.xor_true, Bool.false_xor, Bool.true_xor, Bool.not_not, decide_eq_true_eq, decide_true, decide_false, decide_eq_false_iff_not, Bool.not_eq_true', Bool.not_eq_false', beq_self_eq_true, isi_int_int, isi_int_bool, isi_int_str, isi_int_non, isi_int_tup, isi_int_lst, isi_bool_int, isi_bool_bool, isi_bool_str, isi_bool_non, isi_bool_tup, isi_bool_lst, isi_str_int, isi_str_bool, isi_str_str, isi_str_non, isi_str_tup, isi_str_lst, isi_tup_int, isi_tup_bool, isi_tup_str, isi_tup_non, isi_tup_tup, isi_tup_lst, isi_lst_int, isi_lst_bool, isi_lst_str, isi_lst_non, isi_lst_tup, isi_lst_lst, tru_bool, not_bool, isN_none, isN_bool, isN_int, isN_str, isN_tup, isN_lst, isB_bool, cmp_int, add_int, iadd_int, sub_int, neg_int, len_tup, len_lst, tuple_lst, tuple_tup, list_lst, list_tup, seq_lst, seq_tup, ix_tup, ix_lst, tupD, lstD, K_, atI_0, atI_1, atI_2, atI_3, eqD_int, neD_int, eqD_bool, bCase_bool, Int.cast_ofNat_Int, Int.natCast_zero, Int.natCast_one, Int.reduceBNe, Int.reduceBEq, Int.reduceLT, Int.reduceLE, bne_self_eq_false])
local macro_rules | `(tactic| walk_at "vls") => `(tactic| simp only [c_op1, c_op2, c_op2T, c_op2F, c_opL, c_opF, c_aCons, c_eList, c_eCall, c_eCall0, c_eCallS, stS_s, c_toT, c_tB1, c_tNotM, c_tAndM, c_tOrM, c_eAnd, c_eOr, c_eIf, c_eChain, chD_int, c_toO, intO_int, c_eSlice, c_toI, c_ret, c_bind, c_eVar, vS_d, vS_l, vS_ll, peekS_d, peekS_l, c_peek, c_bLen, c_bIx, c_bIn, c_bTru, c_bTup, c_bLst, c_bSort, c_bAddL, lS_l, c_eAppend, c_eExtend, c_ePop, c_ePopAt, seqR_nx, seqR_bk, seqR_ct, seqR_rt, c_sSeq, c_sNil, c_sRet, c_sRetN, c_sExpr, c_sBreak, c_sCont, c_stD, c_sSet, c_sSetL, c_sSetLL, c_sIf, c_sAsg, c_gR, dS_d, c_sAug, c_sFor, raR_str, c_sRaise, c_gN, gTp_tup, gCs, gNl, callR_nx, callR_rt, c_callM, c_callMS, c_wipe, c_wipe0, c_fSortSet, c_eDGet, c_sSetT, c_eRg1, vS_t, bD_bool, outD_some, W.ret_bind, W_bind_assoc, W.opt_some, W.opt_none, W.nox_ret, sAt_z, sAt_s, sAt_nil, Option.bind_some, Option.bind_none, Option.map_some, List.set_cons_zero, List.set_cons_succ, List.length_cons, List.length_nil, List.length_set, start0, List.map_cons, List.map_nil, List.cons_append, List.nil_append, List.append_nil, List.replicate_succ, List.replicate_zero, Nat.reduceAdd, Nat.reduceSub, Nat.reduceLT, Nat.reduceLeDiff, Nat.zero_add, Nat.add_zero, Nat.lt_add_left_iff_pos, Nat.succ_pos, if_true, if_false, ite_true, ite_false, reduceIte, reduceCtorEq, Bool.false_eq_true, Bool.true_and, Bool.and_true, Bool.false_and, Bool.and_false, Bool.not_true, Bool.not_false, Bool.xor_false, Bool.xor_true, Bool.false_xor, Bool.true_xor, Bool.not_not, decide_eq_true_eq, decide_true, decide_false, decide_eq_false_iff_not, Bool.not_eq_true', Bool.not_eq_false', beq_self_eq_true, isi_int_int, isi_int_bool, isi_int_str, isi_int_non, isi_int_tup, isi_int_lst, isi_bool_int, isi_bool_bool, isi_bool_str, isi_bool_non, isi_bool_tup, isi_bool_lst, isi_str_int, isi_str_bool, isi_str_str, isi_str_non, isi_str_tup, isi_str_lst, isi_tup_int, isi_tup_bool, isi_tup_str, isi_tup_non, isi_tup_tup, isi_tup_lst, isi_lst_int, isi_lst_bool, isi_lst_str, isi_lst_non, isi_lst_tup, isi_lst_lst, tru_bool, not_bool, isN_none, isN_bool, isN_int, isN_str, isN_tup, isN_lst, isB_bool, cmp_int, add_int, iadd_int, sub_int, neg_int, len_tup, len_lst, tuple_lst, tuple_tup, list_lst, list_tup, seq_lst, seq_tup, ix_tup, ix_lst, tupD, lstD, K_, atI_0, atI_1, atI_2, atI_3, eqD_int, neD_int, eqD_bool, bCase_bool, Int.cast_ofNat_Int, Int.natCast_zero, Int.natCast_one, Int.reduceBNe, Int.reduceBEq, Int.reduceLT, Int.reduceLE, bne_self_eq_false, *])
theorem forW_find {α : Type} {g : GF} {b : SM} (l : List α) (emb : α → PyData) (p : α → Bool) (r : α → PyData) (P : En → Prop)
    (hs : ∀ x ∈ l, ∀ env, P env → ∃ env1, g (emb x) env = some env1 ∧ (p x = true → ∃ env2, b env1 = W.ret (.rt (r x), env2)) ∧ (p x = false → ∃ env2, (b env1 = W.ret (.nx, env2) ∨ b env1 = W.ret (.ct, env2)) ∧ P env2)) :
    ∀ env, P env → (∀ x, l.find? p = some x → ∃ env', forW g b (l.map emb) env = W.ret (.rt (r x), env')) ∧ (l.find? p = none → ∃ env', forW g b (l.map emb) env = W.ret (.nx, env') ∧ P env') := by
  induction l with
  | nil => exact fun env h => ⟨(fun x z => by cases z), fun _ => ⟨env, rfl, h⟩⟩
  | cons x l ih =>
    intro env h
    obtain ⟨env1, e1, h1, h2⟩ := hs x List.mem_cons_self env h
    rw [List.find?_cons, List.map_cons]
    unfold forW
    rw [e1]
    cases q : p x with
    | true =>
      obtain ⟨env2, e2⟩ := h1 q
      refine ⟨fun y hy => ?_, fun z => by cases z⟩
      cases hy
      refine ⟨env2, ?_⟩
      show (W.bind (b env1) _) = _
      rw [e2]
      rfl
    | false =>
      obtain ⟨env2, e2, p2⟩ := h2 q
      obtain ⟨i1, i2⟩ := ih (fun y hy => hs y (List.mem_cons_of_mem _ hy)) env2 p2
      refine ⟨fun y hy => ?_, fun z => ?_⟩
      · obtain ⟨env', e'⟩ := i1 y hy
        refine ⟨env', ?_⟩
        show (W.bind (b env1) _) = _
        rcases e2 with e2 | e2 <;> rw [e2] <;> exact e'
      · obtain ⟨env', e', p'⟩ := i2 z
        refine ⟨env', ?_, p'⟩
        show (W.bind (b env1) _) = _
        rcases e2 with e2 | e2 <;> rw [e2] <;> exact e'
/-- the first task that does not reach all -/
def lack (e : Nat → Nat → Bool) (C : List Nat) : Option Nat := C.find? fun x => decide (rch e C x ≠ C)
def restN (C p : List Nat) : List Nat := C.filter fun y => decide (y ∉ p)
def tsp (R : List Rule) (C : List Nat) : Option (Str × List Nat × List Nat) :=
  match lack (eW R "beside") C with
  | some x => some ("beside", rch (eW R "beside") C x, restN C (rch (eW R "beside") C x))
  | none => match lack (eW R "before") C with
    | some x => some ("then", rch (eW R "before") C x, restN C (rch (eW R "before") C x))
    | none => none
def spD : Option (Str × List Nat × List Nat) → PyData
  | none => .none
  | some (w, p, q) => .tuple [.str w, tN p, tN q]
theorem without_ok (C p : List Nat) (hl : C.length ≤ 1000) : m_without [tN C, tN p] = W.ret (tN (restN C p)) := by
  unfold m_without b_without
  walk_at "vl"
  rw [lcM_of C iN (fun y => decide (y ∉ p)) iN (by walk_at "vl") (sl_of (by omega)) rfl ?h]
  · walk_at "vl"
    rfl
  · intro y hy
    refine ⟨_, rfl, ?_⟩
    refine ⟨?_, fun _ => ?_, rfl⟩
    · walk_at "vl"
      rw [inN_tup]
      walk_at "vl"
      rw [decide_not]
    · walk_at "vl"
theorem split_turn {n x : Nat} {R : List Rule} {C : List Nat} (w v : Str) (hC : SetL n C) (h7 : n ≤ 7) (hv : PyData.strOk v = true) (hk : kdD [("beside", "beside"), ("then", "before")] (.str w) = some (.str v)) (hx : x ∈ C) (c : Sl) :
    l1_split_in [.d (chT n R), .d (tN C), .d (.str w), .d (iN x), c] = if decide (rch (eW R v) C x ≠ C) = true then W.ret (.rt (.tuple [.str w, tN (rch (eW R v) C x), tN (restN C (rch (eW R v) C x))]), [.d (chT n R), .d (tN C), .d (.str w), .d (iN x), .d (tN (rch (eW R v) C x))]) else W.ret (.nx, [.d (chT n R), .d (tN C), .d (.str w), .d (iN x), .d (tN (rch (eW R v) C x))]) := by
  have f1 := reached_in_ok (R := R) (w := v) hC h7 hv hx
  have f2 := neN_tup (rch (eW R v) C x) C
  have hl := hC.len
  have f3 := without_ok C (rch (eW R v) C x) (by omega)
  unfold l1_split_in
  by_cases h : rch (eW R v) C x = C
  · rw [decide_eq_true h] at f2
    have e : decide (rch (eW R v) C x ≠ C) = false := decide_eq_false fun z => z h
    rw [e]
    clear h e hl
    walk_at "vls"
  · rw [decide_eq_false h] at f2
    have e : decide (rch (eW R v) C x ≠ C) = true := decide_eq_true h
    rw [e]
    clear h e hl
    walk_at "vls"
theorem split_in_ok {n : Nat} {R : List Rule} {C : List Nat} (hC : SetL n C) (h7 : n ≤ 7) : m_split_in [chT n R, tN C] = W.ret (spD (tsp R C)) := by
  have row : ∀ (w v : Str), PyData.strOk v = true → kdD [("beside", "beside"), ("then", "before")] (.str w) = some (.str v) → ∀ a b : Sl, (∀ x, lack (eW R v) C = some x → ∃ env', l2_split_in [.d (chT n R), .d (tN C), .d (.str w), a, b] = W.ret (.rt (.tuple [.str w, tN (rch (eW R v) C x), tN (restN C (rch (eW R v) C x))]), env')) ∧
      (lack (eW R v) C = none → ∃ a' b', l2_split_in [.d (chT n R), .d (tN C), .d (.str w), a, b] = W.ret (.nx, [.d (chT n R), .d (tN C), .d (.str w), a', b'])) := by
    intro w v hv hk a b
    obtain ⟨h1, h2⟩ := forW_find (g := gN 3) (b := l1_split_in) C iN (fun x => decide (rch (eW R v) C x ≠ C)) (fun x => .tuple [.str w, tN (rch (eW R v) C x), tN (restN C (rch (eW R v) C x))]) (fun env => ∃ a b, env = [.d (chT n R), .d (tN C), .d (.str w), a, b]) (by
      rintro x hx env ⟨a, b, rfl⟩
      have e := split_turn (R := R) w v hC h7 hv hk hx b
      refine ⟨_, rfl, fun q => ?_, fun q => ?_⟩
      · rw [q, if_pos rfl] at e
        exact ⟨_, e⟩
      · rw [q, if_neg Bool.false_ne_true] at e
        exact ⟨_, .inl e, _, _, rfl⟩) _ ⟨a, b, rfl⟩
    unfold l2_split_in
    refine ⟨fun x hx => ?_, fun hn => ?_⟩
    · obtain ⟨env', e⟩ := h1 x hx
      refine ⟨env', ?_⟩
      walk_at "vl"
      exact e
    · obtain ⟨env', e, a', b', rfl⟩ := h2 hn
      refine ⟨a', b', ?_⟩
      walk_at "vl"
      exact e
  unfold m_split_in b_split_in
  walk_at "vl"
  show ((forW (gN 2) l2_split_in [.str "beside", .str "then"] [.d (chT n R), .d (tN C), .no, .no, .no]).bind _) = _
  unfold forW
  walk_at "vl"
  unfold tsp
  obtain ⟨b1, b2⟩ := row "beside" "beside" (by decide +kernel) rfl .no .no
  cases h1 : lack (eW R "beside") C with
  | some x =>
    obtain ⟨env', e⟩ := b1 x h1
    rw [e]
    rfl
  | none =>
    obtain ⟨a', b', e⟩ := b2 h1
    rw [e]
    walk_at "vl"
    unfold forW
    walk_at "vl"
    obtain ⟨c1, c2⟩ := row "then" "before" (by decide +kernel) rfl a' b'
    cases h2 : lack (eW R "before") C with
    | some x =>
      obtain ⟨env', e⟩ := c1 x h2
      rw [e]
      rfl
    | none =>
      obtain ⟨a'', b'', e⟩ := c2 h2
      rw [e]
      walk_at "vl"
      unfold forW
      walk_at "vl"
      rfl
end VM

set_option Elab.async false
set_option linter.all false
set_option maxRecDepth 100000
set_option maxHeartbeats 1000000
/-! The law's split; what is stuck; which splits are accepted. -/
namespace VM
open PySem VL KP RC
local macro_rules | `(tactic| walk_at "vl") => `(tactic| simp only [c_op1, c_op2, c_op2T, c_op2F, c_opL, c_opF, c_aCons, c_eList, c_eCall, c_eCall0, c_eCallS, stS_s, c_toT, c_tB1, c_tNotM, c_tAndM, c_tOrM, c_eAnd, c_eOr, c_eIf, c_eChain, chD_int, c_toO, intO_int, c_eSlice, c_toI, c_ret, c_bind, c_eVar, vS_d, vS_l, vS_ll, peekS_d, peekS_l, c_peek, c_bLen, c_bIx, c_bIn, c_bTru, c_bTup, c_bLst, c_bSort, c_bAddL, lS_l, c_eAppend, c_eExtend, c_ePop, c_ePopAt, seqR_nx, seqR_bk, seqR_ct, seqR_rt, c_sSeq, c_sNil, c_sRet, c_sRetN, c_sExpr, c_sBreak, c_sCont, c_stD, c_sSet, c_sSetL, c_sSetLL, c_sIf, c_sAsg, c_gR, dS_d, c_sAug, c_sFor, raR_str, c_sRaise, c_gN, gTp_tup, gCs, gNl, callR_nx, callR_rt, c_callM, c_callMS, c_wipe, c_wipe0, c_fSortSet, c_eDGet, c_sSetT, c_eRg1, vS_t, bD_bool, outD_some, W.ret_bind, W_bind_assoc, W.opt_some, W.opt_none, W.nox_ret, sAt_z, sAt_s, sAt_nil, Option.bind_some, Option.bind_none, Option.map_some, List.set_cons_zero, List.set_cons_succ, List.length_cons, List.length_nil, List.length_set, start0, List.map_cons, List.map_nil, List.cons_append, List.nil_append, List.append_nil, List.replicate_succ, List.replicate_zero, Nat.reduceAdd, Nat.reduceSub, Nat.reduceLT, Nat.reduceLeDiff, Nat.zero_add, Nat.add_zero, Nat.lt_add_left_iff_pos, Nat.succ_pos, if_true, if_false, ite_true, ite_false, reduceIte, reduceCtorEq, Bool.false_eq_true, Bool.true_and, Bool.and_true, Bool.false_and, Bool.and_false, Bool.not_true, Bool.not_false, Bool.xor_false, Bool.xor_true, Bool.false_xor, Bool.true_xor, Bool.not_not, decide_eq_true_eq, decide_true, decide_false, decide_eq_false_iff_not, Bool.not_eq_true', Bool.not_eq_false', beq_self_eq_true, isi_int_int, isi_int_bool, isi_int_str, isi_int_non, isi_int_tup, isi_int_lst, isi_bool_int, isi_bool_bool, isi_bool_str, isi_bool_non, isi_bool_tup, isi_bool_lst, isi_str_int, isi_str_bool, isi_str_str, isi_str_non, isi_str_tup, isi_str_lst, isi_tup_int, isi_tup_bool, isi_tup_str, isi_tup_non, isi_tup_tup, isi_tup_lst, isi_lst_int, isi_lst_bool, isi_lst_str, isi_lst_non, isi_lst_tup, isi_lst_lst, tru_bool, not_bool, isN_none, isN_bool, isN_int, isN_str, isN_tup, isN_lst, isB_bool, cmp_int, add_int, iadd_int, sub_int, neg_int, len_tup, len_lst, tuple_lst, tuple_tup, list_lst, list_tup, seq_lst, seq_tup, ix_tup, ix_lst, tupD, lstD, K_, atI_0, atI_1, atI_2, atI_3, eqD_int, neD_int, eqD_bool, bCase_bool, Int.cast_ofNat_Int, Int.natCast_zero, Int.natCast_one, Int.reduceBNe, Int.reduceBEq, Int.reduceLT, Int.reduceLE, bne_self_eq_false])
local macro_rules | `(tactic| walk_at "vls") => `(tactic| simp only [c_op1, c_op2, c_op2T, c_op2F, c_opL, c_opF, c_aCons, c_eList, c_eCall, c_eCall0, c_eCallS, stS_s, c_toT, c_tB1, c_tNotM, c_tAndM, c_tOrM, c_eAnd, c_eOr, c_eIf, c_eChain, chD_int, c_toO, intO_int, c_eSlice, c_toI, c_ret, c_bind, c_eVar, vS_d, vS_l, vS_ll, peekS_d, peekS_l, c_peek, c_bLen, c_bIx, c_bIn, c_bTru, c_bTup, c_bLst, c_bSort, c_bAddL, lS_l, c_eAppend, c_eExtend, c_ePop, c_ePopAt, seqR_nx, seqR_bk, seqR_ct, seqR_rt, c_sSeq, c_sNil, c_sRet, c_sRetN, c_sExpr, c_sBreak, c_sCont, c_stD, c_sSet, c_sSetL, c_sSetLL, c_sIf, c_sAsg, c_gR, dS_d, c_sAug, c_sFor, raR_str, c_sRaise, c_gN, gTp_tup, gCs, gNl, callR_nx, callR_rt, c_callM, c_callMS, c_wipe, c_wipe0, c_fSortSet, c_eDGet, c_sSetT, c_eRg1, vS_t, bD_bool, outD_some, W.ret_bind, W_bind_assoc, W.opt_some, W.opt_none, W.nox_ret, sAt_z, sAt_s, sAt_nil, Option.bind_some, Option.bind_none, Option.map_some, List.set_cons_zero, List.set_cons_succ, List.length_cons, List.length_nil, List.length_set, start0, List.map_cons, List.map_nil, List.cons_append, List.nil_append, List.append_nil, List.replicate_succ, List.replicate_zero, Nat.reduceAdd, Nat.reduceSub, Nat.reduceLT, Nat.reduceLeDiff, Nat.zero_add, Nat.add_zero, Nat.lt_add_left_iff_pos, Nat.succ_pos, if_true, if_false, ite_true, ite_false, reduceIte, reduceCtorEq, Bool.false_eq_true, Bool.true_and, Bool.and_true, Bool.false_and, Bool.and_false, Bool.not_true, Bool.not_false, Bool.xor_false, Bool.xor_true, Bool.false_xor, Bool.true_xor, Bool.not_not, decide_eq_true_eq, decide_true, decide_false, decide_eq_false_iff_not, Bool.not_eq_true', Bool.not_eq_false', beq_self_eq_true, isi_int_int, isi_int_bool, isi_int_str, isi_int_non, isi_int_tup, isi_int_lst, isi_bool_int, isi_bool_bool, isi_bool_str, isi_bool_non, isi_bool_tup, isi_bool_lst, isi_str_int, isi_str_bool, isi_str_str, isi_str_non, isi_str_tup, isi_str_lst, isi_tup_int, isi_tup_bool, isi_tup_str, isi_tup_non, isi_tup_tup, isi_tup_lst, isi_lst_int, isi_lst_bool, isi_lst_str, isi_lst_non, isi_lst_tup, isi_lst_lst, tru_bool, not_bool, isN_none, isN_bool, isN_int, isN_str, isN_tup, isN_lst, isB_bool, cmp_int, add_int, iadd_int, sub_int, neg_int, len_tup, len_lst, tuple_lst, tuple_tup, list_lst, list_tup, seq_lst, seq_tup, ix_tup, ix_lst, tupD, lstD, K_, atI_0, atI_1, atI_2, atI_3, eqD_int, neD_int, eqD_bool, bCase_bool, Int.cast_ofNat_Int, Int.natCast_zero, Int.natCast_one, Int.reduceBNe, Int.reduceBEq, Int.reduceLT, Int.reduceLE, bne_self_eq_false, *])
/-! ### in what is not tied, all or none -/
theorem tie_symm {R : List Rule} {a b : Nat} (h : eW R "beside" a b = true) : eW R "beside" b a = true := by
  unfold eW at h ⊢
  have : decide (("beside" : Str) ∈ allw R b a) = decide (("beside" : Str) ∈ allw R a b) := by
    rw [decide_eq_decide, allw_swap (by decide +kernel)]
    rfl
  rw [this]
  exact h
theorem rch_all {e : Nat → Nat → Bool} {C : List Nat} {x : Nat} (hx : x ∈ C) : rch e C x = C ↔ ∀ y ∈ C, y ∈ met e C x := by
  unfold rch
  rw [List.filter_eq_self]
  exact ⟨fun h y hy => of_decide_eq_true (h y hy), fun h y hy => decide_eq_true (h y hy)⟩
theorem rch_len {e : Nat → Nat → Bool} {C : List Nat} {x : Nat} : (rch e C x).length < C.length ↔ rch e C x ≠ C := by
  refine ⟨fun h z => by rw [z] at h; omega, fun h => ?_⟩
  have h1 : (rch e C x).length ≤ C.length := List.length_filter_le _ _
  have h2 : (rch e C x).length ≠ C.length := fun z => h (List.filter_sublist.eq_of_length z)
  omega
theorem lack_head {R : List Rule} {x : Nat} {C : List Nat} : lack (eW R "beside") (x :: C) = if rch (eW R "beside") (x :: C) x ≠ x :: C then some x else none := by
  unfold lack
  rw [List.find?_cons]
  by_cases h : rch (eW R "beside") (x :: C) x = x :: C
  · have e : decide (rch (eW R "beside") (x :: C) x ≠ x :: C) = false := decide_eq_false fun z => z h
    rw [e, if_neg fun z => z h]
    show C.find? _ = none
    rw [List.find?_eq_none]
    intro y hy
    have hyC : y ∈ x :: C := List.mem_cons_of_mem _ hy
    rw [decide_eq_true_eq, Classical.not_not, rch_all hyC]
    rw [rch_all List.mem_cons_self] at h
    intro z hz
    have h1 := h y hyC
    have h2 := met_symm (e := eW R "beside") (fun a b _ _ => tie_symm) List.mem_cons_self h1
    exact met_trans hyC h2 (h z hz)
  · have e : decide (rch (eW R "beside") (x :: C) x ≠ x :: C) = true := decide_eq_true h
    rw [e, if_pos h]
theorem rest_lc1 {C p : List Nat} (hl : C.length ≤ 1000) (a c : Sl) : lcM [3] (toI (eVar 1)) (gN 3) (op2T (inD true) (eVar 3) (eVar 2)) (eVar 3) [a, .d (tN C), .d (tN p), .no, c] = W.ret ((restN C p).map iN, [a, .d (tN C), .d (tN p), .no, c]) := by
  rw [lcM_of C iN (fun y => decide (y ∉ p)) iN (by walk_at "vl") (sl_of (by omega)) rfl ?h]
  · rfl
  · intro y hy
    refine ⟨_, rfl, ?_⟩
    refine ⟨?_, fun _ => ?_, rfl⟩
    · walk_at "vl"
      rw [inN_tup]
      walk_at "vl"
      rw [decide_not]
    · walk_at "vl"
theorem rest_lc2 {C p : List Nat} (hl : C.length ≤ 1000) (a : Sl) (x : PyData) : lcM [4] (toI (eVar 1)) (gN 4) (op2T (inD true) (eVar 4) (eVar 2)) (eVar 4) [a, .d (tN C), .d (tN p), .d x, .no] = W.ret ((restN C p).map iN, [a, .d (tN C), .d (tN p), .d x, .no]) := by
  rw [lcM_of C iN (fun y => decide (y ∉ p)) iN (by walk_at "vl") (sl_of (by omega)) rfl ?h]
  · rfl
  · intro y hy
    refine ⟨_, rfl, ?_⟩
    refine ⟨?_, fun _ => ?_, rfl⟩
    · walk_at "vl"
      rw [inN_tup]
      walk_at "vl"
      rw [decide_not]
    · walk_at "vl"
theorem law_split_ok {n : Nat} {R : List Rule} {C : List Nat} {d : PyData} (hC : SetL n C) (h7 : n ≤ 7) (hd : TabOk n R d) (h0 : C ≠ []) : m__law_split [d, tN C] = W.ret (spD (tsp R C)) := by
  obtain ⟨x, r, rfl⟩ : ∃ x r, C = x :: r := by
    cases C with
    | nil => exact absurd rfl h0
    | cons x r => exact ⟨x, r, rfl⟩
  have hl := hC.len
  have f0 : ixD (tN (x :: r)) (.int 0) = some (iN x) := ixN_tup (i := 0) rfl
  have f1 := law_reach_ok (R := R) (w := "beside") hC h7 hd (by decide +kernel) List.mem_cons_self
  have turn : ∀ y ∈ x :: r, ∀ (a b : Sl), l1__law_split [.d d, .d (tN (x :: r)), a, .d (iN y), .no] = if decide (rch (eW R "before") (x :: r) y ≠ x :: r) = true then W.ret (.rt (.tuple [.str "then", tN (rch (eW R "before") (x :: r) y), tN (restN (x :: r) (rch (eW R "before") (x :: r) y))]), [.d d, .d (tN (x :: r)), .d (tN (rch (eW R "before") (x :: r) y)), .d (iN y), .no]) else W.ret (.nx, [.d d, .d (tN (x :: r)), .d (tN (rch (eW R "before") (x :: r) y)), .d (iN y), .no]) := by
    intro y hy a b
    have g1 := law_reach_ok (R := R) (w := "before") hC h7 hd (by decide +kernel) hy
    have g2 := rest_lc2 (C := x :: r) (p := rch (eW R "before") (x :: r) y) (by omega) (.d d) (iN y)
    unfold l1__law_split
    by_cases h : rch (eW R "before") (x :: r) y = x :: r
    · have e : decide (rch (eW R "before") (x :: r) y ≠ x :: r) = false := decide_eq_false fun z => z h
      rw [e]
      rw [h] at g1 ⊢
      clear h e hl f1 hd hC
      walk_at "vls"
      simp
    · have e : decide (rch (eW R "before") (x :: r) y ≠ x :: r) = true := decide_eq_true h
      have hlt := rch_len.mpr h
      have hlt2 : ((rch (eW R "before") (x :: r) y).length : Int) < (((x :: r).length : Nat) : Int) := by omega
      rw [e]
      generalize x :: r = C at *
      clear h e hl f1 hd hC hlt
      walk_at "vl"
      rw [g1]
      walk_at "vl"
      rw [List.length_map, List.length_map, if_pos hlt2]
      walk_at "vls"
  unfold m__law_split b__law_split
  walk_at "vl"
  rw [f1]
  walk_at "vl"
  rw [List.length_map, List.length_map]
  unfold tsp
  rw [lack_head]
  by_cases h : rch (eW R "beside") (x :: r) x = x :: r
  · rw [if_neg (c := rch (eW R "beside") (x :: r) x ≠ x :: r) (fun z => z h), h, if_neg (by rw [List.length_cons]; omega)]
    walk_at "vl"
    obtain ⟨h1, h2⟩ := forW_find (g := gN 3) (b := l1__law_split) (x :: r) iN (fun y => decide (rch (eW R "before") (x :: r) y ≠ x :: r)) (fun y => .tuple [.str "then", tN (rch (eW R "before") (x :: r) y), tN (restN (x :: r) (rch (eW R "before") (x :: r) y))]) (fun env => ∃ a b, env = [.d d, .d (tN (x :: r)), a, b, .no]) (by
      rintro y hy env ⟨a, b, rfl⟩
      have e := turn y hy a b
      refine ⟨_, rfl, fun q => ?_, fun q => ?_⟩
      · rw [q, if_pos rfl] at e
        exact ⟨_, e⟩
      · rw [q, if_neg Bool.false_ne_true] at e
        exact ⟨_, .inl e, _, _, rfl⟩) [.d d, .d (tN (x :: r)), .d (tN (x :: r)), .no, .no] ⟨_, _, rfl⟩
    cases q : lack (eW R "before") (x :: r) with
    | some y =>
      obtain ⟨env', e⟩ := h1 y q
      have e : forW (gN 3) l1__law_split (iN x :: r.map iN) _ = _ := e
      rw [e]
      rfl
    | none =>
      obtain ⟨env', e, a', b', rfl⟩ := h2 q
      have e : forW (gN 3) l1__law_split (iN x :: r.map iN) _ = _ := e
      rw [e]
      rfl
  · have hlt := rch_len.mpr h
    have g2 := rest_lc1 (C := x :: r) (p := rch (eW R "beside") (x :: r) x) (by omega) (.d d) .no
    rw [if_pos (c := rch (eW R "beside") (x :: r) x ≠ x :: r) h, if_pos (by rw [List.length_cons] at hlt; omega)]
    walk_at "vl"
    rw [g2]
    walk_at "vl"
    rfl
end VM

set_option Elab.async false
set_option linter.all false
set_option maxRecDepth 100000
set_option maxHeartbeats 1000000
/-! The program's entries for splits. -/
namespace VM
open PySem VL KP RC
local macro_rules | `(tactic| walk_at "vl") => `(tactic| simp only [c_op1, c_op2, c_op2T, c_op2F, c_opL, c_opF, c_aCons, c_eList, c_eCall, c_eCall0, c_eCallS, stS_s, c_toT, c_tB1, c_tNotM, c_tAndM, c_tOrM, c_eAnd, c_eOr, c_eIf, c_eChain, chD_int, c_toO, intO_int, c_eSlice, c_toI, c_ret, c_bind, c_eVar, vS_d, vS_l, vS_ll, peekS_d, peekS_l, c_peek, c_bLen, c_bIx, c_bIn, c_bTru, c_bTup, c_bLst, c_bSort, c_bAddL, lS_l, c_eAppend, c_eExtend, c_ePop, c_ePopAt, seqR_nx, seqR_bk, seqR_ct, seqR_rt, c_sSeq, c_sNil, c_sRet, c_sRetN, c_sExpr, c_sBreak, c_sCont, c_stD, c_sSet, c_sSetL, c_sSetLL, c_sIf, c_sAsg, c_gR, dS_d, c_sAug, c_sFor, raR_str, c_sRaise, c_gN, gTp_tup, gCs, gNl, callR_nx, callR_rt, c_callM, c_callMS, c_wipe, c_wipe0, c_fSortSet, c_eDGet, c_sSetT, c_eRg1, vS_t, bD_bool, outD_some, W.ret_bind, W_bind_assoc, W.opt_some, W.opt_none, W.nox_ret, sAt_z, sAt_s, sAt_nil, Option.bind_some, Option.bind_none, Option.map_some, List.set_cons_zero, List.set_cons_succ, List.length_cons, List.length_nil, List.length_set, start0, List.map_cons, List.map_nil, List.cons_append, List.nil_append, List.append_nil, List.replicate_succ, List.replicate_zero, Nat.reduceAdd, Nat.reduceSub, Nat.reduceLT, Nat.reduceLeDiff, Nat.zero_add, Nat.add_zero, Nat.lt_add_left_iff_pos, Nat.succ_pos, if_true, if_false, ite_true, ite_false, reduceIte, reduceCtorEq, Bool.false_eq_true, Bool.true_and, Bool.and_true, Bool.false_and, Bool.and_false, Bool.not_true, Bool.not_false, Bool.xor_false, Bool.xor_true, Bool.false_xor, Bool.true_xor, Bool.not_not, decide_eq_true_eq, decide_true, decide_false, decide_eq_false_iff_not, Bool.not_eq_true', Bool.not_eq_false', beq_self_eq_true, isi_int_int, isi_int_bool, isi_int_str, isi_int_non, isi_int_tup, isi_int_lst, isi_bool_int, isi_bool_bool, isi_bool_str, isi_bool_non, isi_bool_tup, isi_bool_lst, isi_str_int, isi_str_bool, isi_str_str, isi_str_non, isi_str_tup, isi_str_lst, isi_tup_int, isi_tup_bool, isi_tup_str, isi_tup_non, isi_tup_tup, isi_tup_lst, isi_lst_int, isi_lst_bool, isi_lst_str, isi_lst_non, isi_lst_tup, isi_lst_lst, tru_bool, not_bool, isN_none, isN_bool, isN_int, isN_str, isN_tup, isN_lst, isB_bool, cmp_int, add_int, iadd_int, sub_int, neg_int, len_tup, len_lst, tuple_lst, tuple_tup, list_lst, list_tup, seq_lst, seq_tup, ix_tup, ix_lst, tupD, lstD, K_, atI_0, atI_1, atI_2, atI_3, eqD_int, neD_int, eqD_bool, bCase_bool, Int.cast_ofNat_Int, Int.natCast_zero, Int.natCast_one, Int.reduceBNe, Int.reduceBEq, Int.reduceLT, Int.reduceLE, bne_self_eq_false])
local macro_rules | `(tactic| walk_at "vls") => `(tactic| simp only [c_op1, c_op2, c_op2T, c_op2F, c_opL, c_opF, c_aCons, c_eList, c_eCall, c_eCall0, c_eCallS, stS_s, c_toT, c_tB1, c_tNotM, c_tAndM, c_tOrM, c_eAnd, c_eOr, c_eIf, c_eChain, chD_int, c_toO, intO_int, c_eSlice, c_toI, c_ret, c_bind, c_eVar, vS_d, vS_l, vS_ll, peekS_d, peekS_l, c_peek, c_bLen, c_bIx, c_bIn, c_bTru, c_bTup, c_bLst, c_bSort, c_bAddL, lS_l, c_eAppend, c_eExtend, c_ePop, c_ePopAt, seqR_nx, seqR_bk, seqR_ct, seqR_rt, c_sSeq, c_sNil, c_sRet, c_sRetN, c_sExpr, c_sBreak, c_sCont, c_stD, c_sSet, c_sSetL, c_sSetLL, c_sIf, c_sAsg, c_gR, dS_d, c_sAug, c_sFor, raR_str, c_sRaise, c_gN, gTp_tup, gCs, gNl, callR_nx, callR_rt, c_callM, c_callMS, c_wipe, c_wipe0, c_fSortSet, c_eDGet, c_sSetT, c_eRg1, vS_t, bD_bool, outD_some, W.ret_bind, W_bind_assoc, W.opt_some, W.opt_none, W.nox_ret, sAt_z, sAt_s, sAt_nil, Option.bind_some, Option.bind_none, Option.map_some, List.set_cons_zero, List.set_cons_succ, List.length_cons, List.length_nil, List.length_set, start0, List.map_cons, List.map_nil, List.cons_append, List.nil_append, List.append_nil, List.replicate_succ, List.replicate_zero, Nat.reduceAdd, Nat.reduceSub, Nat.reduceLT, Nat.reduceLeDiff, Nat.zero_add, Nat.add_zero, Nat.lt_add_left_iff_pos, Nat.succ_pos, if_true, if_false, ite_true, ite_false, reduceIte, reduceCtorEq, Bool.false_eq_true, Bool.true_and, Bool.and_true, Bool.false_and, Bool.and_false, Bool.not_true, Bool.not_false, Bool.xor_false, Bool.xor_true, Bool.false_xor, Bool.true_xor, Bool.not_not, decide_eq_true_eq, decide_true, decide_false, decide_eq_false_iff_not, Bool.not_eq_true', Bool.not_eq_false', beq_self_eq_true, isi_int_int, isi_int_bool, isi_int_str, isi_int_non, isi_int_tup, isi_int_lst, isi_bool_int, isi_bool_bool, isi_bool_str, isi_bool_non, isi_bool_tup, isi_bool_lst, isi_str_int, isi_str_bool, isi_str_str, isi_str_non, isi_str_tup, isi_str_lst, isi_tup_int, isi_tup_bool, isi_tup_str, isi_tup_non, isi_tup_tup, isi_tup_lst, isi_lst_int, isi_lst_bool, isi_lst_str, isi_lst_non, isi_lst_tup, isi_lst_lst, tru_bool, not_bool, isN_none, isN_bool, isN_int, isN_str, isN_tup, isN_lst, isB_bool, cmp_int, add_int, iadd_int, sub_int, neg_int, len_tup, len_lst, tuple_lst, tuple_tup, list_lst, list_tup, seq_lst, seq_tup, ix_tup, ix_lst, tupD, lstD, K_, atI_0, atI_1, atI_2, atI_3, eqD_int, neD_int, eqD_bool, bCase_bool, Int.cast_ofNat_Int, Int.natCast_zero, Int.natCast_one, Int.reduceBNe, Int.reduceBEq, Int.reduceLT, Int.reduceLE, bne_self_eq_false, *])
theorem split_of_ok {mx n : Nat} {R : List Rule} {C : List Nat} (h : OkP mx n R) (hm : mx ≤ 20) (hC : SetL n C) (h0 : C ≠ []) : m_split_of [probD n R, tN C] = W.ret (spD (tsp R C)) := by
  have f1 : m_check_chosen [probD n R, tN C, .int 1] = W.ret .none := check_chosen_ok (k := 1) h hm hC (List.length_pos_iff.mpr h0)
  have f2 := choices_ok h hm
  have f3 := split_in_ok (R := R) hC h.hi
  unfold m_split_of b_split_of
  clear h hm hC h0
  walk_at "vls"
theorem isN_sp (o : Option (Str × List Nat × List Nat)) (neg : Bool) : isND neg (spD o) = some (.bool (neg.xor o.isNone)) := by
  cases o with
  | none => rfl
  | some p => obtain ⟨w, p, q⟩ := p; rfl
theorem is_stuck_in_ok {n : Nat} {R : List Rule} {C : List Nat} (hC : SetL n C) (h7 : n ≤ 7) : m_is_stuck_in [chT n R, tN C] = W.ret (.bool (decide (1 < C.length) && (tsp R C).isNone)) := by
  have f3 := split_in_ok (R := R) hC h7
  have f4 := isN_sp (tsp R C) false
  unfold m_is_stuck_in b_is_stuck_in
  clear hC
  by_cases h : 1 < C.length
  · have h1 : (1 : Int) < ((C.map iN).length : Int) := by rw [List.length_map]; omega
    rw [decide_eq_true h]
    walk_at "vls"
  · have h1 : ¬ (1 : Int) < ((C.map iN).length : Int) := by rw [List.length_map]; omega
    rw [decide_eq_false h]
    walk_at "vls"
theorem is_stuck_ok {mx n : Nat} {R : List Rule} {C : List Nat} (h : OkP mx n R) (hm : mx ≤ 20) (hC : SetL n C) (h0 : C ≠ []) : m_is_stuck [probD n R, tN C] = W.ret (.bool (decide (1 < C.length) && (tsp R C).isNone)) := by
  have f1 : m_check_chosen [probD n R, tN C, .int 1] = W.ret .none := check_chosen_ok (k := 1) h hm hC (List.length_pos_iff.mpr h0)
  have f2 := choices_ok h hm
  have f3 := is_stuck_in_ok (R := R) hC h.hi
  unfold m_is_stuck b_is_stuck
  clear h hm hC h0
  walk_at "vls"
/-! ### what is accepted -/
def need (w : Str) : Str := if w = "then" then "before" else w
theorem need_kd {w : Str} (h : w = "beside" ∨ w = "then") : kdD [("beside", "beside"), ("then", "before")] (.str w) = some (.str (need w)) ∧ PyData.strOk (need w) = true ∧ PyData.strOk w = true := by
  rcases h with h | h <;> subst h
  · exact ⟨rfl, by decide +kernel, by decide +kernel⟩
  · exact ⟨rfl, by decide +kernel, by decide +kernel⟩
def mayS (R : List Rule) (w : Str) (P Q : List Nat) : Bool := P.all fun x => Q.all fun y => decide (need w ∈ allw R x y)
theorem may_ok {n : Nat} {R : List Rule} {w : Str} {P Q : List Nat} (hw : w = "beside" ∨ w = "then") (hP : ∀ x ∈ P, x < n) (hQ : ∀ x ∈ Q, x < n) (hl : Q.length ≤ 1000) : m_may_be_split [chT n R, .str w, tN P, tN Q] = W.ret (.bool (mayS R w P Q)) := by
  obtain ⟨k1, k2, k3⟩ := need_kd hw
  unfold m_may_be_split b_may_be_split
  walk_at "vl"
  rw [genM2_of P iN (fun _ => Q) iN (fun x y => decide (need w ∈ allw R x y)) (by walk_at "vl") rfl (by decide) ?h]
  · rw [if_neg Bool.false_ne_true]
    walk_at "vl"
    rfl
  · intro x hx
    refine ⟨_, rfl, rfl, ?_, hl, fun y hy => ⟨_, rfl, ?_, rfl⟩⟩
    · walk_at "vl"
    · have f3 := choices_row (F := chF R) (hP x hx)
      have f4 := row_at (n := n) (f := fun y => chF R x y) (hQ y hy)
      have f5 := inW (R := R) (x := x) (y := y) false k2
      clear hP hQ hw
      walk_at "vls"
theorem eq_nil (P : List Nat) : eqD (tN P) (.tuple []) = some (.bool (decide (P = []))) := eqN_tup P []
theorem in_words {w : Str} (hw : w = "beside" ∨ w = "then") : inD true (.str w) (.tuple [.str "then", .str "beside"]) = some (.bool false) := by
  have := inD_tup (neg := true) (a := .str w) (ds := (["then", "beside"] : List Str).map .str) (p := w ∈ (["then", "beside"] : List Str)) (Gd.str (n := 0) (need_kd hw).2.2) (fun z hz => by
    obtain ⟨y, hy, rfl⟩ := List.mem_map.mp hz
    refine Gd.str (n := 0) ?_
    rcases List.mem_cons.mp hy with q | q
    · rw [q]; decide +kernel
    · rw [List.mem_singleton.mp q]; decide +kernel) mem_strs
  rw [decide_eq_true (by rcases hw with h | h <;> subst h <;> decide)] at this
  exact this
theorem is_split_ok {n : Nat} {R : List Rule} {w : Str} {C P Q : List Nat} (hw : w = "beside" ∨ w = "then") (h7 : n ≤ 7) (hC : SetL n C) (hP : SetL n P) (hQ : SetL n Q) :
    m_is_split [chT n R, tN C, .tuple [.str w, tN P, tN Q]] = W.ret (.bool (decide (P ≠ [] ∧ Q ≠ [] ∧ srtN (P ++ Q) = C) && mayS R w P Q)) := by
  have l1 := hP.len
  have l2 := hQ.len
  have g1 := in_words hw
  have g2 := is_set_t hP h7
  have g3 := is_set_t hQ h7
  have g4 := eq_nil P
  have g5 := eq_nil Q
  have g6 : addD (tN P) (tN Q) = some (tN (P ++ Q)) := by
    rw [add_tup (by rw [List.length_map, List.length_map]; omega), ← List.map_append]
  have g7 := sort_nat_tup (l := P ++ Q) (by rw [List.length_append]; omega)
  have g8 := eqN_lst (srtN (P ++ Q)) C
  have g9 := may_ok (R := R) hw hP.lt hQ.lt (by omega)
  have g0 : (List.map PyData.list (tabS n (chF R))).length = n := by rw [List.length_map, tabS_len]
  unfold m_is_split b_is_split
  by_cases p1 : P = []
  · have e : decide (P ≠ [] ∧ Q ≠ [] ∧ srtN (P ++ Q) = C) = false := decide_eq_false fun z => z.1 p1
    rw [decide_eq_true p1] at g4
    rw [e]
    clear hP hQ hC e p1 hw
    walk_at "vls"
  · rw [decide_eq_false p1] at g4
    by_cases p2 : Q = []
    · have e : decide (P ≠ [] ∧ Q ≠ [] ∧ srtN (P ++ Q) = C) = false := decide_eq_false fun z => z.2.1 p2
      rw [decide_eq_true p2] at g5
      rw [e]
      clear hP hQ hC e p2 hw
      walk_at "vls"
    · rw [decide_eq_false p2] at g5
      by_cases p3 : srtN (P ++ Q) = C
      · have e : decide (P ≠ [] ∧ Q ≠ [] ∧ srtN (P ++ Q) = C) = true := decide_eq_true ⟨p1, p2, p3⟩
        rw [decide_eq_true p3] at g8
        rw [e]
        clear hP hQ hC e p1 p2 p3 hw
        walk_at "vls"
      · have e : decide (P ≠ [] ∧ Q ≠ [] ∧ srtN (P ++ Q) = C) = false := decide_eq_false fun z => p3 z.2.2
        rw [decide_eq_false p3] at g8
        rw [e]
        clear hP hQ hC e p1 p2 p3 hw
        walk_at "vls"
theorem accepts_split_ok {mx n : Nat} {R : List Rule} {w : Str} {C P Q : List Nat} (h : OkP mx n R) (hm : mx ≤ 20) (hw : w = "beside" ∨ w = "then") (hC : SetL n C) (h0 : C ≠ []) (hP : SetL n P) (hQ : SetL n Q) :
    m_accepts_split [probD n R, tN C, .tuple [.str w, tN P, tN Q]] = W.ret (.bool (decide (P ≠ [] ∧ Q ≠ [] ∧ srtN (P ++ Q) = C) && mayS R w P Q)) := by
  have f1 : m_check_chosen [probD n R, tN C, .int 1] = W.ret .none := check_chosen_ok (k := 1) h hm hC (List.length_pos_iff.mpr h0)
  have f2 := choices_ok h hm
  have f3 := is_split_ok (R := R) hw h.hi hC hP hQ
  unfold m_accepts_split b_accepts_split
  clear h hm hw hC h0 hP hQ
  walk_at "vls"
/-! ### the told split is one -/
structure IsSp (R : List Rule) (n : Nat) (C : List Nat) (w : Str) (P Q : List Nat) : Prop where
  wd : w = "beside" ∨ w = "then"
  p : SetL n P
  q : SetL n Q
  p0 : P ≠ []
  q0 : Q ≠ []
  perm : C.Perm (P ++ Q)
  may : mayS R w P Q = true
theorem may_all {R : List Rule} {w : Str} {P Q : List Nat} : mayS R w P Q = true ↔ ∀ x ∈ P, ∀ y ∈ Q, need w ∈ allw R x y := by
  unfold mayS
  rw [List.all_eq_true]
  refine ⟨fun h x hx y hy => ?_, fun h x hx => List.all_eq_true.mpr fun y hy => decide_eq_true (h x hx y hy)⟩
  have := h x hx
  rw [List.all_eq_true] at this
  exact of_decide_eq_true (this y hy)
theorem lack_sp {R : List Rule} {n x : Nat} {C : List Nat} {w : Str} (hw : w = "beside" ∨ w = "then") (hC : SetL n C) (h : lack (eW R (need w)) C = some x) : IsSp R n C w (rch (eW R (need w)) C x) (restN C (rch (eW R (need w)) C x)) := by
  unfold lack at h
  have hx : x ∈ C := List.mem_of_find?_eq_some h
  have hne0 := List.find?_some h
  have hne : rch (eW R (need w)) C x ≠ C := of_decide_eq_true hne0
  have s1 : (rch (eW R (need w)) C x).Sublist C := List.filter_sublist
  have s2 : (restN C (rch (eW R (need w)) C x)).Sublist C := List.filter_sublist
  refine ⟨hw, ⟨hC.up.sublist s1, fun y hy => hC.lt y (s1.subset hy)⟩, ⟨hC.up.sublist s2, fun y hy => hC.lt y (s2.subset hy)⟩, fun z => ?_, fun z => ?_, ?_, ?_⟩
  · have := (rch_mem (e := eW R (need w)) hx).mpr met_x
    rw [z] at this
    cases this
  · refine hne ((rch_all hx).mpr fun y hy => ?_)
    refine Classical.byContradiction fun q => ?_
    have : y ∈ restN C (rch (eW R (need w)) C x) := List.mem_filter.mpr ⟨hy, decide_eq_true fun z => q ((rch_mem hx).mp z)⟩
    rw [z] at this
    cases this
  · refine (List.perm_ext_iff_of_nodup hC.up.nd ?_).mpr fun y => ?_
    · rw [List.nodup_append]
      refine ⟨hC.up.nd.sublist s1, hC.up.nd.sublist s2, fun a ha b hb e => ?_⟩
      have := (List.mem_filter.mp hb).2
      exact of_decide_eq_true this (by rw [← e]; exact ha)
    · rw [List.mem_append]
      refine ⟨fun hy => ?_, fun hy => hy.elim (fun z => s1.subset z) fun z => s2.subset z⟩
      by_cases q : y ∈ rch (eW R (need w)) C x
      · exact .inl q
      · exact .inr (List.mem_filter.mpr ⟨hy, decide_eq_true q⟩)
  · refine may_all.mpr fun a ha b hb => ?_
    refine Classical.byContradiction fun q => ?_
    have hb' := List.mem_filter.mp hb
    refine of_decide_eq_true hb'.2 ((rch_mem hx).mpr (met_closed hx ((rch_mem hx).mp ha) hb'.1 ?_))
    unfold eW
    rw [decide_eq_false q]
    rfl
theorem tsp_sp {R : List Rule} {n : Nat} {C : List Nat} {w : Str} {P Q : List Nat} (hC : SetL n C) (h : tsp R C = some (w, P, Q)) : IsSp R n C w P Q := by
  unfold tsp at h
  split at h
  · rename_i x hx
    injection h with h
    injection h with h1 h
    injection h with h2 h3
    subst h1 h2 h3
    exact lack_sp (w := "beside") (.inl rfl) hC hx
  · split at h
    · rename_i x hx
      injection h with h
      injection h with h1 h
      injection h with h2 h3
      subst h1 h2 h3
      exact lack_sp (w := "then") (.inr rfl) hC hx
    · cases h
theorem IsSp.ok {R : List Rule} {n : Nat} {C : List Nat} {w : Str} {P Q : List Nat} (hC : SetL n C) (h : IsSp R n C w P Q) : (decide (P ≠ [] ∧ Q ≠ [] ∧ srtN (P ++ Q) = C) && mayS R w P Q) = true := by
  rw [h.may, decide_eq_true ⟨h.p0, h.q0, (srtN_eq hC.up).mpr h.perm⟩]
  rfl
theorem sim_sp {R : List Rule} {n : Nat} {C : List Nat} (hC : SetL n C) (h7 : n ≤ 7) : Sim 4 (spD (tsp R C)) := by
  cases e : tsp R C with
  | none => exact .none _
  | some p =>
    obtain ⟨w, P, Q⟩ := p
    have h := tsp_sp hC e
    have l1 := h.p.len
    have l2 := h.q.len
    refine .tup _ _ (by simp) fun z hz => ?_
    rcases List.mem_cons.mp hz with q | q
    · rw [q]; exact .str _ _ (need_kd h.wd).2.2
    · rcases List.mem_cons.mp q with q | q
      · rw [q]; exact sim_tN _ _ (by omega)
      · rw [List.mem_singleton.mp q]; exact sim_tN _ _ (by omega)
end VM

set_option Elab.async false
set_option linter.all false
set_option maxRecDepth 100000
set_option maxHeartbeats 1000000
/-! The law's look at a split. -/
namespace VM
open PySem VL KP RC
local macro_rules | `(tactic| walk_at "vl") => `(tactic| simp only [c_op1, c_op2, c_op2T, c_op2F, c_opL, c_opF, c_aCons, c_eList, c_eCall, c_eCall0, c_eCallS, stS_s, c_toT, c_tB1, c_tNotM, c_tAndM, c_tOrM, c_eAnd, c_eOr, c_eIf, c_eChain, chD_int, c_toO, intO_int, c_eSlice, c_toI, c_ret, c_bind, c_eVar, vS_d, vS_l, vS_ll, peekS_d, peekS_l, c_peek, c_bLen, c_bIx, c_bIn, c_bTru, c_bTup, c_bLst, c_bSort, c_bAddL, lS_l, c_eAppend, c_eExtend, c_ePop, c_ePopAt, seqR_nx, seqR_bk, seqR_ct, seqR_rt, c_sSeq, c_sNil, c_sRet, c_sRetN, c_sExpr, c_sBreak, c_sCont, c_stD, c_sSet, c_sSetL, c_sSetLL, c_sIf, c_sAsg, c_gR, dS_d, c_sAug, c_sFor, raR_str, c_sRaise, c_gN, gTp_tup, gCs, gNl, callR_nx, callR_rt, c_callM, c_callMS, c_wipe, c_wipe0, c_fSortSet, c_eDGet, c_sSetT, c_eRg1, vS_t, bD_bool, outD_some, W.ret_bind, W_bind_assoc, W.opt_some, W.opt_none, W.nox_ret, sAt_z, sAt_s, sAt_nil, Option.bind_some, Option.bind_none, Option.map_some, List.set_cons_zero, List.set_cons_succ, List.length_cons, List.length_nil, List.length_set, start0, List.map_cons, List.map_nil, List.cons_append, List.nil_append, List.append_nil, List.replicate_succ, List.replicate_zero, Nat.reduceAdd, Nat.reduceSub, Nat.reduceLT, Nat.reduceLeDiff, Nat.zero_add, Nat.add_zero, Nat.lt_add_left_iff_pos, Nat.succ_pos, if_true, if_false, ite_true, ite_false, reduceIte, reduceCtorEq, Bool.false_eq_true, Bool.true_and, Bool.and_true, Bool.false_and, Bool.and_false, Bool.not_true, Bool.not_false, Bool.xor_false, Bool.xor_true, Bool.false_xor, Bool.true_xor, Bool.not_not, decide_eq_true_eq, decide_true, decide_false, decide_eq_false_iff_not, Bool.not_eq_true', Bool.not_eq_false', beq_self_eq_true, isi_int_int, isi_int_bool, isi_int_str, isi_int_non, isi_int_tup, isi_int_lst, isi_bool_int, isi_bool_bool, isi_bool_str, isi_bool_non, isi_bool_tup, isi_bool_lst, isi_str_int, isi_str_bool, isi_str_str, isi_str_non, isi_str_tup, isi_str_lst, isi_tup_int, isi_tup_bool, isi_tup_str, isi_tup_non, isi_tup_tup, isi_tup_lst, isi_lst_int, isi_lst_bool, isi_lst_str, isi_lst_non, isi_lst_tup, isi_lst_lst, tru_bool, not_bool, isN_none, isN_bool, isN_int, isN_str, isN_tup, isN_lst, isB_bool, cmp_int, add_int, iadd_int, sub_int, neg_int, len_tup, len_lst, tuple_lst, tuple_tup, list_lst, list_tup, seq_lst, seq_tup, ix_tup, ix_lst, tupD, lstD, K_, atI_0, atI_1, atI_2, atI_3, eqD_int, neD_int, eqD_bool, bCase_bool, Int.cast_ofNat_Int, Int.natCast_zero, Int.natCast_one, Int.reduceBNe, Int.reduceBEq, Int.reduceLT, Int.reduceLE, bne_self_eq_false])
local macro_rules | `(tactic| walk_at "vls") => `(tactic| simp only [c_op1, c_op2, c_op2T, c_op2F, c_opL, c_opF, c_aCons, c_eList, c_eCall, c_eCall0, c_eCallS, stS_s, c_toT, c_tB1, c_tNotM, c_tAndM, c_tOrM, c_eAnd, c_eOr, c_eIf, c_eChain, chD_int, c_toO, intO_int, c_eSlice, c_toI, c_ret, c_bind, c_eVar, vS_d, vS_l, vS_ll, peekS_d, peekS_l, c_peek, c_bLen, c_bIx, c_bIn, c_bTru, c_bTup, c_bLst, c_bSort, c_bAddL, lS_l, c_eAppend, c_eExtend, c_ePop, c_ePopAt, seqR_nx, seqR_bk, seqR_ct, seqR_rt, c_sSeq, c_sNil, c_sRet, c_sRetN, c_sExpr, c_sBreak, c_sCont, c_stD, c_sSet, c_sSetL, c_sSetLL, c_sIf, c_sAsg, c_gR, dS_d, c_sAug, c_sFor, raR_str, c_sRaise, c_gN, gTp_tup, gCs, gNl, callR_nx, callR_rt, c_callM, c_callMS, c_wipe, c_wipe0, c_fSortSet, c_eDGet, c_sSetT, c_eRg1, vS_t, bD_bool, outD_some, W.ret_bind, W_bind_assoc, W.opt_some, W.opt_none, W.nox_ret, sAt_z, sAt_s, sAt_nil, Option.bind_some, Option.bind_none, Option.map_some, List.set_cons_zero, List.set_cons_succ, List.length_cons, List.length_nil, List.length_set, start0, List.map_cons, List.map_nil, List.cons_append, List.nil_append, List.append_nil, List.replicate_succ, List.replicate_zero, Nat.reduceAdd, Nat.reduceSub, Nat.reduceLT, Nat.reduceLeDiff, Nat.zero_add, Nat.add_zero, Nat.lt_add_left_iff_pos, Nat.succ_pos, if_true, if_false, ite_true, ite_false, reduceIte, reduceCtorEq, Bool.false_eq_true, Bool.true_and, Bool.and_true, Bool.false_and, Bool.and_false, Bool.not_true, Bool.not_false, Bool.xor_false, Bool.xor_true, Bool.false_xor, Bool.true_xor, Bool.not_not, decide_eq_true_eq, decide_true, decide_false, decide_eq_false_iff_not, Bool.not_eq_true', Bool.not_eq_false', beq_self_eq_true, isi_int_int, isi_int_bool, isi_int_str, isi_int_non, isi_int_tup, isi_int_lst, isi_bool_int, isi_bool_bool, isi_bool_str, isi_bool_non, isi_bool_tup, isi_bool_lst, isi_str_int, isi_str_bool, isi_str_str, isi_str_non, isi_str_tup, isi_str_lst, isi_tup_int, isi_tup_bool, isi_tup_str, isi_tup_non, isi_tup_tup, isi_tup_lst, isi_lst_int, isi_lst_bool, isi_lst_str, isi_lst_non, isi_lst_tup, isi_lst_lst, tru_bool, not_bool, isN_none, isN_bool, isN_int, isN_str, isN_tup, isN_lst, isB_bool, cmp_int, add_int, iadd_int, sub_int, neg_int, len_tup, len_lst, tuple_lst, tuple_tup, list_lst, list_tup, seq_lst, seq_tup, ix_tup, ix_lst, tupD, lstD, K_, atI_0, atI_1, atI_2, atI_3, eqD_int, neD_int, eqD_bool, bCase_bool, Int.cast_ofNat_Int, Int.natCast_zero, Int.natCast_one, Int.reduceBNe, Int.reduceBEq, Int.reduceLT, Int.reduceLE, bne_self_eq_false, *])
theorem all_map {α : Type} (l : List α) (f : α → Bool) : allD [.list (l.map fun x => .bool (f x))] = some (.bool (l.all f)) := by
  have : boolsD (l.map fun x => PyData.bool (f x)) = some (l.map f) := by
    have := boolsD_map (l.map f)
    rw [List.map_map] at this
    exact this
  show (boolsD _).map _ = _
  rw [this]
  refine congrArg (fun b => some (PyData.bool b)) ?_
  rw [List.all_map]
  rfl
theorem eqD_str {x y : Str} (hx : PyData.strOk x = true) (hy : PyData.strOk y = true) : eqD (.str x) (.str y) = some (.bool (decide (x = y))) := eqD_gd (Gd.str (n := 0) hx) (Gd.str (n := 0) hy) (by rw [PyData.str.injEq])
theorem law_may_ok {n : Nat} {R : List Rule} {w : Str} {P Q : List Nat} {d pd qd : PyData} (hd : TabOk n R d) (hw : w = "beside" ∨ w = "then") (hp : seqD pd = some (P.map iN)) (hq : seqD qd = some (Q.map iN)) (hP : ∀ x ∈ P, x < n) (hQ : ∀ x ∈ Q, x < n) (hl : P.length ≤ 1000) (hl2 : Q.length ≤ 1000) (hne : ∀ x ∈ P, ∀ y ∈ Q, x ≠ y) :
    m__law_may_split [d, .str w, pd, qd] = W.ret (.bool (mayS R w P Q)) := by
  have inner : ∀ x ∈ P, ∀ e : Sl, lcM [5] (toI (eVar 3)) (gN 5) tTr (op2 (inD false) (eVar 1) (eDGet (eVar 0) (aCons (eVar 4) (aCons (eVar 5) (Mo.ret []))))) [.d d, .d (.str (need w)), .d pd, .d qd, .d (iN x), .no] = W.ret (Q.map (fun y => .bool (decide (need w ∈ allw R x y))), [.d d, .d (.str (need w)), .d pd, .d qd, .d (iN x), .no]) := by
    intro x hx e
    have hi : toI (eVar 3) [.d d, .d (.str (need w)), .d pd, .d qd, .d (iN x), .no] = W.ret (Q.map iN, [.d d, .d (.str (need w)), .d pd, .d qd, .d (iN x), .no]) := by
      clear hd hP hQ hne hw
      walk_at "vls"
    rw [lcM_mapOf Q iN (fun y => .bool (decide (need w ∈ allw R x y))) hi (sl_of (by omega)) rfl ?h]
    intro y hy
    refine ⟨_, rfl, ?_, rfl⟩
    have f3 := hd x y (hP x hx) (hQ y hy) (hne x hx y hy)
    have f5 := strs_inL (l := allw R x y) false (need_kd hw).2.1 allw_ks
    clear hd hP hQ hne hp hq hw
    walk_at "vls"
  have outer : lcM [4] (toI (eVar 2)) (gN 4) tTr (opL allD (aCons (eList (lcM [5] (toI (eVar 3)) (gN 5) tTr (op2 (inD false) (eVar 1) (eDGet (eVar 0) (aCons (eVar 4) (aCons (eVar 5) (Mo.ret []))))))) (Mo.ret []))) [.d d, .d (.str (need w)), .d pd, .d qd, .no, .no] = W.ret (P.map (fun x => .bool (Q.all fun y => decide (need w ∈ allw R x y))), [.d d, .d (.str (need w)), .d pd, .d qd, .no, .no]) := by
    have hi : toI (eVar 2) [.d d, .d (.str (need w)), .d pd, .d qd, .no, .no] = W.ret (P.map iN, [.d d, .d (.str (need w)), .d pd, .d qd, .no, .no]) := by
      clear hd hP hQ hne hw inner
      walk_at "vls"
    rw [lcM_mapOf P iN (fun x => .bool (Q.all fun y => decide (need w ∈ allw R x y))) hi (sl_of (by omega)) rfl ?hb]
    intro x hx
    refine ⟨_, rfl, ?_, rfl⟩
    have f := inner x hx .no
    have f2 := all_map Q fun y => decide (need w ∈ allw R x y)
    clear inner hd hP hQ hne hp hq hw
    walk_at "vls"
  have f2 := all_map P fun x => Q.all fun y => decide (need w ∈ allw R x y)
  have f3 := eqD_str (need_kd hw).2.2 (show PyData.strOk "then" = true by decide +kernel)
  unfold m__law_may_split b__law_may_split mayS
  clear inner hd hP hQ hne
  rcases hw with rfl | rfl
  · rw [decide_eq_false (by decide)] at f3
    have e : need "beside" = "beside" := rfl
    simp only [e] at outer f2 ⊢
    clear e
    walk_at "vls"
  · rw [decide_eq_true (by decide)] at f3
    have e : need "then" = "before" := rfl
    simp only [e] at outer f2 ⊢
    clear e
    walk_at "vls"
end VM

set_option Elab.async false
set_option linter.all false
set_option maxRecDepth 100000
set_option maxHeartbeats 1000000
/-! Grounds for stuck sets: what the program and the law judge. -/
namespace VM
open PySem VL KP RC
local macro_rules | `(tactic| walk_at "vl") => `(tactic| simp only [c_op1, c_op2, c_op2T, c_op2F, c_opL, c_opF, c_aCons, c_eList, c_eCall, c_eCall0, c_eCallS, stS_s, c_toT, c_tB1, c_tNotM, c_tAndM, c_tOrM, c_eAnd, c_eOr, c_eIf, c_eChain, chD_int, c_toO, intO_int, c_eSlice, c_toI, c_ret, c_bind, c_eVar, vS_d, vS_l, vS_ll, peekS_d, peekS_l, c_peek, c_bLen, c_bIx, c_bIn, c_bTru, c_bTup, c_bLst, c_bSort, c_bAddL, lS_l, c_eAppend, c_eExtend, c_ePop, c_ePopAt, seqR_nx, seqR_bk, seqR_ct, seqR_rt, c_sSeq, c_sNil, c_sRet, c_sRetN, c_sExpr, c_sBreak, c_sCont, c_stD, c_sSet, c_sSetL, c_sSetLL, c_sIf, c_sAsg, c_gR, dS_d, c_sAug, c_sFor, raR_str, c_sRaise, c_gN, gTp_tup, gCs, gNl, callR_nx, callR_rt, c_callM, c_callMS, c_wipe, c_wipe0, c_fSortSet, c_eDGet, c_sSetT, c_eRg1, vS_t, bD_bool, outD_some, W.ret_bind, W_bind_assoc, W.opt_some, W.opt_none, W.nox_ret, sAt_z, sAt_s, sAt_nil, Option.bind_some, Option.bind_none, Option.map_some, List.set_cons_zero, List.set_cons_succ, List.length_cons, List.length_nil, List.length_set, start0, List.map_cons, List.map_nil, List.cons_append, List.nil_append, List.append_nil, List.replicate_succ, List.replicate_zero, Nat.reduceAdd, Nat.reduceSub, Nat.reduceLT, Nat.reduceLeDiff, Nat.zero_add, Nat.add_zero, Nat.lt_add_left_iff_pos, Nat.succ_pos, if_true, if_false, ite_true, ite_false, reduceIte, reduceCtorEq, Bool.false_eq_true, Bool.true_and, Bool.and_true, Bool.false_and, Bool.and_false, Bool.not_true, Bool.not_false, Bool.xor_false, Bool.xor_true, Bool.false_xor, Bool.true_xor, Bool.not_not, decide_eq_true_eq, decide_true, decide_false, decide_eq_false_iff_not, Bool.not_eq_true', Bool.not_eq_false', beq_self_eq_true, isi_int_int, isi_int_bool, isi_int_str, isi_int_non, isi_int_tup, isi_int_lst, isi_bool_int, isi_bool_bool, isi_bool_str, isi_bool_non, isi_bool_tup, isi_bool_lst, isi_str_int, isi_str_bool, isi_str_str, isi_str_non, isi_str_tup, isi_str_lst, isi_tup_int, isi_tup_bool, isi_tup_str, isi_tup_non, isi_tup_tup, isi_tup_lst, isi_lst_int, isi_lst_bool, isi_lst_str, isi_lst_non, isi_lst_tup, isi_lst_lst, tru_bool, not_bool, isN_none, isN_bool, isN_int, isN_str, isN_tup, isN_lst, isB_bool, cmp_int, add_int, iadd_int, sub_int, neg_int, len_tup, len_lst, tuple_lst, tuple_tup, list_lst, list_tup, seq_lst, seq_tup, ix_tup, ix_lst, tupD, lstD, K_, atI_0, atI_1, atI_2, atI_3, eqD_int, neD_int, eqD_bool, bCase_bool, Int.cast_ofNat_Int, Int.natCast_zero, Int.natCast_one, Int.reduceBNe, Int.reduceBEq, Int.reduceLT, Int.reduceLE, bne_self_eq_false])
local macro_rules | `(tactic| walk_at "vls") => `(tactic| simp only [c_op1, c_op2, c_op2T, c_op2F, c_opL, c_opF, c_aCons, c_eList, c_eCall, c_eCall0, c_eCallS, stS_s, c_toT, c_tB1, c_tNotM, c_tAndM, c_tOrM, c_eAnd, c_eOr, c_eIf, c_eChain, chD_int, c_toO, intO_int, c_eSlice, c_toI, c_ret, c_bind, c_eVar, vS_d, vS_l, vS_ll, peekS_d, peekS_l, c_peek, c_bLen, c_bIx, c_bIn, c_bTru, c_bTup, c_bLst, c_bSort, c_bAddL, lS_l, c_eAppend, c_eExtend, c_ePop, c_ePopAt, seqR_nx, seqR_bk, seqR_ct, seqR_rt, c_sSeq, c_sNil, c_sRet, c_sRetN, c_sExpr, c_sBreak, c_sCont, c_stD, c_sSet, c_sSetL, c_sSetLL, c_sIf, c_sAsg, c_gR, dS_d, c_sAug, c_sFor, raR_str, c_sRaise, c_gN, gTp_tup, gCs, gNl, callR_nx, callR_rt, c_callM, c_callMS, c_wipe, c_wipe0, c_fSortSet, c_eDGet, c_sSetT, c_eRg1, vS_t, bD_bool, outD_some, W.ret_bind, W_bind_assoc, W.opt_some, W.opt_none, W.nox_ret, sAt_z, sAt_s, sAt_nil, Option.bind_some, Option.bind_none, Option.map_some, List.set_cons_zero, List.set_cons_succ, List.length_cons, List.length_nil, List.length_set, start0, List.map_cons, List.map_nil, List.cons_append, List.nil_append, List.append_nil, List.replicate_succ, List.replicate_zero, Nat.reduceAdd, Nat.reduceSub, Nat.reduceLT, Nat.reduceLeDiff, Nat.zero_add, Nat.add_zero, Nat.lt_add_left_iff_pos, Nat.succ_pos, if_true, if_false, ite_true, ite_false, reduceIte, reduceCtorEq, Bool.false_eq_true, Bool.true_and, Bool.and_true, Bool.false_and, Bool.and_false, Bool.not_true, Bool.not_false, Bool.xor_false, Bool.xor_true, Bool.false_xor, Bool.true_xor, Bool.not_not, decide_eq_true_eq, decide_true, decide_false, decide_eq_false_iff_not, Bool.not_eq_true', Bool.not_eq_false', beq_self_eq_true, isi_int_int, isi_int_bool, isi_int_str, isi_int_non, isi_int_tup, isi_int_lst, isi_bool_int, isi_bool_bool, isi_bool_str, isi_bool_non, isi_bool_tup, isi_bool_lst, isi_str_int, isi_str_bool, isi_str_str, isi_str_non, isi_str_tup, isi_str_lst, isi_tup_int, isi_tup_bool, isi_tup_str, isi_tup_non, isi_tup_tup, isi_tup_lst, isi_lst_int, isi_lst_bool, isi_lst_str, isi_lst_non, isi_lst_tup, isi_lst_lst, tru_bool, not_bool, isN_none, isN_bool, isN_int, isN_str, isN_tup, isN_lst, isB_bool, cmp_int, add_int, iadd_int, sub_int, neg_int, len_tup, len_lst, tuple_lst, tuple_tup, list_lst, list_tup, seq_lst, seq_tup, ix_tup, ix_lst, tupD, lstD, K_, atI_0, atI_1, atI_2, atI_3, eqD_int, neD_int, eqD_bool, bCase_bool, Int.cast_ofNat_Int, Int.natCast_zero, Int.natCast_one, Int.reduceBNe, Int.reduceBEq, Int.reduceLT, Int.reduceLE, bne_self_eq_false, *])
abbrev PR := Nat × Nat
abbrev pT (l : List PR) : PyData := .tuple (l.map pD)
def sw (p : PR) : PR := (p.2, p.1)
/-- a pair leads from what is met to what is not -/
def stp (e : Nat → Nat → Bool) (C met : List Nat) (p : PR) : Bool := decide (p.1 ∈ met ∧ p.2 ∈ C ∧ p.2 ∉ met) && e p.1 p.2
def lead (e : Nat → Nat → Bool) (C : List Nat) : List Nat → List PR → Bool
  | _, [] => true
  | met, p :: r => stp e C met p && lead e C (met ++ [p.2]) r
theorem lead_snoc {e : Nat → Nat → Bool} {C : List Nat} {p : PR} : ∀ {ps : List PR} {met : List Nat}, lead e C met (ps ++ [p]) = (lead e C met ps && stp e C (met ++ ps.map (·.2)) p)
  | [], met => by
    show (stp e C met p && true) = (true && stp e C (met ++ []) p)
    rw [List.append_nil, Bool.and_true, Bool.true_and]
  | q :: r, met => by
    show (stp e C met q && lead e C (met ++ [q.2]) (r ++ [p])) = (stp e C met q && lead e C (met ++ [q.2]) r && _)
    rw [lead_snoc, List.map_cons, List.append_assoc, List.singleton_append, Bool.and_assoc]
theorem lead_step {e : Nat → Nat → Bool} {C : List Nat} {x a o : Nat} {ps : List PR} (h : lead e C [x] ps = true) (ha : a ∈ ends x ps) (ho : o ∈ C) : lead e C [x] (stepP e x a ps o) = true := by
  rcases step_eq (e := e) (x := x) (a := a) (ps := ps) (o := o) with q | ⟨q, q1, q2⟩
  · rw [q]; exact h
  · have hs : stp e C ([x] ++ ps.map (·.2)) (a, o) = true := by
      unfold stp
      rw [Bool.and_eq_true, decide_eq_true_eq]
      exact ⟨⟨ha, ho, q1⟩, q2⟩
    rw [q, lead_snoc, h, hs]
    rfl
theorem lead_scan {e : Nat → Nat → Bool} {C : List Nat} {x a : Nat} : ∀ {l : List Nat} {ps : List PR}, lead e C [x] ps = true → a ∈ ends x ps → (∀ o ∈ l, o ∈ C) → lead e C [x] (scanP e x a l ps) = true
  | [], ps, h, _, _ => h
  | o :: l, ps, h, ha, hl => lead_scan (l := l) (ps := stepP e x a ps o) (lead_step h ha (hl o List.mem_cons_self)) ((ends_pre step_pre).subset ha) fun y hy => hl y (List.mem_cons_of_mem _ hy)
theorem lead_seq {e : Nat → Nat → Bool} {C : List Nat} {x : Nat} : ∀ i, lead e C [x] (seqP e C x i) = true
  | 0 => rfl
  | i + 1 => by
    cases q : (ends x (seqP e C x i))[i]? with
    | none =>
      rw [seq_none (List.getElem?_eq_none_iff.mp q)]
      exact lead_seq i
    | some a =>
      rw [seq_some q]
      exact lead_scan (lead_seq i) (List.mem_of_getElem? q) fun _ h => h
theorem lead_link {e : Nat → Nat → Bool} {C : List Nat} {x : Nat} : lead e C [x] (link e C x) = true := lead_seq _
/-- what is met at the end -/
theorem lead_good {e : Nat → Nat → Bool} {C : List Nat} : ∀ {ps : List PR} {met : List Nat}, lead e C met ps = true → met.Nodup → (∀ y ∈ met, y ∈ C) → (met ++ ps.map (·.2)).Nodup ∧ (∀ y ∈ met ++ ps.map (·.2), y ∈ C) ∧ ∀ S : Nat → Prop, (∀ y ∈ met, S y) → (∀ b o, S b → o ∈ C → e b o = true → S o) → ∀ y ∈ met ++ ps.map (·.2), S y
  | [], met, _, hn, hs => by
    rw [List.map_nil, List.append_nil]
    exact ⟨hn, hs, fun S h _ => h⟩
  | p :: r, met, h, hn, hs => by
    unfold lead stp at h
    rw [Bool.and_eq_true, Bool.and_eq_true, decide_eq_true_eq] at h
    obtain ⟨⟨⟨h1, h2, h3⟩, h4⟩, h5⟩ := h
    obtain ⟨g1, g2, g3⟩ := lead_good h5 (List.nodup_append.mpr ⟨hn, List.pairwise_singleton _ _, fun a ha b hb z => h3 (by rw [← List.mem_singleton.mp hb, ← z]; exact ha)⟩) fun y hy => by
      rcases List.mem_append.mp hy with z | z
      · exact hs y z
      · rw [List.mem_singleton.mp z]; exact h2
    rw [List.append_assoc] at g1 g2 g3
    refine ⟨g1, g2, fun S hS hc => g3 S (fun y hy => ?_) hc⟩
    rcases List.mem_append.mp hy with z | z
    · exact hS y z
    · rw [List.mem_singleton.mp z]; exact hc p.1 p.2 (hS _ h1) h2 h4
theorem lead_all {e : Nat → Nat → Bool} {C : List Nat} {x : Nat} {ps : List PR} (hn : C.Nodup) (hx : x ∈ C) (h : lead e C [x] ps = true) (hl : ps.length + 1 = C.length) : ∀ y ∈ C, y ∈ met e C x := by
  obtain ⟨g1, g2, g3⟩ := lead_good h (List.pairwise_singleton _ _) fun y hy => by rw [List.mem_singleton.mp hy]; exact hx
  have key : ∀ (l m : List Nat), l.Nodup → m.Nodup → (∀ y ∈ l, y ∈ m) → l.length = m.length → ∀ y ∈ m, y ∈ l := by
    intro l
    induction l with
    | nil =>
      intro m _ _ _ hl y hy
      cases m with
      | nil => exact hy
      | cons _ _ => simp at hl
    | cons z r ih =>
      intro m h1 h2 h3 h4 y hy
      rw [List.nodup_cons] at h1
      have hz := h3 z List.mem_cons_self
      by_cases q : y = z
      · rw [q]; exact List.mem_cons_self
      · refine List.mem_cons_of_mem _ (ih (m.erase z) h1.2 (h2.erase z) (fun w hw => ?_) ?_ y ((List.mem_erase_of_ne q).mpr hy))
        · exact (List.mem_erase_of_ne fun v => h1.1 (by rw [← v]; exact hw)).mpr (h3 w (List.mem_cons_of_mem _ hw))
        · rw [List.length_erase_of_mem hz, ← h4, List.length_cons]; omega
  intro y hy
  refine g3 (fun z => z ∈ met e C x) (fun z hz => by rw [List.mem_singleton.mp hz]; exact met_x) (fun b o hb ho he => met_closed hx hb ho he) y ?_
  exact key _ C g1 hn g2 (by rw [List.length_append, List.length_map, List.length_singleton]; omega) y hy
theorem met_rev {e f : Nat → Nat → Bool} {C : List Nat} {x y : Nat} (hf : ∀ a b, e a b = true → f b a = true) (hy : y ∈ C) (h : x ∈ met e C y) : y ∈ met f C x := by
  have := met_least (e := e) (C := C) (x := y) (fun z => z ∈ C ∧ y ∈ met f C z) ⟨hy, met_x⟩ (fun b o hb ho he => ⟨ho, by
    have h1 : b ∈ met f C o := met_closed ho met_x hb.1 (hf b o he)
    exact met_trans ho h1 hb.2⟩) x h
  exact this.2
theorem eW_after {R : List Rule} {a b : Nat} : eW R "after" a b = eW R "before" b a := by
  unfold eW
  have : decide (("after" : Str) ∈ allw R a b) = decide (("before" : Str) ∈ allw R b a) := by
    rw [decide_eq_decide, allw_swap (by decide +kernel)]
    rfl
  rw [this]
/-- stuck: all reach all -/
theorem stuck_all {R : List Rule} {C : List Nat} (h : tsp R C = none) : ∀ w : Str, (w = "beside" ∨ w = "before") → ∀ x ∈ C, ∀ y ∈ C, y ∈ met (eW R w) C x := by
  have key : ∀ w : Str, lack (eW R w) C = none → ∀ x ∈ C, ∀ y ∈ C, y ∈ met (eW R w) C x := by
    intro w hw x hx
    unfold lack at hw
    rw [List.find?_eq_none] at hw
    have := hw x hx
    rw [decide_eq_true_eq, Classical.not_not, rch_all hx] at this
    exact this
  unfold tsp at h
  split at h
  · cases h
  · rename_i e1
    split at h
    · cases h
    · rename_i e2
      intro w hw
      rcases hw with rfl | rfl
      · exact key _ e1
      · exact key _ e2
theorem all_stuck {R : List Rule} {C : List Nat} (h1 : ∀ x ∈ C, ∀ y ∈ C, y ∈ met (eW R "beside") C x) (h2 : ∀ x ∈ C, ∀ y ∈ C, y ∈ met (eW R "before") C x) : tsp R C = none := by
  have key : ∀ w : Str, (∀ x ∈ C, ∀ y ∈ C, y ∈ met (eW R w) C x) → lack (eW R w) C = none := by
    intro w hw
    unfold lack
    rw [List.find?_eq_none]
    intro x hx
    rw [decide_eq_true_eq, Classical.not_not, rch_all hx]
    exact hw x hx
  unfold tsp
  rw [key _ h1, key _ h2]
/-! ### the program -/
theorem ch_ix {n x : Nat} {R : List Rule} (hx : x < n) : ixD (chT n R) (iN x) = some (.list ((List.range n).map fun y => chF R x y)) := choices_row hx
theorem meets_step {n x y : Nat} {R : List Rule} {w : Str} {C mt : List Nat} (c2 : Sl) (hC : SetL n C) (hw : PyData.strOk w = true) (hs : ∀ z ∈ mt, z ∈ C) (hl : mt.length ≤ 1000) :
    l1_meets_all [.d (chT n R), .d (tN C), c2, .d (.str w), .l (mt.map iN), .d (iN x), .d (iN y)] = if (decide (x ∈ mt ∧ y ∈ C ∧ y ∉ mt) && eW R w x y) = true then W.ret (.nx, [.d (chT n R), .d (tN C), c2, .d (.str w), .l ((mt ++ [y]).map iN), .d (iN x), .d (iN y)]) else W.ret (.rt (.bool false), [.d (chT n R), .d (tN C), c2, .d (.str w), .l (mt.map iN), .d (iN x), .d (iN y)]) := by
  have f1 := inN_lst true x mt
  have f2 := inN_tup true y C
  have f3 := inN_lst false y mt
  unfold l1_meets_all
  by_cases h1 : x ∈ mt
  · rw [decide_eq_true h1] at f1
    by_cases h2 : y ∈ C
    · rw [decide_eq_true h2] at f2
      by_cases h3 : y ∈ mt
      · rw [decide_eq_true h3] at f3
        have e : (decide (x ∈ mt ∧ y ∈ C ∧ y ∉ mt) && eW R w x y) = false := by rw [decide_eq_false fun z => z.2.2 h3]; rfl
        rw [e]
        clear e h1 h2 h3 hC hs
        walk_at "vls"
      · rw [decide_eq_false h3] at f3
        have hxn := hC.lt x (hs x h1)
        have hyn := hC.lt y h2
        have f4 := ch_ix (R := R) hxn
        have f5 := row_at (n := n) (f := fun y => chF R x y) hyn
        have f6 := inW (R := R) (x := x) (y := y) false hw
        by_cases h4 : w ∈ allw R x y
        · rw [decide_eq_true h4] at f6
          have e : (decide (x ∈ mt ∧ y ∈ C ∧ y ∉ mt) && eW R w x y) = false := by
            unfold eW
            rw [decide_eq_true h4, Bool.not_true, Bool.and_false]
          rw [e]
          clear e h1 h2 h3 h4 hC hs hxn hyn
          walk_at "vls"
        · rw [decide_eq_false h4] at f6
          have e : (decide (x ∈ mt ∧ y ∈ C ∧ y ∉ mt) && eW R w x y) = true := by
            unfold eW
            rw [decide_eq_false h4, decide_eq_true ⟨h1, h2, h3⟩]
            rfl
          rw [e]
          have e2 := app1_ok (xs := mt.map iN) (d := iN y) (by rw [List.length_map]; omega)
          clear e h1 h2 h3 h4 hC hs hxn hyn
          walk_at "vls"
          simp only [List.map_append, List.map_cons, List.map_nil]
    · rw [decide_eq_false h2] at f2
      have e : (decide (x ∈ mt ∧ y ∈ C ∧ y ∉ mt) && eW R w x y) = false := by rw [decide_eq_false fun z => h2 z.2.1]; rfl
      rw [e]
      clear e h1 h2 hC hs
      walk_at "vls"
  · rw [decide_eq_false h1] at f1
    have e : (decide (x ∈ mt ∧ y ∈ C ∧ y ∉ mt) && eW R w x y) = false := by rw [decide_eq_false fun z => h1 z.1]; rfl
    rw [e]
    clear e h1 hC hs
    walk_at "vls"
theorem meets_loop {n : Nat} {R : List Rule} {w : Str} {C : List Nat} (c2 : Sl) (hC : SetL n C) (hw : PyData.strOk w = true) : ∀ (ps : List PR) (mt : List Nat) (a b : Sl), (∀ z ∈ mt, z ∈ C) → mt.length + ps.length ≤ 1000 →
    (lead (eW R w) C mt ps = true → ∃ a' b', forW (gTp 2 (gCs (gN 5) (gCs (gN 6) gNl))) l1_meets_all (ps.map pD) [.d (chT n R), .d (tN C), c2, .d (.str w), .l (mt.map iN), a, b] = W.ret (.nx, [.d (chT n R), .d (tN C), c2, .d (.str w), .l ((mt ++ ps.map (·.2)).map iN), a', b'])) ∧
    (lead (eW R w) C mt ps = false → ∃ env', forW (gTp 2 (gCs (gN 5) (gCs (gN 6) gNl))) l1_meets_all (ps.map pD) [.d (chT n R), .d (tN C), c2, .d (.str w), .l (mt.map iN), a, b] = W.ret (.rt (.bool false), env'))
  | [], mt, a, b, hs, hl => by
    refine ⟨fun _ => ⟨a, b, ?_⟩, fun h => by cases h⟩
    rw [List.map_nil, List.map_nil, List.append_nil]
    rfl
  | (x, y) :: r, mt, a, b, hs, hl => by
    rw [List.length_cons] at hl
    have st := meets_step (R := R) (x := x) (y := y) c2 hC hw hs (by omega)
    have e0 : lead (eW R w) C mt ((x, y) :: r) = (decide (x ∈ mt ∧ y ∈ C ∧ y ∉ mt) && eW R w x y && lead (eW R w) C (mt ++ [y]) r) := rfl
    have e1 : ∀ m : List PyData → W (Fl × En), True := fun _ => trivial
    rw [e0, List.map_cons]
    have hstep : forW (gTp 2 (gCs (gN 5) (gCs (gN 6) gNl))) l1_meets_all (pD (x, y) :: r.map pD) [.d (chT n R), .d (tN C), c2, .d (.str w), .l (mt.map iN), a, b] = (l1_meets_all [.d (chT n R), .d (tN C), c2, .d (.str w), .l (mt.map iN), .d (iN x), .d (iN y)]).bind fun r' => match r'.1 with
      | .nx => forW (gTp 2 (gCs (gN 5) (gCs (gN 6) gNl))) l1_meets_all (r.map pD) r'.2
      | .ct => forW (gTp 2 (gCs (gN 5) (gCs (gN 6) gNl))) l1_meets_all (r.map pD) r'.2
      | .bk => W.ret (.nx, r'.2)
      | .rt d => W.ret (.rt d, r'.2) := rfl
    rw [hstep, st]
    cases q : (decide (x ∈ mt ∧ y ∈ C ∧ y ∉ mt) && eW R w x y) with
    | true =>
      rw [if_pos rfl, Bool.true_and]
      have hy : y ∈ C := by
        rw [Bool.and_eq_true, decide_eq_true_eq] at q
        exact q.1.2.1
      obtain ⟨i1, i2⟩ := meets_loop c2 hC hw r (mt ++ [y]) (.d (iN x)) (.d (iN y)) (fun z hz => by
        rcases List.mem_append.mp hz with v | v
        · exact hs z v
        · rw [List.mem_singleton.mp v]; exact hy) (by rw [List.length_append, List.length_singleton]; omega)
      rw [List.append_assoc] at i1
      exact ⟨i1, i2⟩
    | false =>
      rw [if_neg Bool.false_ne_true, Bool.false_and]
      exact ⟨fun h => (by cases h), fun _ => ⟨_, rfl⟩⟩
theorem meets_ok {n x : Nat} {R : List Rule} {w : Str} {r : List Nat} {pd : PyData} {ps : List PR} (hC : SetL n (x :: r)) (hw : PyData.strOk w = true) (hp : seqD pd = some (ps.map pD)) (hl : ps.length ≤ 900) : m_meets_all [chT n R, tN (x :: r), pd, .str w] = W.ret (.bool (lead (eW R w) (x :: r) [x] ps)) := by
  have f0 : ixD (tN (x :: r)) (.int 0) = some (iN x) := ixN_tup (i := 0) rfl
  obtain ⟨i1, i2⟩ := meets_loop (R := R) (.d pd) hC hw ps [x] .no .no (fun z hz => by rw [List.mem_singleton.mp hz]; exact List.mem_cons_self) (by simp; omega)
  unfold m_meets_all b_meets_all
  generalize x :: r = C at *
  clear hC
  cases q : lead (eW R w) C [x] ps with
  | true =>
    obtain ⟨a', b', e⟩ := i1 q
    clear i1 i2 q
    simp only [List.map_cons, List.map_nil] at e
    walk_at "vls"
  | false =>
    obtain ⟨env', e⟩ := i2 q
    clear i1 i2 q
    simp only [List.map_cons, List.map_nil] at e
    walk_at "vls"
/-! ### the law -/
theorem law_meets_step {n x y : Nat} {R : List Rule} {w : Str} {C mt : List Nat} {d : PyData} (back : Bool) (c2 h o : Sl) (hd : TabOk n R d) (hC : SetL n C) (hw : PyData.strOk w = true) (hs : ∀ z ∈ mt, z ∈ C) (hl : mt.length ≤ 1000) :
    ∃ h' o', l1__law_meets [.d d, .d (tN C), c2, .d (.str w), .d (.bool back), .l (mt.map iN), .d (iN x), .d (iN y), h, o] = if stp (fun a b => if back then eW R w b a else eW R w a b) C mt (if back then (y, x) else (x, y)) = true then W.ret (.nx, [.d d, .d (tN C), c2, .d (.str w), .d (.bool back), .l ((mt ++ [if back then x else y]).map iN), .d (iN x), .d (iN y), h', o']) else W.ret (.rt (.bool false), [.d d, .d (tN C), c2, .d (.str w), .d (.bool back), .l (mt.map iN), .d (iN x), .d (iN y), h', o']) := by
  have main : ∀ a b : Nat, (a = (if back then y else x)) → (b = (if back then x else y)) → l1__law_meets [.d d, .d (tN C), c2, .d (.str w), .d (.bool back), .l (mt.map iN), .d (iN x), .d (iN y), h, o] = if (decide (a ∈ mt ∧ b ∈ C ∧ b ∉ mt) && eW R w x y) = true then W.ret (.nx, [.d d, .d (tN C), c2, .d (.str w), .d (.bool back), .l ((mt ++ [b]).map iN), .d (iN x), .d (iN y), .d (iN a), .d (iN b)]) else W.ret (.rt (.bool false), [.d d, .d (tN C), c2, .d (.str w), .d (.bool back), .l (mt.map iN), .d (iN x), .d (iN y), .d (iN a), .d (iN b)]) := by
    intro a b ea eb
    have f0 : (if back = true then opL tupD (aCons (eVar 7) (aCons (eVar 6) (Mo.ret []))) else opL tupD (aCons (eVar 6) (aCons (eVar 7) (Mo.ret [])))) [.d d, .d (tN C), c2, .d (.str w), .d (.bool back), .l (mt.map iN), .d (iN x), .d (iN y), h, o] = W.ret (.tuple [iN a, iN b], [.d d, .d (tN C), c2, .d (.str w), .d (.bool back), .l (mt.map iN), .d (iN x), .d (iN y), h, o]) := by
      cases back with
      | true =>
        simp only [if_true] at ea eb
        subst ea eb
        clear hd hC hs
        rw [if_pos rfl]
        walk_at "vl"
      | false =>
        rw [if_neg Bool.false_ne_true] at ea eb
        subst ea eb
        clear hd hC hs
        rw [if_neg Bool.false_ne_true]
        walk_at "vl"
    have f0' : eIf (toT (eVar 4)) (opL tupD (aCons (eVar 7) (aCons (eVar 6) (Mo.ret [])))) (opL tupD (aCons (eVar 6) (aCons (eVar 7) (Mo.ret [])))) [.d d, .d (tN C), c2, .d (.str w), .d (.bool back), .l (mt.map iN), .d (iN x), .d (iN y), h, o] = W.ret (.tuple [iN a, iN b], [.d d, .d (tN C), c2, .d (.str w), .d (.bool back), .l (mt.map iN), .d (iN x), .d (iN y), h, o]) := by
      rw [← f0, c_eIf]
      cases back <;> rfl
    have hxy : a ∈ mt → b ∈ C → b ∉ mt → x < n ∧ y < n ∧ x ≠ y := by
      intro h1 h2 h3
      have ha := hC.lt a (hs a h1)
      have hb := hC.lt b h2
      have hab : a ≠ b := fun z => h3 (by rw [← z]; exact h1)
      cases back with
      | true =>
        simp only [if_true] at ea eb
        subst ea eb
        exact ⟨hb, ha, fun z => hab z.symm⟩
      | false =>
        rw [if_neg Bool.false_ne_true] at ea eb
        subst ea eb
        exact ⟨ha, hb, hab⟩
    have f1 := inN_lst true a mt
    have f2 := inN_lst false b mt
    have f3 := inN_tup true b C
    unfold l1__law_meets
    clear f0 ea eb
    by_cases h1 : a ∈ mt
    · rw [decide_eq_true h1] at f1
      by_cases h3 : b ∈ mt
      · rw [decide_eq_true h3] at f2
        have e : (decide (a ∈ mt ∧ b ∈ C ∧ b ∉ mt) && eW R w x y) = false := by rw [decide_eq_false fun z => z.2.2 h3]; rfl
        rw [e]
        clear e h1 h3 hC hs hd hxy
        walk_at "vls"
      · rw [decide_eq_false h3] at f2
        by_cases h2 : b ∈ C
        · rw [decide_eq_true h2] at f3
          obtain ⟨hx, hy, ne⟩ := hxy h1 h2 h3
          have f4 := hd x y hx hy ne
          have f5 := strs_inL (l := allw R x y) false hw allw_ks
          by_cases h4 : w ∈ allw R x y
          · rw [decide_eq_true h4] at f5
            have e : (decide (a ∈ mt ∧ b ∈ C ∧ b ∉ mt) && eW R w x y) = false := by
              unfold eW
              rw [decide_eq_true h4, Bool.not_true, Bool.and_false]
            rw [e]
            clear e h1 h2 h3 h4 hC hs hd hxy hx hy ne
            walk_at "vls"
          · rw [decide_eq_false h4] at f5
            have e : (decide (a ∈ mt ∧ b ∈ C ∧ b ∉ mt) && eW R w x y) = true := by
              unfold eW
              rw [decide_eq_false h4, decide_eq_true ⟨h1, h2, h3⟩]
              rfl
            rw [e]
            have e2 := app1_ok (xs := mt.map iN) (d := iN b) (by rw [List.length_map]; omega)
            clear e h1 h2 h3 h4 hC hs hd hxy hx hy ne
            walk_at "vls"
            simp only [List.map_append, List.map_cons, List.map_nil]
        · rw [decide_eq_false h2] at f3
          have e : (decide (a ∈ mt ∧ b ∈ C ∧ b ∉ mt) && eW R w x y) = false := by rw [decide_eq_false fun z => h2 z.2.1]; rfl
          rw [e]
          clear e h1 h2 h3 hC hs hd hxy
          walk_at "vls"
    · rw [decide_eq_false h1] at f1
      have e : (decide (a ∈ mt ∧ b ∈ C ∧ b ∉ mt) && eW R w x y) = false := by rw [decide_eq_false fun z => h1 z.1]; rfl
      rw [e]
      clear e h1 hC hs hd hxy
      walk_at "vls"
  refine ⟨.d (iN (if back then y else x)), .d (iN (if back then x else y)), (main _ _ rfl rfl).trans ?_⟩
  cases back <;> rfl
end VM

set_option Elab.async false
set_option linter.all false
set_option maxRecDepth 100000
set_option maxHeartbeats 1000000
/-! Grounds for stuck sets: the judgements, the told grounds. -/
namespace VM
open PySem VL KP RC
local macro_rules | `(tactic| walk_at "vl") => `(tactic| simp only [c_op1, c_op2, c_op2T, c_op2F, c_opL, c_opF, c_aCons, c_eList, c_eCall, c_eCall0, c_eCallS, stS_s, c_toT, c_tB1, c_tNotM, c_tAndM, c_tOrM, c_eAnd, c_eOr, c_eIf, c_eChain, chD_int, c_toO, intO_int, c_eSlice, c_toI, c_ret, c_bind, c_eVar, vS_d, vS_l, vS_ll, peekS_d, peekS_l, c_peek, c_bLen, c_bIx, c_bIn, c_bTru, c_bTup, c_bLst, c_bSort, c_bAddL, lS_l, c_eAppend, c_eExtend, c_ePop, c_ePopAt, seqR_nx, seqR_bk, seqR_ct, seqR_rt, c_sSeq, c_sNil, c_sRet, c_sRetN, c_sExpr, c_sBreak, c_sCont, c_stD, c_sSet, c_sSetL, c_sSetLL, c_sIf, c_sAsg, c_gR, dS_d, c_sAug, c_sFor, raR_str, c_sRaise, c_gN, gTp_tup, gCs, gNl, callR_nx, callR_rt, c_callM, c_callMS, c_wipe, c_wipe0, c_fSortSet, c_eDGet, c_sSetT, c_eRg1, vS_t, bD_bool, outD_some, W.ret_bind, W_bind_assoc, W.opt_some, W.opt_none, W.nox_ret, sAt_z, sAt_s, sAt_nil, Option.bind_some, Option.bind_none, Option.map_some, List.set_cons_zero, List.set_cons_succ, List.length_cons, List.length_nil, List.length_set, start0, List.map_cons, List.map_nil, List.cons_append, List.nil_append, List.append_nil, List.replicate_succ, List.replicate_zero, Nat.reduceAdd, Nat.reduceSub, Nat.reduceLT, Nat.reduceLeDiff, Nat.zero_add, Nat.add_zero, Nat.lt_add_left_iff_pos, Nat.succ_pos, if_true, if_false, ite_true, ite_false, reduceIte, reduceCtorEq, Bool.false_eq_true, Bool.true_and, Bool.and_true, Bool.false_and, Bool.and_false, Bool.not_true, Bool.not_false, Bool.xor_false, Bool.xor_true, Bool.false_xor, Bool.true_xor, Bool.not_not, decide_eq_true_eq, decide_true, decide_false, decide_eq_false_iff_not, Bool.not_eq_true', Bool.not_eq_false', beq_self_eq_true, isi_int_int, isi_int_bool, isi_int_str, isi_int_non, isi_int_tup, isi_int_lst, isi_bool_int, isi_bool_bool, isi_bool_str, isi_bool_non, isi_bool_tup, isi_bool_lst, isi_str_int, isi_str_bool, isi_str_str, isi_str_non, isi_str_tup, isi_str_lst, isi_tup_int, isi_tup_bool, isi_tup_str, isi_tup_non, isi_tup_tup, isi_tup_lst, isi_lst_int, isi_lst_bool, isi_lst_str, isi_lst_non, isi_lst_tup, isi_lst_lst, tru_bool, not_bool, isN_none, isN_bool, isN_int, isN_str, isN_tup, isN_lst, isB_bool, cmp_int, add_int, iadd_int, sub_int, neg_int, len_tup, len_lst, tuple_lst, tuple_tup, list_lst, list_tup, seq_lst, seq_tup, ix_tup, ix_lst, tupD, lstD, K_, atI_0, atI_1, atI_2, atI_3, eqD_int, neD_int, eqD_bool, bCase_bool, Int.cast_ofNat_Int, Int.natCast_zero, Int.natCast_one, Int.reduceBNe, Int.reduceBEq, Int.reduceLT, Int.reduceLE, bne_self_eq_false])
local macro_rules | `(tactic| walk_at "vls") => `(tactic| simp only [c_op1, c_op2, c_op2T, c_op2F, c_opL, c_opF, c_aCons, c_eList, c_eCall, c_eCall0, c_eCallS, stS_s, c_toT, c_tB1, c_tNotM, c_tAndM, c_tOrM, c_eAnd, c_eOr, c_eIf, c_eChain, chD_int, c_toO, intO_int, c_eSlice, c_toI, c_ret, c_bind, c_eVar, vS_d, vS_l, vS_ll, peekS_d, peekS_l, c_peek, c_bLen, c_bIx, c_bIn, c_bTru, c_bTup, c_bLst, c_bSort, c_bAddL, lS_l, c_eAppend, c_eExtend, c_ePop, c_ePopAt, seqR_nx, seqR_bk, seqR_ct, seqR_rt, c_sSeq, c_sNil, c_sRet, c_sRetN, c_sExpr, c_sBreak, c_sCont, c_stD, c_sSet, c_sSetL, c_sSetLL, c_sIf, c_sAsg, c_gR, dS_d, c_sAug, c_sFor, raR_str, c_sRaise, c_gN, gTp_tup, gCs, gNl, callR_nx, callR_rt, c_callM, c_callMS, c_wipe, c_wipe0, c_fSortSet, c_eDGet, c_sSetT, c_eRg1, vS_t, bD_bool, outD_some, W.ret_bind, W_bind_assoc, W.opt_some, W.opt_none, W.nox_ret, sAt_z, sAt_s, sAt_nil, Option.bind_some, Option.bind_none, Option.map_some, List.set_cons_zero, List.set_cons_succ, List.length_cons, List.length_nil, List.length_set, start0, List.map_cons, List.map_nil, List.cons_append, List.nil_append, List.append_nil, List.replicate_succ, List.replicate_zero, Nat.reduceAdd, Nat.reduceSub, Nat.reduceLT, Nat.reduceLeDiff, Nat.zero_add, Nat.add_zero, Nat.lt_add_left_iff_pos, Nat.succ_pos, if_true, if_false, ite_true, ite_false, reduceIte, reduceCtorEq, Bool.false_eq_true, Bool.true_and, Bool.and_true, Bool.false_and, Bool.and_false, Bool.not_true, Bool.not_false, Bool.xor_false, Bool.xor_true, Bool.false_xor, Bool.true_xor, Bool.not_not, decide_eq_true_eq, decide_true, decide_false, decide_eq_false_iff_not, Bool.not_eq_true', Bool.not_eq_false', beq_self_eq_true, isi_int_int, isi_int_bool, isi_int_str, isi_int_non, isi_int_tup, isi_int_lst, isi_bool_int, isi_bool_bool, isi_bool_str, isi_bool_non, isi_bool_tup, isi_bool_lst, isi_str_int, isi_str_bool, isi_str_str, isi_str_non, isi_str_tup, isi_str_lst, isi_tup_int, isi_tup_bool, isi_tup_str, isi_tup_non, isi_tup_tup, isi_tup_lst, isi_lst_int, isi_lst_bool, isi_lst_str, isi_lst_non, isi_lst_tup, isi_lst_lst, tru_bool, not_bool, isN_none, isN_bool, isN_int, isN_str, isN_tup, isN_lst, isB_bool, cmp_int, add_int, iadd_int, sub_int, neg_int, len_tup, len_lst, tuple_lst, tuple_tup, list_lst, list_tup, seq_lst, seq_tup, ix_tup, ix_lst, tupD, lstD, K_, atI_0, atI_1, atI_2, atI_3, eqD_int, neD_int, eqD_bool, bCase_bool, Int.cast_ofNat_Int, Int.natCast_zero, Int.natCast_one, Int.reduceBNe, Int.reduceBEq, Int.reduceLT, Int.reduceLE, bne_self_eq_false, *])
abbrev eB (R : List Rule) (w : Str) (back : Bool) : Nat → Nat → Bool := fun a b => if back then eW R w b a else eW R w a b
abbrev sB (back : Bool) (p : PR) : PR := if back then (p.2, p.1) else p
theorem law_meets_loop {n : Nat} {R : List Rule} {w : Str} {C : List Nat} {d : PyData} (back : Bool) (c2 : Sl) (hd : TabOk n R d) (hC : SetL n C) (hw : PyData.strOk w = true) : ∀ (ps : List PR) (mt : List Nat) (a b h o : Sl), (∀ z ∈ mt, z ∈ C) → mt.length + ps.length ≤ 1000 →
    (lead (eB R w back) C mt (ps.map (sB back)) = true → ∃ a' b' h' o', forW (gTp 2 (gCs (gN 6) (gCs (gN 7) gNl))) l1__law_meets (ps.map pD) [.d d, .d (tN C), c2, .d (.str w), .d (.bool back), .l (mt.map iN), a, b, h, o] = W.ret (.nx, [.d d, .d (tN C), c2, .d (.str w), .d (.bool back), .l ((mt ++ (ps.map (sB back)).map (·.2)).map iN), a', b', h', o'])) ∧
    (lead (eB R w back) C mt (ps.map (sB back)) = false → ∃ env', forW (gTp 2 (gCs (gN 6) (gCs (gN 7) gNl))) l1__law_meets (ps.map pD) [.d d, .d (tN C), c2, .d (.str w), .d (.bool back), .l (mt.map iN), a, b, h, o] = W.ret (.rt (.bool false), env'))
  | [], mt, a, b, h, o, hs, hl => by
    refine ⟨fun _ => ⟨a, b, h, o, ?_⟩, fun h => by cases h⟩
    rw [List.map_nil, List.map_nil, List.map_nil, List.append_nil]
    rfl
  | (x, y) :: r, mt, a, b, h, o, hs, hl => by
    rw [List.length_cons] at hl
    obtain ⟨h', o', st⟩ := law_meets_step (R := R) (x := x) (y := y) back c2 h o hd hC hw hs (by omega)
    have e0 : lead (eB R w back) C mt (((x, y) :: r).map (sB back)) = (stp (eB R w back) C mt (sB back (x, y)) && lead (eB R w back) C (mt ++ [(sB back (x, y)).2]) (r.map (sB back))) := rfl
    have e2 : (sB back (x, y)).2 = if back then x else y := by cases back <;> rfl
    have e3 : sB back (x, y) = if back then (y, x) else (x, y) := rfl
    rw [e0, List.map_cons]
    have hstep : forW (gTp 2 (gCs (gN 6) (gCs (gN 7) gNl))) l1__law_meets (pD (x, y) :: r.map pD) [.d d, .d (tN C), c2, .d (.str w), .d (.bool back), .l (mt.map iN), a, b, h, o] = (l1__law_meets [.d d, .d (tN C), c2, .d (.str w), .d (.bool back), .l (mt.map iN), .d (iN x), .d (iN y), h, o]).bind fun r' => match r'.1 with
      | .nx => forW (gTp 2 (gCs (gN 6) (gCs (gN 7) gNl))) l1__law_meets (r.map pD) r'.2
      | .ct => forW (gTp 2 (gCs (gN 6) (gCs (gN 7) gNl))) l1__law_meets (r.map pD) r'.2
      | .bk => W.ret (.nx, r'.2)
      | .rt d => W.ret (.rt d, r'.2) := rfl
    rw [hstep, st, ← e3]
    have est : stp (fun a b => if back = true then eW R w b a else eW R w a b) C mt (sB back (x, y)) = stp (eB R w back) C mt (sB back (x, y)) := rfl
    rw [est]
    cases q : stp (eB R w back) C mt (sB back (x, y)) with
    | true =>
      rw [if_pos rfl, Bool.true_and]
      have hy : (sB back (x, y)).2 ∈ C := by
        unfold stp at q
        rw [Bool.and_eq_true, decide_eq_true_eq] at q
        exact q.1.2.1
      obtain ⟨i1, i2⟩ := law_meets_loop back c2 hd hC hw r (mt ++ [(sB back (x, y)).2]) (.d (iN x)) (.d (iN y)) h' o' (fun z hz => by
        rcases List.mem_append.mp hz with v | v
        · exact hs z v
        · rw [List.mem_singleton.mp v]; exact hy) (by rw [List.length_append, List.length_singleton]; omega)
      rw [List.append_assoc] at i1
      rw [← e2]
      exact ⟨i1, i2⟩
    | false =>
      rw [if_neg Bool.false_ne_true, Bool.false_and]
      exact ⟨fun h => (by cases h), fun _ => ⟨_, rfl⟩⟩
theorem law_meets_ok {n x : Nat} {R : List Rule} {w : Str} {r : List Nat} {d : PyData} {ps : List PR} (back : Bool) (hd : TabOk n R d) (hC : SetL n (x :: r)) (hw : PyData.strOk w = true) (hl : ps.length ≤ 900) : m__law_meets [d, tN (x :: r), pT ps, .str w, .bool back] = W.ret (.bool (lead (eB R w back) (x :: r) [x] (ps.map (sB back)) && decide (ps.length + 1 = (x :: r).length))) := by
  have f0 : ixD (tN (x :: r)) (.int 0) = some (iN x) := ixN_tup (i := 0) rfl
  obtain ⟨i1, i2⟩ := law_meets_loop (R := R) back (.d (pT ps)) hd hC hw ps [x] .no .no .no .no (fun z hz => by rw [List.mem_singleton.mp hz]; exact List.mem_cons_self) (by simp; omega)
  unfold m__law_meets b__law_meets
  generalize x :: r = C at *
  clear hC hd
  cases q : lead (eB R w back) C [x] (ps.map (sB back)) with
  | true =>
    obtain ⟨a', b', h', o', e⟩ := i1 q
    clear i1 i2 q
    have e9 : lenD [.list (([x] ++ (ps.map (sB back)).map (·.2)).map iN)] = some (.int ((ps.length + 1 : Nat) : Int)) := by
      rw [len_lst, List.length_map, List.length_append, List.length_map, List.length_map, List.length_singleton, Nat.add_comm]
    have e8 : lenD [tN C] = some (.int (C.length : Nat)) := by rw [len_tup, List.length_map]
    have e7 : eqD (.int ((ps.length + 1 : Nat) : Int)) (.int (C.length : Nat)) = some (.bool (decide (ps.length + 1 = C.length))) := by
      rw [eqD_int]
      refine congrArg (fun b => some (PyData.bool b)) ?_
      rw [Bool.eq_iff_iff, beq_iff_eq, decide_eq_true_eq]
      omega
    generalize ([x] ++ (ps.map (sB back)).map (·.2)).map iN = L at *
    generalize ((ps.length + 1 : Nat) : Int) = k at *
    generalize hk2 : (C.length : Int) = k2 at *
    simp only [List.map_cons, List.map_nil] at e
    rw [Bool.true_and]
    clear hk2
    walk_at "vls"
  | false =>
    obtain ⟨env', e⟩ := i2 q
    clear i1 i2 q
    simp only [List.map_cons, List.map_nil] at e
    walk_at "vls"
theorem len_dec {n k : Nat} : eqD (.int (n : Nat)) (.int (k : Nat)) = some (.bool (decide (n = k))) := by
  rw [eqD_int]
  refine congrArg (fun b => some (PyData.bool b)) ?_
  rw [Bool.eq_iff_iff, beq_iff_eq, decide_eq_true_eq]
  omega
theorem law_pair (p : PR) (a b c d : Sl) : l1__law_are_grounds [a, b, c, d, .d (pD p), .no] = W.ret (.nx, [a, b, c, d, .d (pD p), .no]) := by
  have f1 : lcM [5] (toI (eVar 4)) (gN 5) tTr (eCall m__law_is_integer (aCons (eVar 5) (Mo.ret []))) [a, b, c, d, .d (pD p), .no] = W.ret ([p.1, p.2].map (fun _ => .bool true), [a, b, c, d, .d (pD p), .no]) := by
    rw [lcM_mapOf [p.1, p.2] iN (fun _ => .bool true) (by walk_at "vl") (sl_of (by simp)) rfl ?ha]
    intro y hy
    refine ⟨_, rfl, ?_, rfl⟩
    walk_at "vl"
    rw [law_is_integer_int]
    walk_at "vl"
  have f2 := all_true [p.1, p.2]
  unfold l1__law_are_grounds
  simp only [List.map_cons, List.map_nil] at f1 f2
  walk_at "vls"
theorem law_row (ps : List PR) (a b c e : Sl) : ∃ e', l2__law_are_grounds [a, b, c, .d (pT ps), e, .no] = W.ret (.nx, [a, b, c, .d (pT ps), e', .no]) := by
  obtain ⟨env', e1, e', rfl⟩ := forW_ex (g := gN 4) (b := l1__law_are_grounds) ps pD (fun i env => ∃ e', env = [a, b, c, .d (pT ps), e', .no]) (by
    rintro i p env hp ⟨e', rfl⟩
    exact ⟨_, _, rfl, .inl (law_pair p a b c _), _, rfl⟩) [a, b, c, .d (pT ps), e, .no] ⟨_, rfl⟩
  refine ⟨e', ?_⟩
  unfold l2__law_are_grounds
  walk_at "vls"
def lawG (R : List Rule) (x : Nat) (r : List Nat) (r1 r2 r3 : List PR) : Bool :=
  (lead (eW R "beside") (x :: r) [x] r1 && decide (r1.length + 1 = (x :: r).length)) && ((lead (eW R "before") (x :: r) [x] r2 && decide (r2.length + 1 = (x :: r).length)) && (lead (eW R "after") (x :: r) [x] (r3.map sw) && decide (r3.length + 1 = (x :: r).length)))
theorem eB_f (R : List Rule) (w : Str) : eB R w false = eW R w := rfl
theorem eB_t (R : List Rule) : eB R "before" true = eW R "after" := by
  funext a b
  exact (eW_after (R := R) (a := a) (b := b)).symm
theorem law_are_grounds_ok {n x : Nat} {R : List Rule} {r : List Nat} {d : PyData} {r1 r2 r3 : List PR} (hd : TabOk n R d) (hC : SetL n (x :: r)) (h2 : 2 ≤ (x :: r).length) (l1 : r1.length ≤ 900) (l2 : r2.length ≤ 900) (l3 : r3.length ≤ 900) :
    m__law_are_grounds [d, tN (x :: r), .tuple [pT r1, pT r2, pT r3]] = W.ret (.bool (lawG R x r r1 r2 r3)) := by
  have m1 := law_meets_ok (ps := r1) (w := "beside") false hd hC (by decide +kernel) l1
  have m2 := law_meets_ok (ps := r2) (w := "before") false hd hC (by decide +kernel) l2
  have m3 := law_meets_ok (ps := r3) (w := "before") true hd hC (by decide +kernel) l3
  rw [eB_f, show r1.map (sB false) = r1 from List.map_id _] at m1
  rw [eB_f, show r2.map (sB false) = r2 from List.map_id _] at m2
  rw [eB_t, show r3.map (sB true) = r3.map sw from rfl] at m3
  obtain ⟨env', e1, a', b', e2⟩ := forW_ex (g := gN 3) (b := l2__law_are_grounds) [r1, r2, r3] pT (fun i env => ∃ a b, env = [.d d, .d (tN (x :: r)), .d (.tuple [pT r1, pT r2, pT r3]), a, b, .no]) (by
    rintro i p env hp ⟨a, b, rfl⟩
    obtain ⟨e', e⟩ := law_row p (.d d) (.d (tN (x :: r))) (.d (.tuple [pT r1, pT r2, pT r3])) b
    exact ⟨_, _, rfl, .inl e, _, _, rfl⟩) [.d d, .d (tN (x :: r)), .d (.tuple [pT r1, pT r2, pT r3]), .no, .no, .no] ⟨_, _, rfl⟩
  subst e2
  have h2' : ¬ (((x :: r).map iN).length : Int) < 2 := by rw [List.length_map]; omega
  unfold m__law_are_grounds b__law_are_grounds lawG
  generalize (lead (eW R "beside") (x :: r) [x] r1 && decide (r1.length + 1 = (x :: r).length)) = B1 at *
  generalize (lead (eW R "before") (x :: r) [x] r2 && decide (r2.length + 1 = (x :: r).length)) = B2 at *
  generalize (lead (eW R "after") (x :: r) [x] (r3.map sw) && decide (r3.length + 1 = (x :: r).length)) = B3 at *
  generalize x :: r = C at *
  simp only [List.map_cons, List.map_nil] at e1
  clear hC hd h2 l1 l2 l3
  cases B1 <;> cases B2 <;> walk_at "vls"
/-! ### the program -/
theorem are_pairs_ok {n k : Nat} {ps : List PR} (hp : ∀ p ∈ ps, p.1 < n ∧ p.2 < n) : m_are_pairs [pT ps, .int (k : Nat), iN n] = W.ret (.bool (decide (ps.length = k))) := by
  have f1 : genM false [3] (toI (eVar 0)) (gN 3) (eAnd (eCall m_are_indexes (aCons (eVar 3) (aCons (eVar 2) (Mo.ret [])))) (op2 eqD (opL lenD (aCons (eVar 3) (Mo.ret []))) (Mo.ret (.int 2)))) [.d (pT ps), .d (.int (k : Nat)), .d (iN n), .no] = W.ret (.bool true, [.d (pT ps), .d (.int (k : Nat)), .d (iN n), .no]) := by
    rw [genM_of ps pD (fun _ => true) (by walk_at "vl") rfl ?ha]
    · rw [if_neg Bool.false_ne_true, List.all_eq_true.mpr fun _ _ => rfl]
    · intro p hp'
      refine ⟨_, rfl, ?_, rfl⟩
      have g1 : m_are_indexes [pD p, iN n] = W.ret (.bool true) := by
        have := are_indexes_ok [p.1, p.2] n
        rw [show ([p.1, p.2].all fun x => decide (x < n)) = true by simp [hp p hp']] at this
        exact this
      clear hp hp'
      walk_at "vls"
  have f2 : lenD [pT ps] = some (.int (ps.length : Nat)) := by rw [len_tup, List.length_map]
  unfold m_are_pairs b_are_pairs
  clear hp
  by_cases h : ps.length = k
  · have e : ((ps.length : Int) != (k : Int)) = false := by rw [h]; simp
    rw [decide_eq_true h]
    clear h
    generalize (ps.length : Int) = j at *
    walk_at "vls"
  · have e : ((ps.length : Int) != (k : Int)) = true := by rw [bne_iff_ne]; omega
    rw [decide_eq_false h]
    clear h
    generalize (ps.length : Int) = j at *
    walk_at "vls"
theorem exchanged_ok {pd : PyData} {ps : List PR} (hp : seqD pd = some (ps.map pD)) (hl : ps.length ≤ 1000) : m_exchanged [pd] = W.ret (.list ((ps.map sw).map pD)) := by
  have hi : toI (eVar 0) [.d pd, .no] = W.ret (ps.map pD, [.d pd, .no]) := by walk_at "vls"
  unfold m_exchanged b_exchanged
  clear hp
  walk_at "vl"
  rw [lcM_mapOf ps pD (fun p => pD (sw p)) hi (sl_of (by omega)) rfl ?ha]
  · rw [List.map_map]
    walk_at "vl"
    rfl
  · intro p hp'
    refine ⟨_, rfl, ?_, rfl⟩
    clear hi
    walk_at "vl"
    rfl
end VM

set_option Elab.async false
set_option linter.all false
set_option maxRecDepth 100000
set_option maxHeartbeats 1000000
/-! Grounds for stuck sets: the program's entries. -/
namespace VM
open PySem VL KP RC
local macro_rules | `(tactic| walk_at "vl") => `(tactic| simp only [c_op1, c_op2, c_op2T, c_op2F, c_opL, c_opF, c_aCons, c_eList, c_eCall, c_eCall0, c_eCallS, stS_s, c_toT, c_tB1, c_tNotM, c_tAndM, c_tOrM, c_eAnd, c_eOr, c_eIf, c_eChain, chD_int, c_toO, intO_int, c_eSlice, c_toI, c_ret, c_bind, c_eVar, vS_d, vS_l, vS_ll, peekS_d, peekS_l, c_peek, c_bLen, c_bIx, c_bIn, c_bTru, c_bTup, c_bLst, c_bSort, c_bAddL, lS_l, c_eAppend, c_eExtend, c_ePop, c_ePopAt, seqR_nx, seqR_bk, seqR_ct, seqR_rt, c_sSeq, c_sNil, c_sRet, c_sRetN, c_sExpr, c_sBreak, c_sCont, c_stD, c_sSet, c_sSetL, c_sSetLL, c_sIf, c_sAsg, c_gR, dS_d, c_sAug, c_sFor, raR_str, c_sRaise, c_gN, gTp_tup, gCs, gNl, callR_nx, callR_rt, c_callM, c_callMS, c_wipe, c_wipe0, c_fSortSet, c_eDGet, c_sSetT, c_eRg1, vS_t, bD_bool, outD_some, W.ret_bind, W_bind_assoc, W.opt_some, W.opt_none, W.nox_ret, sAt_z, sAt_s, sAt_nil, Option.bind_some, Option.bind_none, Option.map_some, List.set_cons_zero, List.set_cons_succ, List.length_cons, List.length_nil, List.length_set, start0, List.map_cons, List.map_nil, List.cons_append, List.nil_append, List.append_nil, List.replicate_succ, List.replicate_zero, Nat.reduceAdd, Nat.reduceSub, Nat.reduceLT, Nat.reduceLeDiff, Nat.zero_add, Nat.add_zero, Nat.lt_add_left_iff_pos, Nat.succ_pos, if_true, if_false, ite_true, ite_false, reduceIte, reduceCtorEq, Bool.false_eq_true, Bool.true_and, Bool.and_true, Bool.false_and, Bool.and_false, Bool.not_true, Bool.not_false, Bool.xor_false, Bool.xor_true, Bool.false_xor, Bool.true_xor, Bool.not_not, decide_eq_true_eq, decide_true, decide_false, decide_eq_false_iff_not, Bool.not_eq_true', Bool.not_eq_false', beq_self_eq_true, isi_int_int, isi_int_bool, isi_int_str, isi_int_non, isi_int_tup, isi_int_lst, isi_bool_int, isi_bool_bool, isi_bool_str, isi_bool_non, isi_bool_tup, isi_bool_lst, isi_str_int, isi_str_bool, isi_str_str, isi_str_non, isi_str_tup, isi_str_lst, isi_tup_int, isi_tup_bool, isi_tup_str, isi_tup_non, isi_tup_tup, isi_tup_lst, isi_lst_int, isi_lst_bool, isi_lst_str, isi_lst_non, isi_lst_tup, isi_lst_lst, tru_bool, not_bool, isN_none, isN_bool, isN_int, isN_str, isN_tup, isN_lst, isB_bool, cmp_int, add_int, iadd_int, sub_int, neg_int, len_tup, len_lst, tuple_lst, tuple_tup, list_lst, list_tup, seq_lst, seq_tup, ix_tup, ix_lst, tupD, lstD, K_, atI_0, atI_1, atI_2, atI_3, eqD_int, neD_int, eqD_bool, bCase_bool, Int.cast_ofNat_Int, Int.natCast_zero, Int.natCast_one, Int.reduceBNe, Int.reduceBEq, Int.reduceLT, Int.reduceLE, bne_self_eq_false])
local macro_rules | `(tactic| walk_at "vls") => `(tactic| simp only [c_op1, c_op2, c_op2T, c_op2F, c_opL, c_opF, c_aCons, c_eList, c_eCall, c_eCall0, c_eCallS, stS_s, c_toT, c_tB1, c_tNotM, c_tAndM, c_tOrM, c_eAnd, c_eOr, c_eIf, c_eChain, chD_int, c_toO, intO_int, c_eSlice, c_toI, c_ret, c_bind, c_eVar, vS_d, vS_l, vS_ll, peekS_d, peekS_l, c_peek, c_bLen, c_bIx, c_bIn, c_bTru, c_bTup, c_bLst, c_bSort, c_bAddL, lS_l, c_eAppend, c_eExtend, c_ePop, c_ePopAt, seqR_nx, seqR_bk, seqR_ct, seqR_rt, c_sSeq, c_sNil, c_sRet, c_sRetN, c_sExpr, c_sBreak, c_sCont, c_stD, c_sSet, c_sSetL, c_sSetLL, c_sIf, c_sAsg, c_gR, dS_d, c_sAug, c_sFor, raR_str, c_sRaise, c_gN, gTp_tup, gCs, gNl, callR_nx, callR_rt, c_callM, c_callMS, c_wipe, c_wipe0, c_fSortSet, c_eDGet, c_sSetT, c_eRg1, vS_t, bD_bool, outD_some, W.ret_bind, W_bind_assoc, W.opt_some, W.opt_none, W.nox_ret, sAt_z, sAt_s, sAt_nil, Option.bind_some, Option.bind_none, Option.map_some, List.set_cons_zero, List.set_cons_succ, List.length_cons, List.length_nil, List.length_set, start0, List.map_cons, List.map_nil, List.cons_append, List.nil_append, List.append_nil, List.replicate_succ, List.replicate_zero, Nat.reduceAdd, Nat.reduceSub, Nat.reduceLT, Nat.reduceLeDiff, Nat.zero_add, Nat.add_zero, Nat.lt_add_left_iff_pos, Nat.succ_pos, if_true, if_false, ite_true, ite_false, reduceIte, reduceCtorEq, Bool.false_eq_true, Bool.true_and, Bool.and_true, Bool.false_and, Bool.and_false, Bool.not_true, Bool.not_false, Bool.xor_false, Bool.xor_true, Bool.false_xor, Bool.true_xor, Bool.not_not, decide_eq_true_eq, decide_true, decide_false, decide_eq_false_iff_not, Bool.not_eq_true', Bool.not_eq_false', beq_self_eq_true, isi_int_int, isi_int_bool, isi_int_str, isi_int_non, isi_int_tup, isi_int_lst, isi_bool_int, isi_bool_bool, isi_bool_str, isi_bool_non, isi_bool_tup, isi_bool_lst, isi_str_int, isi_str_bool, isi_str_str, isi_str_non, isi_str_tup, isi_str_lst, isi_tup_int, isi_tup_bool, isi_tup_str, isi_tup_non, isi_tup_tup, isi_tup_lst, isi_lst_int, isi_lst_bool, isi_lst_str, isi_lst_non, isi_lst_tup, isi_lst_lst, tru_bool, not_bool, isN_none, isN_bool, isN_int, isN_str, isN_tup, isN_lst, isB_bool, cmp_int, add_int, iadd_int, sub_int, neg_int, len_tup, len_lst, tuple_lst, tuple_tup, list_lst, list_tup, seq_lst, seq_tup, ix_tup, ix_lst, tupD, lstD, K_, atI_0, atI_1, atI_2, atI_3, eqD_int, neD_int, eqD_bool, bCase_bool, Int.cast_ofNat_Int, Int.natCast_zero, Int.natCast_one, Int.reduceBNe, Int.reduceBEq, Int.reduceLT, Int.reduceLE, bne_self_eq_false, *])
abbrev gT (r1 r2 r3 : List PR) : PyData := .tuple [pT r1, pT r2, pT r3]
theorem accepts_grounds_ok {mx n x : Nat} {R : List Rule} {r : List Nat} {r1 r2 r3 : List PR} (h : OkP mx n R) (hm : mx ≤ 20) (hC : SetL n (x :: r)) (h2 : 2 ≤ (x :: r).length) (p1 : ∀ p ∈ r1, p.1 < n ∧ p.2 < n) (p2 : ∀ p ∈ r2, p.1 < n ∧ p.2 < n) (p3 : ∀ p ∈ r3, p.1 < n ∧ p.2 < n) (l1 : r1.length ≤ 900) (l2 : r2.length ≤ 900) (l3 : r3.length ≤ 900) :
    m_accepts_grounds [probD n R, tN (x :: r), gT r1 r2 r3] = W.ret (.bool (lawG R x r r1 r2 r3)) := by
  have f1 : m_check_chosen [probD n R, tN (x :: r), .int 1] = W.ret .none := check_chosen_ok (k := 1) h hm hC (by omega)
  have f2 := probD_0 n R
  have f3 := choices_ok h hm
  have m1 := meets_ok (R := R) (w := "beside") (pd := pT r1) (ps := r1) hC (by decide +kernel) rfl l1
  have m2 := meets_ok (R := R) (w := "before") (pd := pT r2) (ps := r2) hC (by decide +kernel) rfl l2
  have m3 := meets_ok (R := R) (w := "after") (pd := .list ((r3.map sw).map pD)) (ps := r3.map sw) hC (by decide +kernel) rfl (by rw [List.length_map]; exact l3)
  have m4 := exchanged_ok (pd := pT r3) (ps := r3) rfl (by omega)
  obtain ⟨k, hk⟩ : ∃ k, (x :: r).length = k + 1 := ⟨_, List.length_cons⟩
  have g1 : ∀ e : Sl, genM false [4] (toI (eVar 2)) (gN 4) (eCall m_are_pairs (aCons (eVar 4) (aCons (op2 subD (opL lenD (aCons (eVar 1) (Mo.ret []))) (Mo.ret (.int 1))) (aCons (eVar 3) (Mo.ret []))))) [.d (probD n R), .d (tN (x :: r)), .d (gT r1 r2 r3), .d (iN n), .no, .no, .no, .no, .no] = W.ret (.bool (decide (r1.length = k) && (decide (r2.length = k) && decide (r3.length = k))), [.d (probD n R), .d (tN (x :: r)), .d (gT r1 r2 r3), .d (iN n), .no, .no, .no, .no, .no]) := by
    intro e
    rw [genM_of [r1, r2, r3] pT (fun ps => decide (ps.length = k)) (by walk_at "vl") rfl ?ha]
    · rw [if_neg Bool.false_ne_true]
      refine congrArg (fun b => W.ret (PyData.bool b, _)) ?_
      show (decide (r1.length = k) && (decide (r2.length = k) && (decide (r3.length = k) && true))) = _
      rw [Bool.and_true]
    · intro ps hps
      have hall : ∀ p ∈ ps, p.1 < n ∧ p.2 < n := by
        simp only [List.mem_cons, List.not_mem_nil, or_false] at hps
        rcases hps with rfl | rfl | rfl
        · exact p1
        · exact p2
        · exact p3
      refine ⟨_, rfl, ?_, rfl⟩
      have q1 := are_pairs_ok (k := k) hall
      have q2 : lenD [tN (x :: r)] = some (.int ((k + 1 : Nat) : Int)) := by rw [len_tup, List.length_map, hk]
      have q3 : subD (.int ((k + 1 : Nat) : Int)) (.int 1) = some (.int (k : Int)) := by
        rw [sub_int]
        refine congrArg (fun b => some (PyData.int b)) ?_
        omega
      generalize x :: r = C at *
      generalize ((k + 1 : Nat) : Int) = k1 at *
      clear m1 m2 m3 m4 f1 f2 f3 hps hall p1 p2 p3 h hC h2 l1 l2 l3 hk
      walk_at "vls"
  have g1 := g1 .no
  have q2 : lenD [tN (x :: r)] = some (.int ((k + 1 : Nat) : Int)) := by rw [len_tup, List.length_map, hk]
  have q4 : eqD (.int ((k + 1 : Nat) : Int)) (.int 1) = some (.bool false) := by
    rw [eqD_int]
    refine congrArg (fun b => some (PyData.bool b)) ?_
    rw [beq_eq_false_iff_ne]
    omega
  have ed : ∀ j : Nat, decide (j + 1 = (x :: r).length) = decide (j = k) := fun j => by rw [decide_eq_decide, hk]; omega
  unfold lawG
  rw [ed, ed, ed]
  unfold m_accepts_grounds b_accepts_grounds
  generalize x :: r = C at *
  generalize ((k + 1 : Nat) : Int) = k1 at *
  generalize lead (eW R "beside") C [x] r1 = B1 at *
  generalize lead (eW R "before") C [x] r2 = B2 at *
  generalize lead (eW R "after") C [x] (r3.map sw) = B3 at *
  generalize decide (r1.length = k) = D1 at *
  generalize decide (r2.length = k) = D2 at *
  generalize decide (r3.length = k) = D3 at *
  clear ed p1 p2 p3 h hC h2 l1 l2 l3 hk
  cases D1 <;> cases D2 <;> cases D3 <;> cases B1 <;> cases B2 <;> cases B3 <;> walk_at "vls"
theorem grounds_one {mx n x : Nat} {R : List Rule} {v : PyData} (h : OkP mx n R) (hm : mx ≤ 20) (hC : SetL n [x]) : m_accepts_grounds [probD n R, tN [x], v] = W.ret (.bool false) := by
  have f1 : m_check_chosen [probD n R, tN [x], .int 1] = W.ret .none := check_chosen_ok (k := 1) h hm hC (by simp)
  have f2 := probD_0 n R
  have q2 : lenD [tN [x]] = some (.int 1) := rfl
  unfold m_accepts_grounds b_accepts_grounds
  generalize tN [x] = cd at *
  clear h hC
  walk_at "vls"
abbrev told1 (R : List Rule) (C : List Nat) (x : Nat) : List PR := link (eW R "beside") C x
abbrev told2 (R : List Rule) (C : List Nat) (x : Nat) : List PR := link (eW R "before") C x
abbrev told3 (R : List Rule) (C : List Nat) (x : Nat) : List PR := (link (eW R "after") C x).map sw
theorem grounds_for_ok {mx n x : Nat} {R : List Rule} {r : List Nat} (h : OkP mx n R) (hm : mx ≤ 20) (hC : SetL n (x :: r)) :
    m_grounds_for [probD n R, tN (x :: r)] = W.ret (if (decide (1 < (x :: r).length) && (tsp R (x :: r)).isNone) = true then gT (told1 R (x :: r) x) (told2 R (x :: r) x) (told3 R (x :: r) x) else .none) := by
  have f1 : m_check_chosen [probD n R, tN (x :: r), .int 1] = W.ret .none := check_chosen_ok (k := 1) h hm hC (by simp)
  have f3 := choices_ok h hm
  have f4 := is_stuck_in_ok (R := R) hC h.hi
  have f0 : ixD (tN (x :: r)) (.int 0) = some (iN x) := ixN_tup (i := 0) rfl
  have k1 := links_ok (R := R) (w := "beside") hC h.hi (by decide +kernel) List.mem_cons_self
  have k2 := links_ok (R := R) (w := "before") hC h.hi (by decide +kernel) List.mem_cons_self
  have k3 := links_ok (R := R) (w := "after") hC h.hi (by decide +kernel) List.mem_cons_self
  have gl := (Good.le7 hC h.hi (met_good (e := eW R "after") (List.mem_cons_self (a := x) (l := r)))).1
  have m4 := exchanged_ok (pd := .list ((link (eW R "after") (x :: r) x).map pD)) rfl (by omega)
  unfold m_grounds_for b_grounds_for
  generalize (decide (1 < (x :: r).length) && (tsp R (x :: r)).isNone) = B at *
  generalize x :: r = C at *
  clear h hC gl
  cases B with
  | true =>
    rw [if_pos rfl]
    walk_at "vls"
  | false =>
    rw [if_neg Bool.false_ne_true]
    walk_at "vls"
/-- the told grounds are right -/
theorem told_ok {n x : Nat} {R : List Rule} {r : List Nat} (hC : SetL n (x :: r)) (h : tsp R (x :: r) = none) : lawG R x r (told1 R (x :: r) x) (told2 R (x :: r) x) (told3 R (x :: r) x) = true := by
  have hx : x ∈ x :: r := List.mem_cons_self
  have full : ∀ e : Nat → Nat → Bool, (∀ y ∈ x :: r, y ∈ met e (x :: r) x) → (link e (x :: r) x).length + 1 = (x :: r).length := by
    intro e he
    have g := met_good (e := e) hx
    have p : (ends x (link e (x :: r) x)).Perm (x :: r) := (List.perm_ext_iff_of_nodup g.nd hC.up.nd).mpr fun y => ⟨g.sub y, he y⟩
    rw [← p.length_eq, ends_len]
  have s1 := full (eW R "beside") (stuck_all h "beside" (.inl rfl) x hx)
  have s2 := full (eW R "before") (stuck_all h "before" (.inr rfl) x hx)
  have s3 := full (eW R "after") fun y hy => met_rev (e := eW R "before") (fun a b hab => by rw [eW_after]; exact hab) hy (stuck_all h "before" (.inr rfl) y hy x hx)
  unfold lawG
  rw [lead_link, lead_link, decide_eq_true s1, decide_eq_true s2]
  have e3 : (told3 R (x :: r) x).map sw = link (eW R "after") (x :: r) x := by
    rw [List.map_map]
    exact List.map_id _
  rw [e3, lead_link, List.length_map, decide_eq_true s3]
  rfl
theorem link_lt {n x : Nat} {e : Nat → Nat → Bool} {C : List Nat} (hC : SetL n C) (hx : x ∈ C) : ∀ p ∈ link e C x, p.1 < n ∧ p.2 < n := by
  have key : ∀ i, ∀ p ∈ seqP e C x i, p.1 < n ∧ p.2 < n := by
    intro i
    induction i with
    | zero => exact fun p hp => nomatch hp
    | succ i ih =>
      cases q : (ends x (seqP e C x i))[i]? with
      | none =>
        rw [seq_none (List.getElem?_eq_none_iff.mp q)]
        exact ih
      | some a =>
        rw [seq_some q]
        have ha := hC.lt a ((seq_good hx i).sub a (List.mem_of_getElem? q))
        exact scan_all (fun p => p.1 < n ∧ p.2 < n) ih fun o ho _ => ⟨ha, hC.lt o ho⟩
  exact key _
/-- what is accepted is stuck -/
theorem lawG_stuck {n x : Nat} {R : List Rule} {r : List Nat} {r1 r2 r3 : List PR} (hC : SetL n (x :: r)) (h : lawG R x r r1 r2 r3 = true) : tsp R (x :: r) = none := by
  have hx : x ∈ x :: r := List.mem_cons_self
  unfold lawG at h
  rw [Bool.and_eq_true, Bool.and_eq_true, Bool.and_eq_true, Bool.and_eq_true, Bool.and_eq_true, decide_eq_true_eq, decide_eq_true_eq, decide_eq_true_eq] at h
  obtain ⟨⟨h1, k1⟩, ⟨h2, k2⟩, h3, k3⟩ := h
  have a1 := lead_all hC.up.nd hx h1 k1
  have a2 := lead_all hC.up.nd hx h2 k2
  have a3 := lead_all hC.up.nd hx h3 (by rw [List.length_map]; exact k3)
  refine all_stuck (fun a ha b hb => ?_) fun a ha b hb => ?_
  · have := met_symm (e := eW R "beside") (fun a b _ _ => tie_symm) hx (a1 a ha)
    exact met_trans ha this (a1 b hb)
  · have := met_rev (e := eW R "after") (f := eW R "before") (fun a b hab => by rw [← eW_after]; exact hab) hx (a3 a ha)
    exact met_trans ha this (a2 b hb)
end VM

set_option Elab.async false
set_option linter.all false
set_option maxRecDepth 100000
set_option maxHeartbeats 1000000
/-! The laws' plans: their tasks, their relations. -/
namespace VM
open PySem VL KP RC
local macro_rules | `(tactic| walk_at "vl") => `(tactic| simp only [c_op1, c_op2, c_op2T, c_op2F, c_opL, c_opF, c_aCons, c_eList, c_eCall, c_eCall0, c_eCallS, stS_s, c_toT, c_tB1, c_tNotM, c_tAndM, c_tOrM, c_eAnd, c_eOr, c_eIf, c_eChain, chD_int, c_toO, intO_int, c_eSlice, c_toI, c_ret, c_bind, c_eVar, vS_d, vS_l, vS_ll, peekS_d, peekS_l, c_peek, c_bLen, c_bIx, c_bIn, c_bTru, c_bTup, c_bLst, c_bSort, c_bAddL, lS_l, c_eAppend, c_eExtend, c_ePop, c_ePopAt, seqR_nx, seqR_bk, seqR_ct, seqR_rt, c_sSeq, c_sNil, c_sRet, c_sRetN, c_sExpr, c_sBreak, c_sCont, c_stD, c_sSet, c_sSetL, c_sSetLL, c_sIf, c_sAsg, c_gR, dS_d, c_sAug, c_sFor, raR_str, c_sRaise, c_gN, gTp_tup, gCs, gNl, callR_nx, callR_rt, c_callM, c_callMS, c_wipe, c_wipe0, c_fSortSet, c_eDGet, c_sSetT, c_eRg1, c_eIndexL, vS_t, bD_bool, outD_some, W.ret_bind, W_bind_assoc, W.opt_some, W.opt_none, W.nox_ret, sAt_z, sAt_s, sAt_nil, Option.bind_some, Option.bind_none, Option.map_some, List.set_cons_zero, List.set_cons_succ, List.length_cons, List.length_nil, List.length_set, start0, List.map_cons, List.map_nil, List.cons_append, List.nil_append, List.append_nil, List.replicate_succ, List.replicate_zero, Nat.reduceAdd, Nat.reduceSub, Nat.reduceLT, Nat.reduceLeDiff, Nat.zero_add, Nat.add_zero, Nat.lt_add_left_iff_pos, Nat.succ_pos, if_true, if_false, ite_true, ite_false, reduceIte, reduceCtorEq, Bool.false_eq_true, Bool.true_and, Bool.and_true, Bool.false_and, Bool.and_false, Bool.not_true, Bool.not_false, Bool.xor_false, Bool.xor_true, Bool.false_xor, Bool.true_xor, Bool.not_not, decide_eq_true_eq, decide_true, decide_false, decide_eq_false_iff_not, Bool.not_eq_true', Bool.not_eq_false', beq_self_eq_true, isi_int_int, isi_int_bool, isi_int_str, isi_int_non, isi_int_tup, isi_int_lst, isi_bool_int, isi_bool_bool, isi_bool_str, isi_bool_non, isi_bool_tup, isi_bool_lst, isi_str_int, isi_str_bool, isi_str_str, isi_str_non, isi_str_tup, isi_str_lst, isi_tup_int, isi_tup_bool, isi_tup_str, isi_tup_non, isi_tup_tup, isi_tup_lst, isi_lst_int, isi_lst_bool, isi_lst_str, isi_lst_non, isi_lst_tup, isi_lst_lst, tru_bool, not_bool, isN_none, isN_bool, isN_int, isN_str, isN_tup, isN_lst, isB_bool, cmp_int, add_int, iadd_int, sub_int, neg_int, len_tup, len_lst, tuple_lst, tuple_tup, list_lst, list_tup, seq_lst, seq_tup, ix_tup, ix_lst, tupD, lstD, K_, atI_0, atI_1, atI_2, atI_3, eqD_int, neD_int, eqD_bool, bCase_bool, Int.cast_ofNat_Int, Int.natCast_zero, Int.natCast_one, Int.reduceBNe, Int.reduceBEq, Int.reduceLT, Int.reduceLE, bne_self_eq_false])
local macro_rules | `(tactic| walk_at "vls") => `(tactic| simp only [c_op1, c_op2, c_op2T, c_op2F, c_opL, c_opF, c_aCons, c_eList, c_eCall, c_eCall0, c_eCallS, stS_s, c_toT, c_tB1, c_tNotM, c_tAndM, c_tOrM, c_eAnd, c_eOr, c_eIf, c_eChain, chD_int, c_toO, intO_int, c_eSlice, c_toI, c_ret, c_bind, c_eVar, vS_d, vS_l, vS_ll, peekS_d, peekS_l, c_peek, c_bLen, c_bIx, c_bIn, c_bTru, c_bTup, c_bLst, c_bSort, c_bAddL, lS_l, c_eAppend, c_eExtend, c_ePop, c_ePopAt, seqR_nx, seqR_bk, seqR_ct, seqR_rt, c_sSeq, c_sNil, c_sRet, c_sRetN, c_sExpr, c_sBreak, c_sCont, c_stD, c_sSet, c_sSetL, c_sSetLL, c_sIf, c_sAsg, c_gR, dS_d, c_sAug, c_sFor, raR_str, c_sRaise, c_gN, gTp_tup, gCs, gNl, callR_nx, callR_rt, c_callM, c_callMS, c_wipe, c_wipe0, c_fSortSet, c_eDGet, c_sSetT, c_eRg1, c_eIndexL, vS_t, bD_bool, outD_some, W.ret_bind, W_bind_assoc, W.opt_some, W.opt_none, W.nox_ret, sAt_z, sAt_s, sAt_nil, Option.bind_some, Option.bind_none, Option.map_some, List.set_cons_zero, List.set_cons_succ, List.length_cons, List.length_nil, List.length_set, start0, List.map_cons, List.map_nil, List.cons_append, List.nil_append, List.append_nil, List.replicate_succ, List.replicate_zero, Nat.reduceAdd, Nat.reduceSub, Nat.reduceLT, Nat.reduceLeDiff, Nat.zero_add, Nat.add_zero, Nat.lt_add_left_iff_pos, Nat.succ_pos, if_true, if_false, ite_true, ite_false, reduceIte, reduceCtorEq, Bool.false_eq_true, Bool.true_and, Bool.and_true, Bool.false_and, Bool.and_false, Bool.not_true, Bool.not_false, Bool.xor_false, Bool.xor_true, Bool.false_xor, Bool.true_xor, Bool.not_not, decide_eq_true_eq, decide_true, decide_false, decide_eq_false_iff_not, Bool.not_eq_true', Bool.not_eq_false', beq_self_eq_true, isi_int_int, isi_int_bool, isi_int_str, isi_int_non, isi_int_tup, isi_int_lst, isi_bool_int, isi_bool_bool, isi_bool_str, isi_bool_non, isi_bool_tup, isi_bool_lst, isi_str_int, isi_str_bool, isi_str_str, isi_str_non, isi_str_tup, isi_str_lst, isi_tup_int, isi_tup_bool, isi_tup_str, isi_tup_non, isi_tup_tup, isi_tup_lst, isi_lst_int, isi_lst_bool, isi_lst_str, isi_lst_non, isi_lst_tup, isi_lst_lst, tru_bool, not_bool, isN_none, isN_bool, isN_int, isN_str, isN_tup, isN_lst, isB_bool, cmp_int, add_int, iadd_int, sub_int, neg_int, len_tup, len_lst, tuple_lst, tuple_tup, list_lst, list_tup, seq_lst, seq_tup, ix_tup, ix_lst, tupD, lstD, K_, atI_0, atI_1, atI_2, atI_3, eqD_int, neD_int, eqD_bool, bCase_bool, Int.cast_ofNat_Int, Int.natCast_zero, Int.natCast_one, Int.reduceBNe, Int.reduceBEq, Int.reduceLT, Int.reduceLE, bne_self_eq_false, *])
/-- a plan of some depth, with its tasks -/
inductive IsP : Nat → List Nat → PyData → Prop
  | t (n k : Nat) : IsP (n + 1) [k] (iN k)
  | n (n : Nat) (w : Str) (ps : List (List Nat × PyData)) : (w = "beside" ∨ w = "then") → ps.length ≤ 1000 → (∀ q ∈ ps, IsP n q.1 q.2) → IsP (n + 1) (ps.flatMap (·.1)) (.tuple [.str w, .tuple (ps.map (·.2))])
theorem IsP.mono {m n : Nat} {ts : List Nat} {d : PyData} (h : IsP m ts d) (hn : m ≤ n) : IsP n ts d := by
  induction h generalizing n with
  | t a k => obtain ⟨j, rfl⟩ : ∃ j, n = j + 1 := ⟨n - 1, by omega⟩; exact .t j k
  | n a w ps hw hl _ ih => obtain ⟨j, rfl⟩ : ∃ j, n = j + 1 := ⟨n - 1, by omega⟩; exact .n j w ps hw hl fun q hq => ih q hq (by omega)
theorem flat_len {ps : List (List Nat × PyData)} {q : List Nat × PyData} (h : q ∈ ps) : q.1.length ≤ (ps.flatMap (·.1)).length := by
  induction ps with
  | nil => cases h
  | cons p r ih =>
    rw [List.flatMap_cons, List.length_append]
    rcases List.mem_cons.mp h with e | e
    · rw [e]; omega
    · have := ih e; omega
theorem law_tasks_n {n : Nat} {ts : List Nat} {d : PyData} (h : IsP n ts d) (hl : ts.length ≤ 1000) : m__law_tasks_n n [d] = W.ret (.list (ts.map iN)) := by
  induction h with
  | t n k =>
    unfold m__law_tasks_n b__law_tasks
    walk_at "vl"
  | n n w ps hw hpl hq ih =>
    obtain ⟨env', e1, c, e2⟩ := forW_ex (g := gN 2) (b := l1__law_tasks (m__law_tasks_n n)) ps (fun q => q.2) (fun i env => ∃ c, env = [.d (.tuple [.str w, .tuple (ps.map (·.2))]), .d (.list (((ps.take i).flatMap (·.1)).map iN)), c]) (by
      rintro i q env hq' ⟨c, rfl⟩
      have hm := List.mem_of_getElem? hq'
      have f1 := ih q hm (Nat.le_trans (flat_len hm) hl)
      have hle : ((ps.take i).flatMap (·.1)).length + q.1.length ≤ 1000 := by
        have h1 : (ps.take (i + 1)).flatMap (·.1) = (ps.take i).flatMap (·.1) ++ q.1 := by
          rw [List.take_succ, hq', List.flatMap_append]
          simp
        have h2 : ((ps.take (i + 1)).flatMap (·.1)).length ≤ (ps.flatMap (·.1)).length := by
          have : ps.flatMap (·.1) = (ps.take (i + 1)).flatMap (·.1) ++ (ps.drop (i + 1)).flatMap (·.1) := by
            rw [← List.flatMap_append, List.take_append_drop]
          rw [this, List.length_append]
          omega
        rw [h1, List.length_append] at h2
        omega
      have f2 : addD (.list (((ps.take i).flatMap (·.1)).map iN)) (.list (q.1.map iN)) = some (.list (((ps.take (i + 1)).flatMap (·.1)).map iN)) := by
        rw [add_lst (by rw [List.length_map, List.length_map]; omega), ← List.map_append, List.take_succ, hq', List.flatMap_append]
        simp
      refine ⟨_, _, rfl, .inl ?_, .d q.2, rfl⟩
      unfold l1__law_tasks
      generalize ((ps.take i).flatMap (·.1)).map iN = A at *
      generalize ((ps.take (i + 1)).flatMap (·.1)).map iN = B at *
      clear ih hq hle hm hq' hl hpl
      walk_at "vls") [.d (.tuple [.str w, .tuple (ps.map (·.2))]), .d (.list []), .no] ⟨_, rfl⟩
    rw [List.take_length] at e2
    subst e2
    unfold m__law_tasks_n b__law_tasks
    generalize hP : ps.map (·.2) = P at *
    generalize (ps.flatMap (·.1)).map iN = A at *
    clear ih hq hl hpl hw hP
    walk_at "vls"
theorem law_tasks_ok {n : Nat} {ts : List Nat} {d : PyData} (h : IsP n ts d) (hn : n ≤ 20) (hl : ts.length ≤ 1000) : m__law_tasks [d] = W.ret (.list (ts.map iN)) := law_tasks_n (h.mono hn) hl
/-- where a task stands first -/
theorem place_ok {n x : Nat} {w : Str} {ps : List (List Nat × PyData)} (hn : n ≤ 20) (hpl : ps.length ≤ 1000) (hp : ∀ q ∈ ps, IsP n q.1 q.2 ∧ q.1.length ≤ 1000) (b c e : Sl) : lcM [5] (opF rng1D (aCons (opL lenD (aCons (op2 ixD (eVar 0) (Mo.ret (.int 1))) (Mo.ret []))) (Mo.ret []))) (gN 5) (op2T (inD false) (eVar 4) (eCall m__law_tasks (aCons (op2 ixD (op2 ixD (eVar 0) (Mo.ret (.int 1))) (eVar 5)) (Mo.ret [])))) (eVar 5) [.d (.tuple [.str w, .tuple (ps.map (·.2))]), b, c, e, .d (iN x), .no] =
    W.ret ((((List.range ps.length).filter fun i => decide (x ∈ (ps[i]?.getD ([], .none)).1)).map iN), [.d (.tuple [.str w, .tuple (ps.map (·.2))]), b, c, e, .d (iN x), .no]) := by
  have hlen : lenD [.tuple (ps.map (·.2))] = some (.int (ps.length : Nat)) := by rw [len_tup, List.length_map]
  have hr := rng1D_nat (n := ps.length) (by omega)
  have hix : ∀ i, i < ps.length → ixD (.tuple (ps.map (·.2))) (iN i) = some (ps[i]?.getD ([], .none)).2 := fun i hi => by
    rw [ix_tup, atI_nat (by rw [List.length_map]; exact hi), List.getElem?_map, List.getElem?_eq_getElem hi]
    rfl
  have hdd : ∀ i, i < ps.length → m__law_tasks [(ps[i]?.getD ([], .none)).2] = W.ret (.list ((ps[i]?.getD ([], .none)).1.map iN)) := fun i hi => by
    rw [List.getElem?_eq_getElem hi]
    have := hp _ (List.getElem_mem hi)
    exact law_tasks_ok this.1 hn this.2
  have hps : (List.range ps.length).length < sizeLine := sl_of (by rw [List.length_range]; omega)
  generalize hP : PyData.tuple (ps.map (·.2)) = P at *
  have hi : opF rng1D (aCons (opL lenD (aCons (op2 ixD (eVar 0) (Mo.ret (.int 1))) (Mo.ret []))) (Mo.ret [])) [.d (.tuple [.str w, P]), b, c, e, .d (iN x), .no] = W.ret ((List.range ps.length).map iN, [.d (.tuple [.str w, P]), b, c, e, .d (iN x), .no]) := by
    clear hp hix hdd hP
    walk_at "vls"
  rw [lcM_of (List.range ps.length) iN (fun i => decide (x ∈ (ps[i]?.getD ([], .none)).1)) iN hi hps rfl ?ha]
  intro i hi'
  have hlt := List.mem_range.mp hi'
  have g1 := hix i hlt
  have g2 := hdd i hlt
  have g3 := inN_lst false x (ps[i]?.getD ([], .none)).1
  generalize ps[i]?.getD ([], .none) = q at *
  refine ⟨[.d (.tuple [.str w, P]), b, c, e, .d (iN x), .d (iN i)], rfl, ?_, fun _ => ?_, rfl⟩
  · clear hp hix hdd hP hi hr hlen hps hi' hlt
    walk_at "vls"
  · clear hp hix hdd hP hi hr hlen hps hi' hlt g1 g2 g3
    walk_at "vl"
theorem first_place {x : Nat} {ps : List (List Nat × PyData)} (hx : x ∈ ps.flatMap (·.1)) : ∃ (i : Nat) (q : List Nat × PyData) (r : List Nat), ps[i]? = some q ∧ x ∈ q.1 ∧ (List.range ps.length).filter (fun i => decide (x ∈ (ps[i]?.getD ([], .none)).1)) = i :: r := by
  obtain ⟨q, hq, hxq⟩ := List.mem_flatMap.mp hx
  obtain ⟨j, hj, ej⟩ := List.getElem_of_mem hq
  cases e : (List.range ps.length).filter (fun i => decide (x ∈ (ps[i]?.getD ([], .none)).1)) with
  | nil =>
    rw [List.filter_eq_nil_iff] at e
    have := e j (List.mem_range.mpr hj)
    rw [List.getElem?_eq_getElem hj, ej] at this
    exact absurd (decide_eq_true hxq) this
  | cons i r =>
    have hm : i ∈ (List.range ps.length).filter (fun i => decide (x ∈ (ps[i]?.getD ([], .none)).1)) := by rw [e]; exact List.mem_cons_self
    rw [List.mem_filter, List.mem_range, decide_eq_true_eq] at hm
    refine ⟨i, ps[i]'hm.1, r, List.getElem?_eq_getElem hm.1, ?_, rfl⟩
    have := hm.2
    rw [List.getElem?_eq_getElem hm.1] at this
    exact this
theorem law_relation_n {n : Nat} {ts : List Nat} {d : PyData} (h : IsP n ts d) (hn : n ≤ 20) (hl : ts.length ≤ 1000) {x y : Nat} (ne : x ≠ y) (hx : x ∈ ts) (hy : y ∈ ts) : ts.Nodup → ∃ w ∈ ks, m__law_relation_n n [d, iN x, iN y] = W.ret (.str w) := by
  induction h with
  | t n k =>
    rw [List.mem_singleton.mp hx, List.mem_singleton.mp hy] at ne
    exact absurd rfl ne
  | n n w ps hw hpl hq ih =>
    intro hnd
    have hall : ∀ q ∈ ps, IsP n q.1 q.2 ∧ q.1.length ≤ 1000 := fun q hq' => ⟨hq q hq', Nat.le_trans (flat_len hq') hl⟩
    obtain ⟨i, q, r, i1, i2, i3⟩ := first_place hx
    obtain ⟨j, p, s, j1, j2, j3⟩ := first_place hy
    have px := place_ok (w := w) (x := x) (by omega) hpl hall (.d (iN x)) (.d (iN y)) (.l [])
    have py := place_ok (w := w) (x := y) (by omega) hpl hall (.d (iN x)) (.d (iN y)) (.l [iN i])
    rw [i3] at px
    rw [j3] at py
    have hix : ixD (.tuple (ps.map (·.2))) (iN i) = some q.2 := by
      rw [ix_tup, atI_nat (by rw [List.length_map]; exact (List.getElem?_eq_some_iff.mp i1).1), List.getElem?_map, i1]
      rfl
    have a1 := app1_ok (xs := []) (d := iN i) (by simp)
    have a2 := app1_ok (xs := [iN i]) (d := iN j) (by simp)
    simp only [List.map_cons, List.nil_append, List.cons_append] at px py a1 a2
    have hb : eqD (.str w) (.str "beside") = some (.bool (decide (w = "beside"))) := eqD_str (need_kd hw).2.2 (by decide +kernel)
    have hij : eqD (iN i) (iN j) = some (.bool (decide (i = j))) := len_dec
    have hsub : i = j → ∃ v ∈ ks, m__law_relation_n n [q.2, iN x, iN y] = W.ret (.str v) := by
      intro e
      subst e
      rw [i1] at j1
      cases j1
      refine ih q (List.mem_of_getElem? i1) (by omega) (Nat.le_trans (flat_len (List.mem_of_getElem? i1)) hl) i2 j2 ?_
      have : q.1.Sublist (ps.flatMap (·.1)) := by
        obtain ⟨a, b, rfl⟩ := List.append_of_mem (List.mem_of_getElem? i1)
        rw [List.flatMap_append, List.flatMap_cons]
        exact (List.sublist_append_left _ _).trans (List.sublist_append_right _ _)
      exact hnd.sublist this
    have hlt : cmpI (fun i j => decide (i < j)) (iN i) (iN j) = some (.bool (decide (i < j))) := by
      rw [cmp_int]
      refine congrArg (fun b => some (PyData.bool b)) ?_
      rw [decide_eq_decide]
      omega
    have hi1 : ∀ b : Bool, intD [.bool b] = some (.int (if b then 1 else 0)) := fun _ => rfl
    unfold m__law_relation_n b__law_relation
    generalize hP : ps.map (·.2) = P at *
    have hturn : ∀ (c : Sl), forW (gN 4) (l1__law_relation (m__law_relation_n n)) [iN x, iN y] [.d (.tuple [.str w, .tuple P]), .d (iN x), .d (iN y), .l [], .no, .no] = W.ret (.nx, [.d (.tuple [.str w, .tuple P]), .d (iN x), .d (iN y), .l [iN i, iN j], .d (iN y), .no]) := by
      intro c
      unfold forW l1__law_relation
      clear ih hq hl hpl hnd hall i1 i2 i3 j1 j2 j3 hix hb hij hsub hlt hi1 hP ne hx hy hw
      walk_at "vl"
      rw [px]
      walk_at "vl"
      rw [a1]
      walk_at "vl"
      unfold forW
      walk_at "vl"
      rw [py]
      walk_at "vl"
      rw [a2]
      walk_at "vl"
      unfold forW
      rfl
    have hturn := hturn .no
    clear ih hq hl hpl hnd hall i1 i2 i3 j1 j2 j3 hP hx hy hw px py a1 a2
    by_cases e : i = j
    · obtain ⟨v, hv, ev⟩ := hsub e
      refine ⟨v, hv, ?_⟩
      rw [decide_eq_true e] at hij
      clear hsub e hb hlt ne hv
      generalize iN i = I at *
      generalize iN j = J at *
      walk_at "vls"
    · rw [decide_eq_false e] at hij
      by_cases hbe : w = "beside"
      · refine ⟨"beside", by decide, ?_⟩
        rw [decide_eq_true hbe] at hb
        clear hsub e hlt ne hbe
        generalize iN i = I at *
        generalize iN j = J at *
        walk_at "vls"
      · rw [decide_eq_false hbe] at hb
        by_cases hl2 : i < j
        · refine ⟨"before", by decide, ?_⟩
          rw [decide_eq_true hl2] at hlt
          clear hsub e ne hbe hl2
          generalize iN i = I at *
          generalize iN j = J at *
          walk_at "vls"
        · refine ⟨"after", by decide, ?_⟩
          rw [decide_eq_false hl2] at hlt
          clear hsub e ne hbe hl2
          generalize iN i = I at *
          generalize iN j = J at *
          walk_at "vls"
end VM

set_option Elab.async false
set_option linter.all false
set_option maxRecDepth 100000
set_option maxHeartbeats 1000000
/-! The laws' drawn plans, rules and problems. -/
namespace VM
open PySem VL KP RC
local macro_rules | `(tactic| walk_at "vl") => `(tactic| simp only [c_op1, c_op2, c_op2T, c_op2F, c_opL, c_opF, c_aCons, c_eList, c_eCall, c_eCall0, c_eCallS, stS_s, c_toT, c_tB1, c_tNotM, c_tAndM, c_tOrM, c_eAnd, c_eOr, c_eIf, c_eChain, chD_int, c_toO, intO_int, c_eSlice, c_toI, c_ret, c_bind, c_eVar, vS_d, vS_l, vS_ll, peekS_d, peekS_l, c_peek, c_bLen, c_bIx, c_bIn, c_bTru, c_bTup, c_bLst, c_bSort, c_bAddL, lS_l, c_eAppend, c_eExtend, c_ePop, c_ePopAt, seqR_nx, seqR_bk, seqR_ct, seqR_rt, c_sSeq, c_sNil, c_sRet, c_sRetN, c_sExpr, c_sBreak, c_sCont, c_stD, c_sSet, c_sSetL, c_sSetLL, c_sIf, c_sAsg, c_gR, dS_d, c_sAug, c_sFor, raR_str, c_sRaise, c_gN, gTp_tup, gCs, gNl, callR_nx, callR_rt, c_callM, c_callMS, c_wipe, c_wipe0, c_fSortSet, c_eDGet, c_sSetT, c_eRg1, c_eIndexL, vS_t, bD_bool, outD_some, W.ret_bind, W_bind_assoc, W.opt_some, W.opt_none, W.nox_ret, sAt_z, sAt_s, sAt_nil, Option.bind_some, Option.bind_none, Option.map_some, List.set_cons_zero, List.set_cons_succ, List.length_cons, List.length_nil, List.length_set, start0, List.map_cons, List.map_nil, List.cons_append, List.nil_append, List.append_nil, List.replicate_succ, List.replicate_zero, Nat.reduceAdd, Nat.reduceSub, Nat.reduceLT, Nat.reduceLeDiff, Nat.zero_add, Nat.add_zero, Nat.lt_add_left_iff_pos, Nat.succ_pos, if_true, if_false, ite_true, ite_false, reduceIte, reduceCtorEq, Bool.false_eq_true, Bool.true_and, Bool.and_true, Bool.false_and, Bool.and_false, Bool.not_true, Bool.not_false, Bool.xor_false, Bool.xor_true, Bool.false_xor, Bool.true_xor, Bool.not_not, decide_eq_true_eq, decide_true, decide_false, decide_eq_false_iff_not, Bool.not_eq_true', Bool.not_eq_false', beq_self_eq_true, isi_int_int, isi_int_bool, isi_int_str, isi_int_non, isi_int_tup, isi_int_lst, isi_bool_int, isi_bool_bool, isi_bool_str, isi_bool_non, isi_bool_tup, isi_bool_lst, isi_str_int, isi_str_bool, isi_str_str, isi_str_non, isi_str_tup, isi_str_lst, isi_tup_int, isi_tup_bool, isi_tup_str, isi_tup_non, isi_tup_tup, isi_tup_lst, isi_lst_int, isi_lst_bool, isi_lst_str, isi_lst_non, isi_lst_tup, isi_lst_lst, tru_bool, not_bool, isN_none, isN_bool, isN_int, isN_str, isN_tup, isN_lst, isB_bool, cmp_int, add_int, iadd_int, sub_int, neg_int, len_tup, len_lst, tuple_lst, tuple_tup, list_lst, list_tup, seq_lst, seq_tup, ix_tup, ix_lst, tupD, lstD, K_, atI_0, atI_1, atI_2, atI_3, eqD_int, neD_int, eqD_bool, bCase_bool, Int.cast_ofNat_Int, Int.natCast_zero, Int.natCast_one, Int.reduceBNe, Int.reduceBEq, Int.reduceLT, Int.reduceLE, bne_self_eq_false])
local macro_rules | `(tactic| walk_at "vls") => `(tactic| simp only [c_op1, c_op2, c_op2T, c_op2F, c_opL, c_opF, c_aCons, c_eList, c_eCall, c_eCall0, c_eCallS, stS_s, c_toT, c_tB1, c_tNotM, c_tAndM, c_tOrM, c_eAnd, c_eOr, c_eIf, c_eChain, chD_int, c_toO, intO_int, c_eSlice, c_toI, c_ret, c_bind, c_eVar, vS_d, vS_l, vS_ll, peekS_d, peekS_l, c_peek, c_bLen, c_bIx, c_bIn, c_bTru, c_bTup, c_bLst, c_bSort, c_bAddL, lS_l, c_eAppend, c_eExtend, c_ePop, c_ePopAt, seqR_nx, seqR_bk, seqR_ct, seqR_rt, c_sSeq, c_sNil, c_sRet, c_sRetN, c_sExpr, c_sBreak, c_sCont, c_stD, c_sSet, c_sSetL, c_sSetLL, c_sIf, c_sAsg, c_gR, dS_d, c_sAug, c_sFor, raR_str, c_sRaise, c_gN, gTp_tup, gCs, gNl, callR_nx, callR_rt, c_callM, c_callMS, c_wipe, c_wipe0, c_fSortSet, c_eDGet, c_sSetT, c_eRg1, c_eIndexL, vS_t, bD_bool, outD_some, W.ret_bind, W_bind_assoc, W.opt_some, W.opt_none, W.nox_ret, sAt_z, sAt_s, sAt_nil, Option.bind_some, Option.bind_none, Option.map_some, List.set_cons_zero, List.set_cons_succ, List.length_cons, List.length_nil, List.length_set, start0, List.map_cons, List.map_nil, List.cons_append, List.nil_append, List.append_nil, List.replicate_succ, List.replicate_zero, Nat.reduceAdd, Nat.reduceSub, Nat.reduceLT, Nat.reduceLeDiff, Nat.zero_add, Nat.add_zero, Nat.lt_add_left_iff_pos, Nat.succ_pos, if_true, if_false, ite_true, ite_false, reduceIte, reduceCtorEq, Bool.false_eq_true, Bool.true_and, Bool.and_true, Bool.false_and, Bool.and_false, Bool.not_true, Bool.not_false, Bool.xor_false, Bool.xor_true, Bool.false_xor, Bool.true_xor, Bool.not_not, decide_eq_true_eq, decide_true, decide_false, decide_eq_false_iff_not, Bool.not_eq_true', Bool.not_eq_false', beq_self_eq_true, isi_int_int, isi_int_bool, isi_int_str, isi_int_non, isi_int_tup, isi_int_lst, isi_bool_int, isi_bool_bool, isi_bool_str, isi_bool_non, isi_bool_tup, isi_bool_lst, isi_str_int, isi_str_bool, isi_str_str, isi_str_non, isi_str_tup, isi_str_lst, isi_tup_int, isi_tup_bool, isi_tup_str, isi_tup_non, isi_tup_tup, isi_tup_lst, isi_lst_int, isi_lst_bool, isi_lst_str, isi_lst_non, isi_lst_tup, isi_lst_lst, tru_bool, not_bool, isN_none, isN_bool, isN_int, isN_str, isN_tup, isN_lst, isB_bool, cmp_int, add_int, iadd_int, sub_int, neg_int, len_tup, len_lst, tuple_lst, tuple_tup, list_lst, list_tup, seq_lst, seq_tup, ix_tup, ix_lst, tupD, lstD, K_, atI_0, atI_1, atI_2, atI_3, eqD_int, neD_int, eqD_bool, bCase_bool, Int.cast_ofNat_Int, Int.natCast_zero, Int.natCast_one, Int.reduceBNe, Int.reduceBEq, Int.reduceLT, Int.reduceLE, bne_self_eq_false, *])
theorem erase_perm {α : Type} : ∀ {l : List α} {i : Nat} {x : α}, l[i]? = some x → (x :: l.eraseIdx i).Perm l
  | [], i, x, h => by simp at h
  | y :: l, 0, x, h => by
    simp at h
    subst h
    exact List.Perm.refl _
  | y :: l, i + 1, x, h => by
    have h : l[i]? = some x := by simpa using h
    exact (List.Perm.swap _ _ _).trans ((erase_perm h).cons y)
theorem erase_map {α β : Type} (f : α → β) : ∀ (l : List α) (i : Nat), (l.map f).eraseIdx i = (l.eraseIdx i).map f
  | [], i => by cases i <;> rfl
  | x :: l, 0 => rfl
  | x :: l, i + 1 => by
    show f x :: (l.map f).eraseIdx i = f x :: (l.eraseIdx i).map f
    rw [erase_map f l i]
theorem pop_nat {l : List Nat} {i x : Nat} (h : l[i]? = some x) (hl : l.length ≤ 1000) : popAt1 (l.map iN) (.int (i : Nat)) = some ((l.eraseIdx i).map iN, iN x) := by
  obtain ⟨hi, _⟩ := List.getElem?_eq_some_iff.mp h
  show (if P63 (i : Int) then (seqIndex? (i : Int) (l.map iN).length).bind fun n => (l.map iN)[n]?.bind fun d => some ((l.map iN).eraseIdx n, d) else none) = _
  rw [if_pos (show P63 (i : Int) from ⟨by omega, by omega⟩), seqIndex_of (by omega) (by rw [List.length_map]; omega), Int.toNat_natCast]
  show ((l.map iN)[i]?.bind _) = _
  rw [List.getElem?_map, h]
  show some ((l.map iN).eraseIdx i, iN x) = _
  rw [erase_map]
/-- a comprehension whose element changes what stands -/
theorem lcW_inv {α : Type} {vs : List Nat} {g : GF} {m : Mo PyData} (emb : α → PyData) : ∀ (l : List α) (I : Nat → List PyData → En → Prop) (k : Nat) (out : List PyData) (env : En), I k out env →
    (∀ i x out env, l[i]? = some x → I (k + i) out env → ∃ e, g (emb x) (wipeE vs env) = some e ∧ (m e).run (fun r => I (k + i + 1) (out ++ [r.1]) r.2) (fun _ => False)) →
    ∀ (Q : List PyData × En → Prop) (E : Er → Prop), (∀ o env', I (k + l.length) (out ++ o) env' → Q (o, env')) → (lcW vs g tTr m (l.map emb) env).run Q E
  | [], I, k, out, env, h0, hs, Q, E, hq => hq [] env (by rw [List.append_nil]; exact h0)
  | x :: l, I, k, out, env, h0, hs, Q, E, hq => by
    obtain ⟨e, e1, e2⟩ := hs 0 x out env rfl h0
    rw [List.map_cons]
    unfold lcW
    rw [e1]
    refine (m e).mono (fun r hr => ?_) (fun _ z => z.elim) e2
    refine lcW_inv emb l I (k + 1) (out ++ [r.1]) r.2 hr (fun i y o env hy hI => ?_) (fun q => Q (r.1 :: q.1, q.2)) E fun o env' hI => hq (r.1 :: o) env' ?_
    · have := hs (i + 1) y o env hy (by rw [show k + (i + 1) = k + 1 + i by omega]; exact hI)
      rw [show k + (i + 1) + 1 = k + 1 + i + 1 by omega] at this
      exact this
    · rw [List.append_assoc, show k + 1 + l.length = k + (x :: l).length by rw [List.length_cons]; omega] at hI
      exact hI
theorem lcM_inv {α : Type} {vs : List Nat} {g : GF} {m : Mo PyData} {mi : Mo (List PyData)} {env : En} {Q : List PyData × En → Prop} {E : Er → Prop} (l : List α) (emb : α → PyData) (I : Nat → List PyData → En → Prop) (hi : mi env = W.ret (l.map emb, env)) (hl : l.length < sizeLine) (hp : vs.all (fun j => plainS (sAt env j)) = true) (h0 : I 0 [] env)
    (hs : ∀ i x out env, l[i]? = some x → I i out env → ∃ e, g (emb x) (wipeE vs env) = some e ∧ (m e).run (fun r => I (i + 1) (out ++ [r.1]) r.2) (fun _ => False)) (hq : ∀ out env', I l.length out env' → Q (out, restE env vs env')) : (lcM vs mi g tTr m env).run Q E := by
  unfold lcM
  rw [hi]
  show ((W.opt (if Lc_ (vs.all fun j => plainS (sAt env j)) (l.map emb).length then some () else none)).bind fun _ => (lcW vs g tTr m (l.map emb) env).bind fun q => W.ret (q.1, restE env vs q.2)).run Q E
  rw [if_pos ⟨hp, by rw [List.length_map]; exact hl⟩]
  refine lcW_inv emb l I 0 [] env h0 (fun i x out env hx hI => ?_) _ E fun o env' hI => ?_
  · rw [Nat.zero_add] at hI ⊢
    exact hs i x out env hx hI
  · rw [Nat.zero_add] at hI
    exact hq o env' hI
/-- some tasks are drawn -/
theorem block_run {row : List Nat} {size : Nat} (hs : size ≤ row.length) (h7 : row.length ≤ 7) (a b d e g : Sl) {Q : List PyData × En → Prop} {E : Er → Prop}
    (hq : ∀ blk row' : List Nat, (blk ++ row').Perm row → blk.length = size → Q (blk.map iN, [.s, a, b, .l (row'.map iN), d, e, .d (iN size), .no, g])) :
    (lcM [7] (opF rng1D (aCons (eVar 6) (Mo.ret []))) (gN 7) tTr (ePopAt 3 (eCallS 0 mNext (aCons (bLen 3) (Mo.ret [])))) [.s, a, b, .l (row.map iN), d, e, .d (iN size), .no, g]).run Q E := by
  have hr := rng1D_nat (n := size) (by omega)
  refine lcM_inv (List.range size) iN (fun i out env => ∃ (blk row' : List Nat) (c : Sl), out = blk.map iN ∧ (blk ++ row').Perm row ∧ blk.length = i ∧ env = [.s, a, b, .l (row'.map iN), d, e, .d (iN size), c, g]) (by walk_at "vls") (sl_of (by rw [List.length_range]; omega)) rfl ⟨[], row, .no, rfl, List.Perm.refl _, rfl, rfl⟩ ?hs ?hq
  case hq =>
    rintro out env' ⟨blk, row', c, rfl, hp, hl, rfl⟩
    rw [List.length_range] at hl
    exact hq blk row' hp hl
  case hs =>
    rintro i x out env hx ⟨blk, row', c, rfl, hp, hl, rfl⟩
    obtain ⟨hi1, _⟩ := List.getElem?_eq_some_iff.mp hx
    rw [List.length_range] at hi1
    have hlen := hp.length_eq
    rw [List.length_append] at hlen
    refine ⟨_, rfl, ?_⟩
    walk_at "vl"
    rw [List.length_map, W_run_bind]
    refine mNext_run (by omega) (by omega) fun j g0 gj => ?_
    obtain ⟨j, rfl⟩ := nat_of g0
    have hj : j < row'.length := by omega
    have e1 := pop_nat (List.getElem?_eq_getElem hj) (by omega)
    have hpe := erase_perm (List.getElem?_eq_getElem hj)
    generalize row'[j] = t at *
    generalize row'.eraseIdx j = row2 at *
    try walk_at "vl"
    rw [e1]
    walk_at "vl"
    refine ⟨blk ++ [t], row2, .d (iN x), by rw [List.map_append]; rfl, ?_, by rw [List.length_append, hl]; rfl, rfl⟩
    rw [List.append_assoc]
    exact (List.Perm.append_left blk hpe).trans hp
theorem other_word {w : Str} (hw : w = "beside" ∨ w = "then") : ∃ v : Str, (v = "beside" ∨ v = "then") ∧ ixD (.list [.str "then", .str "beside"]) (.int (if w = "then" then 1 else 0)) = some (.str v) := by
  rcases hw with rfl | rfl
  · exact ⟨"then", .inr rfl, rfl⟩
  · exact ⟨"beside", .inl rfl, rfl⟩
theorem drawn_n : ∀ (n : Nat) (ts : List Nat) (w : Str), ts.length ≤ n → ts ≠ [] → ts.length ≤ 7 → (w = "beside" ∨ w = "then") → ∀ {Q : PyData → Prop} {E : Er → Prop}, (∀ d ts', IsP n ts' d → ts'.Perm ts → Q d) → (m__law_drawn_plan_n n [.list (ts.map iN), .str w]).run Q E
  | 0, ts, w, h, h0, _, _, Q, E, _ => absurd (List.length_eq_zero_iff.mp (by omega)) h0
  | n + 1, ts, w, h, h0, h7, hw, Q, E, hq => by
    obtain ⟨v, hv, ev⟩ := other_word hw
    rw [ix_lst] at ev
    have hwt : eqD (.str w) (.str "then") = some (.bool (decide (w = "then"))) := eqD_str (need_kd hw).2.2 (by decide +kernel)
    have hpos := List.length_pos_iff.mpr h0
    unfold m__law_drawn_plan_n b__law_drawn_plan
    by_cases h1 : ts.length = 1
    · obtain ⟨k, rfl⟩ := List.length_eq_one_iff.mp h1
      have fin := hq (iN k) [k] (.t n k) (List.Perm.refl _)
      clear hq h0 h7 h1 h hpos hwt ev
      have e1 : ((1 : Int) == 1) = true := by decide
      walk_at "vls"
      exact fin
    · have e1 : (((ts.map iN).length : Int) == 1) = false := by rw [beq_eq_false_iff_ne, List.length_map]; omega
      have e2 := rng1D_nat (n := ts.length) (by omega)
      walk_at "vl"
      rw [e1]
      walk_at "vl"
      rw [List.length_map, e2]
      walk_at "vl"
      rw [W_run_bind]
      refine forW_of (List.range ts.length) (fun k : Nat => PyData.int (k : Int)) (fun i env => ∃ (row : List Nat) (ps : List (List Nat × PyData)) (c d f : Sl), (ps.flatMap (·.1) ++ row).Perm ts ∧ (∀ q ∈ ps, IsP n q.1 q.2) ∧ (i = 0 → ps = []) ∧ row.length ≤ ts.length - i ∧ ps.length ≤ i ∧ env = [.s, .d (.list (ts.map iN)), .d (.str w), .l (row.map iN), .l (ps.map (·.2)), c, d, .no, f]) ⟨ts, [], .no, .no, .no, (by simp), (fun q hq => nomatch hq), (fun _ => rfl), by omega, Nat.le_refl _, rfl⟩ ?hs ?hd
      case hd =>
        rintro env ⟨row, ps, c, d, f, hp, hps, _, hr, hpl, rfl⟩
        rw [List.length_range] at hr hpl
        have hr0 : row = [] := List.length_eq_zero_iff.mp (by omega)
        subst hr0
        rw [List.append_nil] at hp
        have fin := hq _ _ (.n n w ps hw (by omega) hps) hp
        clear hq hp hps hr hpl ev hwt hv hw h h0 h1 e1 e2 h7 hpos
        walk_at "vl"
        exact fin
      case hs =>
        rintro i x env hx ⟨row, ps, c, d, f, hp, hps, hi0, hr, hpl, rfl⟩
        obtain ⟨hi1, hi2⟩ := List.getElem?_eq_some_iff.mp hx
        rw [List.length_range] at hi1
        rw [List.getElem_range] at hi2
        subst hi2
        refine ⟨_, rfl, ?_⟩
        have hlen := hp.length_eq
        rw [List.length_append] at hlen
        unfold l1__law_drawn_plan
        by_cases hrow : row = []
        · subst hrow
          have et : truD (.list []) = some false := rfl
          rw [List.map_nil]
          walk_at "vls"
          exact ⟨[], ps, _, _, _, hp, hps, (fun z => by first | exact z.elim | omega), by simp, by omega, rfl⟩
        · have hrpos := List.length_pos_iff.mpr hrow
          have et : truD (.list (row.map iN)) = some true := by
            cases row with
            | nil => exact absurd rfl hrow
            | cons _ _ => rfl
          have hz : ((i : Int) == 0) = decide (i = 0) := by
            rw [Bool.eq_iff_iff, beq_iff_eq, decide_eq_true_eq]
            omega
          -- how many
          have hsub : ∃ m : Nat, 1 ≤ m ∧ m ≤ 7 ∧ m ≤ row.length ∧ (m < ts.length) ∧ ((row.length : Nat) : Int) - (if i = 0 then 1 else 0) = (m : Int) := by
            by_cases hi : i = 0
            · have hps0 := hi0 hi
              subst hps0
              rw [List.flatMap_nil, List.nil_append] at hp
              have := hp.length_eq
              refine ⟨row.length - 1, by omega, by omega, by omega, by omega, ?_⟩
              rw [if_pos hi]
              omega
            · refine ⟨row.length, by omega, by omega, Nat.le_refl _, by omega, ?_⟩
              rw [if_neg hi]
              omega
          obtain ⟨m, m1, m7, mr, mt, em⟩ := hsub
          have ei : ∀ b : Bool, intD [.bool b] = some (.int (if b then 1 else 0)) := fun _ => rfl
          try walk_at "vl"
          rw [et]
          try walk_at "vl"
          rw [List.length_map, hz]
          try walk_at "vl"
          rw [ei]
          try walk_at "vl"
          rw [em, W_run_bind]
          refine mNext_run (by omega) (by omega) fun j g0 gj => ?_
          obtain ⟨j, rfl⟩ := nat_of g0
          have ad : addD (.int 1) (.int (j : Int)) = some (.int ((1 + j : Nat) : Int)) := by
            rw [add_int]
            exact congrArg (fun b => some (PyData.int b)) (by omega)
          rw [ad]
          try walk_at "vl"
          rw [W_run_bind]
          refine block_run (size := 1 + j) (by omega) (by omega) _ _ _ _ _ fun blk row' hp2 hb => ?_
          have hl2 := hp2.length_eq
          rw [List.length_append] at hl2
          try walk_at "vl"
          rw [hwt]
          try walk_at "vl"
          rw [ei]
          try walk_at "vl"
          rw [ev]
          try walk_at "vl"
          rw [W_run_bind]
          refine drawn_n n blk v (by omega) (fun z => by rw [z] at hb; simp at hb; omega) (by omega) hv fun dd ts' hd1 hd2 => ?_
          have ea := app1_ok (xs := ps.map (·.2)) (d := dd) (by rw [List.length_map]; omega)
          try walk_at "vl"
          rw [ea]
          try walk_at "vl"
          refine ⟨row', ps ++ [(ts', dd)], _, _, _, ?_, fun q hq' => ?_, (fun z => by first | exact z.elim | omega), by omega, by rw [List.length_append, List.length_singleton]; omega, by rw [List.map_append]; rfl⟩
          · rw [List.flatMap_append, List.flatMap_singleton, List.append_assoc]
            exact (List.Perm.append_left _ ((List.Perm.append_right row' hd2).trans hp2)).trans hp
          · rcases List.mem_append.mp hq' with z | z
            · exact hps q z
            · rw [List.mem_singleton.mp z]; exact hd1
end VM

set_option Elab.async false
set_option linter.all false
set_option maxRecDepth 100000
set_option maxHeartbeats 1000000
/-! The laws' drawn rules and problems; words and their opposites. -/
namespace VM
open PySem VL KP RC
local macro_rules | `(tactic| walk_at "vl") => `(tactic| simp only [c_op1, c_op2, c_op2T, c_op2F, c_opL, c_opF, c_aCons, c_eList, c_eCall, c_eCall0, c_eCallS, stS_s, c_toT, c_tB1, c_tNotM, c_tAndM, c_tOrM, c_eAnd, c_eOr, c_eIf, c_eChain, chD_int, c_toO, intO_int, c_eSlice, c_toI, c_ret, c_bind, c_eVar, vS_d, vS_l, vS_ll, peekS_d, peekS_l, c_peek, c_bLen, c_bIx, c_bIn, c_bTru, c_bTup, c_bLst, c_bSort, c_bAddL, lS_l, c_eAppend, c_eExtend, c_ePop, c_ePopAt, seqR_nx, seqR_bk, seqR_ct, seqR_rt, c_sSeq, c_sNil, c_sRet, c_sRetN, c_sExpr, c_sBreak, c_sCont, c_stD, c_sSet, c_sSetL, c_sSetLL, c_sIf, c_sAsg, c_gR, dS_d, c_sAug, c_sFor, raR_str, c_sRaise, c_gN, gTp_tup, gCs, gNl, callR_nx, callR_rt, c_callM, c_callMS, c_wipe, c_wipe0, c_fSortSet, c_eDGet, c_sSetT, c_eRg1, c_eIndexL, vS_t, bD_bool, outD_some, W.ret_bind, W_bind_assoc, W.opt_some, W.opt_none, W.nox_ret, sAt_z, sAt_s, sAt_nil, Option.bind_some, Option.bind_none, Option.map_some, List.set_cons_zero, List.set_cons_succ, List.length_cons, List.length_nil, List.length_set, start0, List.map_cons, List.map_nil, List.cons_append, List.nil_append, List.append_nil, List.replicate_succ, List.replicate_zero, Nat.reduceAdd, Nat.reduceSub, Nat.reduceLT, Nat.reduceLeDiff, Nat.zero_add, Nat.add_zero, Nat.lt_add_left_iff_pos, Nat.succ_pos, if_true, if_false, ite_true, ite_false, reduceIte, reduceCtorEq, Bool.false_eq_true, Bool.true_and, Bool.and_true, Bool.false_and, Bool.and_false, Bool.not_true, Bool.not_false, Bool.xor_false, Bool.xor_true, Bool.false_xor, Bool.true_xor, Bool.not_not, decide_eq_true_eq, decide_true, decide_false, decide_eq_false_iff_not, Bool.not_eq_true', Bool.not_eq_false', beq_self_eq_true, isi_int_int, isi_int_bool, isi_int_str, isi_int_non, isi_int_tup, isi_int_lst, isi_bool_int, isi_bool_bool, isi_bool_str, isi_bool_non, isi_bool_tup, isi_bool_lst, isi_str_int, isi_str_bool, isi_str_str, isi_str_non, isi_str_tup, isi_str_lst, isi_tup_int, isi_tup_bool, isi_tup_str, isi_tup_non, isi_tup_tup, isi_tup_lst, isi_lst_int, isi_lst_bool, isi_lst_str, isi_lst_non, isi_lst_tup, isi_lst_lst, tru_bool, not_bool, isN_none, isN_bool, isN_int, isN_str, isN_tup, isN_lst, isB_bool, cmp_int, add_int, iadd_int, sub_int, neg_int, len_tup, len_lst, tuple_lst, tuple_tup, list_lst, list_tup, seq_lst, seq_tup, ix_tup, ix_lst, tupD, lstD, K_, atI_0, atI_1, atI_2, atI_3, eqD_int, neD_int, eqD_bool, bCase_bool, Int.cast_ofNat_Int, Int.natCast_zero, Int.natCast_one, Int.reduceBNe, Int.reduceBEq, Int.reduceLT, Int.reduceLE, bne_self_eq_false])
local macro_rules | `(tactic| walk_at "vls") => `(tactic| simp only [c_op1, c_op2, c_op2T, c_op2F, c_opL, c_opF, c_aCons, c_eList, c_eCall, c_eCall0, c_eCallS, stS_s, c_toT, c_tB1, c_tNotM, c_tAndM, c_tOrM, c_eAnd, c_eOr, c_eIf, c_eChain, chD_int, c_toO, intO_int, c_eSlice, c_toI, c_ret, c_bind, c_eVar, vS_d, vS_l, vS_ll, peekS_d, peekS_l, c_peek, c_bLen, c_bIx, c_bIn, c_bTru, c_bTup, c_bLst, c_bSort, c_bAddL, lS_l, c_eAppend, c_eExtend, c_ePop, c_ePopAt, seqR_nx, seqR_bk, seqR_ct, seqR_rt, c_sSeq, c_sNil, c_sRet, c_sRetN, c_sExpr, c_sBreak, c_sCont, c_stD, c_sSet, c_sSetL, c_sSetLL, c_sIf, c_sAsg, c_gR, dS_d, c_sAug, c_sFor, raR_str, c_sRaise, c_gN, gTp_tup, gCs, gNl, callR_nx, callR_rt, c_callM, c_callMS, c_wipe, c_wipe0, c_fSortSet, c_eDGet, c_sSetT, c_eRg1, c_eIndexL, vS_t, bD_bool, outD_some, W.ret_bind, W_bind_assoc, W.opt_some, W.opt_none, W.nox_ret, sAt_z, sAt_s, sAt_nil, Option.bind_some, Option.bind_none, Option.map_some, List.set_cons_zero, List.set_cons_succ, List.length_cons, List.length_nil, List.length_set, start0, List.map_cons, List.map_nil, List.cons_append, List.nil_append, List.append_nil, List.replicate_succ, List.replicate_zero, Nat.reduceAdd, Nat.reduceSub, Nat.reduceLT, Nat.reduceLeDiff, Nat.zero_add, Nat.add_zero, Nat.lt_add_left_iff_pos, Nat.succ_pos, if_true, if_false, ite_true, ite_false, reduceIte, reduceCtorEq, Bool.false_eq_true, Bool.true_and, Bool.and_true, Bool.false_and, Bool.and_false, Bool.not_true, Bool.not_false, Bool.xor_false, Bool.xor_true, Bool.false_xor, Bool.true_xor, Bool.not_not, decide_eq_true_eq, decide_true, decide_false, decide_eq_false_iff_not, Bool.not_eq_true', Bool.not_eq_false', beq_self_eq_true, isi_int_int, isi_int_bool, isi_int_str, isi_int_non, isi_int_tup, isi_int_lst, isi_bool_int, isi_bool_bool, isi_bool_str, isi_bool_non, isi_bool_tup, isi_bool_lst, isi_str_int, isi_str_bool, isi_str_str, isi_str_non, isi_str_tup, isi_str_lst, isi_tup_int, isi_tup_bool, isi_tup_str, isi_tup_non, isi_tup_tup, isi_tup_lst, isi_lst_int, isi_lst_bool, isi_lst_str, isi_lst_non, isi_lst_tup, isi_lst_lst, tru_bool, not_bool, isN_none, isN_bool, isN_int, isN_str, isN_tup, isN_lst, isB_bool, cmp_int, add_int, iadd_int, sub_int, neg_int, len_tup, len_lst, tuple_lst, tuple_tup, list_lst, list_tup, seq_lst, seq_tup, ix_tup, ix_lst, tupD, lstD, K_, atI_0, atI_1, atI_2, atI_3, eqD_int, neD_int, eqD_bool, bCase_bool, Int.cast_ofNat_Int, Int.natCast_zero, Int.natCast_one, Int.reduceBNe, Int.reduceBEq, Int.reduceLT, Int.reduceLE, bne_self_eq_false, *])
abbrev ksD : List PyData := [.str "before", .str "beside", .str "after"]
theorem ksD_eq : ksD = ks.map .str := rfl
theorem relations_ok : m__law_relations [] = W.ret (.list ksD) := by
  have h : lstD ksD = some ksD := lstD_le (by simp)
  unfold m__law_relations b__law_relations callM
  show (W.bind (W.bind (W.bind (W.bind (W.opt (lstD ksD)) (fun a => W.ret (a, ([] : En)))) (fun r => W.ret (PyData.list r.1, r.2))) (fun r => W.ret (Fl.rt r.1, r.2))) _) = _
  rw [h]
  rfl
theorem some_plan_run {n : Nat} (h1 : 1 ≤ n) (h7 : n ≤ 7) {Q : PyData → Prop} {E : Er → Prop} (hq : ∀ d ts, IsP 20 ts d → ts.Perm (List.range n) → Q d) : (m__law_some_plan [iN n]).run Q E := by
  have e1 := lrgN (n := n) (by omega)
  have hT := fun w hw => @drawn_n 20 (List.range n) w (by rw [List.length_range]; omega) (fun z => by have := congrArg List.length z; rw [List.length_range] at this; simp at this; omega) (by rw [List.length_range]; omega) hw
  unfold m__law_some_plan b__law_some_plan m__law_drawn_plan
  have e2 : fRg1 (eVar 1) [.s, .d (iN n)] = W.ret ((List.range n).map iN, [.s, .d (iN n)]) := by
    have : fRg1 (eVar 1) [.s, .d (iN n)] = ((W.opt (lrg1 (iN n))).bind fun ds => W.ret (ds, [Sl.s, .d (iN n)])) := rfl
    rw [this, e1]
    rfl
  walk_at "vl"
  rw [e2]
  walk_at "vl"
  rw [W_run_bind]
  refine mNext_run (by omega) (by omega) fun i g0 gi => ?_
  have : i = 0 ∨ i = 1 := by omega
  rcases this with rfl | rfl
  · try walk_at "vl"
    exact hT "then" (.inr rfl) hq
  · try walk_at "vl"
    exact hT "beside" (.inl rfl) hq
theorem find_strs {l : List Str} {w : Str} (hw : PyData.strOk w = true) (hl : ∀ x ∈ l, PyData.strOk x = true) : indexD (.list (l.map .str)) (.str w) = (l.findIdx? fun z => decide (z = w)).map fun j => .int (j : Nat) := by
  have hg : Gd 1 (.list (l.map PyData.str)) := .lst fun x hx => by
    obtain ⟨y, hy, rfl⟩ := List.mem_map.mp hx
    exact .str (hl y hy)
  show (if SeqAt.shaped (.list (l.map PyData.str)) = true ∧ SeqAt.shaped (.str w) = true then ((l.map PyData.str).findIdx? fun z => PyData.eqv z (.str w)).map fun j => PyData.int (j : Nat) else none) = _
  rw [if_pos ⟨hg.dn.sh (by decide), (Gd.str (n := 0) hw).dn.sh (by decide)⟩, List.findIdx?_map]
  have : ((fun z => PyData.eqv z (.str w)) ∘ PyData.str) = fun z => decide (z = w) := by
    funext z
    exact eqv_dec (nb_str z) (nb_str w) (by rw [PyData.str.injEq])
  rw [this]
theorem law_opposite_ok {w : Str} (h : w ∈ ks) : m__law_opposite [.str w] = W.ret (.str (opp w)) := by
  have f0 := relations_ok
  have f1 := find_strs (l := ks) (w := w) (ks_ok w h) ks_ok
  rw [← ksD_eq] at f1
  have f3 : lsD (.list ksD) = some () := rfl
  unfold m__law_opposite b__law_opposite
  rw [ks_mem] at h
  rcases h with rfl | rfl | rfl
  · have f2 : indexD (.list ksD) (.str "before") = some (.int 0) := f1.trans rfl
    have e : opp "before" = "after" := rfl
    rw [e]
    clear f1 e
    walk_at "vls"
  · have f2 : indexD (.list ksD) (.str "beside") = some (.int 1) := f1.trans rfl
    have e : opp "beside" = "beside" := rfl
    rw [e]
    clear f1 e
    walk_at "vls"
  · have f2 : indexD (.list ksD) (.str "after") = some (.int 2) := f1.trans rfl
    have e : opp "after" = "before" := rfl
    rw [e]
    clear f1 e
    walk_at "vls"
theorem law_opposites_ok {l : List Str} (hl : ∀ x ∈ l, x ∈ ks) : m__law_opposites [.tuple (l.map .str)] = W.ret (.tuple ((ks.filter fun x => decide (opp x ∈ l)).map .str)) := by
  have f0 := relations_ok
  have hi : toI (eCall0 m__law_relations) [.d (.tuple (l.map .str)), .no] = W.ret (ks.map .str, [.d (.tuple (l.map .str)), .no]) := by
    rw [← ksD_eq]
    walk_at "vls"
  unfold m__law_opposites b__law_opposites
  walk_at "vl"
  rw [lcM_of ks .str (fun x => decide (opp x ∈ l)) .str hi (by decide) rfl ?ha]
  · walk_at "vl"
  · intro x hx
    have g1 := law_opposite_ok hx
    have g2 : inD false (.str (opp x)) (.tuple (l.map .str)) = some (.bool (decide (opp x ∈ l))) := by
      rw [inD_tup (Gd.str (n := 0) (ks_ok _ (opp_ks hx).1)) (fun z hz => by obtain ⟨y, hy, rfl⟩ := List.mem_map.mp hz; exact Gd.str (n := 0) (sub_ok hl y hy)) mem_strs, Bool.false_xor]
    refine ⟨_, rfl, ?_, fun _ => ?_, rfl⟩
    · clear hi f0 hl hx
      walk_at "vls"
    · clear hi f0 hl hx g1 g2
      walk_at "vl"
noncomputable def rsr : SM := (sRet (opL tupD (aCons (eVar 3) (aCons (opL tupleD (aCons (eList (lcM [5] (toI (eCall0 m__law_relations)) (gN 5) (tB1 (bIn false 6 (eVar 5))) (eVar 5))) (Mo.ret []))) (aCons (eVar 4) (Mo.ret []))))))
noncomputable def rr2 : SM := (sSeq (sIf (tNotM (bTru 6))
  (sSetL 6 (opF lstD (aCons (op2 ixD (eCall0 m__law_relations) (eCallS 0 mNext (aCons (Mo.ret (.int 3)) (Mo.ret [])))) (Mo.ret []))))
  sNil)
  rsr)
noncomputable def rif : SM := (sIf (tB1 (op1 (isND true) (eVar 2)))
  (sExpr (eAppend 6 (eCall m__law_relation (aCons (eVar 2) (aCons (eVar 3) (aCons (eVar 4) (Mo.ret [])))))))
  sNil)
theorem rule_eq : b__law_rule = (sSeq (sSet 3 (eCallS 0 mNext (aCons (eVar 1) (Mo.ret []))))
  (sSeq (sSet 4 (eCallS 0 mNext (aCons (op2 subD (eVar 1) (Mo.ret (.int 1))) (Mo.ret []))))
  (sSeq (sSet 4 (op2 addD (eVar 4) (opL intD (aCons (op2 geD (eVar 4) (eVar 3)) (Mo.ret [])))))
  (sSeq (sSetL 6 (lcM [5] (toI (eCall0 m__law_relations)) (gN 5) (op2T eqD (eCallS 0 mNext (aCons (Mo.ret (.int 2)) (Mo.ret []))) (Mo.ret (.int 1))) (eVar 5)))
  (sSeq rif rr2))))) := rfl
/-- a rule is drawn -/
theorem law_rule_run {n : Nat} {pl : PyData} (h2 : 2 ≤ n) (h7 : n ≤ 7) (hp : pl = .none ∨ ((∃ neg, isND true pl = some (.bool neg) ∧ neg = true) ∧ ∀ x y, x < n → y < n → x ≠ y → ∃ w ∈ ks, m__law_relation [pl, iN x, iN y] = W.ret (.str w))) {Q : PyData → Prop} {E : Er → Prop} (hq : ∀ r, OkR n r → Q (ruleD r)) : (m__law_rule [iN n, pl]).run Q E := by
  have f0 := relations_ok
  have hi : ∀ (a b c d e g : Sl), toI (eCall0 m__law_relations) [a, b, c, d, e, .no, g] = W.ret (ks.map .str, [a, b, c, d, e, .no, g]) := fun a b c d e g => by
    rw [← ksD_eq]
    walk_at "vls"
  -- the end: the words that are wanted, in order
  have fin : ∀ (x y : Nat) (wt : List Str) (a b c : Sl), x < n → y < n → x ≠ y → wt ≠ [] → (∀ w ∈ wt, w ∈ ks) → (W.bind (rsr [a, b, c, .d (iN x), .d (iN y), .no, .l (wt.map .str)]) callR).run Q E := by
    intro x y wt a b c hx hy ne h0 hw
    have e1 : lcM [5] (toI (eCall0 m__law_relations)) (gN 5) (tB1 (bIn false 6 (eVar 5))) (eVar 5) [a, b, c, .d (iN x), .d (iN y), .no, .l (wt.map .str)] = W.ret ((ks.filter fun w => decide (w ∈ wt)).map .str, [a, b, c, .d (iN x), .d (iN y), .no, .l (wt.map .str)]) := by
      rw [lcM_of ks .str (fun w => decide (w ∈ wt)) .str (hi _ _ _ _ _ _) (by decide) rfl ?ha]
      intro w hwk
      have g := strs_inL (l := wt) false (ks_ok w hwk) hw
      refine ⟨_, rfl, ?_, fun _ => ?_, rfl⟩
      · clear hi f0 hw hwk hp hq
        walk_at "vls"
      · clear hi f0 hw hwk hp hq g
        walk_at "vl"
    have ok : OkR n ⟨x, ks.filter fun w => decide (w ∈ wt), y⟩ := ⟨hx, hy, ne, fun z => by
      obtain ⟨w, hw'⟩ := List.exists_mem_of_ne_nil wt h0
      have z : ks.filter (fun w => decide (w ∈ wt)) = [] := z
      rw [List.filter_eq_nil_iff] at z
      exact z w (hw w hw') (decide_eq_true hw'), List.filter_sublist⟩
    have fq := hq _ ok
    clear hq hp hi f0
    unfold rsr
    walk_at "vls"
    exact fq
  have tru : ∀ wt : List Str, truD (.list (wt.map .str)) = some (!decide (wt = [])) := fun wt => by cases wt <;> rfl
  have fin2 : ∀ (x y : Nat) (wt : List Str) (b c : Sl), x < n → y < n → x ≠ y → (∀ w ∈ wt, w ∈ ks) → (W.bind (rr2 [.s, b, c, .d (iN x), .d (iN y), .no, .l (wt.map .str)]) callR).run Q E := by
    intro x y wt b c hx hy ne hw
    unfold rr2
    by_cases h0 : wt = []
    · subst h0
      have ff := fun w (hwk : w ∈ ks) => fin x y [w] .s b c hx hy ne (by simp) (fun v hv => by rw [List.mem_singleton.mp hv]; exact hwk)
      have et : truD (.list []) = some false := rfl
      rw [List.map_nil]
      clear fin tru hi hp hq hw
      walk_at "vls"
      rw [W_run_bind]
      refine mNext_run (by omega) (by omega) fun i g0 gi => ?_
      have : i = 0 ∨ i = 1 ∨ i = 2 := by omega
      rcases this with rfl | rfl | rfl
      · have f1 := ff "before" (by decide)
        clear ff
        simp only [List.map_cons, List.map_nil] at f1
        walk_at "vl"
        exact f1
      · have f1 := ff "beside" (by decide)
        clear ff
        simp only [List.map_cons, List.map_nil] at f1
        walk_at "vl"
        exact f1
      · have f1 := ff "after" (by decide)
        clear ff
        simp only [List.map_cons, List.map_nil] at f1
        walk_at "vl"
        exact f1
    · have ff := fin x y wt .s b c hx hy ne h0 hw
      have et := tru wt
      rw [decide_eq_false h0] at et
      clear fin tru hi hp hq hw h0
      walk_at "vl"
      rw [et]
      walk_at "vl"
      exact ff
  unfold m__law_rule
  rw [rule_eq]
  walk_at "vl"
  rw [W_run_bind]
  refine mNext_run (by omega) (by omega) fun x g0 gx => ?_
  obtain ⟨x, rfl⟩ := nat_of g0
  try walk_at "vl"
  rw [W_run_bind]
  refine mNext_run (by omega) (by omega) fun y g1 gy => ?_
  obtain ⟨y, rfl⟩ := nat_of g1
  have ei : ∀ b : Bool, intD [.bool b] = some (.int (if b then 1 else 0)) := fun _ => rfl
  obtain ⟨z, hz, hzn, hne⟩ : ∃ z : Nat, ((y : Int) + if (x : Int) ≤ (y : Int) then 1 else 0) = (z : Int) ∧ z < n ∧ x ≠ z := by
    by_cases c : (x : Int) ≤ (y : Int)
    · exact ⟨y + 1, by rw [if_pos c]; omega, by omega, by omega⟩
    · exact ⟨y, by rw [if_neg c]; omega, by omega, by omega⟩
  try walk_at "vl"
  rw [ei]
  try walk_at "vl"
  rw [hz, W_run_bind]
  refine lcM_any ks .str .str (hi _ _ _ _ _ _) (by decide) rfl (fun w hw => ⟨_, rfl, ?_⟩) fun wt hwt => ?_
  · clear hi hp hq fin fin2 tru
    walk_at "vl"
    rw [W_run_bind]
    refine mNext_run (by omega) (by omega) fun i h0 hi => ?_
    walk_at "vl"
    exact ⟨rfl, fun _ => by walk_at "vl"⟩
  · have hwk : ∀ w ∈ wt, w ∈ ks := fun w hw => hwt.subset hw
    have hwl : wt.length ≤ 3 := hwt.length_le
    have fin3 := fun wt b c h => fin2 x z wt b c (by omega) hzn hne h
    clear fin fin2 hi
    rcases hp with rfl | ⟨⟨_, hN, rfl⟩, hrel⟩
    · have f1 := fin3 wt (.d (iN n)) (.d .none) hwk
      clear hq fin3
      unfold rif
      walk_at "vl"
      exact f1
    · obtain ⟨v, hv, ev⟩ := hrel x z (by omega) hzn hne
      have f1 := fin3 (wt ++ [v]) (.d (iN n)) (.d pl) (fun w hw => by
        rcases List.mem_append.mp hw with q | q
        · exact hwk w q
        · rw [List.mem_singleton.mp q]; exact hv)
      have ea := app1_ok (xs := wt.map .str) (d := .str v) (by rw [List.length_map]; omega)
      rw [List.map_append] at f1
      simp only [List.map_cons, List.map_nil] at f1
      clear hq fin3 hrel
      unfold rif
      walk_at "vl"
      rw [hN]
      walk_at "vl"
      rw [ev]
      walk_at "vl"
      rw [ea]
      walk_at "vl"
      exact f1
end VM

set_option Elab.async false
set_option linter.all false
set_option maxRecDepth 100000
set_option maxHeartbeats 1000000
/-! The laws' drawn problems; allowed relations, rules turned round. -/
namespace VM
open PySem VL KP RC
local macro_rules | `(tactic| walk_at "vl") => `(tactic| simp only [c_op1, c_op2, c_op2T, c_op2F, c_opL, c_opF, c_aCons, c_eList, c_eCall, c_eCall0, c_eCallS, stS_s, c_toT, c_tB1, c_tNotM, c_tAndM, c_tOrM, c_eAnd, c_eOr, c_eIf, c_eChain, chD_int, c_toO, intO_int, c_eSlice, c_toI, c_ret, c_bind, c_eVar, vS_d, vS_l, vS_ll, peekS_d, peekS_l, c_peek, c_bLen, c_bIx, c_bIn, c_bTru, c_bTup, c_bLst, c_bSort, c_bAddL, lS_l, c_eAppend, c_eExtend, c_ePop, c_ePopAt, seqR_nx, seqR_bk, seqR_ct, seqR_rt, c_sSeq, c_sNil, c_sRet, c_sRetN, c_sExpr, c_sBreak, c_sCont, c_stD, c_sSet, c_sSetL, c_sSetLL, c_sIf, c_sAsg, c_gR, dS_d, c_sAug, c_sFor, raR_str, c_sRaise, c_gN, gTp_tup, gCs, gNl, callR_nx, callR_rt, c_callM, c_callMS, c_wipe, c_wipe0, c_fSortSet, c_eDGet, c_sSetT, c_eRg1, c_eIndexL, vS_t, bD_bool, outD_some, W.ret_bind, W_bind_assoc, W.opt_some, W.opt_none, W.nox_ret, sAt_z, sAt_s, sAt_nil, Option.bind_some, Option.bind_none, Option.map_some, List.set_cons_zero, List.set_cons_succ, List.length_cons, List.length_nil, List.length_set, start0, List.map_cons, List.map_nil, List.cons_append, List.nil_append, List.append_nil, List.replicate_succ, List.replicate_zero, Nat.reduceAdd, Nat.reduceSub, Nat.reduceLT, Nat.reduceLeDiff, Nat.zero_add, Nat.add_zero, Nat.lt_add_left_iff_pos, Nat.succ_pos, if_true, if_false, ite_true, ite_false, reduceIte, reduceCtorEq, Bool.false_eq_true, Bool.true_and, Bool.and_true, Bool.false_and, Bool.and_false, Bool.not_true, Bool.not_false, Bool.xor_false, Bool.xor_true, Bool.false_xor, Bool.true_xor, Bool.not_not, decide_eq_true_eq, decide_true, decide_false, decide_eq_false_iff_not, Bool.not_eq_true', Bool.not_eq_false', beq_self_eq_true, isi_int_int, isi_int_bool, isi_int_str, isi_int_non, isi_int_tup, isi_int_lst, isi_bool_int, isi_bool_bool, isi_bool_str, isi_bool_non, isi_bool_tup, isi_bool_lst, isi_str_int, isi_str_bool, isi_str_str, isi_str_non, isi_str_tup, isi_str_lst, isi_tup_int, isi_tup_bool, isi_tup_str, isi_tup_non, isi_tup_tup, isi_tup_lst, isi_lst_int, isi_lst_bool, isi_lst_str, isi_lst_non, isi_lst_tup, isi_lst_lst, tru_bool, not_bool, isN_none, isN_bool, isN_int, isN_str, isN_tup, isN_lst, isB_bool, cmp_int, add_int, iadd_int, sub_int, neg_int, len_tup, len_lst, tuple_lst, tuple_tup, list_lst, list_tup, seq_lst, seq_tup, ix_tup, ix_lst, tupD, lstD, K_, atI_0, atI_1, atI_2, atI_3, eqD_int, neD_int, eqD_bool, bCase_bool, Int.cast_ofNat_Int, Int.natCast_zero, Int.natCast_one, Int.reduceBNe, Int.reduceBEq, Int.reduceLT, Int.reduceLE, bne_self_eq_false])
local macro_rules | `(tactic| walk_at "vls") => `(tactic| simp only [c_op1, c_op2, c_op2T, c_op2F, c_opL, c_opF, c_aCons, c_eList, c_eCall, c_eCall0, c_eCallS, stS_s, c_toT, c_tB1, c_tNotM, c_tAndM, c_tOrM, c_eAnd, c_eOr, c_eIf, c_eChain, chD_int, c_toO, intO_int, c_eSlice, c_toI, c_ret, c_bind, c_eVar, vS_d, vS_l, vS_ll, peekS_d, peekS_l, c_peek, c_bLen, c_bIx, c_bIn, c_bTru, c_bTup, c_bLst, c_bSort, c_bAddL, lS_l, c_eAppend, c_eExtend, c_ePop, c_ePopAt, seqR_nx, seqR_bk, seqR_ct, seqR_rt, c_sSeq, c_sNil, c_sRet, c_sRetN, c_sExpr, c_sBreak, c_sCont, c_stD, c_sSet, c_sSetL, c_sSetLL, c_sIf, c_sAsg, c_gR, dS_d, c_sAug, c_sFor, raR_str, c_sRaise, c_gN, gTp_tup, gCs, gNl, callR_nx, callR_rt, c_callM, c_callMS, c_wipe, c_wipe0, c_fSortSet, c_eDGet, c_sSetT, c_eRg1, c_eIndexL, vS_t, bD_bool, outD_some, W.ret_bind, W_bind_assoc, W.opt_some, W.opt_none, W.nox_ret, sAt_z, sAt_s, sAt_nil, Option.bind_some, Option.bind_none, Option.map_some, List.set_cons_zero, List.set_cons_succ, List.length_cons, List.length_nil, List.length_set, start0, List.map_cons, List.map_nil, List.cons_append, List.nil_append, List.append_nil, List.replicate_succ, List.replicate_zero, Nat.reduceAdd, Nat.reduceSub, Nat.reduceLT, Nat.reduceLeDiff, Nat.zero_add, Nat.add_zero, Nat.lt_add_left_iff_pos, Nat.succ_pos, if_true, if_false, ite_true, ite_false, reduceIte, reduceCtorEq, Bool.false_eq_true, Bool.true_and, Bool.and_true, Bool.false_and, Bool.and_false, Bool.not_true, Bool.not_false, Bool.xor_false, Bool.xor_true, Bool.false_xor, Bool.true_xor, Bool.not_not, decide_eq_true_eq, decide_true, decide_false, decide_eq_false_iff_not, Bool.not_eq_true', Bool.not_eq_false', beq_self_eq_true, isi_int_int, isi_int_bool, isi_int_str, isi_int_non, isi_int_tup, isi_int_lst, isi_bool_int, isi_bool_bool, isi_bool_str, isi_bool_non, isi_bool_tup, isi_bool_lst, isi_str_int, isi_str_bool, isi_str_str, isi_str_non, isi_str_tup, isi_str_lst, isi_tup_int, isi_tup_bool, isi_tup_str, isi_tup_non, isi_tup_tup, isi_tup_lst, isi_lst_int, isi_lst_bool, isi_lst_str, isi_lst_non, isi_lst_tup, isi_lst_lst, tru_bool, not_bool, isN_none, isN_bool, isN_int, isN_str, isN_tup, isN_lst, isB_bool, cmp_int, add_int, iadd_int, sub_int, neg_int, len_tup, len_lst, tuple_lst, tuple_tup, list_lst, list_tup, seq_lst, seq_tup, ix_tup, ix_lst, tupD, lstD, K_, atI_0, atI_1, atI_2, atI_3, eqD_int, neD_int, eqD_bool, bCase_bool, Int.cast_ofNat_Int, Int.natCast_zero, Int.natCast_one, Int.reduceBNe, Int.reduceBEq, Int.reduceLT, Int.reduceLE, bne_self_eq_false, *])
/-- None, or a plan that tells relations -/
def PlOk (n : Nat) (pl : PyData) : Prop := pl = .none ∨ ((∃ neg, isND true pl = some (.bool neg) ∧ neg = true) ∧ ∀ x y, x < n → y < n → x ≠ y → ∃ w ∈ ks, m__law_relation [pl, iN x, iN y] = W.ret (.str w))
theorem isp_ok {n : Nat} {ts : List Nat} {d : PyData} (h7 : n ≤ 7) (h : IsP 20 ts d) (hp : ts.Perm (List.range n)) : PlOk n d := by
  refine .inr ⟨⟨true, ?_, rfl⟩, fun x y hx hy ne => ?_⟩
  · cases h with
    | t _ k => rfl
    | n _ w ps _ _ _ => rfl
  · exact law_relation_n h (by omega) (by rw [hp.length_eq, List.length_range]; omega) ne (hp.mem_iff.mpr (List.mem_range.mpr hx)) (hp.mem_iff.mpr (List.mem_range.mpr hy)) (hp.nodup_iff.mpr List.nodup_range)
theorem prob_turn {n i : Nat} {R : List Rule} {pl : PyData} (h2 : 2 ≤ n) (h7 : n ≤ 7) (hp : PlOk n pl) (hR : R.length ≤ 1000) (wild : Nat) (a b c : Sl) {Q : Fl × En → Prop} {E : Er → Prop} (hq : ∀ r, OkR n r → Q (.nx, [.s, a, b, c, .d (iN n), .d pl, .d (iN wild), .l ((R ++ [r]).map ruleD), .d (iN i)])) :
    (l1__law_problem_2 [.s, a, b, c, .d (iN n), .d pl, .d (iN wild), .l (R.map ruleD), .d (iN i)]).run Q E := by
  have ea : ∀ v, app1 (R.map ruleD) v = some (R.map ruleD ++ [v], .none) := fun v => app1_ok (by rw [List.length_map]; omega)
  have fin : ∀ (pl2 : PyData), PlOk n pl2 → ∀ Q' : PyData → Prop, (∀ r, OkR n r → Q' (ruleD r)) → (m__law_rule [iN n, pl2]).run Q' E := fun pl2 h Q' hq' => law_rule_run h2 h7 h hq'
  have hap : ∀ r, (R ++ [r]).map ruleD = R.map ruleD ++ [ruleD r] := fun r => by rw [List.map_append]; rfl
  have hw : ((wild : Int) == 0) = decide (wild = 0) := by
    rw [Bool.eq_iff_iff, beq_iff_eq, decide_eq_true_eq]; omega
  unfold l1__law_problem_2
  by_cases h0 : wild = 0
  · rw [decide_eq_true h0] at hw
    walk_at "vl"
    rw [hw]
    walk_at "vl"
    rw [W_run_bind]
    refine mNext_run (by omega) (by omega) fun j g0 gj => ?_
    obtain ⟨j, rfl⟩ := nat_of g0
    by_cases hj : j = 0
    · have e : ((j : Int) == 0) = true := by rw [hj]; rfl
      try walk_at "vl"
      rw [e]
      walk_at "vl"
      rw [W_run_bind]
      refine fin .none (.inl rfl) _ fun r hr => ?_
      try walk_at "vl"
      rw [ea]
      walk_at "vl"
      rw [← hap]
      exact hq r hr
    · have e : ((j : Int) == 0) = false := by rw [beq_eq_false_iff_ne]; omega
      try walk_at "vl"
      rw [e]
      walk_at "vl"
      rw [W_run_bind]
      refine fin pl hp _ fun r hr => ?_
      try walk_at "vl"
      rw [ea]
      walk_at "vl"
      rw [← hap]
      exact hq r hr
  · rw [decide_eq_false h0] at hw
    walk_at "vl"
    rw [hw]
    walk_at "vl"
    rw [W_run_bind]
    refine fin pl hp _ fun r hr => ?_
    try walk_at "vl"
    rw [ea]
    walk_at "vl"
    rw [← hap]
    exact hq r hr
noncomputable def pr3 : SM := (sSeq (sSet 6 (eCallS 0 mNext (aCons (Mo.ret (.int 4)) (Mo.ret []))))
  (sSeq (sSetL 7 (opF lstD (Mo.ret [])))
  (sSeq (sFor (opF rng1D (aCons (eCallS 0 mNext (aCons (op2 addD (eVar 3) (Mo.ret (.int 1))) (Mo.ret []))) (Mo.ret []))) (gN 8)
  (l1__law_problem_2))
  (sRet (opL tupD (aCons (eVar 4) (aCons (bTup 7) (Mo.ret []))))))))
theorem pr3_run {n mx : Nat} {pl : PyData} (h2 : 2 ≤ n) (h7 : n ≤ 7) (hm : mx ≤ 900) (hp : PlOk n pl) (a b : Sl) {Q : PyData → Prop} {E : Er → Prop} (hq : ∀ R, OkP mx n R → Q (probD n R)) : (W.bind (pr3 [.s, a, b, .d (iN mx), .d (iN n), .d pl, .no, .no, .no]) callR).run Q E := by
  unfold pr3
  walk_at "vl"
  rw [W_run_bind]
  refine mNext_run (by omega) (by omega) fun w g0 gw => ?_
  obtain ⟨w, rfl⟩ := nat_of g0
  try walk_at "vl"
  rw [W_run_bind]
  refine mNext_run (by omega) (by omega) fun k g1 gk => ?_
  obtain ⟨k, rfl⟩ := nat_of g1
  try walk_at "vl"
  rw [rng1D_nat (by omega)]
  walk_at "vl"
  rw [W_run_bind]
  refine forW_of (List.range k) (fun k : Nat => PyData.int (k : Int)) (fun i env => ∃ (R : List Rule) (t : Sl), R.length = i ∧ (∀ r ∈ R, OkR n r) ∧ env = [.s, a, b, .d (iN mx), .d (iN n), .d pl, .d (iN w), .l (R.map ruleD), t]) ⟨[], .no, rfl, (fun _ z => nomatch z), rfl⟩ ?hs ?hd
  case hs =>
    rintro i x env hx ⟨R, t, hl, hr, rfl⟩
    obtain ⟨hi1, hi2⟩ := List.getElem?_eq_some_iff.mp hx
    rw [List.length_range] at hi1
    refine ⟨_, rfl, prob_turn h2 h7 hp (by omega) w a b _ fun r ok => ⟨R ++ [r], _, by rw [List.length_append, hl]; rfl, fun q hq => ?_, rfl⟩⟩
    rcases List.mem_append.mp hq with v | v
    · exact hr q v
    · rw [List.mem_singleton.mp v]; exact ok
  case hd =>
    rintro env ⟨R, t, hl, hr, rfl⟩
    rw [List.length_range] at hl
    have fq := hq R ⟨by omega, h7, by omega, hr⟩
    clear hq
    walk_at "vl"
    exact fq
theorem prob_eq : b__law_problem_2 = (sSeq (sSet 4 (op2 addD (eVar 1) (eCallS 0 mNext (aCons (op2 addD (op2 subD (eVar 2) (eVar 1)) (Mo.ret (.int 1))) (Mo.ret [])))))
  (sSeq (sSet 5 (Mo.ret .none))
  (sSeq (sIf (op2T gtD (eCallS 0 mNext (aCons (Mo.ret (.int 3)) (Mo.ret []))) (Mo.ret (.int 0)))
  (sSet 5 (eCallS 0 m__law_some_plan (aCons (eVar 4) (Mo.ret []))))
  sNil)
  (sSeq (sIf (op2T eqD (eVar 4) (Mo.ret (.int 1)))
  (sRet (opL tupD (aCons (Mo.ret (.int 1)) (aCons (opL tupD (Mo.ret [])) (Mo.ret [])))))
  sNil) pr3)))) := rfl
theorem law_problem2_run {lo hi mx : Nat} (h1 : 1 ≤ lo) (h2 : lo ≤ hi) (h7 : hi ≤ 7) (hm : mx ≤ 900) {Q : PyData → Prop} {E : Er → Prop} (hq : ∀ n R, lo ≤ n → n ≤ hi → OkP mx n R → Q (probD n R)) :
    (m__law_problem_2 [.int (lo : Nat), .int (hi : Nat), .int (mx : Nat)]).run Q E := by
  unfold m__law_problem_2
  rw [prob_eq]
  walk_at "vl"
  rw [W_run_bind]
  refine mNext_run (by omega) (by omega) fun i h0 hi' => ?_
  obtain ⟨n, hn⟩ := nat_of (i := (lo : Int) + i) (by omega)
  try walk_at "vl"
  rw [hn, W_run_bind]
  have rest : ∀ pl : PyData, PlOk n pl → ((if ((n : Int) == 1) = true then W.ret (Fl.rt (.tuple [.int 1, .tuple []]), [Sl.s, .d (iN lo), .d (iN hi), .d (iN mx), .d (iN n), .d pl, .no, .no, .no]) else W.ret (Fl.nx, [Sl.s, .d (iN lo), .d (iN hi), .d (iN mx), .d (iN n), .d pl, .no, .no, .no])).bind fun a => (seqR pr3 a).bind callR).run Q E := by
    intro pl hp
    by_cases n1 : n = 1
    · have e : ((n : Int) == 1) = true := by rw [n1]; rfl
      have fq := hq n [] (by omega) (by omega) ⟨by omega, by omega, by simp, fun r hr => nomatch hr⟩
      rw [if_pos e]
      subst n1
      exact fq
    · have e : ¬ ((n : Int) == 1) = true := by rw [beq_iff_eq]; omega
      have f3 := pr3_run (n := n) (mx := mx) (by omega) (by omega) hm hp (.d (iN lo)) (.d (iN hi)) (Q := Q) (E := E) fun R hR => hq n R (by omega) (by omega) hR
      rw [if_neg e, W.ret_bind, seqR_nx]
      exact f3
  refine mNext_run (by omega) (by omega) fun j g0 gj => ?_
  obtain ⟨j, rfl⟩ := nat_of g0
  by_cases hj : 0 < j
  · have hj' : (0 : Int) < (j : Int) := by omega
    try walk_at "vl"
    rw [if_pos hj']
    walk_at "vl"
    rw [W_run_bind]
    refine some_plan_run (n := n) (by omega) (by omega) fun d ts h3 h4 => ?_
    have f := rest d (isp_ok (by omega) h3 h4)
    clear rest
    try walk_at "vl"
    exact f
  · have hj' : ¬ (0 : Int) < (j : Int) := by omega
    try walk_at "vl"
    rw [if_neg hj']
    have f := rest .none (.inl rfl)
    clear rest
    try walk_at "vl"
    exact f
theorem law_allowed2_turn {i x y : Nat} {R : List Rule} {r : Rule} {n : Nat} (hr : R[i]? = some r) (ok : OkR n r) (p : Sl) : l1__law_allowed_2 [p, .d (.int (x : Nat)), .d (.int (y : Nat)), .d (.list ((allw (R.take i) x y).map .str)), .d (.int (r.f : Nat)), .d (.tuple (r.rs.map .str)), .d (.int (r.s : Nat)), .no] =
    W.ret (.nx, [p, .d (.int (x : Nat)), .d (.int (y : Nat)), .d (.list ((allw (R.take (i + 1)) x y).map .str)), .d (.int (r.f : Nat)), .d (.tuple (r.rs.map .str)), .d (.int (r.s : Nat)), .no]) := by
  have k1 : ∀ (l : List Str), (∀ w ∈ l, w ∈ ks) → l.length ≤ 1000 → lcM [7] (toI (eVar 3)) (gN 7) (op2T (inD false) (eVar 7) (eVar 5)) (eVar 7) [p, .d (.int (x : Nat)), .d (.int (y : Nat)), .d (.list (l.map .str)), .d (.int (r.f : Nat)), .d (.tuple (r.rs.map .str)), .d (.int (r.s : Nat)), .no] = W.ret ((l.filter fun w => decide (w ∈ r.rs)).map .str, [p, .d (.int (x : Nat)), .d (.int (y : Nat)), .d (.list (l.map .str)), .d (.int (r.f : Nat)), .d (.tuple (r.rs.map .str)), .d (.int (r.s : Nat)), .no]) := by
    intro l hl hn
    rw [lcM_of l .str (fun w => decide (w ∈ r.rs)) .str (by walk_at "vl") (sl_of (by omega)) rfl ?ha]
    intro w hw
    refine ⟨_, rfl, ?_, fun _ => ?_, rfl⟩
    · walk_at "vl"
      rw [inD_tup (Gd.str (n := 0) (ks_ok w (hl w hw))) (fun z hz => by obtain ⟨y, hy, rfl⟩ := List.mem_map.mp hz; exact Gd.str (n := 0) (OkR.ok ok y hy)) mem_strs]
      walk_at "vl"
    · walk_at "vl"
  have k2 : ∀ (l : List Str), (∀ w ∈ l, w ∈ ks) → l.length ≤ 1000 → lcM [7] (toI (eVar 3)) (gN 7) (op2T (inD false) (eCall m__law_opposite (aCons (eVar 7) (Mo.ret []))) (eVar 5)) (eVar 7) [p, .d (.int (x : Nat)), .d (.int (y : Nat)), .d (.list (l.map .str)), .d (.int (r.f : Nat)), .d (.tuple (r.rs.map .str)), .d (.int (r.s : Nat)), .no] = W.ret ((l.filter fun w => decide (opp w ∈ r.rs)).map .str, [p, .d (.int (x : Nat)), .d (.int (y : Nat)), .d (.list (l.map .str)), .d (.int (r.f : Nat)), .d (.tuple (r.rs.map .str)), .d (.int (r.s : Nat)), .no]) := by
    intro l hl hn
    rw [lcM_of l .str (fun w => decide (opp w ∈ r.rs)) .str (by walk_at "vl") (sl_of (by omega)) rfl ?hb]
    intro w hw
    refine ⟨_, rfl, ?_, fun _ => ?_, rfl⟩
    · walk_at "vl"
      rw [law_opposite_ok (hl w hw)]
      walk_at "vl"
      rw [inD_tup (Gd.str (n := 0) (ks_ok _ (opp_ks (hl w hw)).1)) (fun z hz => by obtain ⟨y, hy, rfl⟩ := List.mem_map.mp hz; exact Gd.str (n := 0) (OkR.ok ok y hy)) mem_strs]
      walk_at "vl"
    · walk_at "vl"
  have k1 := k1 (allw (R.take i) x y) allw_ks (by have := allw_len (R.take i) x y; omega)
  have k2 := k2 (allw (R.take i) x y) allw_ks (by have := allw_len (R.take i) x y; omega)
  have e1 := tup2_eq r.f r.s x y
  have e2 := tup2_eq r.f r.s y x
  unfold l1__law_allowed_2
  by_cases h1 : r.f = x ∧ r.s = y
  · have h2 : ¬ (r.f = y ∧ r.s = x) := fun z => ok.ne (z.1.trans h1.2.symm)
    rw [decide_eq_true h1] at e1
    rw [decide_eq_false h2] at e2
    rw [fit1 hr ok h1] at k1
    clear k2 h1 h2
    walk_at "vls"
  · by_cases h2 : r.f = y ∧ r.s = x
    · rw [decide_eq_false h1] at e1
      rw [decide_eq_true h2] at e2
      rw [fit2 hr ok h2] at k2
      clear k1 h1 h2
      walk_at "vls"
    · rw [decide_eq_false h1] at e1
      rw [decide_eq_false h2] at e2
      have e3 := fit0 hr h1 h2
      clear k1 k2 h1 h2
      walk_at "vls"
theorem probD_1 (n : Nat) (R : List Rule) : ixD (probD n R) (.int 1) = some (.tuple (R.map ruleD)) := atI_1 _ _ _
theorem law_allowed2_ok {n x y : Nat} {R : List Rule} (h : ∀ r ∈ R, OkR n r) : m__law_allowed_2 [probD n R, .int (x : Nat), .int (y : Nat)] = W.ret (.tuple ((allw R x y).map .str)) := by
  have f0 := relations_ok
  have f1 := probD_1 n R
  obtain ⟨env', e1, a, b, c, e2⟩ := forW_ex (g := gTp 3 (gCs (gN 4) (gCs (gN 5) (gCs (gN 6) gNl)))) (b := l1__law_allowed_2) R ruleD (fun i env => ∃ a b c, env = [Sl.d (probD n R), .d (.int (x : Nat)), .d (.int (y : Nat)), .d (.list ((allw (R.take i) x y).map .str)), a, b, c, .no]) (by
    rintro i r env hr ⟨a, b, c, rfl⟩
    exact ⟨_, _, rfl, .inl (law_allowed2_turn hr (h r (List.mem_of_getElem? hr)) _), _, _, _, rfl⟩) _ ⟨.no, .no, .no, rfl⟩
  rw [List.take_length] at e2
  rw [List.take_zero, allw_nil, ← ksD_eq] at e1
  subst e2
  unfold m__law_allowed_2 b__law_allowed_2
  generalize probD n R = P at *
  clear h
  walk_at "vls"
theorem allowed_ok {mx n x y : Nat} {R : List Rule} (h : OkP mx n R) (hm : mx ≤ 20) (hx : x < n) (hy : y < n) (ne : x ≠ y) : m_allowed [probD n R, iN x, iN y] = W.ret (.tuple ((allw R x y).map .str)) := by
  have f1 := check_pair_ok h hm hx hy ne
  have f2 := choices_ok h hm
  have f3 := ch_ix (R := R) hx
  have f4 := row_at (n := n) (f := fun y => chF R x y) hy
  unfold m_allowed b_allowed
  clear h hm hx hy ne
  generalize probD n R = P at *
  walk_at "vls"
  rfl
theorem rule_turned_ok {mx n i : Nat} {R : List Rule} {r : Rule} (h : OkP mx n R) (hm : mx ≤ 20) (hr : R[i]? = some r) : m_rule_turned [probD n R, iN i] = W.ret (ruleD ⟨r.s, ks.filter fun x => decide (opp x ∈ r.rs), r.f⟩) := by
  obtain ⟨hi, _⟩ := List.getElem?_eq_some_iff.mp hr
  have ok := h.ok r (List.mem_of_getElem? hr)
  have f1 := check_problem_ok h hm
  have f2 := probD_1 n R
  have f3 : lenD [.tuple (R.map ruleD)] = some (.int (R.length : Nat)) := by rw [len_tup, List.length_map]
  have f4 := is_index_t hi
  have f5 := require_t
  have f6 : ixD (.tuple (R.map ruleD)) (iN i) = some (ruleD r) := by
    rw [ix_tup, atI_nat (by rw [List.length_map]; exact hi), List.getElem?_map, hr]
    rfl
  have f7 := opposites_ok r.rs fun x hx => ok.sub.subset hx
  unfold m_rule_turned b_rule_turned
  generalize probD n R = P at *
  generalize PyData.tuple (R.map ruleD) = RT at *
  unfold ruleD at f6 ⊢
  clear h hm ok
  walk_at "vls"
end VM

set_option Elab.async false
set_option linter.all false
set_option maxRecDepth 100000
set_option maxHeartbeats 1000000
/-! What is no rule, what is no problem. -/
namespace VM
open PySem VL KP RC
local macro_rules | `(tactic| walk_at "vl") => `(tactic| simp only [c_op1, c_op2, c_op2T, c_op2F, c_opL, c_opF, c_aCons, c_eList, c_eCall, c_eCall0, c_eCallS, stS_s, c_toT, c_tB1, c_tNotM, c_tAndM, c_tOrM, c_eAnd, c_eOr, c_eIf, c_eChain, chD_int, c_toO, intO_int, c_eSlice, c_toI, c_ret, c_bind, c_eVar, vS_d, vS_l, vS_ll, peekS_d, peekS_l, c_peek, c_bLen, c_bIx, c_bIn, c_bTru, c_bTup, c_bLst, c_bSort, c_bAddL, lS_l, c_eAppend, c_eExtend, c_ePop, c_ePopAt, seqR_nx, seqR_bk, seqR_ct, seqR_rt, c_sSeq, c_sNil, c_sRet, c_sRetN, c_sExpr, c_sBreak, c_sCont, c_stD, c_sSet, c_sSetL, c_sSetLL, c_sIf, c_sAsg, c_gR, dS_d, c_sAug, c_sFor, raR_str, c_sRaise, c_gN, gTp_tup, gCs, gNl, callR_nx, callR_rt, c_callM, c_callMS, c_wipe, c_wipe0, c_fSortSet, c_eDGet, c_sSetT, c_eRg1, c_eIndexL, vS_t, bD_bool, outD_some, W.ret_bind, W_bind_assoc, W.opt_some, W.opt_none, W.nox_ret, sAt_z, sAt_s, sAt_nil, Option.bind_some, Option.bind_none, Option.map_some, List.set_cons_zero, List.set_cons_succ, List.length_cons, List.length_nil, List.length_set, start0, List.map_cons, List.map_nil, List.cons_append, List.nil_append, List.append_nil, List.replicate_succ, List.replicate_zero, Nat.reduceAdd, Nat.reduceSub, Nat.reduceLT, Nat.reduceLeDiff, Nat.zero_add, Nat.add_zero, Nat.lt_add_left_iff_pos, Nat.succ_pos, if_true, if_false, ite_true, ite_false, reduceIte, reduceCtorEq, Bool.false_eq_true, Bool.true_and, Bool.and_true, Bool.false_and, Bool.and_false, Bool.not_true, Bool.not_false, Bool.xor_false, Bool.xor_true, Bool.false_xor, Bool.true_xor, Bool.not_not, decide_eq_true_eq, decide_true, decide_false, decide_eq_false_iff_not, Bool.not_eq_true', Bool.not_eq_false', beq_self_eq_true, isi_int_int, isi_int_bool, isi_int_str, isi_int_non, isi_int_tup, isi_int_lst, isi_bool_int, isi_bool_bool, isi_bool_str, isi_bool_non, isi_bool_tup, isi_bool_lst, isi_str_int, isi_str_bool, isi_str_str, isi_str_non, isi_str_tup, isi_str_lst, isi_tup_int, isi_tup_bool, isi_tup_str, isi_tup_non, isi_tup_tup, isi_tup_lst, isi_lst_int, isi_lst_bool, isi_lst_str, isi_lst_non, isi_lst_tup, isi_lst_lst, tru_bool, not_bool, isN_none, isN_bool, isN_int, isN_str, isN_tup, isN_lst, isB_bool, cmp_int, add_int, iadd_int, sub_int, neg_int, len_tup, len_lst, tuple_lst, tuple_tup, list_lst, list_tup, seq_lst, seq_tup, ix_tup, ix_lst, tupD, lstD, K_, atI_0, atI_1, atI_2, atI_3, eqD_int, neD_int, eqD_bool, bCase_bool, Int.cast_ofNat_Int, Int.natCast_zero, Int.natCast_one, Int.reduceBNe, Int.reduceBEq, Int.reduceLT, Int.reduceLE, bne_self_eq_false])
local macro_rules | `(tactic| walk_at "vls") => `(tactic| simp only [c_op1, c_op2, c_op2T, c_op2F, c_opL, c_opF, c_aCons, c_eList, c_eCall, c_eCall0, c_eCallS, stS_s, c_toT, c_tB1, c_tNotM, c_tAndM, c_tOrM, c_eAnd, c_eOr, c_eIf, c_eChain, chD_int, c_toO, intO_int, c_eSlice, c_toI, c_ret, c_bind, c_eVar, vS_d, vS_l, vS_ll, peekS_d, peekS_l, c_peek, c_bLen, c_bIx, c_bIn, c_bTru, c_bTup, c_bLst, c_bSort, c_bAddL, lS_l, c_eAppend, c_eExtend, c_ePop, c_ePopAt, seqR_nx, seqR_bk, seqR_ct, seqR_rt, c_sSeq, c_sNil, c_sRet, c_sRetN, c_sExpr, c_sBreak, c_sCont, c_stD, c_sSet, c_sSetL, c_sSetLL, c_sIf, c_sAsg, c_gR, dS_d, c_sAug, c_sFor, raR_str, c_sRaise, c_gN, gTp_tup, gCs, gNl, callR_nx, callR_rt, c_callM, c_callMS, c_wipe, c_wipe0, c_fSortSet, c_eDGet, c_sSetT, c_eRg1, c_eIndexL, vS_t, bD_bool, outD_some, W.ret_bind, W_bind_assoc, W.opt_some, W.opt_none, W.nox_ret, sAt_z, sAt_s, sAt_nil, Option.bind_some, Option.bind_none, Option.map_some, List.set_cons_zero, List.set_cons_succ, List.length_cons, List.length_nil, List.length_set, start0, List.map_cons, List.map_nil, List.cons_append, List.nil_append, List.append_nil, List.replicate_succ, List.replicate_zero, Nat.reduceAdd, Nat.reduceSub, Nat.reduceLT, Nat.reduceLeDiff, Nat.zero_add, Nat.add_zero, Nat.lt_add_left_iff_pos, Nat.succ_pos, if_true, if_false, ite_true, ite_false, reduceIte, reduceCtorEq, Bool.false_eq_true, Bool.true_and, Bool.and_true, Bool.false_and, Bool.and_false, Bool.not_true, Bool.not_false, Bool.xor_false, Bool.xor_true, Bool.false_xor, Bool.true_xor, Bool.not_not, decide_eq_true_eq, decide_true, decide_false, decide_eq_false_iff_not, Bool.not_eq_true', Bool.not_eq_false', beq_self_eq_true, isi_int_int, isi_int_bool, isi_int_str, isi_int_non, isi_int_tup, isi_int_lst, isi_bool_int, isi_bool_bool, isi_bool_str, isi_bool_non, isi_bool_tup, isi_bool_lst, isi_str_int, isi_str_bool, isi_str_str, isi_str_non, isi_str_tup, isi_str_lst, isi_tup_int, isi_tup_bool, isi_tup_str, isi_tup_non, isi_tup_tup, isi_tup_lst, isi_lst_int, isi_lst_bool, isi_lst_str, isi_lst_non, isi_lst_tup, isi_lst_lst, tru_bool, not_bool, isN_none, isN_bool, isN_int, isN_str, isN_tup, isN_lst, isB_bool, cmp_int, add_int, iadd_int, sub_int, neg_int, len_tup, len_lst, tuple_lst, tuple_tup, list_lst, list_tup, seq_lst, seq_tup, ix_tup, ix_lst, tupD, lstD, K_, atI_0, atI_1, atI_2, atI_3, eqD_int, neD_int, eqD_bool, bCase_bool, Int.cast_ofNat_Int, Int.natCast_zero, Int.natCast_one, Int.reduceBNe, Int.reduceBEq, Int.reduceLT, Int.reduceLE, bne_self_eq_false, *])
theorem is_integer_none : m_is_integer [.none] = W.ret (.bool false) := by
  unfold m_is_integer b_is_integer
  walk_at "vl"
theorem is_integer_str (x : Str) : m_is_integer [.str x] = W.ret (.bool false) := by
  unfold m_is_integer b_is_integer
  walk_at "vl"
theorem is_integer_bool (b : Bool) : m_is_integer [.bool b] = W.ret (.bool false) := by
  unfold m_is_integer b_is_integer
  walk_at "vl"
theorem is_index_no {d n : PyData} (h : m_is_integer [d] = W.ret (.bool false)) : m_is_index [d, n] = W.ret (.bool false) := by
  unfold m_is_index b_is_index
  walk_at "vls"
theorem is_size_no {d : PyData} (h : m_is_integer [d] = W.ret (.bool false)) : m_is_size [d] = W.ret (.bool false) := by
  unfold m_is_size b_is_size
  walk_at "vls"
theorem is_index_f {i n : Int} (h : ¬ (0 ≤ i ∧ i < n)) : m_is_index [.int i, .int n] = W.ret (.bool false) := by rw [is_index_int, decide_eq_false h]
theorem is_size_f {i : Int} (h : ¬ (1 ≤ i ∧ i ≤ 7)) : m_is_size [.int i] = W.ret (.bool false) := by rw [is_size_int, decide_eq_false h]
/-- no rule -/
def BadR (n : PyData) (d : PyData) : Prop := m_is_rule [d, n] = W.ret (.bool false)
theorem rb_none (n) : BadR n .none := by
  unfold BadR m_is_rule b_is_rule
  walk_at "vl"
theorem rb_str (n x) : BadR n (.str x) := by
  unfold BadR m_is_rule b_is_rule
  walk_at "vl"
theorem rb_lst (n x) : BadR n (.list x) := by
  unfold BadR m_is_rule b_is_rule
  walk_at "vl"
theorem rb_two (n a b) : BadR n (.tuple [a, b]) := by
  unfold BadR m_is_rule b_is_rule
  walk_at "vl"
theorem rb_four (n a b c d) : BadR n (.tuple [a, b, c, d]) := by
  unfold BadR m_is_rule b_is_rule
  walk_at "vl"
theorem rb_first {n a b c} (h : m_is_index [a, n] = W.ret (.bool false)) : BadR n (.tuple [a, b, c]) := by
  unfold BadR m_is_rule b_is_rule
  walk_at "vls"
theorem rb_second {n a b c} (h1 : m_is_index [a, n] = W.ret (.bool true)) (h : m_is_index [c, n] = W.ret (.bool false)) : BadR n (.tuple [a, b, c]) := by
  unfold BadR m_is_rule b_is_rule
  walk_at "vls"
theorem rb_same {n b} {i : Int} (h1 : m_is_index [.int i, n] = W.ret (.bool true)) : BadR n (.tuple [.int i, b, .int i]) := by
  unfold BadR m_is_rule b_is_rule
  walk_at "vls"
section
variable {n i j : Nat} (hi : i < n) (hj : j < n) (ne : i ≠ j)
include hi hj ne
theorem rb_kind {l : PyData} (h : isiD "tuple" l = some (.bool false)) : BadR (iN n) (.tuple [iN i, l, iN j]) := by
  have f1 := is_index_t hi
  have f2 := is_index_t hj
  have f3 : ((i : Int) == (j : Int)) = false := by rw [beq_eq_false_iff_ne]; omega
  unfold BadR m_is_rule b_is_rule
  clear hi hj ne
  walk_at "vls"
theorem rb_empty : BadR (iN n) (.tuple [iN i, .tuple [], iN j]) := by
  have f1 := is_index_t hi
  have f2 := is_index_t hj
  have f3 : ((i : Int) == (j : Int)) = false := by rw [beq_eq_false_iff_ne]; omega
  have f4 : ¬ (0 : Int) < ((0 : Nat) : Int) := by decide
  unfold BadR m_is_rule b_is_rule
  clear hi hj ne
  walk_at "vls"
theorem rb_data {l : List PyData} {c : PyData} (h0 : 0 < l.length) (hc : m_common [.tuple (ks.map .str), .tuple l] = W.ret c) (he : eqD (.tuple l) c = some (.bool false)) : BadR (iN n) (.tuple [iN i, .tuple l, iN j]) := by
  have f1 := is_index_t hi
  have f2 := is_index_t hj
  have f3 : ((i : Int) == (j : Int)) = false := by rw [beq_eq_false_iff_ne]; omega
  have f4 : (0 : Int) < (l.length : Int) := by omega
  rw [← rels_eq] at hc
  unfold BadR m_is_rule b_is_rule
  clear hi hj ne h0
  walk_at "vls"
theorem rb_listed {l : List Str} (h0 : 0 < l.length) (hk : ∀ x ∈ l, PyData.strOk x = true) (h : l ≠ ks.filter fun x => decide (x ∈ l)) : BadR (iN n) (.tuple [iN i, .tuple (l.map .str), iN j]) := by
  refine rb_data hi hj ne (by rw [List.length_map]; exact h0) (common_strs ks l (by decide) ks_ok hk) ?_
  rw [eqD_gd (p := l = ks.filter fun x => decide (x ∈ l)) (shp_strs hk) (shp_strs fun x hx => ks_ok x (List.mem_filter.mp hx).1) ?_, decide_eq_false h]
  rw [PyData.tuple.injEq]
  exact List.map_inj_right fun a b e => by injection e
theorem rb_one : BadR (iN n) (.tuple [iN i, .tuple [.int 1], iN j]) := by
  have hin : ∀ w ∈ ks, inD false (.str w) (.tuple [.int 1]) = some (.bool false) := fun w hw => by
    rw [inD_tup (p := False) (n := 0) (Gd.str (n := 0) (ks_ok w hw)) (fun z hz => by rw [List.mem_singleton.mp hz]; exact .int _) (by simp)]
    rfl
  refine rb_data hi hj ne (c := .tuple []) (by decide) ?_ ?_
  · unfold m_common b_common
    walk_at "vl"
    rw [lcM_of ks .str (fun x => false) .str (by walk_at "vl") (by decide) rfl ?h]
    · walk_at "vl"
      rfl
    · intro x hx
      have := hin x hx
      refine ⟨_, rfl, ?_, fun z => Bool.noConfusion z, rfl⟩
      clear hin hi hj ne
      walk_at "vls"
  · rw [eqD_gd (m := 1) (n := 1) (p := False) (.tup (n := 0) fun z hz => by rw [List.mem_singleton.mp hz]; exact .int _) (.tup (n := 0) fun z hz => absurd hz (List.not_mem_nil)) (by simp)]
    rfl
end
theorem strD_nat {i : Nat} (h : i ≤ 9) : strD [iN i] = some (.str (toString (i : Int))) := if_pos ⟨by omega, by omega⟩
end VM

set_option Elab.async false
set_option linter.all false
set_option maxRecDepth 100000
set_option maxHeartbeats 2000000
/-! The laws' wrong rules. -/
namespace VM
open PySem VL KP RC
local macro_rules | `(tactic| walk_at "vl") => `(tactic| simp only [c_op1, c_op2, c_op2T, c_op2F, c_opL, c_opF, c_aCons, c_eList, c_eCall, c_eCall0, c_eCallS, stS_s, c_toT, c_tB1, c_tNotM, c_tAndM, c_tOrM, c_eAnd, c_eOr, c_eIf, c_eChain, chD_int, c_toO, intO_int, c_eSlice, c_toI, c_ret, c_bind, c_eVar, vS_d, vS_l, vS_ll, peekS_d, peekS_l, c_peek, c_bLen, c_bIx, c_bIn, c_bTru, c_bTup, c_bLst, c_bSort, c_bAddL, lS_l, c_eAppend, c_eExtend, c_ePop, c_ePopAt, seqR_nx, seqR_bk, seqR_ct, seqR_rt, c_sSeq, c_sNil, c_sRet, c_sRetN, c_sExpr, c_sBreak, c_sCont, c_stD, c_sSet, c_sSetL, c_sSetLL, c_sIf, c_sAsg, c_gR, dS_d, c_sAug, c_sFor, raR_str, c_sRaise, c_gN, gTp_tup, gCs, gNl, callR_nx, callR_rt, c_callM, c_callMS, c_wipe, c_wipe0, c_fSortSet, c_eDGet, c_sSetT, c_eRg1, c_eIndexL, vS_t, bD_bool, outD_some, W.ret_bind, W_bind_assoc, W.opt_some, W.opt_none, W.nox_ret, sAt_z, sAt_s, sAt_nil, Option.bind_some, Option.bind_none, Option.map_some, List.set_cons_zero, List.set_cons_succ, List.length_cons, List.length_nil, List.length_set, start0, List.map_cons, List.map_nil, List.cons_append, List.nil_append, List.append_nil, List.replicate_succ, List.replicate_zero, Nat.reduceAdd, Nat.reduceSub, Nat.reduceLT, Nat.reduceLeDiff, Nat.zero_add, Nat.add_zero, Nat.lt_add_left_iff_pos, Nat.succ_pos, if_true, if_false, ite_true, ite_false, reduceIte, reduceCtorEq, Bool.false_eq_true, Bool.true_and, Bool.and_true, Bool.false_and, Bool.and_false, Bool.not_true, Bool.not_false, Bool.xor_false, Bool.xor_true, Bool.false_xor, Bool.true_xor, Bool.not_not, decide_eq_true_eq, decide_true, decide_false, decide_eq_false_iff_not, Bool.not_eq_true', Bool.not_eq_false', beq_self_eq_true, isi_int_int, isi_int_bool, isi_int_str, isi_int_non, isi_int_tup, isi_int_lst, isi_bool_int, isi_bool_bool, isi_bool_str, isi_bool_non, isi_bool_tup, isi_bool_lst, isi_str_int, isi_str_bool, isi_str_str, isi_str_non, isi_str_tup, isi_str_lst, isi_tup_int, isi_tup_bool, isi_tup_str, isi_tup_non, isi_tup_tup, isi_tup_lst, isi_lst_int, isi_lst_bool, isi_lst_str, isi_lst_non, isi_lst_tup, isi_lst_lst, tru_bool, not_bool, isN_none, isN_bool, isN_int, isN_str, isN_tup, isN_lst, isB_bool, cmp_int, add_int, iadd_int, sub_int, neg_int, len_tup, len_lst, tuple_lst, tuple_tup, list_lst, list_tup, seq_lst, seq_tup, ix_tup, ix_lst, tupD, lstD, K_, atI_0, atI_1, atI_2, atI_3, eqD_int, neD_int, eqD_bool, bCase_bool, Int.cast_ofNat_Int, Int.natCast_zero, Int.natCast_one, Int.reduceBNe, Int.reduceBEq, Int.reduceLT, Int.reduceLE, bne_self_eq_false])
local macro_rules | `(tactic| walk_at "vls") => `(tactic| simp only [c_op1, c_op2, c_op2T, c_op2F, c_opL, c_opF, c_aCons, c_eList, c_eCall, c_eCall0, c_eCallS, stS_s, c_toT, c_tB1, c_tNotM, c_tAndM, c_tOrM, c_eAnd, c_eOr, c_eIf, c_eChain, chD_int, c_toO, intO_int, c_eSlice, c_toI, c_ret, c_bind, c_eVar, vS_d, vS_l, vS_ll, peekS_d, peekS_l, c_peek, c_bLen, c_bIx, c_bIn, c_bTru, c_bTup, c_bLst, c_bSort, c_bAddL, lS_l, c_eAppend, c_eExtend, c_ePop, c_ePopAt, seqR_nx, seqR_bk, seqR_ct, seqR_rt, c_sSeq, c_sNil, c_sRet, c_sRetN, c_sExpr, c_sBreak, c_sCont, c_stD, c_sSet, c_sSetL, c_sSetLL, c_sIf, c_sAsg, c_gR, dS_d, c_sAug, c_sFor, raR_str, c_sRaise, c_gN, gTp_tup, gCs, gNl, callR_nx, callR_rt, c_callM, c_callMS, c_wipe, c_wipe0, c_fSortSet, c_eDGet, c_sSetT, c_eRg1, c_eIndexL, vS_t, bD_bool, outD_some, W.ret_bind, W_bind_assoc, W.opt_some, W.opt_none, W.nox_ret, sAt_z, sAt_s, sAt_nil, Option.bind_some, Option.bind_none, Option.map_some, List.set_cons_zero, List.set_cons_succ, List.length_cons, List.length_nil, List.length_set, start0, List.map_cons, List.map_nil, List.cons_append, List.nil_append, List.append_nil, List.replicate_succ, List.replicate_zero, Nat.reduceAdd, Nat.reduceSub, Nat.reduceLT, Nat.reduceLeDiff, Nat.zero_add, Nat.add_zero, Nat.lt_add_left_iff_pos, Nat.succ_pos, if_true, if_false, ite_true, ite_false, reduceIte, reduceCtorEq, Bool.false_eq_true, Bool.true_and, Bool.and_true, Bool.false_and, Bool.and_false, Bool.not_true, Bool.not_false, Bool.xor_false, Bool.xor_true, Bool.false_xor, Bool.true_xor, Bool.not_not, decide_eq_true_eq, decide_true, decide_false, decide_eq_false_iff_not, Bool.not_eq_true', Bool.not_eq_false', beq_self_eq_true, isi_int_int, isi_int_bool, isi_int_str, isi_int_non, isi_int_tup, isi_int_lst, isi_bool_int, isi_bool_bool, isi_bool_str, isi_bool_non, isi_bool_tup, isi_bool_lst, isi_str_int, isi_str_bool, isi_str_str, isi_str_non, isi_str_tup, isi_str_lst, isi_tup_int, isi_tup_bool, isi_tup_str, isi_tup_non, isi_tup_tup, isi_tup_lst, isi_lst_int, isi_lst_bool, isi_lst_str, isi_lst_non, isi_lst_tup, isi_lst_lst, tru_bool, not_bool, isN_none, isN_bool, isN_int, isN_str, isN_tup, isN_lst, isB_bool, cmp_int, add_int, iadd_int, sub_int, neg_int, len_tup, len_lst, tuple_lst, tuple_tup, list_lst, list_tup, seq_lst, seq_tup, ix_tup, ix_lst, tupD, lstD, K_, atI_0, atI_1, atI_2, atI_3, eqD_int, neD_int, eqD_bool, bCase_bool, Int.cast_ofNat_Int, Int.natCast_zero, Int.natCast_one, Int.reduceBNe, Int.reduceBEq, Int.reduceLT, Int.reduceLE, bne_self_eq_false, *])
def W0 (f s n : Nat) (l : List PyData) : List PyData := [.none, .list [iN f, .tuple l, iN s], .tuple [iN f, .tuple l], .tuple [iN f, .tuple l, iN s, .int 0], .tuple [iN f, .tuple l, iN f], .tuple [iN n, .tuple l, iN s],
  .tuple [.int (-1), .tuple l, iN s], .tuple [iN f, .tuple l, iN n], .tuple [iN f, .tuple l, .int (-1)], .tuple [.none, .tuple l, iN s], .tuple [iN f, .list l, iN s],
  .tuple [iN f, .tuple [], iN s], .tuple [iN f, .tuple [.str "after", .str "before"], iN s], .tuple [iN f, .tuple [.str "before", .str "before"], iN s], .tuple [iN f, .tuple [.str "behind"], iN s],
  .tuple [iN f, .str "before", iN s], .tuple [iN f, .tuple [.int 1], iN s], .tuple [iN f, .tuple [.str "before", .str "beside", .str "after", .str "after"], iN s], .str "rule",
  .tuple [iN f, .tuple [.str "beside", .str "before", .str "after"], iN s], .tuple [.str (toString (f : Int)), .tuple l, iN s]]
theorem w0_bad {n : Nat} {r : Rule} (ok : OkR n r) : ∀ d ∈ W0 r.f r.s n (r.rs.map .str), BadR (iN n) d := by
  have h1 := is_index_t ok.ff
  have h2 := is_index_t ok.ss
  have hn : m_is_index [iN n, iN n] = W.ret (.bool false) := is_index_f (by omega)
  have hm : m_is_index [.int (-1), iN n] = W.ret (.bool false) := is_index_f (by omega)
  have lst : ∀ l : List Str, 0 < l.length → (∀ x ∈ l, PyData.strOk x = true) → (l ≠ ks.filter fun x => decide (x ∈ l)) → BadR (iN n) (.tuple [iN r.f, .tuple (l.map .str), iN r.s]) := fun l a b c => rb_listed ok.ff ok.ss ok.ne a b c
  intro d hd
  simp only [W0, List.mem_cons, List.not_mem_nil, or_false] at hd
  rcases hd with rfl | rfl | rfl | rfl | rfl | rfl | rfl | rfl | rfl | rfl | rfl | rfl | rfl | rfl | rfl | rfl | rfl | rfl | rfl | rfl | rfl
  · exact rb_none _
  · exact rb_lst _ _
  · exact rb_two _ _ _
  · exact rb_four _ _ _ _ _
  · exact rb_same h1
  · exact rb_first hn
  · exact rb_first hm
  · exact rb_second h1 hn
  · exact rb_second h1 hm
  · exact rb_first (is_index_no is_integer_none)
  · exact rb_kind ok.ff ok.ss ok.ne (isi_tup_lst _)
  · exact rb_empty ok.ff ok.ss ok.ne
  · exact lst ["after", "before"] (by decide) (by decide +kernel) (by decide +kernel)
  · exact lst ["before", "before"] (by decide) (by decide +kernel) (by decide +kernel)
  · exact lst ["behind"] (by decide) (by decide +kernel) (by decide +kernel)
  · exact rb_kind ok.ff ok.ss ok.ne (isi_tup_str _)
  · exact rb_one ok.ff ok.ss ok.ne
  · exact lst ["before", "beside", "after", "after"] (by decide) (by decide +kernel) (by decide +kernel)
  · exact rb_str _ _
  · exact lst ["beside", "before", "after"] (by decide) (by decide +kernel) (by decide +kernel)
  · exact rb_first (is_index_no (is_integer_str _))
noncomputable def wtl : SM := (sRet (Mo.bind (peek 6) fun _ => bIx 6 (eCallS 0 mNext (aCons (bLen 6) (Mo.ret [])))))
noncomputable def wt3 : SM :=   (sSeq (sIf (op2T ltD (eVar 3) (Mo.ret (.int 2)))
  (sExpr (eAppend 6 (opL tupD (aCons (op2 eqD (eVar 3) (Mo.ret (.int 1))) (aCons (eVar 4) (aCons (eVar 5) (Mo.ret [])))))))
  sNil)
  (sSeq (sIf (op2T ltD (eVar 5) (Mo.ret (.int 2)))
  (sExpr (eAppend 6 (opL tupD (aCons (eVar 3) (aCons (eVar 4) (aCons (op2 eqD (eVar 5) (Mo.ret (.int 1))) (Mo.ret [])))))))
  sNil)
  wtl))
theorem wrong_eq : b__law_wrong_rules = (sSeq (sAsg (gTp 3 (gCs (gN 3) (gCs (gN 4) (gCs (gN 5) gNl)))) (eVar 2))
  (sSeq (sSetL 6 (opF lstD (aCons (Mo.ret .none) (aCons (eList (opF lstD (aCons (eVar 3) (aCons (eVar 4) (aCons (eVar 5) (Mo.ret [])))))) (aCons (opL tupD (aCons (eVar 3) (aCons (eVar 4) (Mo.ret [])))) (aCons (opL tupD (aCons (eVar 3) (aCons (eVar 4) (aCons (eVar 5) (aCons (Mo.ret (.int 0)) (Mo.ret [])))))) (aCons (opL tupD (aCons (eVar 3) (aCons (eVar 4) (aCons (eVar 3) (Mo.ret []))))) (aCons (opL tupD (aCons (eVar 1) (aCons (eVar 4) (aCons (eVar 5) (Mo.ret []))))) (Mo.ret [])))))))))
  (sSeq (sSetL 6 (bAddL 6 (eList (opF lstD (aCons (opL tupD (aCons (op1 negD (Mo.ret (.int 1))) (aCons (eVar 4) (aCons (eVar 5) (Mo.ret []))))) (aCons (opL tupD (aCons (eVar 3) (aCons (eVar 4) (aCons (eVar 1) (Mo.ret []))))) (aCons (opL tupD (aCons (eVar 3) (aCons (eVar 4) (aCons (op1 negD (Mo.ret (.int 1))) (Mo.ret []))))) (aCons (opL tupD (aCons (Mo.ret .none) (aCons (eVar 4) (aCons (eVar 5) (Mo.ret []))))) (aCons (opL tupD (aCons (eVar 3) (aCons (eList (opF listD (aCons (eVar 4) (Mo.ret [])))) (aCons (eVar 5) (Mo.ret []))))) (Mo.ret []))))))))))
  (sSeq (sSetL 6 (bAddL 6 (eList (opF lstD (aCons (opL tupD (aCons (eVar 3) (aCons (opL tupD (Mo.ret [])) (aCons (eVar 5) (Mo.ret []))))) (aCons (opL tupD (aCons (eVar 3) (aCons (opL tupD (aCons (Mo.ret (.str "after")) (aCons (Mo.ret (.str "before")) (Mo.ret [])))) (aCons (eVar 5) (Mo.ret []))))) (aCons (opL tupD (aCons (eVar 3) (aCons (opL tupD (aCons (Mo.ret (.str "before")) (aCons (Mo.ret (.str "before")) (Mo.ret [])))) (aCons (eVar 5) (Mo.ret []))))) (aCons (opL tupD (aCons (eVar 3) (aCons (opL tupD (aCons (Mo.ret (.str "behind")) (Mo.ret []))) (aCons (eVar 5) (Mo.ret []))))) (Mo.ret [])))))))))
  (sSeq (sSetL 6 (bAddL 6 (eList (opF lstD (aCons (opL tupD (aCons (eVar 3) (aCons (Mo.ret (.str "before")) (aCons (eVar 5) (Mo.ret []))))) (aCons (opL tupD (aCons (eVar 3) (aCons (opL tupD (aCons (Mo.ret (.int 1)) (Mo.ret []))) (aCons (eVar 5) (Mo.ret []))))) (aCons (opL tupD (aCons (eVar 3) (aCons (opL tupD (aCons (Mo.ret (.str "before")) (aCons (Mo.ret (.str "beside")) (aCons (Mo.ret (.str "after")) (aCons (Mo.ret (.str "after")) (Mo.ret [])))))) (aCons (eVar 5) (Mo.ret []))))) (aCons (Mo.ret (.str "rule")) (Mo.ret [])))))))))
  (sSeq (sSetL 6 (bAddL 6 (eList (opF lstD (aCons (opL tupD (aCons (eVar 3) (aCons (opL tupD (aCons (Mo.ret (.str "beside")) (aCons (Mo.ret (.str "before")) (aCons (Mo.ret (.str "after")) (Mo.ret []))))) (aCons (eVar 5) (Mo.ret []))))) (aCons (opL tupD (aCons (opL strD (aCons (eVar 3) (Mo.ret []))) (aCons (eVar 4) (aCons (eVar 5) (Mo.ret []))))) (Mo.ret [])))))))
  wt3)))))) := rfl
theorem app_lst {xs ys : List PyData} (h : xs.length + ys.length ≤ 1000000) : appD (.list xs) (.list ys) = some (xs ++ ys) := if_pos (Nat.le_of_lt (sl_of h))
theorem wtl_run {n : Nat} {WL : List PyData} (h0 : 0 < WL.length) (h1 : WL.length < 100) (hw : ∀ d ∈ WL, BadR (iN n) d) (a b c d e : Sl) {Q : PyData → Prop} {E : Er → Prop} (hq : ∀ d, BadR (iN n) d → Q d) : (W.bind (wtl [.s, a, b, c, d, e, .l WL]) callR).run Q E := by
  unfold wtl
  walk_at "vl"
  rw [W_run_bind]
  refine mNext_run (by omega) (by omega) fun j g0 gj => ?_
  obtain ⟨j, rfl⟩ := nat_of g0
  have hj : j < WL.length := by omega
  have f := hq _ (hw _ (List.getElem_mem hj))
  have g : L2.atI WL (j : Int) = some WL[j] := by rw [atI_nat hj, List.getElem?_eq_getElem hj]
  clear hw hq
  try walk_at "vl"
  rw [g]
  walk_at "vl"
  exact f
theorem wt3_run {n : Nat} {r : Rule} {WL : List PyData} (ok : OkR n r) (h0 : 0 < WL.length) (h1 : WL.length < 90) (hw : ∀ d ∈ WL, BadR (iN n) d) (a b : Sl) {Q : PyData → Prop} {E : Er → Prop} (hq : ∀ d, BadR (iN n) d → Q d) : (W.bind (wt3 [.s, a, b, .d (.int (r.f : Int)), .d (.tuple (r.rs.map .str)), .d (.int (r.s : Int)), .l WL]) callR).run Q E := by
  have k1 : ∀ b, BadR (iN n) (.tuple [.bool b, .tuple (r.rs.map .str), .int (r.s : Int)]) := fun b => rb_first (is_index_no (is_integer_bool b))
  have k2 : ∀ b, BadR (iN n) (.tuple [.int (r.f : Int), .tuple (r.rs.map .str), .bool b]) := fun b => rb_second (is_index_t ok.ff) (is_index_no (is_integer_bool b))
  have add : ∀ (WL : List PyData) (d : PyData), (∀ d ∈ WL, BadR (iN n) d) → BadR (iN n) d → ∀ x ∈ WL ++ [d], BadR (iN n) x := fun WL d h h' x hx => by
    rcases List.mem_append.mp hx with z | z
    · exact h x z
    · rw [List.mem_singleton.mp z]; exact h'
  have two : ∀ (WL : List PyData), 0 < WL.length → WL.length < 91 → (∀ d ∈ WL, BadR (iN n) d) → (W.bind ((sSeq (sIf (op2T ltD (eVar 5) (Mo.ret (.int 2)))
  (sExpr (eAppend 6 (opL tupD (aCons (eVar 3) (aCons (eVar 4) (aCons (op2 eqD (eVar 5) (Mo.ret (.int 1))) (Mo.ret [])))))))
  sNil) wtl) [.s, a, b, .d (.int (r.f : Int)), .d (.tuple (r.rs.map .str)), .d (.int (r.s : Int)), .l WL]) callR).run Q E := by
    intro WL h0 h1 hw
    have ea : ∀ d, app1 WL d = some (WL ++ [d], .none) := fun d => app1_ok (by omega)
    by_cases h : (r.s : Int) < 2
    · have f := fun d hd => wtl_run (WL := WL ++ [d]) (by simp) (by simp; omega) (add WL d hw hd) a b (.d (.int (r.f : Int))) (.d (.tuple (r.rs.map .str))) (.d (.int (r.s : Int))) (Q := Q) (E := E) hq
      have f := f _ (k2 ((r.s : Int) == 1))
      clear add hw hq k1 k2
      generalize PyData.tuple (r.rs.map .str) = RD at *
      walk_at "vl"
      rw [if_pos h]
      walk_at "vl"
      rw [ea]
      walk_at "vl"
      exact f
    · have f := wtl_run h0 (by omega) hw a b (.d (.int (r.f : Int))) (.d (.tuple (r.rs.map .str))) (.d (.int (r.s : Int))) (Q := Q) (E := E) hq
      clear add hw hq k1 k2
      generalize PyData.tuple (r.rs.map .str) = RD at *
      walk_at "vl"
      rw [if_neg h]
      walk_at "vl"
      exact f
  have ea : ∀ d, app1 WL d = some (WL ++ [d], .none) := fun d => app1_ok (by omega)
  unfold wt3
  rw [c_sSeq]
  by_cases h : (r.f : Int) < 2
  · have f := two (WL ++ [_]) (by simp) (by simp; omega) (add WL _ hw (k1 ((r.f : Int) == 1)))
    clear add hw hq k1 k2 two
    generalize PyData.tuple (r.rs.map .str) = RD at *
    generalize (sSeq (sIf (op2T ltD (eVar 5) (Mo.ret (.int 2)))
  (sExpr (eAppend 6 (opL tupD (aCons (eVar 3) (aCons (eVar 4) (aCons (op2 eqD (eVar 5) (Mo.ret (.int 1))) (Mo.ret [])))))))
  sNil) wtl) = TT at f ⊢
    walk_at "vl"
    rw [if_pos h]
    walk_at "vl"
    rw [ea]
    walk_at "vl"
    exact f
  · have f := two WL h0 (by omega) hw
    clear add hw hq k1 k2 two
    generalize PyData.tuple (r.rs.map .str) = RD at *
    generalize (sSeq (sIf (op2T ltD (eVar 5) (Mo.ret (.int 2)))
  (sExpr (eAppend 6 (opL tupD (aCons (eVar 3) (aCons (eVar 4) (aCons (op2 eqD (eVar 5) (Mo.ret (.int 1))) (Mo.ret [])))))))
  sNil) wtl) = TT at f ⊢
    walk_at "vl"
    rw [if_neg h]
    walk_at "vl"
    exact f
theorem wrong_run {n : Nat} {r : Rule} (h7 : n ≤ 7) (ok : OkR n r) {Q : PyData → Prop} {E : Er → Prop} (hq : ∀ d, BadR (iN n) d → Q d) : (m__law_wrong_rules [iN n, ruleD r]).run Q E := by
  have hs : strD [.int (r.f : Int)] = some (.str (toString (r.f : Int))) := strD_nat (by have := ok.ff; omega)
  have hr : r.rs.length ≤ 3 := ok.sub.length_le
  have f := wt3_run ok (WL := W0 r.f r.s n (r.rs.map .str)) (by simp [W0]) (by simp [W0]) (w0_bad ok) (.d (iN n)) (.d (ruleD r)) (Q := Q) (E := E) hq
  unfold m__law_wrong_rules
  rw [wrong_eq]
  unfold ruleD at f ⊢
  unfold W0 at f
  have hl : lstD (r.rs.map PyData.str) = some (r.rs.map PyData.str) := lstD_le (by rw [List.length_map]; omega)
  generalize r.rs.map PyData.str = L at *
  generalize wt3 = TT at f ⊢
  clear hq
  walk_at "vl"
  rw [app_lst (by simp)]
  walk_at "vl"
  rw [app_lst (by simp)]
  walk_at "vl"
  rw [app_lst (by simp)]
  walk_at "vl"
  rw [hs]
  walk_at "vl"
  rw [app_lst (by simp)]
  walk_at "vl"
  exact f
end VM

set_option Elab.async false
set_option linter.all false
set_option maxRecDepth 100000
set_option maxHeartbeats 2000000
/-! What is no problem; slices. -/
namespace VM
open PySem VL KP RC
local macro_rules | `(tactic| walk_at "vl") => `(tactic| simp only [c_op1, c_op2, c_op2T, c_op2F, c_opL, c_opF, c_aCons, c_eList, c_eCall, c_eCall0, c_eCallS, stS_s, c_toT, c_tB1, c_tNotM, c_tAndM, c_tOrM, c_eAnd, c_eOr, c_eIf, c_eChain, chD_int, c_toO, intO_int, c_eSlice, c_toI, c_ret, c_bind, c_eVar, vS_d, vS_l, vS_ll, peekS_d, peekS_l, c_peek, c_bLen, c_bIx, c_bIn, c_bTru, c_bTup, c_bLst, c_bSort, c_bAddL, lS_l, c_eAppend, c_eExtend, c_ePop, c_ePopAt, seqR_nx, seqR_bk, seqR_ct, seqR_rt, c_sSeq, c_sNil, c_sRet, c_sRetN, c_sExpr, c_sBreak, c_sCont, c_stD, c_sSet, c_sSetL, c_sSetLL, c_sIf, c_sAsg, c_gR, dS_d, c_sAug, c_sFor, raR_str, c_sRaise, c_gN, gTp_tup, gCs, gNl, callR_nx, callR_rt, c_callM, c_callMS, c_wipe, c_wipe0, c_fSortSet, c_eDGet, c_sSetT, c_eRg1, c_eIndexL, vS_t, bD_bool, outD_some, W.ret_bind, W_bind_assoc, W.opt_some, W.opt_none, W.nox_ret, sAt_z, sAt_s, sAt_nil, Option.bind_some, Option.bind_none, Option.map_some, List.set_cons_zero, List.set_cons_succ, List.length_cons, List.length_nil, List.length_set, start0, List.map_cons, List.map_nil, List.cons_append, List.nil_append, List.append_nil, List.replicate_succ, List.replicate_zero, Nat.reduceAdd, Nat.reduceSub, Nat.reduceLT, Nat.reduceLeDiff, Nat.zero_add, Nat.add_zero, Nat.lt_add_left_iff_pos, Nat.succ_pos, if_true, if_false, ite_true, ite_false, reduceIte, reduceCtorEq, Bool.false_eq_true, Bool.true_and, Bool.and_true, Bool.false_and, Bool.and_false, Bool.not_true, Bool.not_false, Bool.xor_false, Bool.xor_true, Bool.false_xor, Bool.true_xor, Bool.not_not, decide_eq_true_eq, decide_true, decide_false, decide_eq_false_iff_not, Bool.not_eq_true', Bool.not_eq_false', beq_self_eq_true, isi_int_int, isi_int_bool, isi_int_str, isi_int_non, isi_int_tup, isi_int_lst, isi_bool_int, isi_bool_bool, isi_bool_str, isi_bool_non, isi_bool_tup, isi_bool_lst, isi_str_int, isi_str_bool, isi_str_str, isi_str_non, isi_str_tup, isi_str_lst, isi_tup_int, isi_tup_bool, isi_tup_str, isi_tup_non, isi_tup_tup, isi_tup_lst, isi_lst_int, isi_lst_bool, isi_lst_str, isi_lst_non, isi_lst_tup, isi_lst_lst, tru_bool, not_bool, isN_none, isN_bool, isN_int, isN_str, isN_tup, isN_lst, isB_bool, cmp_int, add_int, iadd_int, sub_int, neg_int, len_tup, len_lst, tuple_lst, tuple_tup, list_lst, list_tup, seq_lst, seq_tup, ix_tup, ix_lst, tupD, lstD, K_, atI_0, atI_1, atI_2, atI_3, eqD_int, neD_int, eqD_bool, bCase_bool, Int.cast_ofNat_Int, Int.natCast_zero, Int.natCast_one, Int.reduceBNe, Int.reduceBEq, Int.reduceLT, Int.reduceLE, bne_self_eq_false])
local macro_rules | `(tactic| walk_at "vls") => `(tactic| simp only [c_op1, c_op2, c_op2T, c_op2F, c_opL, c_opF, c_aCons, c_eList, c_eCall, c_eCall0, c_eCallS, stS_s, c_toT, c_tB1, c_tNotM, c_tAndM, c_tOrM, c_eAnd, c_eOr, c_eIf, c_eChain, chD_int, c_toO, intO_int, c_eSlice, c_toI, c_ret, c_bind, c_eVar, vS_d, vS_l, vS_ll, peekS_d, peekS_l, c_peek, c_bLen, c_bIx, c_bIn, c_bTru, c_bTup, c_bLst, c_bSort, c_bAddL, lS_l, c_eAppend, c_eExtend, c_ePop, c_ePopAt, seqR_nx, seqR_bk, seqR_ct, seqR_rt, c_sSeq, c_sNil, c_sRet, c_sRetN, c_sExpr, c_sBreak, c_sCont, c_stD, c_sSet, c_sSetL, c_sSetLL, c_sIf, c_sAsg, c_gR, dS_d, c_sAug, c_sFor, raR_str, c_sRaise, c_gN, gTp_tup, gCs, gNl, callR_nx, callR_rt, c_callM, c_callMS, c_wipe, c_wipe0, c_fSortSet, c_eDGet, c_sSetT, c_eRg1, c_eIndexL, vS_t, bD_bool, outD_some, W.ret_bind, W_bind_assoc, W.opt_some, W.opt_none, W.nox_ret, sAt_z, sAt_s, sAt_nil, Option.bind_some, Option.bind_none, Option.map_some, List.set_cons_zero, List.set_cons_succ, List.length_cons, List.length_nil, List.length_set, start0, List.map_cons, List.map_nil, List.cons_append, List.nil_append, List.append_nil, List.replicate_succ, List.replicate_zero, Nat.reduceAdd, Nat.reduceSub, Nat.reduceLT, Nat.reduceLeDiff, Nat.zero_add, Nat.add_zero, Nat.lt_add_left_iff_pos, Nat.succ_pos, if_true, if_false, ite_true, ite_false, reduceIte, reduceCtorEq, Bool.false_eq_true, Bool.true_and, Bool.and_true, Bool.false_and, Bool.and_false, Bool.not_true, Bool.not_false, Bool.xor_false, Bool.xor_true, Bool.false_xor, Bool.true_xor, Bool.not_not, decide_eq_true_eq, decide_true, decide_false, decide_eq_false_iff_not, Bool.not_eq_true', Bool.not_eq_false', beq_self_eq_true, isi_int_int, isi_int_bool, isi_int_str, isi_int_non, isi_int_tup, isi_int_lst, isi_bool_int, isi_bool_bool, isi_bool_str, isi_bool_non, isi_bool_tup, isi_bool_lst, isi_str_int, isi_str_bool, isi_str_str, isi_str_non, isi_str_tup, isi_str_lst, isi_tup_int, isi_tup_bool, isi_tup_str, isi_tup_non, isi_tup_tup, isi_tup_lst, isi_lst_int, isi_lst_bool, isi_lst_str, isi_lst_non, isi_lst_tup, isi_lst_lst, tru_bool, not_bool, isN_none, isN_bool, isN_int, isN_str, isN_tup, isN_lst, isB_bool, cmp_int, add_int, iadd_int, sub_int, neg_int, len_tup, len_lst, tuple_lst, tuple_tup, list_lst, list_tup, seq_lst, seq_tup, ix_tup, ix_lst, tupD, lstD, K_, atI_0, atI_1, atI_2, atI_3, eqD_int, neD_int, eqD_bool, bCase_bool, Int.cast_ofNat_Int, Int.natCast_zero, Int.natCast_one, Int.reduceBNe, Int.reduceBEq, Int.reduceLT, Int.reduceLE, bne_self_eq_false, *])
theorem prob_all {n : Nat} (h1 : 1 ≤ n) (h7 : n ≤ 7) (l : List (PyData × Bool)) (hl : l.length ≤ 20) (h : ∀ q ∈ l, m_is_rule [q.1, iN n] = W.ret (.bool q.2)) : m_is_problem [.tuple [iN n, .tuple (l.map (·.1))]] = W.ret (.bool (l.all (·.2))) := by
  unfold m_is_problem b_is_problem
  walk_at "vl"
  rw [is_size_t h1 h7]
  have h20 : ¬ (20 : Int) < ((l.map (·.1)).length : Int) := by rw [List.length_map]; omega
  walk_at "vl"
  simp only [h20]
  walk_at "vl"
  rw [genM_of l (·.1) (·.2) (by walk_at "vl") rfl ?h]
  · walk_at "vl"
  · intro r hr
    refine ⟨_, rfl, ?_⟩
    refine ⟨?_, rfl⟩
    walk_at "vl"
    rw [h r hr]
    walk_at "vl"
def BadP (d : PyData) : Prop := m_is_problem [d] = W.ret (.bool false)
theorem pb_none : BadP .none := by
  unfold BadP m_is_problem b_is_problem
  walk_at "vl"
theorem pb_lst (l) : BadP (.list l) := by
  unfold BadP m_is_problem b_is_problem
  walk_at "vl"
theorem pb_one (a) : BadP (.tuple [a]) := by
  unfold BadP m_is_problem b_is_problem
  walk_at "vl"
theorem pb_three (a b c) : BadP (.tuple [a, b, c]) := by
  unfold BadP m_is_problem b_is_problem
  walk_at "vl"
theorem pb_size {a b} (h : m_is_size [a] = W.ret (.bool false)) : BadP (.tuple [a, b]) := by
  unfold BadP m_is_problem b_is_problem
  walk_at "vls"
theorem pb_kind {n l} (h1 : m_is_size [n] = W.ret (.bool true)) (h : isiD "tuple" l = some (.bool false)) : BadP (.tuple [n, l]) := by
  unfold BadP m_is_problem b_is_problem
  walk_at "vls"
theorem pb_many {n} {l : List PyData} (h1 : m_is_size [n] = W.ret (.bool true)) (h : 20 < l.length) : BadP (.tuple [n, .tuple l]) := by
  have h2 : (20 : Int) < (l.length : Int) := by omega
  unfold BadP m_is_problem b_is_problem
  clear h
  walk_at "vls"
theorem prob_bad {n : Nat} (h1 : 1 ≤ n) (h7 : n ≤ 7) {A B : List Rule} {d : PyData} (hl : A.length + B.length ≤ 19) (hA : ∀ r ∈ A, OkR n r) (hB : ∀ r ∈ B, OkR n r) (hd : BadR (iN n) d) : BadP (.tuple [iN n, .tuple (A.map ruleD ++ d :: B.map ruleD)]) := by
  have := prob_all h1 h7 (A.map (fun r => (ruleD r, true)) ++ (d, false) :: B.map (fun r => (ruleD r, true))) (by simp; omega) (by
    intro q hq
    rcases List.mem_append.mp hq with z | z
    · obtain ⟨r, hr, rfl⟩ := List.mem_map.mp z
      exact rule_ok (hA r hr)
    · rcases List.mem_cons.mp z with rfl | z
      · exact hd
      · obtain ⟨r, hr, rfl⟩ := List.mem_map.mp z
        exact rule_ok (hB r hr))
  have e : (A.map (fun r => (ruleD r, true)) ++ (d, false) :: B.map (fun r => (ruleD r, true))).all (·.2) = false := by
    rw [List.all_append, List.all_cons, Bool.false_and, Bool.and_false]
  rw [e, List.map_append, List.map_cons, List.map_map, List.map_map] at this
  exact this
theorem cut_lo (xs : List PyData) (k : Nat) : cutD xs none (some (k : Int)) = xs.take k := by
  unfold cutD
  rw [HT.sIx_none, HT.sIx_nat, List.drop_zero, Nat.sub_zero]
  by_cases h : k ≤ xs.length
  · rw [Nat.min_eq_left h]
  · rw [Nat.min_eq_right (by omega), List.take_length, List.take_of_length_le (by omega)]
theorem cut_hi (xs : List PyData) (k : Nat) : cutD xs (some (k : Int)) none = xs.drop k := by
  unfold cutD
  rw [HT.sIx_none, HT.sIx_nat]
  by_cases h : k ≤ xs.length
  · rw [Nat.min_eq_left h, List.take_of_length_le (by rw [List.length_drop]; omega)]
  · rw [Nat.min_eq_right (by omega), Nat.sub_self, List.take_zero, List.drop_of_length_le (by omega)]
theorem cut_nil (a b : Option Int) : cutD ([] : List PyData) a b = [] := by
  unfold cutD
  rw [List.drop_nil, List.take_nil]
def WP0 (n : Nat) (R : List Rule) : List PyData := [.none, .list [iN n, .tuple (R.map ruleD)], .tuple [iN n], .tuple [iN n, .tuple (R.map ruleD), .tuple []], .tuple [.int 0, .tuple []], .tuple [.int 8, .tuple (R.map ruleD)], .tuple [.int (-1), .tuple []], .tuple [.bool true, .tuple []], .tuple [.str (toString (n : Int)), .tuple (R.map ruleD)], .tuple [iN n, .list (R.map ruleD)], .tuple [.none, .tuple (R.map ruleD)]]
theorem wp0_bad {n : Nat} {R : List Rule} (h1 : 1 ≤ n) (h7 : n ≤ 7) : ∀ d ∈ WP0 n R, BadP d := by
  intro d hd
  have hs := is_size_t h1 h7
  simp only [WP0, List.mem_cons, List.not_mem_nil, or_false] at hd
  rcases hd with rfl | rfl | rfl | rfl | rfl | rfl | rfl | rfl | rfl | rfl | rfl
  · exact pb_none
  · exact pb_lst _
  · exact pb_one _
  · exact pb_three _ _ _
  · exact pb_size (is_size_f (by omega))
  · exact pb_size (is_size_f (by omega))
  · exact pb_size (is_size_f (by omega))
  · exact pb_size (is_size_no (is_integer_bool _))
  · exact pb_size (is_size_no (is_integer_str _))
  · exact pb_kind hs (isi_tup_lst _)
  · exact pb_size (is_size_no is_integer_none)
end VM

set_option Elab.async false
set_option linter.all false
set_option maxRecDepth 100000
set_option maxHeartbeats 2000000
/-! k17: the law's run -/
namespace K17
open PySem VL VM KP RC
local macro_rules | `(tactic| walk_at "vl") => `(tactic| simp only [c_op1, c_op2, c_op2T, c_op2F, c_opL, c_opF, c_aCons, c_eList, c_eCall, c_eCall0, c_eCallS, stS_s, c_toT, c_tB1, c_tNotM, c_tAndM, c_tOrM, c_eAnd, c_eOr, c_eIf, c_eChain, chD_int, c_toO, intO_int, c_eSlice, c_toI, c_ret, c_bind, c_eVar, vS_d, vS_l, vS_ll, peekS_d, peekS_l, c_peek, c_bLen, c_bIx, c_bIn, c_bTru, c_bTup, c_bLst, c_bSort, c_bAddL, lS_l, c_eAppend, c_eExtend, c_ePop, c_ePopAt, seqR_nx, seqR_bk, seqR_ct, seqR_rt, c_sSeq, c_sNil, c_sRet, c_sRetN, c_sExpr, c_sBreak, c_sCont, c_stD, c_sSet, c_sSetL, c_sSetLL, c_sIf, c_sAsg, c_gR, dS_d, c_sAug, c_sFor, raR_str, c_sRaise, c_gN, gTp_tup, gCs, gNl, callR_nx, callR_rt, c_callM, c_callMS, c_wipe, c_wipe0, c_fSortSet, c_eDGet, c_sSetT, c_eRg1, c_eIndexL, vS_t, bD_bool, outD_some, W.ret_bind, W_bind_assoc, W.opt_some, W.opt_none, W.nox_ret, sAt_z, sAt_s, sAt_nil, Option.bind_some, Option.bind_none, Option.map_some, List.set_cons_zero, List.set_cons_succ, List.length_cons, List.length_nil, List.length_set, start0, List.map_cons, List.map_nil, List.cons_append, List.nil_append, List.append_nil, List.replicate_succ, List.replicate_zero, Nat.reduceAdd, Nat.reduceSub, Nat.reduceLT, Nat.reduceLeDiff, Nat.zero_add, Nat.add_zero, Nat.lt_add_left_iff_pos, Nat.succ_pos, if_true, if_false, ite_true, ite_false, reduceIte, reduceCtorEq, Bool.false_eq_true, Bool.true_and, Bool.and_true, Bool.false_and, Bool.and_false, Bool.not_true, Bool.not_false, Bool.xor_false, Bool.xor_true, Bool.false_xor, Bool.true_xor, Bool.not_not, decide_eq_true_eq, decide_true, decide_false, decide_eq_false_iff_not, Bool.not_eq_true', Bool.not_eq_false', beq_self_eq_true, isi_int_int, isi_int_bool, isi_int_str, isi_int_non, isi_int_tup, isi_int_lst, isi_bool_int, isi_bool_bool, isi_bool_str, isi_bool_non, isi_bool_tup, isi_bool_lst, isi_str_int, isi_str_bool, isi_str_str, isi_str_non, isi_str_tup, isi_str_lst, isi_tup_int, isi_tup_bool, isi_tup_str, isi_tup_non, isi_tup_tup, isi_tup_lst, isi_lst_int, isi_lst_bool, isi_lst_str, isi_lst_non, isi_lst_tup, isi_lst_lst, tru_bool, not_bool, isN_none, isN_bool, isN_int, isN_str, isN_tup, isN_lst, isB_bool, cmp_int, add_int, iadd_int, sub_int, neg_int, len_tup, len_lst, tuple_lst, tuple_tup, list_lst, list_tup, seq_lst, seq_tup, ix_tup, ix_lst, tupD, lstD, K_, atI_0, atI_1, atI_2, atI_3, eqD_int, neD_int, eqD_bool, bCase_bool, Int.cast_ofNat_Int, Int.natCast_zero, Int.natCast_one, Int.reduceBNe, Int.reduceBEq, Int.reduceLT, Int.reduceLE, bne_self_eq_false])
local macro_rules | `(tactic| walk_at "vls") => `(tactic| simp only [c_op1, c_op2, c_op2T, c_op2F, c_opL, c_opF, c_aCons, c_eList, c_eCall, c_eCall0, c_eCallS, stS_s, c_toT, c_tB1, c_tNotM, c_tAndM, c_tOrM, c_eAnd, c_eOr, c_eIf, c_eChain, chD_int, c_toO, intO_int, c_eSlice, c_toI, c_ret, c_bind, c_eVar, vS_d, vS_l, vS_ll, peekS_d, peekS_l, c_peek, c_bLen, c_bIx, c_bIn, c_bTru, c_bTup, c_bLst, c_bSort, c_bAddL, lS_l, c_eAppend, c_eExtend, c_ePop, c_ePopAt, seqR_nx, seqR_bk, seqR_ct, seqR_rt, c_sSeq, c_sNil, c_sRet, c_sRetN, c_sExpr, c_sBreak, c_sCont, c_stD, c_sSet, c_sSetL, c_sSetLL, c_sIf, c_sAsg, c_gR, dS_d, c_sAug, c_sFor, raR_str, c_sRaise, c_gN, gTp_tup, gCs, gNl, callR_nx, callR_rt, c_callM, c_callMS, c_wipe, c_wipe0, c_fSortSet, c_eDGet, c_sSetT, c_eRg1, c_eIndexL, vS_t, bD_bool, outD_some, W.ret_bind, W_bind_assoc, W.opt_some, W.opt_none, W.nox_ret, sAt_z, sAt_s, sAt_nil, Option.bind_some, Option.bind_none, Option.map_some, List.set_cons_zero, List.set_cons_succ, List.length_cons, List.length_nil, List.length_set, start0, List.map_cons, List.map_nil, List.cons_append, List.nil_append, List.append_nil, List.replicate_succ, List.replicate_zero, Nat.reduceAdd, Nat.reduceSub, Nat.reduceLT, Nat.reduceLeDiff, Nat.zero_add, Nat.add_zero, Nat.lt_add_left_iff_pos, Nat.succ_pos, if_true, if_false, ite_true, ite_false, reduceIte, reduceCtorEq, Bool.false_eq_true, Bool.true_and, Bool.and_true, Bool.false_and, Bool.and_false, Bool.not_true, Bool.not_false, Bool.xor_false, Bool.xor_true, Bool.false_xor, Bool.true_xor, Bool.not_not, decide_eq_true_eq, decide_true, decide_false, decide_eq_false_iff_not, Bool.not_eq_true', Bool.not_eq_false', beq_self_eq_true, isi_int_int, isi_int_bool, isi_int_str, isi_int_non, isi_int_tup, isi_int_lst, isi_bool_int, isi_bool_bool, isi_bool_str, isi_bool_non, isi_bool_tup, isi_bool_lst, isi_str_int, isi_str_bool, isi_str_str, isi_str_non, isi_str_tup, isi_str_lst, isi_tup_int, isi_tup_bool, isi_tup_str, isi_tup_non, isi_tup_tup, isi_tup_lst, isi_lst_int, isi_lst_bool, isi_lst_str, isi_lst_non, isi_lst_tup, isi_lst_lst, tru_bool, not_bool, isN_none, isN_bool, isN_int, isN_str, isN_tup, isN_lst, isB_bool, cmp_int, add_int, iadd_int, sub_int, neg_int, len_tup, len_lst, tuple_lst, tuple_tup, list_lst, list_tup, seq_lst, seq_tup, ix_tup, ix_lst, tupD, lstD, K_, atI_0, atI_1, atI_2, atI_3, eqD_int, neD_int, eqD_bool, bCase_bool, Int.cast_ofNat_Int, Int.natCast_zero, Int.natCast_one, Int.reduceBNe, Int.reduceBEq, Int.reduceLT, Int.reduceLE, bne_self_eq_false, *])
noncomputable def kt3 : SM := (sSeq (sSet 6 (eCallS 1 m__law_rule (aCons (eVar 3) (aCons (Mo.ret .none) (Mo.ret [])))))
  (sSeq (sSet 7 (op2 ixD (eList (opF lstD (aCons (Mo.ret (.int 0)) (aCons (op2 fdivD (opL lenD (aCons (eVar 4) (Mo.ret []))) (Mo.ret (.int 2))) (aCons (opL lenD (aCons (eVar 4) (Mo.ret []))) (Mo.ret [])))))) (eCallS 1 mNext (aCons (Mo.ret (.int 3)) (Mo.ret [])))))
  (sSeq (sFor (opF rng1D (aCons (Mo.ret (.int 4)) (Mo.ret []))) (gN 8)
  l1_law)
  (sSeq (sSet 10 (eSlice (op2 addD (eVar 4) (op2 mulTD (opL tupD (aCons (eVar 6) (Mo.ret []))) (Mo.ret (.int 20)))) (Mo.ret none) (toO (Mo.ret (.int 20)))))
  (sRet (eAnd (op1 (isBD false true) (eCall m_is_problem (aCons (opL tupD (aCons (eVar 3) (aCons (eVar 10) (Mo.ret [])))) (Mo.ret [])))) (op1 (isBD false false) (eCall m_is_problem (aCons (opL tupD (aCons (eVar 3) (aCons (op2 addD (eVar 10) (opL tupD (aCons (eVar 6) (Mo.ret [])))) (Mo.ret [])))) (Mo.ret []))))))))))
noncomputable def kt2 : SM := (sSeq (sIf (op2T eqD (eVar 3) (Mo.ret (.int 1)))
  (sRet (op1 (isBD false false) (eCall m_is_problem (aCons (opL tupD (aCons (Mo.ret (.int 1)) (aCons (opL tupD (aCons (opL tupD (aCons (Mo.ret (.int 0)) (aCons (opL tupD (aCons (Mo.ret (.str "before")) (Mo.ret []))) (aCons (Mo.ret (.int 0)) (Mo.ret []))))) (Mo.ret []))) (Mo.ret [])))) (Mo.ret [])))))
  sNil)
  kt3)
theorem b_eq : b_law = (sSeq (sSet 2 (eCallS 1 m__law_problem_2 (aCons (Mo.ret (.int 1)) (aCons (Mo.ret (.int 7)) (aCons (Mo.ret (.int 20)) (Mo.ret []))))))
  (sSeq (sIf (tB1 (op1 (isBD true true) (eCall m_is_problem (aCons (eVar 2) (Mo.ret [])))))
  (sRet (Mo.ret (.bool false)))
  sNil)
  (sSeq (sAsg (gTp 2 (gCs (gN 3) (gCs (gN 4) gNl))) (eVar 2))
  (sSeq (sSet 5 (eList (opF lstD (aCons (Mo.ret .none) (aCons (eList (opF listD (aCons (eVar 2) (Mo.ret [])))) (aCons (opL tupD (aCons (eVar 3) (Mo.ret []))) (aCons (opL tupD (aCons (eVar 3) (aCons (eVar 4) (aCons (opL tupD (Mo.ret [])) (Mo.ret []))))) (aCons (opL tupD (aCons (Mo.ret (.int 0)) (aCons (opL tupD (Mo.ret [])) (Mo.ret [])))) (aCons (opL tupD (aCons (Mo.ret (.int 8)) (aCons (eVar 4) (Mo.ret [])))) (aCons (opL tupD (aCons (op1 negD (Mo.ret (.int 1))) (aCons (opL tupD (Mo.ret [])) (Mo.ret [])))) (aCons (opL tupD (aCons (Mo.ret (.bool true)) (aCons (opL tupD (Mo.ret [])) (Mo.ret [])))) (aCons (opL tupD (aCons (opL strD (aCons (eVar 3) (Mo.ret []))) (aCons (eVar 4) (Mo.ret [])))) (aCons (opL tupD (aCons (eVar 3) (aCons (eList (opF listD (aCons (eVar 4) (Mo.ret [])))) (Mo.ret [])))) (aCons (opL tupD (aCons (Mo.ret .none) (aCons (eVar 4) (Mo.ret [])))) (Mo.ret [])))))))))))))))
  (sSeq (sIf (tB1 (op1 (isBD true false) (eCall m_is_problem (aCons (op2 ixD (eVar 5) (eCallS 1 mNext (aCons (opL lenD (aCons (eVar 5) (Mo.ret []))) (Mo.ret [])))) (Mo.ret [])))))
  (sRet (Mo.ret (.bool false)))
  sNil)
  kt2))))) := rfl
theorem turn_run {n i : Nat} {R : List Rule} (h : OkP 20 n R) (h2 : 2 ≤ n) (ha : i ≤ R.length) (a b c t8 t9 t10 : Sl) {Q : Fl × En → Prop} {E : Er → Prop} (hq : ∀ t, Q (.nx, [.no, .s, a, .d (iN n), .d (.tuple (R.map ruleD)), b, c, .d (iN i), t8, t, t10])) :
    (l1_law [.no, .s, a, .d (iN n), .d (.tuple (R.map ruleD)), b, c, .d (iN i), t8, t9, t10]).run Q E := by
  have hlen := h.len
  unfold l1_law
  walk_at "vl"
  rw [W_run_bind]
  refine law_rule_run h2 h.hi (.inl rfl) fun r hr => ?_
  try walk_at "vl"
  rw [W_run_bind]
  refine wrong_run h.hi hr fun d hd => ?_
  have fq := hq (.d d)
  have s1 : slD (.tuple (R.map ruleD)) none (some (i : Int)) = some (.tuple ((R.take i).map ruleD)) := by
    show some (PyData.tuple _) = _
    rw [cut_lo, List.map_take]
  have s2 : slD (.tuple ((R.take i).map ruleD)) none (some 19) = some (.tuple (((R.take i).take 19).map ruleD)) := by
    show some (PyData.tuple (cutD _ none (some ((19 : Nat) : Int)))) = _
    rw [cut_lo]
    simp only [List.map_take]
  have s3 : slD (.tuple (R.map ruleD)) (some (i : Int)) none = some (.tuple ((R.drop i).map ruleD)) := by
    show some (PyData.tuple _) = _
    rw [cut_hi, List.map_drop]
  have s4 : slD (.tuple ((R.drop i).map ruleD)) none (some (19 - (i : Int))) = some (.tuple (((R.drop i).take (19 - i)).map ruleD)) := by
    by_cases h19 : i ≤ 19
    · rw [show (19 : Int) - (i : Int) = ((19 - i : Nat) : Int) by omega]
      show some (PyData.tuple _) = _
      rw [cut_lo, List.map_take]
    · rw [List.drop_of_length_le (by omega)]
      show some (PyData.tuple _) = _
      rw [List.map_nil, cut_nil, List.take_nil, List.map_nil]
  have l1 : ((R.take i).take 19).length + ((R.drop i).take (19 - i)).length ≤ 19 := by
    rw [List.length_take, List.length_take, List.length_take, List.length_drop]
    omega
  have a1 : addD (.tuple (((R.take i).take 19).map ruleD)) (.tuple [d]) = some (.tuple (((R.take i).take 19).map ruleD ++ [d])) := add_tup (by rw [List.length_map, List.length_singleton]; omega)
  have a2 : addD (.tuple (((R.take i).take 19).map ruleD ++ [d])) (.tuple (((R.drop i).take (19 - i)).map ruleD)) = some (.tuple ((((R.take i).take 19).map ruleD ++ [d]) ++ ((R.drop i).take (19 - i)).map ruleD)) := add_tup (by rw [List.length_append, List.length_map, List.length_map, List.length_singleton]; omega)
  have hp : m_is_problem [.tuple [iN n, .tuple ((((R.take i).take 19).map ruleD ++ [d]) ++ ((R.drop i).take (19 - i)).map ruleD)]] = W.ret (.bool false) := by
    rw [List.append_assoc]
    exact prob_bad h.lo h.hi l1 (fun r hr => h.ok r (List.mem_of_mem_take (List.mem_of_mem_take hr))) (fun r hr => h.ok r (List.mem_of_mem_drop (List.mem_of_mem_take hr))) hd
  clear hq h hr hd l1 ha hlen h2
  generalize ((R.take i).take 19).map ruleD = A at *
  generalize ((R.drop i).take (19 - i)).map ruleD = B at *
  generalize (R.take i).map ruleD = A1 at *
  generalize (R.drop i).map ruleD = B1 at *
  generalize R.map ruleD = RT at *
  generalize (A ++ [d]) ++ B = W1 at *
  generalize A ++ [d] = W2 at *
  walk_at "vls"
  exact fq
theorem kt3_run {n : Nat} {R : List Rule} (h : OkP 20 n R) (h2 : 2 ≤ n) (a b : Sl) : (kt3 [.no, .s, a, .d (iN n), .d (.tuple (R.map ruleD)), b, .no, .no, .no, .no, .no]).run (fun r => r.1 = .rt (.bool true)) (fun _ => False) := by
  have hlen := h.len
  unfold kt3
  walk_at "vl"
  rw [W_run_bind]
  refine law_rule_run h2 h.hi (.inl rfl) fun r hr => ?_
  have d1 : fdivD (.int (R.length : Int)) (.int 2) = some (iN (R.length / 2)) := by
    show (if Dv_ 2 then some (PyData.int ((R.length : Int) / 2)) else none) = _
    rw [if_pos (show Dv_ 2 from ⟨by omega, by omega⟩)]
    rfl
  try walk_at "vl"
  rw [List.length_map, d1]
  walk_at "vl"
  rw [W_run_bind]
  refine mNext_run (by omega) (by omega) fun j g0 gj => ?_
  obtain ⟨j, rfl⟩ := nat_of g0
  obtain ⟨i, hi, ei⟩ : ∃ i, i ≤ R.length ∧ L2.atI [.int 0, iN (R.length / 2), iN R.length] (j : Int) = some (iN i) := by
    have : j = 0 ∨ j = 1 ∨ j = 2 := by omega
    rcases this with rfl | rfl | rfl
    · exact ⟨0, by omega, atI_nat (n := 0) (by simp)⟩
    · exact ⟨R.length / 2, by omega, atI_nat (n := 1) (by simp)⟩
    · exact ⟨R.length, by omega, atI_nat (n := 2) (by simp)⟩
  try walk_at "vl"
  rw [List.length_map, ei]
  walk_at "vl"
  rw [show (4 : Int) = ((4 : Nat) : Int) from rfl, rng1D_nat (by omega)]
  walk_at "vl"
  rw [W_run_bind]
  refine forW_of (List.range 4) (fun k : Nat => PyData.int (k : Int)) (fun _ env => ∃ (t8 t9 : Sl), env = [.no, .s, a, .d (iN n), .d (.tuple (R.map ruleD)), b, .d (ruleD r), .d (iN i), t8, t9, .no]) ⟨_, _, rfl⟩ ?hs ?hd
  case hs =>
    rintro k x env hx ⟨t8, t9, rfl⟩
    exact ⟨_, rfl, turn_run h h2 hi _ _ _ _ _ _ fun t => ⟨_, _, rfl⟩⟩
  case hd =>
    rintro env ⟨t8, t9, rfl⟩
    have m1 : mulTD (.tuple [ruleD r]) (.int 20) = some (.tuple ((List.replicate 20 r).map ruleD)) := by
      have e : mulTD (.tuple [ruleD r]) (.int 20) = some (.tuple (List.replicate (20 : Int).toNat [ruleD r]).flatten) := by
        show (if 0 < [ruleD r].length ∧ (2 : Int) ≤ 20 ∧ (20 : Int) ≤ 1000 ∧ [ruleD r].length ≤ 1000 then some (PyData.tuple (List.replicate (20 : Int).toNat [ruleD r]).flatten) else none) = _
        rw [if_pos ⟨by simp, by omega, by omega, by simp⟩]
      rw [e]
      rfl
    have m2 : addD (.tuple (R.map ruleD)) (.tuple ((List.replicate 20 r).map ruleD)) = some (.tuple ((R ++ List.replicate 20 r).map ruleD)) := by
      rw [add_tup (by simp; omega), List.map_append]
    have m3 : slD (.tuple ((R ++ List.replicate 20 r).map ruleD)) none (some 20) = some (.tuple (((R ++ List.replicate 20 r).take 20).map ruleD)) := by
      show some (PyData.tuple (cutD _ none (some ((20 : Nat) : Int)))) = _
      rw [cut_lo, List.map_take]
    have hF : ((R ++ List.replicate 20 r).take 20).length = 20 := by
      rw [List.length_take, List.length_append, List.length_replicate]
      omega
    have hok : ∀ q ∈ (R ++ List.replicate 20 r).take 20, OkR n q := fun q hq => by
      rcases List.mem_append.mp (List.mem_of_mem_take hq) with z | z
      · exact h.ok q z
      · rw [(List.mem_replicate.mp z).2]; exact hr
    have m4 : addD (.tuple (((R ++ List.replicate 20 r).take 20).map ruleD)) (.tuple [ruleD r]) = some (.tuple (((R ++ List.replicate 20 r).take 20).map ruleD ++ [ruleD r])) := add_tup (by rw [List.length_map, hF]; simp)
    have p1 : m_is_problem [.tuple [iN n, .tuple (((R ++ List.replicate 20 r).take 20).map ruleD)]] = W.ret (.bool true) := problem_ok (mx := 20) ⟨h.lo, h.hi, by omega, hok⟩ (by omega)
    have p2 : m_is_problem [.tuple [iN n, .tuple (((R ++ List.replicate 20 r).take 20).map ruleD ++ [ruleD r])]] = W.ret (.bool false) := pb_many (is_size_t h.lo h.hi) (by rw [List.length_append, List.length_map, hF]; simp)
    clear hF hok ei d1 h hlen h2 hi gj g0 hr
    generalize ((R ++ List.replicate 20 r).take 20).map ruleD = F at *
    generalize F ++ [ruleD r] = F1 at *
    generalize (R ++ List.replicate 20 r).map ruleD = F2 at *
    generalize (List.replicate 20 r).map ruleD = F3 at *
    generalize R.map ruleD = RT at *
    generalize ruleD r = rD at *
    walk_at "vls"
    rfl
theorem kt2_run {n : Nat} {R : List Rule} (h : OkP 20 n R) (a b : Sl) : (kt2 [.no, .s, a, .d (iN n), .d (.tuple (R.map ruleD)), b, .no, .no, .no, .no, .no]).run (fun r => r.1 = .rt (.bool true)) (fun _ => False) := by
  unfold kt2
  by_cases n1 : n = 1
  · have e : ((n : Int) == 1) = true := by rw [n1]; rfl
    have p0 : m_is_problem [.tuple [.int 1, .tuple [.tuple [.int 0, .tuple [.str "before"], .int 0]]]] = W.ret (.bool false) := prob_all (n := 1) (by omega) (by omega) [(.tuple [.int 0, .tuple [.str "before"], .int 0], false)] (by simp) (fun q hq => by
      rw [List.mem_singleton.mp hq]
      exact rb_same (i := 0) (is_index_t (i := 0) (n := 1) (by omega)))
    clear h
    generalize kt3 = TT
    walk_at "vl"
    rw [e]
    walk_at "vl"
    rw [p0]
    walk_at "vl"
    rfl
  · have e : ((n : Int) == 1) = false := by rw [beq_eq_false_iff_ne]; omega
    have f := kt3_run h (by have := h.lo; omega) a b
    clear h
    generalize kt3 = TT at f ⊢
    walk_at "vl"
    rw [e]
    walk_at "vl"
    exact f
theorem hrun : (b_law (.no :: .s :: List.replicate 9 .no)).run (fun r => r.1 = .rt (.bool true)) (fun _ => False) := by
  rw [b_eq]
  have rest := @kt2_run
  generalize kt2 = TT at rest ⊢
  walk_at "vl"
  rw [W_run_bind]
  refine law_problem2_run (lo := 1) (hi := 7) (mx := 20) (by omega) (by omega) (by omega) (by omega) fun n R h1 h7 h => ?_
  have g1 := problem_ok h (by omega)
  have g2 : strD [.int (n : Int)] = some (.str (toString (n : Int))) := strD_nat (by omega)
  have g3 : listD [.tuple (R.map ruleD)] = some (R.map ruleD) := list_tup _
  have key : ∀ j : Nat, (j : Int) < 11 → ∃ d, m_is_problem [d] = W.ret (.bool false) ∧ ixD (.list [.none, .list [.int (n : Int), .tuple (R.map ruleD)], .tuple [.int (n : Int)], .tuple [.int (n : Int), .tuple (R.map ruleD), .tuple []], .tuple [.int 0, .tuple []], .tuple [.int 8, .tuple (R.map ruleD)], .tuple [.int (-1), .tuple []], .tuple [.bool true, .tuple []], .tuple [.str (toString (n : Int)), .tuple (R.map ruleD)], .tuple [.int (n : Int), .list (R.map ruleD)], .tuple [.none, .tuple (R.map ruleD)]]) (.int (j : Int)) = some d := fun j hj => by
    have hj' : j < (WP0 n R).length := by
      show j < 11
      omega
    refine ⟨_, wp0_bad (R := R) h1 h7 _ (List.getElem_mem hj'), ?_⟩
    show L2.atI (WP0 n R) (j : Int) = _
    rw [atI_nat hj', List.getElem?_eq_getElem hj']
  have f := rest h
  have f0 : probD n R = .tuple [.int (n : Int), .tuple (R.map ruleD)] := rfl
  rw [f0] at g1 ⊢
  clear rest h f0
  generalize R.map ruleD = RT at *
  have run : ∀ j : Nat, (j : Int) < 11 → ∃ d, m_is_problem [d] = W.ret (.bool false) ∧ _ := key
  clear key
  walk_at "vls"
  rw [W_run_bind]
  refine mNext_run (by omega) (by omega) fun j g0 gj => ?_
  obtain ⟨j, rfl⟩ := nat_of g0
  obtain ⟨d, p, e⟩ := run j gj
  rw [e]
  have ff := f (.d (.tuple [.int (n : Int), .tuple RT]))
  clear f run e gj g0 g1 g2 g3
  walk_at "vl"
  rw [p]
  walk_at "vl"
  exact ff _
end K17

set_option Elab.async false
set_option linter.all false
set_option maxRecDepth 100000
set_option maxHeartbeats 2000000
/-! k17_forms_of_problems: the defs keep to their computations -/
namespace K17
open PySem PySem.Spec PyProof.Rows L2 GxR GA KR GenW VL VM
def top (i : Nat) : Stmt := PySem.Challenge.pw_thenbeside_k17_forms_of_problems.main.body.getD i (.Pass ⟨0, 0, 0, 0⟩)
section
variable {P : Program} {w : World} {K : PySem.W.Frag} {mg : Str → Option Value} {base : Heap} {T : List Addr}
abbrev s_is_integer : Stmt := top 3
theorem sc_is_integer : FnScope ["value"] ["value"] (defScope s_is_integer) := ⟨rfl, rfl, rfl, by decide +kernel, rfl, by decide +kernel, by decide +kernel⟩
theorem fb_is_integer (NB : Bl mg) :
    BodyOk T false P w K mg base ["value"] "is_integer" s_is_integer 1 b_is_integer := fun f c cd A outer s H E B =>
  (vss_one (vs_ret (ve_and (ve_isi (t := "int") rfl NB.isinstance rfl NB.int (by decide +kernel) (ve_var (pv 0))) (ve_one (ve_not (ve_isi (t := "bool") rfl NB.isinstance rfl NB.bool (by decide +kernel) (ve_var (pv 0))))))))
theorem fv_is_integer {f : Addr} {fd : FuncData} (NB : Bl mg)
    (F : Fun K "is_integer" "is_integer" s_is_integer f fd) (bF : L2.Binds K fd ["value"] []) (kF : PySem.W.keepIn K (.ref f) = true) (mF : mg "is_integer" = some (.ref f)) :
    Callee P w K mg base 2 "is_integer" ["value"] (spV K mg T false 1 m_is_integer) :=
  mk_ok ["value"] 1 1 1 b_is_integer (fb_is_integer NB) F sc_is_integer bF kF mF rfl rfl rfl
abbrev s_is_size : Stmt := top 4
theorem sc_is_size : FnScope ["value"] ["value"] (defScope s_is_size) := ⟨rfl, rfl, rfl, by decide +kernel, rfl, by decide +kernel, by decide +kernel⟩
theorem fb_is_size (NB : Bl mg) (C_MOST_TASKS : CstV false K mg "MOST_TASKS" (.int 7)) (G_is_integer : Callee P w K mg base 2 "is_integer" ["value"] (spV K mg T false 1 m_is_integer)) :
    BodyOk T false P w K mg base ["value"] "is_size" s_is_size 2 b_is_size := fun f c cd A outer s H E B =>
  (vss_one (vs_ret (ve_and (ve_call G_is_integer rfl B.hx B.hr (by omega) rfl (va_cons (ve_var (pv 0)) va_nil)) (ve_one (ve_chain op_le op_le ve_int (ve_var (pv 0)) (ve_cst C_MOST_TASKS rfl))))))
theorem fv_is_size {f : Addr} {fd : FuncData} (NB : Bl mg) (C_MOST_TASKS : CstV false K mg "MOST_TASKS" (.int 7)) (G_is_integer : Callee P w K mg base 2 "is_integer" ["value"] (spV K mg T false 1 m_is_integer))
    (F : Fun K "is_size" "is_size" s_is_size f fd) (bF : L2.Binds K fd ["value"] []) (kF : PySem.W.keepIn K (.ref f) = true) (mF : mg "is_size" = some (.ref f)) :
    Callee P w K mg base 3 "is_size" ["value"] (spV K mg T false 1 m_is_size) :=
  mk_ok ["value"] 2 1 1 b_is_size (fb_is_size NB C_MOST_TASKS G_is_integer) F sc_is_size bF kF mF rfl rfl rfl
abbrev s_is_index : Stmt := top 5
theorem sc_is_index : FnScope ["value", "many"] ["value", "many"] (defScope s_is_index) := ⟨rfl, rfl, rfl, by decide +kernel, rfl, by decide +kernel, by decide +kernel⟩
theorem fb_is_index (NB : Bl mg) (G_is_integer : Callee P w K mg base 2 "is_integer" ["value"] (spV K mg T false 1 m_is_integer)) :
    BodyOk T false P w K mg base ["value", "many"] "is_index" s_is_index 2 b_is_index := fun f c cd A outer s H E B =>
  (vss_one (vs_ret (ve_and (ve_call G_is_integer rfl B.hx B.hr (by omega) rfl (va_cons (ve_var (pv 0)) va_nil)) (ve_one (ve_chain op_le op_lt ve_int (ve_var (pv 0)) (ve_var (pv 1)))))))
theorem fv_is_index {f : Addr} {fd : FuncData} (NB : Bl mg) (G_is_integer : Callee P w K mg base 2 "is_integer" ["value"] (spV K mg T false 1 m_is_integer))
    (F : Fun K "is_index" "is_index" s_is_index f fd) (bF : L2.Binds K fd ["value", "many"] []) (kF : PySem.W.keepIn K (.ref f) = true) (mF : mg "is_index" = some (.ref f)) :
    Callee P w K mg base 3 "is_index" ["value", "many"] (spV K mg T false 2 m_is_index) :=
  mk_ok ["value", "many"] 2 2 2 b_is_index (fb_is_index NB G_is_integer) F sc_is_index bF kF mF rfl rfl rfl
abbrev s_common : Stmt := top 10
theorem sc_common : FnScope ["words", "others", "word"] ["words", "others"] (defScope s_common) := ⟨rfl, rfl, rfl, by decide +kernel, rfl, by decide +kernel, by decide +kernel⟩
theorem fb_common (NB : Bl mg) :
    BodyOk T false P w K mg base ["words", "others", "word"] "common" s_common 1 b_common := fun f c cd A outer s H E B =>
  (vss_one (vs_ret (ve_tuple rfl NB.tuple (va_cons (ve_of (vf_lc1 (own := [("word", 2)]) rfl sc_common.nd (vi_seq (ve_var (pv 0))) (blkOk_by (own := [("word", 2)]) (N := ["words", "others", "word"]) (sc := defScope s_common) (by decide +kernel)) gs_name (by decide) (fun _ _ _ _ _ => (pg_name (i := 2) sc_common.nd rfl (by first | exact Or.inl rfl | exact Or.inr rfl))) (fun _ _ _ _ _ => (vt_in B.hr (ve_var (pv 2)) (ve_var (pv 1)))) (fun _ _ _ _ _ => (ve_var (pv 2))))) va_nil))))
theorem fv_common {f : Addr} {fd : FuncData} (NB : Bl mg)
    (F : Fun K "common" "common" s_common f fd) (bF : L2.Binds K fd ["words", "others"] []) (kF : PySem.W.keepIn K (.ref f) = true) (mF : mg "common" = some (.ref f)) :
    Callee P w K mg base 2 "common" ["words", "others"] (spV K mg T false 2 m_common) :=
  mk_ok ["words", "others", "word"] 1 2 3 b_common (fb_common NB) F sc_common bF kF mF rfl rfl rfl
abbrev s_is_rule : Stmt := top 9
theorem sc_is_rule : FnScope ["value", "size", "first", "listed", "second"] ["value", "size"] (defScope s_is_rule) := ⟨rfl, rfl, rfl, by decide +kernel, rfl, by decide +kernel, by decide +kernel⟩
theorem fb_is_rule (NB : Bl mg) (C_RELATIONS : CstV false K mg "RELATIONS" (.tuple [(.str "before"), (.str "beside"), (.str "after")])) (G_is_index : Callee P w K mg base 3 "is_index" ["value", "many"] (spV K mg T false 2 m_is_index)) (G_common : Callee P w K mg base 2 "common" ["words", "others"] (spV K mg T false 2 m_common)) :
    BodyOk T false P w K mg base ["value", "size", "first", "listed", "second"] "is_rule" s_is_rule 3 b_is_rule := fun f c cd A outer s H E B =>
  (vss_cons (vs_if (VW.vt (vw_or (vt_not (vt_truth (ve_isi (t := "tuple") rfl NB.isinstance rfl NB.tuple (by decide +kernel) (ve_var (pv 0))))) (vw_or1 (vt_ne B.hr (ve_len rfl NB.len (va_cons (ve_var (pv 0)) va_nil)) ve_int))))
  (vss_one (vs_ret ve_bl))
  vss_nil)
  (vss_cons (vs_asg (ve_var (pv 0)) (pg_tup rfl (pgs_cons (pg_name (i := 2) sc_is_rule.nd rfl (by first | exact Or.inl rfl | exact Or.inr rfl)) (pgs_cons (pg_name (i := 3) sc_is_rule.nd rfl (by first | exact Or.inl rfl | exact Or.inr rfl)) (pgs_cons (pg_name (i := 4) sc_is_rule.nd rfl (by first | exact Or.inl rfl | exact Or.inr rfl)) pgs_nil)))) (gs_tup (gss_cons gs_name (gss_cons gs_name (gss_cons gs_name gss_nil)))))
  (vss_cons (vs_if (VW.vt (vw_or (vt_not (vt_truth (ve_call G_is_index rfl B.hx B.hr (by omega) rfl (va_cons (ve_var (pv 2)) (va_cons (ve_var (pv 1)) va_nil))))) (vw_or (vt_not (vt_truth (ve_call G_is_index rfl B.hx B.hr (by omega) rfl (va_cons (ve_var (pv 4)) (va_cons (ve_var (pv 1)) va_nil))))) (vw_or1 (vt_eq B.hr (ve_var (pv 2)) (ve_var (pv 4)))))))
  (vss_one (vs_ret ve_bl))
  vss_nil)
  (vss_one (vs_ret (ve_and (ve_isi (t := "tuple") rfl NB.isinstance rfl NB.tuple (by decide +kernel) (ve_var (pv 3))) (ve_and (ve_gt (ve_len rfl NB.len (va_cons (ve_var (pv 3)) va_nil)) ve_int) (ve_one (ve_eq B.hr (ve_var (pv 3)) (ve_call G_common rfl B.hx B.hr (by omega) rfl (va_cons (ve_cst C_RELATIONS rfl) (va_cons (ve_var (pv 3)) va_nil))))))))))))
theorem fv_is_rule {f : Addr} {fd : FuncData} (NB : Bl mg) (C_RELATIONS : CstV false K mg "RELATIONS" (.tuple [(.str "before"), (.str "beside"), (.str "after")])) (G_is_index : Callee P w K mg base 3 "is_index" ["value", "many"] (spV K mg T false 2 m_is_index)) (G_common : Callee P w K mg base 2 "common" ["words", "others"] (spV K mg T false 2 m_common))
    (F : Fun K "is_rule" "is_rule" s_is_rule f fd) (bF : L2.Binds K fd ["value", "size"] []) (kF : PySem.W.keepIn K (.ref f) = true) (mF : mg "is_rule" = some (.ref f)) :
    Callee P w K mg base 4 "is_rule" ["value", "size"] (spV K mg T false 2 m_is_rule) :=
  mk_ok ["value", "size", "first", "listed", "second"] 3 2 5 b_is_rule (fb_is_rule NB C_RELATIONS G_is_index G_common) F sc_is_rule bF kF mF rfl rfl rfl
abbrev s_is_problem : Stmt := top 8
theorem sc_is_problem : FnScope ["value", "size", "rules", "rule"] ["value"] (defScope s_is_problem) := ⟨rfl, rfl, rfl, by decide +kernel, rfl, by decide +kernel, by decide +kernel⟩
theorem fb_is_problem {cF PF : Addr} (TB : TabB base mg cF PF) (hP : PF ∈ T) (NB : Bl mg) (C_MOST_RULES : CstV false K mg "MOST_RULES" (.int 20)) (G_is_size : Callee P w K mg base 3 "is_size" ["value"] (spV K mg T false 1 m_is_size)) (G_is_rule : Callee P w K mg base 4 "is_rule" ["value", "size"] (spV K mg T false 2 m_is_rule)) :
    BodyOkT T false P w K mg base ["value", "size", "rules", "rule"] "is_problem" s_is_problem 5 cF b_is_problem := fun f c A outer s H E B =>
  (vss_cons (vs_if (VW.vt (vw_or (vt_not (vt_truth (ve_isi (t := "tuple") rfl NB.isinstance rfl NB.tuple (by decide +kernel) (ve_var (pv 0))))) (vw_or1 (vt_ne B.hr (ve_len rfl NB.len (va_cons (ve_var (pv 0)) va_nil)) ve_int))))
  (vss_one (vs_ret ve_bl))
  vss_nil)
  (vss_cons (vs_asg (ve_var (pv 0)) (pg_tup rfl (pgs_cons (pg_name (i := 1) sc_is_problem.nd rfl (by first | exact Or.inl rfl | exact Or.inr rfl)) (pgs_cons (pg_name (i := 2) sc_is_problem.nd rfl (by first | exact Or.inl rfl | exact Or.inr rfl)) pgs_nil))) (gs_tup (gss_cons gs_name (gss_cons gs_name gss_nil))))
  (vss_cons (vs_if (VW.vt (vw_or (vt_not (vt_truth (ve_call G_is_size rfl B.hx B.hr (by omega) rfl (va_cons (ve_var (pv 1)) va_nil)))) (vw_or (vt_not (vt_truth (ve_isi (t := "tuple") rfl NB.isinstance rfl NB.tuple (by decide +kernel) (ve_var (pv 2))))) (vw_or1 (vt_gt (ve_len rfl NB.len (va_cons (ve_var (pv 2)) va_nil)) (ve_cst C_MOST_RULES rfl))))))
  (vss_one (vs_ret ve_bl))
  vss_nil)
  (vss_one (vs_ret (ve_all (own := [("rule", 3)]) (B.hr : Room (4 + 1) _) rfl NB.all TB hP sc_is_problem.nd (vi_seq (ve_var (pv 2))) (gok_by (N := ["value", "size", "rules", "rule"]) (sc := defScope s_is_problem) (own := [("rule", 3)]) (by decide +kernel)) gs_name (by decide) (fun _ _ _ _ _ _ => (pg_name (i := 3) sc_is_problem.nd rfl (by first | exact Or.inl rfl | exact Or.inr rfl))) (fun _ _ _ _ _ _ r => (ve_call G_is_rule rfl lets0 r (by omega) rfl (va_cons (ve_var (pv 3)) (va_cons (ve_var (pv 1)) va_nil))))))))))
theorem fv_is_problem {f : Addr} {fd : FuncData} {cF PF : Addr} (TB : TabB base mg cF PF) (hP : PF ∈ T) (NB : Bl mg) (C_MOST_RULES : CstV false K mg "MOST_RULES" (.int 20)) (G_is_size : Callee P w K mg base 3 "is_size" ["value"] (spV K mg T false 1 m_is_size)) (G_is_rule : Callee P w K mg base 4 "is_rule" ["value", "size"] (spV K mg T false 2 m_is_rule))
    (F : FunT K "is_problem" "is_problem" s_is_problem f fd cF) (bF : L2.Binds K fd ["value"] []) (kF : PySem.W.keepIn K (.ref f) = true) (mF : mg "is_problem" = some (.ref f)) :
    Callee P w K mg base 6 "is_problem" ["value"] (spV K mg T false 1 m_is_problem) :=
  mk_okT ["value", "size", "rules", "rule"] 5 1 4 b_is_problem (fb_is_problem TB hP NB C_MOST_RULES G_is_size G_is_rule) F sc_is_problem bF kF mF rfl rfl rfl
abbrev s__law_tasks : Stmt := top 14
theorem sc__law_tasks : FnScope ["plan", "found", "part"] ["plan"] (defScope s__law_tasks) := ⟨rfl, rfl, rfl, by decide +kernel, rfl, by decide +kernel, by decide +kernel⟩
theorem fb__law_tasks {n : Nat} (NB : Bl mg) (G__law_tasks : Callee P w K mg base (n + 2) "_law_tasks" ["plan"] (spV K mg T false 1 (m__law_tasks_n n))) :
    BodyOk T false P w K mg base ["plan", "found", "part"] "_law_tasks" s__law_tasks (n + 2) (b__law_tasks (m__law_tasks_n n)) := fun f c cd A outer s H E B =>
  (vss_cons (vs_if (vt_truth (ve_isi (t := "int") rfl NB.isinstance rfl NB.int (by decide +kernel) (ve_var (pv 0))))
  (vss_one (vs_ret (ve_of (vf_lst (va_cons (ve_var (pv 0)) va_nil)))))
  vss_nil)
  (vss_cons (vs_set (i := 1) sc__law_tasks.nd (ve_of (vf_lst va_nil)))
  (vss_cons (vs_for B.po rfl (vi_seq (ve_ix (ve_var (pv 0)) ve_int)) (pg_name (i := 2) sc__law_tasks.nd rfl (by first | exact Or.inl rfl | exact Or.inr rfl)) gs_name
  (vss_one (vs_set (i := 1) sc__law_tasks.nd (ve_add (ve_var (pv 1)) (ve_call G__law_tasks rfl B.hx B.hr (by omega) rfl (va_cons (ve_var (pv 2)) va_nil))))))
  (vss_one (vs_ret (ve_var (pv 1)))))))
theorem fs__law_tasks {n : Nat} {f : Addr} {fd : FuncData} (NB : Bl mg) (G__law_tasks : Callee P w K mg base (n + 2) "_law_tasks" ["plan"] (spV K mg T false 1 (m__law_tasks_n n)))
    (F : Fun K "_law_tasks" "_law_tasks" s__law_tasks f fd) (bF : L2.Binds K fd ["plan"] []) (kF : PySem.W.keepIn K (.ref f) = true) (mF : mg "_law_tasks" = some (.ref f)) :
    Callee P w K mg base (n + 3) "_law_tasks" ["plan"] (spV K mg T false 1 (m__law_tasks_n (n + 1))) :=
  mk_ok ["plan", "found", "part"] (n + 2) 1 3 (b__law_tasks (m__law_tasks_n n)) (fb__law_tasks NB G__law_tasks) F sc__law_tasks bF kF mF rfl rfl rfl
theorem fr__law_tasks (NB : Bl mg) {f__law_tasks : Addr} {fd__law_tasks : FuncData} (F__law_tasks : Fun K "_law_tasks" "_law_tasks" s__law_tasks f__law_tasks fd__law_tasks) (bF__law_tasks : L2.Binds K fd__law_tasks ["plan"] []) (kF__law_tasks : PySem.W.keepIn K (.ref f__law_tasks) = true) (mF__law_tasks : mg "_law_tasks" = some (.ref f__law_tasks)) : ∀ n : Nat, Callee P w K mg base (n + 2) "_law_tasks" ["plan"] (spV K mg T false 1 (m__law_tasks_n n))
  | 0 => Callee.never bF__law_tasks kF__law_tasks mF__law_tasks
  | n + 1 => (fs__law_tasks NB (fr__law_tasks NB F__law_tasks bF__law_tasks kF__law_tasks mF__law_tasks n) F__law_tasks bF__law_tasks kF__law_tasks mF__law_tasks)
abbrev s__law_relation : Stmt := top 15
theorem sc__law_relation : FnScope ["plan", "first", "second", "places", "task", "at"] ["plan", "first", "second"] (defScope s__law_relation) := ⟨rfl, rfl, rfl, by decide +kernel, rfl, by decide +kernel, by decide +kernel⟩
theorem fb__law_relation {n : Nat} (NB : Bl mg) (G__law_tasks : Callee P w K mg base 22 "_law_tasks" ["plan"] (spV K mg T false 1 m__law_tasks)) (G__law_relation : Callee P w K mg base (n + 23) "_law_relation" ["plan", "first", "second"] (spV K mg T false 3 (m__law_relation_n n))) :
    BodyOk T false P w K mg base ["plan", "first", "second", "places", "task", "at"] "_law_relation" s__law_relation (n + 23) (b__law_relation (m__law_relation_n n)) := fun f c cd A outer s H E B =>
  (vss_cons (vs_if (vt_truth (ve_isi (t := "int") rfl NB.isinstance rfl NB.int (by decide +kernel) (ve_var (pv 0))))
  (vss_one (vs_ret ve_str))
  vss_nil)
  (vss_cons (vs_setl (i := 3) sc__law_relation.nd (vf_lst va_nil))
  (vss_cons (vs_for B.po rfl (vi_seq (ve_of (vf_lst (va_cons (ve_var (pv 1)) (va_cons (ve_var (pv 2)) va_nil))))) (pg_name (i := 4) sc__law_relation.nd rfl (by first | exact Or.inl rfl | exact Or.inr rfl)) gs_name
  (vss_one (vs_expr (ve_append (pv 3) (ve_ix (ve_of (vf_lc1 (own := [("at", 5)]) rfl sc__law_relation.nd (vi_rng1 rfl NB.range (va_cons (ve_len rfl NB.len (va_cons (ve_ix (ve_var (pv 0)) ve_int) va_nil)) va_nil)) (blkOk_by (own := [("at", 5)]) (N := ["plan", "first", "second", "places", "task", "at"]) (sc := defScope s__law_relation) (by decide +kernel)) gs_name (by decide) (fun _ _ _ _ _ => (pg_name (i := 5) sc__law_relation.nd rfl (by first | exact Or.inl rfl | exact Or.inr rfl))) (fun _ _ _ _ _ => (vt_in B.hr (ve_var (pv 4)) (ve_call G__law_tasks rfl lets0 B.hr (by omega) rfl (va_cons (ve_ix (ve_ix (ve_var (pv 0)) ve_int) (ve_var (pv 5))) va_nil)))) (fun _ _ _ _ _ => (ve_var (pv 5))))) ve_int)))))
  (vss_cons (vs_if (vt_eq B.hr (vb_ix (pv 3) ve_int) (vb_ix (pv 3) ve_int))
  (vss_one (vs_ret (ve_call G__law_relation rfl B.hx B.hr (by omega) rfl (va_cons (ve_ix (ve_ix (ve_var (pv 0)) ve_int) (vb_ix (pv 3) ve_int)) (va_cons (ve_var (pv 1)) (va_cons (ve_var (pv 2)) va_nil))))))
  vss_nil)
  (vss_cons (vs_if (vt_eq B.hr (ve_ix (ve_var (pv 0)) ve_int) ve_str)
  (vss_one (vs_ret ve_str))
  vss_nil)
  (vss_one (vs_ret (ve_ix (ve_of (vf_lst (va_cons ve_str (va_cons ve_str va_nil)))) (ve_int1 rfl NB.int (va_cons (ve_lt (vb_ix (pv 3) ve_int) (vb_ix (pv 3) ve_int)) va_nil))))))))))
theorem fs__law_relation {n : Nat} {f : Addr} {fd : FuncData} (NB : Bl mg) (G__law_tasks : Callee P w K mg base 22 "_law_tasks" ["plan"] (spV K mg T false 1 m__law_tasks)) (G__law_relation : Callee P w K mg base (n + 23) "_law_relation" ["plan", "first", "second"] (spV K mg T false 3 (m__law_relation_n n)))
    (F : Fun K "_law_relation" "_law_relation" s__law_relation f fd) (bF : L2.Binds K fd ["plan", "first", "second"] []) (kF : PySem.W.keepIn K (.ref f) = true) (mF : mg "_law_relation" = some (.ref f)) :
    Callee P w K mg base (n + 24) "_law_relation" ["plan", "first", "second"] (spV K mg T false 3 (m__law_relation_n (n + 1))) :=
  mk_ok ["plan", "first", "second", "places", "task", "at"] (n + 23) 3 6 (b__law_relation (m__law_relation_n n)) (fb__law_relation NB G__law_tasks G__law_relation) F sc__law_relation bF kF mF rfl rfl rfl
theorem fr__law_relation (NB : Bl mg) (G__law_tasks : Callee P w K mg base 22 "_law_tasks" ["plan"] (spV K mg T false 1 m__law_tasks)) {f__law_relation : Addr} {fd__law_relation : FuncData} (F__law_relation : Fun K "_law_relation" "_law_relation" s__law_relation f__law_relation fd__law_relation) (bF__law_relation : L2.Binds K fd__law_relation ["plan", "first", "second"] []) (kF__law_relation : PySem.W.keepIn K (.ref f__law_relation) = true) (mF__law_relation : mg "_law_relation" = some (.ref f__law_relation)) : ∀ n : Nat, Callee P w K mg base (n + 23) "_law_relation" ["plan", "first", "second"] (spV K mg T false 3 (m__law_relation_n n))
  | 0 => Callee.never bF__law_relation kF__law_relation mF__law_relation
  | n + 1 => (fs__law_relation NB G__law_tasks (fr__law_relation NB G__law_tasks F__law_relation bF__law_relation kF__law_relation mF__law_relation n) F__law_relation bF__law_relation kF__law_relation mF__law_relation)
abbrev s__law_drawn_plan : Stmt := top 16
theorem sc__law_drawn_plan : FnScope ["stream", "tasks", "word", "row", "parts", "turn", "size", "k", "block"] ["stream", "tasks", "word"] (defScope s__law_drawn_plan) := ⟨rfl, rfl, rfl, by decide +kernel, rfl, by decide +kernel, by decide +kernel⟩
theorem fb__law_drawn_plan {n : Nat} (NB : Bl mg) (G__law_next : Callee P w K mg base 1 "_law_next" ["stream", "many"] (spS K mg T false 2 mNext)) (G__law_drawn_plan : Callee P w K mg base (n + 2) "_law_drawn_plan" ["stream", "tasks", "word"] (spS K mg T false 3 (m__law_drawn_plan_n n))) :
    BodyOk T false P w K mg base ["stream", "tasks", "word", "row", "parts", "turn", "size", "k", "block"] "_law_drawn_plan" s__law_drawn_plan (n + 2) (b__law_drawn_plan (m__law_drawn_plan_n n)) := fun f c cd A outer s H E B =>
  (vss_cons (vs_if (vt_eq B.hr (ve_len rfl NB.len (va_cons (ve_var (pv 1)) va_nil)) ve_int)
  (vss_one (vs_ret (ve_ix (ve_var (pv 1)) ve_int)))
  vss_nil)
  (vss_cons (vs_setl (i := 3) sc__law_drawn_plan.nd (vf_list rfl NB.list (va_cons (ve_var (pv 1)) va_nil)))
  (vss_cons (vs_setl (i := 4) sc__law_drawn_plan.nd (vf_lst va_nil))
  (vss_cons (vs_for B.po rfl (vi_rng1 rfl NB.range (va_cons (ve_len rfl NB.len (va_cons (ve_var (pv 1)) va_nil)) va_nil)) (pg_name (i := 5) sc__law_drawn_plan.nd rfl (by first | exact Or.inl rfl | exact Or.inr rfl)) gs_name
  (vss_one (vs_if (vb_tru (pv 3))
  (vss_cons (vs_set (i := 6) sc__law_drawn_plan.nd (ve_add ve_int (ve_callS (i := 0) G__law_next rfl B.hx B.hr (by omega) rfl (pv 0) (va_cons (ve_sub (vb_len rfl NB.len (pv 3)) (ve_int1 rfl NB.int (va_cons (ve_eq B.hr (ve_var (pv 5)) ve_int) va_nil))) va_nil))))
  (vss_cons (vs_setP (i := 8) (ps_data (vs_lc (own := [("k", 7)]) rfl sc__law_drawn_plan.nd (vi_rng1 rfl NB.range (va_cons (ve_var (pv 6)) va_nil)) (blkOk_by (own := [("k", 7)]) (N := ["stream", "tasks", "word", "row", "parts", "turn", "size", "k", "block"]) (sc := defScope s__law_drawn_plan) (by decide +kernel)) gs_name (by decide) (fun _ _ _ _ _ => (pg_name (i := 7) sc__law_drawn_plan.nd rfl (by first | exact Or.inl rfl | exact Or.inr rfl))) (fun _ _ _ _ _ => (ve_popAt (pv 3) (ve_callS (i := 0) G__law_next rfl lets0 B.hr (by omega) rfl (pv 0) (va_cons (vb_len rfl NB.len (pv 3)) va_nil)))))))
  (vss_one (vs_expr (ve_append (pv 4) (ve_callS (i := 0) G__law_drawn_plan rfl B.hx B.hr (by omega) rfl (pv 0) (va_cons (ve_var (pv 8)) (va_cons (ve_ix (ve_of (vf_lst (va_cons ve_str (va_cons ve_str va_nil)))) (ve_int1 rfl NB.int (va_cons (ve_eq B.hr (ve_var (pv 2)) ve_str) va_nil))) va_nil))))))))
  vss_nil)))
  (vss_one (vs_ret (ve_tup (va_cons (ve_var (pv 2)) (va_cons (vb_tuple rfl NB.tuple (pv 4)) va_nil)))))))))
theorem fs__law_drawn_plan {n : Nat} {f : Addr} {fd : FuncData} (NB : Bl mg) (G__law_next : Callee P w K mg base 1 "_law_next" ["stream", "many"] (spS K mg T false 2 mNext)) (G__law_drawn_plan : Callee P w K mg base (n + 2) "_law_drawn_plan" ["stream", "tasks", "word"] (spS K mg T false 3 (m__law_drawn_plan_n n)))
    (F : Fun K "_law_drawn_plan" "_law_drawn_plan" s__law_drawn_plan f fd) (bF : L2.Binds K fd ["stream", "tasks", "word"] []) (kF : PySem.W.keepIn K (.ref f) = true) (mF : mg "_law_drawn_plan" = some (.ref f)) :
    Callee P w K mg base (n + 3) "_law_drawn_plan" ["stream", "tasks", "word"] (spS K mg T false 3 (m__law_drawn_plan_n (n + 1))) :=
  mk_okS ["stream", "tasks", "word", "row", "parts", "turn", "size", "k", "block"] (n + 2) 3 9 (b__law_drawn_plan (m__law_drawn_plan_n n)) (fb__law_drawn_plan NB G__law_next G__law_drawn_plan) F sc__law_drawn_plan bF kF mF rfl rfl rfl
theorem fr__law_drawn_plan (NB : Bl mg) (G__law_next : Callee P w K mg base 1 "_law_next" ["stream", "many"] (spS K mg T false 2 mNext)) {f__law_drawn_plan : Addr} {fd__law_drawn_plan : FuncData} (F__law_drawn_plan : Fun K "_law_drawn_plan" "_law_drawn_plan" s__law_drawn_plan f__law_drawn_plan fd__law_drawn_plan) (bF__law_drawn_plan : L2.Binds K fd__law_drawn_plan ["stream", "tasks", "word"] []) (kF__law_drawn_plan : PySem.W.keepIn K (.ref f__law_drawn_plan) = true) (mF__law_drawn_plan : mg "_law_drawn_plan" = some (.ref f__law_drawn_plan)) : ∀ n : Nat, Callee P w K mg base (n + 2) "_law_drawn_plan" ["stream", "tasks", "word"] (spS K mg T false 3 (m__law_drawn_plan_n n))
  | 0 => Callee.neverS bF__law_drawn_plan kF__law_drawn_plan mF__law_drawn_plan
  | n + 1 => (fs__law_drawn_plan NB G__law_next (fr__law_drawn_plan NB G__law_next F__law_drawn_plan bF__law_drawn_plan kF__law_drawn_plan mF__law_drawn_plan n) F__law_drawn_plan bF__law_drawn_plan kF__law_drawn_plan mF__law_drawn_plan)
abbrev s__law_some_plan : Stmt := top 17
theorem sc__law_some_plan : FnScope ["stream", "size"] ["stream", "size"] (defScope s__law_some_plan) := ⟨rfl, rfl, rfl, by decide +kernel, rfl, by decide +kernel, by decide +kernel⟩
theorem fb__law_some_plan (NB : Bl mg) (G__law_next : Callee P w K mg base 1 "_law_next" ["stream", "many"] (spS K mg T false 2 mNext)) (G__law_drawn_plan : Callee P w K mg base 22 "_law_drawn_plan" ["stream", "tasks", "word"] (spS K mg T false 3 m__law_drawn_plan)) :
    BodyOk T false P w K mg base ["stream", "size"] "_law_some_plan" s__law_some_plan 22 b__law_some_plan := fun f c cd A outer s H E B =>
  (vss_one (vs_ret (ve_callS (i := 0) G__law_drawn_plan rfl B.hx B.hr (by omega) rfl (pv 0) (va_cons (ve_of (vf_listRg1 rfl rfl NB.list rfl NB.range (ve_var (pv 1)))) (va_cons (ve_ix (ve_of (vf_lst (va_cons ve_str (va_cons ve_str va_nil)))) (ve_callS (i := 0) G__law_next rfl B.hx B.hr (by omega) rfl (pv 0) (va_cons ve_int va_nil))) va_nil)))))
theorem fv__law_some_plan {f : Addr} {fd : FuncData} (NB : Bl mg) (G__law_next : Callee P w K mg base 1 "_law_next" ["stream", "many"] (spS K mg T false 2 mNext)) (G__law_drawn_plan : Callee P w K mg base 22 "_law_drawn_plan" ["stream", "tasks", "word"] (spS K mg T false 3 m__law_drawn_plan))
    (F : Fun K "_law_some_plan" "_law_some_plan" s__law_some_plan f fd) (bF : L2.Binds K fd ["stream", "size"] []) (kF : PySem.W.keepIn K (.ref f) = true) (mF : mg "_law_some_plan" = some (.ref f)) :
    Callee P w K mg base 23 "_law_some_plan" ["stream", "size"] (spS K mg T false 2 m__law_some_plan) :=
  mk_okS ["stream", "size"] 22 2 2 b__law_some_plan (fb__law_some_plan NB G__law_next G__law_drawn_plan) F sc__law_some_plan bF kF mF rfl rfl rfl
abbrev s__law_relations : Stmt := top 18
theorem sc__law_relations : FnScope [] [] (defScope s__law_relations) := ⟨rfl, rfl, rfl, by decide +kernel, rfl, by decide +kernel, by decide +kernel⟩
theorem fb__law_relations (NB : Bl mg) :
    BodyOk T false P w K mg base [] "_law_relations" s__law_relations 1 b__law_relations := fun f c cd A outer s H E B =>
  (vss_one (vs_ret (ve_of (vf_lst (va_cons ve_str (va_cons ve_str (va_cons ve_str va_nil)))))))
theorem fv__law_relations {f : Addr} {fd : FuncData} (NB : Bl mg)
    (F : Fun K "_law_relations" "_law_relations" s__law_relations f fd) (bF : L2.Binds K fd [] []) (kF : PySem.W.keepIn K (.ref f) = true) (mF : mg "_law_relations" = some (.ref f)) :
    Callee P w K mg base 2 "_law_relations" [] (spV K mg T false 0 m__law_relations) :=
  mk_ok [] 1 0 0 b__law_relations (fb__law_relations NB) F sc__law_relations bF kF mF rfl rfl rfl
abbrev s__law_rule : Stmt := top 19
theorem sc__law_rule : FnScope ["stream", "size", "plan", "first", "second", "one", "wanted"] ["stream", "size", "plan"] (defScope s__law_rule) := ⟨rfl, rfl, rfl, by decide +kernel, rfl, by decide +kernel, by decide +kernel⟩
theorem fb__law_rule (NB : Bl mg) (G__law_next : Callee P w K mg base 1 "_law_next" ["stream", "many"] (spS K mg T false 2 mNext)) (G__law_relation : Callee P w K mg base 43 "_law_relation" ["plan", "first", "second"] (spV K mg T false 3 m__law_relation)) (G__law_relations : Callee P w K mg base 2 "_law_relations" [] (spV K mg T false 0 m__law_relations)) :
    BodyOk T false P w K mg base ["stream", "size", "plan", "first", "second", "one", "wanted"] "_law_rule" s__law_rule 43 b__law_rule := fun f c cd A outer s H E B =>
  (vss_cons (vs_set (i := 3) sc__law_rule.nd (ve_callS (i := 0) G__law_next rfl B.hx B.hr (by omega) rfl (pv 0) (va_cons (ve_var (pv 1)) va_nil)))
  (vss_cons (vs_set (i := 4) sc__law_rule.nd (ve_callS (i := 0) G__law_next rfl B.hx B.hr (by omega) rfl (pv 0) (va_cons (ve_sub (ve_var (pv 1)) ve_int) va_nil)))
  (vss_cons (vs_set (i := 4) sc__law_rule.nd (ve_add (ve_var (pv 4)) (ve_int1 rfl NB.int (va_cons (ve_ge (ve_var (pv 4)) (ve_var (pv 3))) va_nil))))
  (vss_cons (vs_setl (i := 6) sc__law_rule.nd (vf_lc1 (own := [("one", 5)]) rfl sc__law_rule.nd (vi_seq (ve_call0 G__law_relations B.hx B.hr (by omega) rfl)) (blkOk_by (own := [("one", 5)]) (N := ["stream", "size", "plan", "first", "second", "one", "wanted"]) (sc := defScope s__law_rule) (by decide +kernel)) gs_name (by decide) (fun _ _ _ _ _ => (pg_name (i := 5) sc__law_rule.nd rfl (by first | exact Or.inl rfl | exact Or.inr rfl))) (fun _ _ _ _ _ => (vt_eq B.hr (ve_callS (i := 0) G__law_next rfl lets0 B.hr (by omega) rfl (pv 0) (va_cons ve_int va_nil)) ve_int)) (fun _ _ _ _ _ => (ve_var (pv 5)))))
  (vss_cons (vs_if (vt_notN (ve_var (pv 2)))
  (vss_one (vs_expr (ve_append (pv 6) (ve_call G__law_relation rfl B.hx B.hr (by omega) rfl (va_cons (ve_var (pv 2)) (va_cons (ve_var (pv 3)) (va_cons (ve_var (pv 4)) va_nil)))))))
  vss_nil)
  (vss_cons (vs_if (vt_not (vb_tru (pv 6)))
  (vss_one (vs_setl (i := 6) sc__law_rule.nd (vf_lst (va_cons (ve_ix (ve_call0 G__law_relations B.hx B.hr (by omega) rfl) (ve_callS (i := 0) G__law_next rfl B.hx B.hr (by omega) rfl (pv 0) (va_cons ve_int va_nil))) va_nil))))
  vss_nil)
  (vss_one (vs_ret (ve_tup (va_cons (ve_var (pv 3)) (va_cons (ve_tuple rfl NB.tuple (va_cons (ve_of (vf_lc1 (own := [("one", 5)]) rfl sc__law_rule.nd (vi_seq (ve_call0 G__law_relations B.hx B.hr (by omega) rfl)) (blkOk_by (own := [("one", 5)]) (N := ["stream", "size", "plan", "first", "second", "one", "wanted"]) (sc := defScope s__law_rule) (by decide +kernel)) gs_name (by decide) (fun _ _ _ _ _ => (pg_name (i := 5) sc__law_rule.nd rfl (by first | exact Or.inl rfl | exact Or.inr rfl))) (fun _ _ _ _ _ => (vbt_inE B.hr (pv 6) (ve_var (pv 5)))) (fun _ _ _ _ _ => (ve_var (pv 5))))) va_nil)) (va_cons (ve_var (pv 4)) va_nil))))))))))))
theorem fv__law_rule {f : Addr} {fd : FuncData} (NB : Bl mg) (G__law_next : Callee P w K mg base 1 "_law_next" ["stream", "many"] (spS K mg T false 2 mNext)) (G__law_relation : Callee P w K mg base 43 "_law_relation" ["plan", "first", "second"] (spV K mg T false 3 m__law_relation)) (G__law_relations : Callee P w K mg base 2 "_law_relations" [] (spV K mg T false 0 m__law_relations))
    (F : Fun K "_law_rule" "_law_rule" s__law_rule f fd) (bF : L2.Binds K fd ["stream", "size", "plan"] []) (kF : PySem.W.keepIn K (.ref f) = true) (mF : mg "_law_rule" = some (.ref f)) :
    Callee P w K mg base 44 "_law_rule" ["stream", "size", "plan"] (spS K mg T false 3 m__law_rule) :=
  mk_okS ["stream", "size", "plan", "first", "second", "one", "wanted"] 43 3 7 b__law_rule (fb__law_rule NB G__law_next G__law_relation G__law_relations) F sc__law_rule bF kF mF rfl rfl rfl
abbrev s__law_problem : Stmt := top 20
theorem sc__law_problem : FnScope ["stream", "least", "most", "many", "size", "plan", "wild", "rules", "turn"] ["stream", "least", "most", "many"] (defScope s__law_problem) := ⟨rfl, rfl, rfl, by decide +kernel, rfl, by decide +kernel, by decide +kernel⟩
theorem fb__law_problem (NB : Bl mg) (G__law_next : Callee P w K mg base 1 "_law_next" ["stream", "many"] (spS K mg T false 2 mNext)) (G__law_some_plan : Callee P w K mg base 23 "_law_some_plan" ["stream", "size"] (spS K mg T false 2 m__law_some_plan)) (G__law_rule : Callee P w K mg base 44 "_law_rule" ["stream", "size", "plan"] (spS K mg T false 3 m__law_rule)) :
    BodyOk T false P w K mg base ["stream", "least", "most", "many", "size", "plan", "wild", "rules", "turn"] "_law_problem" s__law_problem 44 b__law_problem_2 := fun f c cd A outer s H E B =>
  (vss_cons (vs_set (i := 4) sc__law_problem.nd (ve_add (ve_var (pv 1)) (ve_callS (i := 0) G__law_next rfl B.hx B.hr (by omega) rfl (pv 0) (va_cons (ve_add (ve_sub (ve_var (pv 2)) (ve_var (pv 1))) ve_int) va_nil))))
  (vss_cons (vs_set (i := 5) sc__law_problem.nd ve_non)
  (vss_cons (vs_if (vt_gt (ve_callS (i := 0) G__law_next rfl B.hx B.hr (by omega) rfl (pv 0) (va_cons ve_int va_nil)) ve_int)
  (vss_one (vs_set (i := 5) sc__law_problem.nd (ve_callS (i := 0) G__law_some_plan rfl B.hx B.hr (by omega) rfl (pv 0) (va_cons (ve_var (pv 4)) va_nil))))
  vss_nil)
  (vss_cons (vs_if (vt_eq B.hr (ve_var (pv 4)) ve_int)
  (vss_one (vs_ret (ve_tup (va_cons ve_int (va_cons (ve_tup va_nil) va_nil)))))
  vss_nil)
  (vss_cons (vs_set (i := 6) sc__law_problem.nd (ve_callS (i := 0) G__law_next rfl B.hx B.hr (by omega) rfl (pv 0) (va_cons ve_int va_nil)))
  (vss_cons (vs_setl (i := 7) sc__law_problem.nd (vf_lst va_nil))
  (vss_cons (vs_for B.po rfl (vi_rng1 rfl NB.range (va_cons (ve_callS (i := 0) G__law_next rfl B.hx B.hr (by omega) rfl (pv 0) (va_cons (ve_add (ve_var (pv 3)) ve_int) va_nil)) va_nil)) (pg_name (i := 8) sc__law_problem.nd rfl (by first | exact Or.inl rfl | exact Or.inr rfl)) gs_name
  (vss_one (vs_if (VW.vt (vw_and (vt_eq B.hr (ve_var (pv 6)) ve_int) (vw_and1 (vt_eq B.hr (ve_callS (i := 0) G__law_next rfl B.hx B.hr (by omega) rfl (pv 0) (va_cons ve_int va_nil)) ve_int))))
  (vss_one (vs_expr (ve_append (pv 7) (ve_callS (i := 0) G__law_rule rfl B.hx B.hr (by omega) rfl (pv 0) (va_cons (ve_var (pv 4)) (va_cons ve_non va_nil))))))
  (vss_one (vs_expr (ve_append (pv 7) (ve_callS (i := 0) G__law_rule rfl B.hx B.hr (by omega) rfl (pv 0) (va_cons (ve_var (pv 4)) (va_cons (ve_var (pv 5)) va_nil)))))))))
  (vss_one (vs_ret (ve_tup (va_cons (ve_var (pv 4)) (va_cons (vb_tuple rfl NB.tuple (pv 7)) va_nil))))))))))))
theorem fv__law_problem {f : Addr} {fd : FuncData} (NB : Bl mg) (G__law_next : Callee P w K mg base 1 "_law_next" ["stream", "many"] (spS K mg T false 2 mNext)) (G__law_some_plan : Callee P w K mg base 23 "_law_some_plan" ["stream", "size"] (spS K mg T false 2 m__law_some_plan)) (G__law_rule : Callee P w K mg base 44 "_law_rule" ["stream", "size", "plan"] (spS K mg T false 3 m__law_rule))
    (F : Fun K "_law_problem" "_law_problem" s__law_problem f fd) (bF : L2.Binds K fd ["stream", "least", "most", "many"] []) (kF : PySem.W.keepIn K (.ref f) = true) (mF : mg "_law_problem" = some (.ref f)) :
    Callee P w K mg base 45 "_law_problem" ["stream", "least", "most", "many"] (spS K mg T false 4 m__law_problem_2) :=
  mk_okS ["stream", "least", "most", "many", "size", "plan", "wild", "rules", "turn"] 44 4 9 b__law_problem_2 (fb__law_problem NB G__law_next G__law_some_plan G__law_rule) F sc__law_problem bF kF mF rfl rfl rfl
end
end K17

set_option Elab.async false
set_option linter.all false
set_option maxRecDepth 100000
set_option maxHeartbeats 2000000
/-! k17_forms_of_problems: the defs keep to their computations -/
namespace K17
open PySem PySem.Spec PyProof.Rows L2 GxR GA KR GenW VL VM
section
variable {P : Program} {w : World} {K : PySem.W.Frag} {mg : Str → Option Value} {base : Heap} {T : List Addr}
abbrev s__law_wrong_rules : Stmt := top 21
theorem sc__law_wrong_rules : FnScope ["stream", "size", "rule", "first", "relations", "second", "wrong"] ["stream", "size", "rule"] (defScope s__law_wrong_rules) := ⟨rfl, rfl, rfl, by decide +kernel, rfl, by decide +kernel, by decide +kernel⟩
theorem fb__law_wrong_rules (NB : Bl mg) (G__law_next : Callee P w K mg base 1 "_law_next" ["stream", "many"] (spS K mg T false 2 mNext)) :
    BodyOk T false P w K mg base ["stream", "size", "rule", "first", "relations", "second", "wrong"] "_law_wrong_rules" s__law_wrong_rules 1 b__law_wrong_rules := fun f c cd A outer s H E B =>
  (vss_cons (vs_asg (ve_var (pv 2)) (pg_tup rfl (pgs_cons (pg_name (i := 3) sc__law_wrong_rules.nd rfl (by first | exact Or.inl rfl | exact Or.inr rfl)) (pgs_cons (pg_name (i := 4) sc__law_wrong_rules.nd rfl (by first | exact Or.inl rfl | exact Or.inr rfl)) (pgs_cons (pg_name (i := 5) sc__law_wrong_rules.nd rfl (by first | exact Or.inl rfl | exact Or.inr rfl)) pgs_nil)))) (gs_tup (gss_cons gs_name (gss_cons gs_name (gss_cons gs_name gss_nil)))))
  (vss_cons (vs_setl (i := 6) sc__law_wrong_rules.nd (vf_lst (va_cons ve_non (va_cons (ve_of (vf_lst (va_cons (ve_var (pv 3)) (va_cons (ve_var (pv 4)) (va_cons (ve_var (pv 5)) va_nil))))) (va_cons (ve_tup (va_cons (ve_var (pv 3)) (va_cons (ve_var (pv 4)) va_nil))) (va_cons (ve_tup (va_cons (ve_var (pv 3)) (va_cons (ve_var (pv 4)) (va_cons (ve_var (pv 5)) (va_cons ve_int va_nil))))) (va_cons (ve_tup (va_cons (ve_var (pv 3)) (va_cons (ve_var (pv 4)) (va_cons (ve_var (pv 3)) va_nil)))) (va_cons (ve_tup (va_cons (ve_var (pv 1)) (va_cons (ve_var (pv 4)) (va_cons (ve_var (pv 5)) va_nil)))) va_nil))))))))
  (vss_cons (vs_setl (i := 6) sc__law_wrong_rules.nd (vb_addL (pv 6) (ve_of (vf_lst (va_cons (ve_tup (va_cons (ve_neg ve_int) (va_cons (ve_var (pv 4)) (va_cons (ve_var (pv 5)) va_nil)))) (va_cons (ve_tup (va_cons (ve_var (pv 3)) (va_cons (ve_var (pv 4)) (va_cons (ve_var (pv 1)) va_nil)))) (va_cons (ve_tup (va_cons (ve_var (pv 3)) (va_cons (ve_var (pv 4)) (va_cons (ve_neg ve_int) va_nil)))) (va_cons (ve_tup (va_cons ve_non (va_cons (ve_var (pv 4)) (va_cons (ve_var (pv 5)) va_nil)))) (va_cons (ve_tup (va_cons (ve_var (pv 3)) (va_cons (ve_of (vf_list rfl NB.list (va_cons (ve_var (pv 4)) va_nil))) (va_cons (ve_var (pv 5)) va_nil)))) va_nil)))))))))
  (vss_cons (vs_setl (i := 6) sc__law_wrong_rules.nd (vb_addL (pv 6) (ve_of (vf_lst (va_cons (ve_tup (va_cons (ve_var (pv 3)) (va_cons (ve_tup va_nil) (va_cons (ve_var (pv 5)) va_nil)))) (va_cons (ve_tup (va_cons (ve_var (pv 3)) (va_cons (ve_tup (va_cons ve_str (va_cons ve_str va_nil))) (va_cons (ve_var (pv 5)) va_nil)))) (va_cons (ve_tup (va_cons (ve_var (pv 3)) (va_cons (ve_tup (va_cons ve_str (va_cons ve_str va_nil))) (va_cons (ve_var (pv 5)) va_nil)))) (va_cons (ve_tup (va_cons (ve_var (pv 3)) (va_cons (ve_tup (va_cons ve_str va_nil)) (va_cons (ve_var (pv 5)) va_nil)))) va_nil))))))))
  (vss_cons (vs_setl (i := 6) sc__law_wrong_rules.nd (vb_addL (pv 6) (ve_of (vf_lst (va_cons (ve_tup (va_cons (ve_var (pv 3)) (va_cons ve_str (va_cons (ve_var (pv 5)) va_nil)))) (va_cons (ve_tup (va_cons (ve_var (pv 3)) (va_cons (ve_tup (va_cons ve_int va_nil)) (va_cons (ve_var (pv 5)) va_nil)))) (va_cons (ve_tup (va_cons (ve_var (pv 3)) (va_cons (ve_tup (va_cons ve_str (va_cons ve_str (va_cons ve_str (va_cons ve_str va_nil))))) (va_cons (ve_var (pv 5)) va_nil)))) (va_cons ve_str va_nil))))))))
  (vss_cons (vs_setl (i := 6) sc__law_wrong_rules.nd (vb_addL (pv 6) (ve_of (vf_lst (va_cons (ve_tup (va_cons (ve_var (pv 3)) (va_cons (ve_tup (va_cons ve_str (va_cons ve_str (va_cons ve_str va_nil)))) (va_cons (ve_var (pv 5)) va_nil)))) (va_cons (ve_tup (va_cons (ve_strI rfl NB.str (va_cons (ve_var (pv 3)) va_nil)) (va_cons (ve_var (pv 4)) (va_cons (ve_var (pv 5)) va_nil)))) va_nil))))))
  (vss_cons (vs_if (vt_lt (ve_var (pv 3)) ve_int)
  (vss_one (vs_expr (ve_append (pv 6) (ve_tup (va_cons (ve_eq B.hr (ve_var (pv 3)) ve_int) (va_cons (ve_var (pv 4)) (va_cons (ve_var (pv 5)) va_nil)))))))
  vss_nil)
  (vss_cons (vs_if (vt_lt (ve_var (pv 5)) ve_int)
  (vss_one (vs_expr (ve_append (pv 6) (ve_tup (va_cons (ve_var (pv 3)) (va_cons (ve_var (pv 4)) (va_cons (ve_eq B.hr (ve_var (pv 5)) ve_int) va_nil)))))))
  vss_nil)
  (vss_one (vs_ret (vb_ix (pv 6) (ve_callS (i := 0) G__law_next rfl B.hx B.hr (by omega) rfl (pv 0) (va_cons (vb_len rfl NB.len (pv 6)) va_nil)))))))))))))
theorem fv__law_wrong_rules {f : Addr} {fd : FuncData} (NB : Bl mg) (G__law_next : Callee P w K mg base 1 "_law_next" ["stream", "many"] (spS K mg T false 2 mNext))
    (F : Fun K "_law_wrong_rules" "_law_wrong_rules" s__law_wrong_rules f fd) (bF : L2.Binds K fd ["stream", "size", "rule"] []) (kF : PySem.W.keepIn K (.ref f) = true) (mF : mg "_law_wrong_rules" = some (.ref f)) :
    Callee P w K mg base 2 "_law_wrong_rules" ["stream", "size", "rule"] (spS K mg T false 3 m__law_wrong_rules) :=
  mk_okS ["stream", "size", "rule", "first", "relations", "second", "wrong"] 1 3 7 b__law_wrong_rules (fb__law_wrong_rules NB G__law_next) F sc__law_wrong_rules bF kF mF rfl rfl rfl
abbrev s_law : Stmt := top 22
theorem sc_law : FnScope ["script", "stream", "problem", "size", "rules", "wrong", "rule", "at", "turn", "bad", "full"] ["script"] (defScope s_law) := ⟨rfl, rfl, rfl, by decide +kernel, rfl, by decide +kernel, by decide +kernel⟩
theorem fb_law (NB : Bl mg) (G_is_problem : Callee P w K mg base 6 "is_problem" ["value"] (spV K mg T false 1 m_is_problem)) (G__law_next : Callee P w K mg base 1 "_law_next" ["stream", "many"] (spS K mg T false 2 mNext)) (G__law_rule : Callee P w K mg base 44 "_law_rule" ["stream", "size", "plan"] (spS K mg T false 3 m__law_rule)) (G__law_problem : Callee P w K mg base 45 "_law_problem" ["stream", "least", "most", "many"] (spS K mg T false 4 m__law_problem_2)) (G__law_wrong_rules : Callee P w K mg base 2 "_law_wrong_rules" ["stream", "size", "rule"] (spS K mg T false 3 m__law_wrong_rules)) : ∀ (f : Addr) (c : Ctx T false) (cd : Value) (A : Around) (outer : List PySem.Env) (s : Shared) (H : Hp) (E : XK), Bd (cxV P w K mg base ["script", "stream", "problem", "size", "rules", "wrong", "rule", "at", "turn", "bad", "full"] "law" s_law f cd A outer s H E) E 45 → VSs (cxV P w K mg base ["script", "stream", "problem", "size", "rules", "wrong", "rule", "at", "turn", "bad", "full"] "law" s_law f cd A outer s H E) c E (defBody s_law).tail b_law := fun f c cd A outer s H E B =>
  (vss_cons (vs_set (i := 2) sc_law.nd (ve_callS (i := 1) G__law_problem rfl B.hx B.hr (by omega) rfl (pv 1) (va_cons ve_int (va_cons ve_int (va_cons ve_int va_nil)))))
  (vss_cons (vs_if (vt_isntB (ve_call G_is_problem rfl B.hx B.hr (by omega) rfl (va_cons (ve_var (pv 2)) va_nil)))
  (vss_one (vs_ret ve_bl))
  vss_nil)
  (vss_cons (vs_asg (ve_var (pv 2)) (pg_tup rfl (pgs_cons (pg_name (i := 3) sc_law.nd rfl (by first | exact Or.inl rfl | exact Or.inr rfl)) (pgs_cons (pg_name (i := 4) sc_law.nd rfl (by first | exact Or.inl rfl | exact Or.inr rfl)) pgs_nil))) (gs_tup (gss_cons gs_name (gss_cons gs_name gss_nil))))
  (vss_cons (vs_set (i := 5) sc_law.nd (ve_of (vf_lst (va_cons ve_non (va_cons (ve_of (vf_list rfl NB.list (va_cons (ve_var (pv 2)) va_nil))) (va_cons (ve_tup (va_cons (ve_var (pv 3)) va_nil)) (va_cons (ve_tup (va_cons (ve_var (pv 3)) (va_cons (ve_var (pv 4)) (va_cons (ve_tup va_nil) va_nil)))) (va_cons (ve_tup (va_cons ve_int (va_cons (ve_tup va_nil) va_nil))) (va_cons (ve_tup (va_cons ve_int (va_cons (ve_var (pv 4)) va_nil))) (va_cons (ve_tup (va_cons (ve_neg ve_int) (va_cons (ve_tup va_nil) va_nil))) (va_cons (ve_tup (va_cons ve_bl (va_cons (ve_tup va_nil) va_nil))) (va_cons (ve_tup (va_cons (ve_strI rfl NB.str (va_cons (ve_var (pv 3)) va_nil)) (va_cons (ve_var (pv 4)) va_nil))) (va_cons (ve_tup (va_cons (ve_var (pv 3)) (va_cons (ve_of (vf_list rfl NB.list (va_cons (ve_var (pv 4)) va_nil))) va_nil))) (va_cons (ve_tup (va_cons ve_non (va_cons (ve_var (pv 4)) va_nil))) va_nil))))))))))))))
  (vss_cons (vs_if (vt_isntB (ve_call G_is_problem rfl B.hx B.hr (by omega) rfl (va_cons (ve_ix (ve_var (pv 5)) (ve_callS (i := 1) G__law_next rfl B.hx B.hr (by omega) rfl (pv 1) (va_cons (ve_len rfl NB.len (va_cons (ve_var (pv 5)) va_nil)) va_nil))) va_nil)))
  (vss_one (vs_ret ve_bl))
  vss_nil)
  (vss_cons (vs_if (vt_eq B.hr (ve_var (pv 3)) ve_int)
  (vss_one (vs_ret (ve_isB (ve_call G_is_problem rfl B.hx B.hr (by omega) rfl (va_cons (ve_tup (va_cons ve_int (va_cons (ve_tup (va_cons (ve_tup (va_cons ve_int (va_cons (ve_tup (va_cons ve_str va_nil)) (va_cons ve_int va_nil)))) va_nil)) va_nil))) va_nil)))))
  vss_nil)
  (vss_cons (vs_set (i := 6) sc_law.nd (ve_callS (i := 1) G__law_rule rfl B.hx B.hr (by omega) rfl (pv 1) (va_cons (ve_var (pv 3)) (va_cons ve_non va_nil))))
  (vss_cons (vs_set (i := 7) sc_law.nd (ve_ix (ve_of (vf_lst (va_cons ve_int (va_cons (ve_fdiv (ve_len rfl NB.len (va_cons (ve_var (pv 4)) va_nil)) ve_int) (va_cons (ve_len rfl NB.len (va_cons (ve_var (pv 4)) va_nil)) va_nil))))) (ve_callS (i := 1) G__law_next rfl B.hx B.hr (by omega) rfl (pv 1) (va_cons ve_int va_nil))))
  (vss_cons (vs_for B.po rfl (vi_rng1 rfl NB.range (va_cons ve_int va_nil)) (pg_name (i := 8) sc_law.nd rfl (by first | exact Or.inl rfl | exact Or.inr rfl)) gs_name
  (vss_cons (vs_set (i := 9) sc_law.nd (ve_callS (i := 1) G__law_wrong_rules rfl B.hx B.hr (by omega) rfl (pv 1) (va_cons (ve_var (pv 3)) (va_cons (ve_callS (i := 1) G__law_rule rfl B.hx B.hr (by omega) rfl (pv 1) (va_cons (ve_var (pv 3)) (va_cons ve_non va_nil))) va_nil))))
  (vss_one (vs_if (vt_isntB (ve_call G_is_problem rfl B.hx B.hr (by omega) rfl (va_cons (ve_tup (va_cons (ve_var (pv 3)) (va_cons (ve_add (ve_add (ve_slice (ve_slice (ve_var (pv 4)) vo_none (vo_some (ve_var (pv 7)))) vo_none (vo_some ve_int)) (ve_tup (va_cons (ve_var (pv 9)) va_nil))) (ve_slice (ve_slice (ve_var (pv 4)) (vo_some (ve_var (pv 7))) vo_none) vo_none (vo_some (ve_sub ve_int (ve_var (pv 7)))))) va_nil))) va_nil)))
  (vss_one (vs_ret ve_bl))
  vss_nil))))
  (vss_cons (vs_set (i := 10) sc_law.nd (ve_slice (ve_add (ve_var (pv 4)) (ve_mulT (ve_tup (va_cons (ve_var (pv 6)) va_nil)) ve_int)) vo_none (vo_some ve_int)))
  (vss_one (vs_ret (ve_and (ve_isB (ve_call G_is_problem rfl B.hx B.hr (by omega) rfl (va_cons (ve_tup (va_cons (ve_var (pv 3)) (va_cons (ve_var (pv 10)) va_nil))) va_nil))) (ve_one (ve_isB (ve_call G_is_problem rfl B.hx B.hr (by omega) rfl (va_cons (ve_tup (va_cons (ve_var (pv 3)) (va_cons (ve_add (ve_var (pv 10)) (ve_tup (va_cons (ve_var (pv 6)) va_nil))) va_nil))) va_nil)))))))))))))))))
theorem fv_law {f g : Addr} {fd gd : FuncData} (NB : Bl mg) (G_is_problem : Callee P w K mg base 6 "is_problem" ["value"] (spV K mg T false 1 m_is_problem)) (G__law_next : Callee P w K mg base 1 "_law_next" ["stream", "many"] (spS K mg T false 2 mNext)) (G__law_rule : Callee P w K mg base 44 "_law_rule" ["stream", "size", "plan"] (spS K mg T false 3 m__law_rule)) (G__law_problem : Callee P w K mg base 45 "_law_problem" ["stream", "least", "most", "many"] (spS K mg T false 4 m__law_problem_2)) (G__law_wrong_rules : Callee P w K mg base 2 "_law_wrong_rules" ["stream", "size", "rule"] (spS K mg T false 3 m__law_wrong_rules))
    (F : Fun K "law" "law" s_law f fd) (GS : FnOk P w K mg base CX0 1 g gd ["script"] (spStream K T)) (bG : L2.Binds K gd ["script"] []) (kG : PySem.W.keepIn K (.ref g) = true) (mG : mg "_law_stream" = some (.ref g))
    (hrun : (b_law (.no :: .s :: List.replicate 9 .no)).run (fun r => r.1 = .rt (.bool true)) (fun _ => False)) :
    FnOk P w K mg base (L2.CX P w) 46 f fd ["script"] (spLaw K T) :=
  law_of (T := T) (ix := false) (k := 44) (b := b_law) (N := ["script", "stream", "problem", "size", "rules", "wrong", "rule", "at", "turn", "bad", "full"]) F sc_law GS bG kG mG rfl (n := 9) rfl
    (fun cd A outer s H E hr => ps_set (i := 1) sc_law.nd rfl (by first | exact Or.inl rfl | exact Or.inr rfl) (pe_call GS (hr.mono (by omega)) rfl mG kG bG .nil pass0 (pa_cons (pv 0) pa_nil)))
    (fun c cd A outer s H E B => fb_law NB G_is_problem G__law_next G__law_rule G__law_problem G__law_wrong_rules f c cd A outer s H E B) hrun
end
end K17

set_option Elab.async false
set_option linter.all false
set_option maxRecDepth 100000
set_option maxHeartbeats 1000000
/-! The program's top: defs, constants, classes, code tables. -/
namespace VZ
open PySem PySem.Spec L2 GxR GA KR GenW VL PyProof.Rows
/-- the def x stands at f, its code at cd -/
structure Stands (K : PySem.W.Frag) (x : Str) (st : Stmt) (f : Addr) (cd : Value) : Prop where
  ns : PySem.W.nsIn K mainGlobals x = some (some (.ref f))
  ex : ∃ (oc : Value) (od : Option Addr) (kV doc pm : Value) (an : Option Addr) (ct : Value) (osl : Array (Option Value)), K.lookup f = some ⟨oc, od, .func (PySem.W.fnOf x x (defArgs st) (defBody st) (defScope st) .none kV doc pm an cd ct), osl⟩
  cd : PySem.W.codeIn K cd x = true
  kp : PySem.W.keepIn K (.ref f) = true
theorem stands_mk {K : PySem.W.Frag} {x : Str} {st : Stmt} {f : Addr} {cd oc kV doc pm ct : Value} {od an : Option Addr} {osl : Array (Option Value)} (a : PySem.W.nsIn K mainGlobals x = some (some (.ref f)))
    (l : K.lookup f = some ⟨oc, od, .func (PySem.W.fnOf x x (defArgs st) (defBody st) (defScope st) .none kV doc pm an cd ct), osl⟩) (c : PySem.W.codeIn K cd x = true) (k : PySem.W.keepIn K (.ref f) = true) : Stands K x st f cd := ⟨a, ⟨oc, od, kV, doc, pm, an, ct, osl, l⟩, c, k⟩
def clsBody : Stmt → List Stmt
  | .ClassDef _ _ _ b _ _ _ _ _ _ _ => b
  | _ => []
def CodeT (K : PySem.W.Frag) (c PT : Addr) : Prop := ∃ (e : Value) (dd : Option Addr) (vs : Array Value) (sl : Array (Option Value)), K.lookup c = some ⟨e, dd, .fields vs, sl⟩ ∧ vs[11]? = some (.ref PT)
theorem code_mk {K : PySem.W.Frag} {c PT : Addr} {e : Value} {dd : Option Addr} {vs : Array Value} {sl : Array (Option Value)} (l : K.lookup c = some ⟨e, dd, .fields vs, sl⟩) (p : vs[11]? = some (.ref PT)) : CodeT K c PT := ⟨e, dd, vs, sl, l, p⟩
/-- a tuple of texts that stands in the module -/
def StrsT (K : PySem.W.Frag) (a : Addr) (l : List Str) : Prop := ∃ (cl : Value) (dd : Option Addr) (n : Nat) (us : List Value) (sl : Array (Option Value)), K.lookup a = some ⟨cl, dd, .seq us.toArray n, sl⟩ ∧ cl = .type "tuple" ∧ dd = none ∧ Vals (l.map V.str) us ∧ us.length ≤ 8
theorem StrsT.cst {ix : Bool} {K : PySem.W.Frag} {mg : Str → Option Value} {h : Heap} {x : Str} {a : Addr} {l : List Str} (s : StrsT K a l) (X : K.In h) (G : h.Ns mainGlobals mg) (n : PySem.W.nsIn K mainGlobals x = some (some (.ref a))) : CstV ix K mg x (.tuple (l.map .str)) := by
  obtain ⟨cl, dd, k, us, sl, e, rfl, rfl, r, h8⟩ := s
  refine cst_strs ⟨a, PySem.W.mg_of X G n, fun H => .inr ⟨_, _, k, e, rfl, rfl, ?_, r⟩, _, e, rfl, rfl⟩
  show us.toArray.size ≤ sizeLine
  rw [List.size_toArray]
  exact Nat.le_trans h8 (by decide)
theorem strs_mk1 {K : PySem.W.Frag} {a : Addr} {cl : Value} {dd : Option Addr} {n : Nat} {x0 : Str} {u0 : Tok} {sl : Array (Option Value)} (l : K.lookup a = some ⟨cl, dd, .seq #[.str x0 u0] n, sl⟩) (p : cl = .type "tuple") (q : dd = none) : StrsT K a [x0] := ⟨cl, dd, n, [.str x0 u0], sl, l, p, q, (.cons ⟨_, rfl⟩ .nil), (by show 1 ≤ 8; decide)⟩
theorem strs_mk2 {K : PySem.W.Frag} {a : Addr} {cl : Value} {dd : Option Addr} {n : Nat} {x0 x1 : Str} {u0 u1 : Tok} {sl : Array (Option Value)} (l : K.lookup a = some ⟨cl, dd, .seq #[.str x0 u0, .str x1 u1] n, sl⟩) (p : cl = .type "tuple") (q : dd = none) : StrsT K a [x0, x1] := ⟨cl, dd, n, [.str x0 u0, .str x1 u1], sl, l, p, q, (.cons ⟨_, rfl⟩ (.cons ⟨_, rfl⟩ .nil)), (by show 2 ≤ 8; decide)⟩
theorem strs_mk3 {K : PySem.W.Frag} {a : Addr} {cl : Value} {dd : Option Addr} {n : Nat} {x0 x1 x2 : Str} {u0 u1 u2 : Tok} {sl : Array (Option Value)} (l : K.lookup a = some ⟨cl, dd, .seq #[.str x0 u0, .str x1 u1, .str x2 u2] n, sl⟩) (p : cl = .type "tuple") (q : dd = none) : StrsT K a [x0, x1, x2] := ⟨cl, dd, n, [.str x0 u0, .str x1 u1, .str x2 u2], sl, l, p, q, (.cons ⟨_, rfl⟩ (.cons ⟨_, rfl⟩ (.cons ⟨_, rfl⟩ .nil))), (by show 3 ≤ 8; decide)⟩
theorem strs_mk4 {K : PySem.W.Frag} {a : Addr} {cl : Value} {dd : Option Addr} {n : Nat} {x0 x1 x2 x3 : Str} {u0 u1 u2 u3 : Tok} {sl : Array (Option Value)} (l : K.lookup a = some ⟨cl, dd, .seq #[.str x0 u0, .str x1 u1, .str x2 u2, .str x3 u3] n, sl⟩) (p : cl = .type "tuple") (q : dd = none) : StrsT K a [x0, x1, x2, x3] := ⟨cl, dd, n, [.str x0 u0, .str x1 u1, .str x2 u2, .str x3 u3], sl, l, p, q, (.cons ⟨_, rfl⟩ (.cons ⟨_, rfl⟩ (.cons ⟨_, rfl⟩ (.cons ⟨_, rfl⟩ .nil)))), (by show 4 ≤ 8; decide)⟩
theorem strs_mk5 {K : PySem.W.Frag} {a : Addr} {cl : Value} {dd : Option Addr} {n : Nat} {x0 x1 x2 x3 x4 : Str} {u0 u1 u2 u3 u4 : Tok} {sl : Array (Option Value)} (l : K.lookup a = some ⟨cl, dd, .seq #[.str x0 u0, .str x1 u1, .str x2 u2, .str x3 u3, .str x4 u4] n, sl⟩) (p : cl = .type "tuple") (q : dd = none) : StrsT K a [x0, x1, x2, x3, x4] := ⟨cl, dd, n, [.str x0 u0, .str x1 u1, .str x2 u2, .str x3 u3, .str x4 u4], sl, l, p, q, (.cons ⟨_, rfl⟩ (.cons ⟨_, rfl⟩ (.cons ⟨_, rfl⟩ (.cons ⟨_, rfl⟩ (.cons ⟨_, rfl⟩ .nil))))), (by show 5 ≤ 8; decide)⟩
theorem strs_mk6 {K : PySem.W.Frag} {a : Addr} {cl : Value} {dd : Option Addr} {n : Nat} {x0 x1 x2 x3 x4 x5 : Str} {u0 u1 u2 u3 u4 u5 : Tok} {sl : Array (Option Value)} (l : K.lookup a = some ⟨cl, dd, .seq #[.str x0 u0, .str x1 u1, .str x2 u2, .str x3 u3, .str x4 u4, .str x5 u5] n, sl⟩) (p : cl = .type "tuple") (q : dd = none) : StrsT K a [x0, x1, x2, x3, x4, x5] := ⟨cl, dd, n, [.str x0 u0, .str x1 u1, .str x2 u2, .str x3 u3, .str x4 u4, .str x5 u5], sl, l, p, q, (.cons ⟨_, rfl⟩ (.cons ⟨_, rfl⟩ (.cons ⟨_, rfl⟩ (.cons ⟨_, rfl⟩ (.cons ⟨_, rfl⟩ (.cons ⟨_, rfl⟩ .nil)))))), (by show 6 ≤ 8; decide)⟩
theorem strs_mk7 {K : PySem.W.Frag} {a : Addr} {cl : Value} {dd : Option Addr} {n : Nat} {x0 x1 x2 x3 x4 x5 x6 : Str} {u0 u1 u2 u3 u4 u5 u6 : Tok} {sl : Array (Option Value)} (l : K.lookup a = some ⟨cl, dd, .seq #[.str x0 u0, .str x1 u1, .str x2 u2, .str x3 u3, .str x4 u4, .str x5 u5, .str x6 u6] n, sl⟩) (p : cl = .type "tuple") (q : dd = none) : StrsT K a [x0, x1, x2, x3, x4, x5, x6] := ⟨cl, dd, n, [.str x0 u0, .str x1 u1, .str x2 u2, .str x3 u3, .str x4 u4, .str x5 u5, .str x6 u6], sl, l, p, q, (.cons ⟨_, rfl⟩ (.cons ⟨_, rfl⟩ (.cons ⟨_, rfl⟩ (.cons ⟨_, rfl⟩ (.cons ⟨_, rfl⟩ (.cons ⟨_, rfl⟩ (.cons ⟨_, rfl⟩ .nil))))))), (by show 7 ≤ 8; decide)⟩
theorem strs_mk8 {K : PySem.W.Frag} {a : Addr} {cl : Value} {dd : Option Addr} {n : Nat} {x0 x1 x2 x3 x4 x5 x6 x7 : Str} {u0 u1 u2 u3 u4 u5 u6 u7 : Tok} {sl : Array (Option Value)} (l : K.lookup a = some ⟨cl, dd, .seq #[.str x0 u0, .str x1 u1, .str x2 u2, .str x3 u3, .str x4 u4, .str x5 u5, .str x6 u6, .str x7 u7] n, sl⟩) (p : cl = .type "tuple") (q : dd = none) : StrsT K a [x0, x1, x2, x3, x4, x5, x6, x7] := ⟨cl, dd, n, [.str x0 u0, .str x1 u1, .str x2 u2, .str x3 u3, .str x4 u4, .str x5 u5, .str x6 u6, .str x7 u7], sl, l, p, q, (.cons ⟨_, rfl⟩ (.cons ⟨_, rfl⟩ (.cons ⟨_, rfl⟩ (.cons ⟨_, rfl⟩ (.cons ⟨_, rfl⟩ (.cons ⟨_, rfl⟩ (.cons ⟨_, rfl⟩ (.cons ⟨_, rfl⟩ .nil)))))))), (by show 8 ≤ 8; decide)⟩
/-- a dict of texts that stands in the module -/
theorem opps_mk {K : PySem.W.Frag} {w : World} {a : Addr} {cl : Value} {dd : Option Addr} {es : Array DictEntry} {n : Nat} {sl : Array (Option Value)} {u1 u2 u3 : Tok} (l : K.lookup a = some ⟨cl, dd, .dict es n, sl⟩) (p1 : cl = .type "dict") (p2 : dd = none) (p3 : sl = #[])
    (k : PySem.W.KeysLit w.params es.toList) (g1 : PySem.W.nsIn K a "before" = some (some (.str "after" u1))) (g2 : PySem.W.nsIn K a "beside" = some (some (.str "beside" u2))) (g3 : PySem.W.nsIn K a "after" = some (some (.str "before" u3))) : ∀ s r, ([("before", "after"), ("beside", "beside"), ("after", "before")] : List (Str × Str)).lookup s = some r → KDct K w a s (.str r) := by
  subst p1 p2 p3
  intro s r h
  rw [List.lookup_cons, List.lookup_cons, List.lookup_cons] at h
  cases b1 : (s == ("before" : Str)) with
  | true =>
    rw [b1] at h
    cases h
    rw [beq_iff_eq.mp b1]
    exact ⟨es, n, _, l, k, g1, _, rfl⟩
  | false =>
    rw [b1] at h
    cases b2 : (s == ("beside" : Str)) with
    | true =>
      rw [b2] at h
      cases h
      rw [beq_iff_eq.mp b2]
      exact ⟨es, n, _, l, k, g2, _, rfl⟩
    | false =>
      rw [b2] at h
      cases b3 : (s == ("after" : Str)) with
      | true =>
        rw [b3] at h
        cases h
        rw [beq_iff_eq.mp b3]
        exact ⟨es, n, _, l, k, g3, _, rfl⟩
      | false => rw [b3] at h; cases h
theorem need_mk {K : PySem.W.Frag} {w : World} {a : Addr} {cl : Value} {dd : Option Addr} {es : Array DictEntry} {n : Nat} {sl : Array (Option Value)} {u1 u2 : Tok} (l : K.lookup a = some ⟨cl, dd, .dict es n, sl⟩) (p1 : cl = .type "dict") (p2 : dd = none) (p3 : sl = #[])
    (k : PySem.W.KeysLit w.params es.toList) (g1 : PySem.W.nsIn K a "beside" = some (some (.str "beside" u1))) (g2 : PySem.W.nsIn K a "then" = some (some (.str "before" u2))) : ∀ s r, ([("beside", "beside"), ("then", "before")] : List (Str × Str)).lookup s = some r → KDct K w a s (.str r) := by
  subst p1 p2 p3
  intro s r h
  rw [List.lookup_cons, List.lookup_cons] at h
  cases b1 : (s == ("beside" : Str)) with
  | true =>
    rw [b1] at h
    cases h
    rw [beq_iff_eq.mp b1]
    exact ⟨es, n, _, l, k, g1, _, rfl⟩
  | false =>
    rw [b1] at h
    cases b2 : (s == ("then" : Str)) with
    | true =>
      rw [b2] at h
      cases h
      rw [beq_iff_eq.mp b2]
      exact ⟨es, n, _, l, k, g2, _, rfl⟩
    | false => rw [b2] at h; cases h
/-! classes of errors -/
/-- an error of the class at S is what «except S» names -/
theorem exm_own {K : PySem.W.Frag} {S : Addr} (b : PySem.W.subIn K (.ref S) (.type "BaseException") = some true) (i : PySem.W.isClsIn K S = true) (t : PySem.W.typeIn K (.ref S) = some (.type "type")) (o : PySem.W.subIn K (.ref S) (.ref S) = some true) : PySem.W.exmOne K (.ref S) (.ref S) = some true := by
  have i' : (PySem.W.clsIn K S).isSome = true := i
  unfold PySem.W.exmOne
  simp only [b]
  unfold PySem.W.kitCls
  simp [t, i', o]
structure ErrT (K : PySem.W.Frag) (fld : Str) (C fI : Addr) : Prop where
  ox : OexC K C
  xf : XfC K C
  noN : PySem.W.findIn K (.ref C) fld = some none
  iC : PySem.W.findIn K (.ref C) "__init__" = some (some (.ref fI))
  tI : PySem.W.typeIn K (.ref fI) = some (.type "function")
theorem err_mk {K : PySem.W.Frag} {fld : Str} {C fI pe N : Addr} {nm q : Str} {bs : List Value} {sn : List Str} {sub : List Value} {ab : Bool} {col : Option Bool} {dd : Option Addr} {m0 m1 m2 m3 m5 : Option Value}
    (xL : K.lookup C = some (excClassObj nm q C N bs [.ref pe, .type "ValueError", .type "Exception", .type "BaseException", .type "object"] true sn sub ab col dd m0 m1 m2 m3 m5 "ValueError.__new__")) (hb : PySem.HandSPX.refsVE [.ref pe, .type "ValueError", .type "Exception", .type "BaseException", .type "object"] = true)
    (sa : PySem.W.findIn K (.ref C) "__setattr__" = some (some (.builtin "object.__setattr__"))) (ga : PySem.W.findIn K (.ref C) "__getattribute__" = some (some (.builtin "BaseException.__getattribute__"))) (gg : PySem.W.findIn K (.ref C) "__getattr__" = some none)
    (nb : PySem.W.findIn K (.ref C) fld = some none) (a1 : PySem.W.findIn K (.ref C) "__init__" = some (some (.ref fI))) (t1 : PySem.W.typeIn K (.ref fI) = some (.type "function")) (kC : PySem.W.keepIn K (.ref C) = true) (eC : PySem.W.subIn K (.ref C) (.type "BaseException") = some true)
    (tC : PySem.W.typeIn K (.ref C) = some (.type "type")) (hC : PySem.W.hasDictIn K C = true) : ErrT K fld C fI :=
  ⟨⟨⟨nm, q, N, bs, _, sn, sub, ab, col, dd, m0, m1, m2, m3, m5, xL, hb⟩, sa, eC, tC, kC⟩, ⟨ga, gg, eC, hC⟩, nb, a1, t1⟩
def InitT (K : PySem.W.Frag) (qn : Str) (st : Stmt) (fI : Addr) : Prop := ∃ fd : FuncData, Fun K "__init__" qn st fI fd
theorem init_mk {K : PySem.W.Frag} {qn : Str} {st : Stmt} {fI : Addr} {cd oc kV doc pm ct : Value} {od an : Option Addr} {osl : Array (Option Value)} (l : K.lookup fI = some ⟨oc, od, .func (PySem.W.fnOf "__init__" qn (defArgs st) (defBody st) (defScope st) .none kV doc pm an cd ct), osl⟩)
    (c : PySem.W.codeIn K cd qn = true) (k : PySem.W.keepIn K (.ref fI) = true) : InitT K qn st fI := ⟨_, fun_mk l c k⟩
theorem Stands.out {K : PySem.W.Frag} {x : Str} {st : Stmt} {f : Addr} {cd : Value} (S : Stands K x st f cd) {ps : List Str}
    (h : ∀ (kV doc pm : Value) (an : Option Addr) (cdv ct : Value) (us : List Value), us.length = ps.length → bindArgs (PySem.W.fnOf x x (defArgs st) (defBody st) (defScope st) .none kV doc pm an cdv ct) ⟨us, []⟩ = pure (ps.zip us)) :
    ∃ fd : FuncData, Fun K x x st f fd ∧ Binds K fd ps [] ∧ ∀ c, cd = .ref c → FunT K x x st f fd c := by
  obtain ⟨oc, od, kV, doc, pm, an, ct, osl, e⟩ := S.ex
  have F := fun_mk e S.cd S.kp
  refine ⟨_, F, F.binds h, fun c ec => ?_⟩
  subst ec
  exact funT_mk e S.cd S.kp
theorem Stands.mg {K : PySem.W.Frag} {x : Str} {st : Stmt} {f : Addr} {cd : Value} {h : Heap} {mg : Str → Option Value} (S : Stands K x st f cd) (X : K.In h) (G : h.Ns mainGlobals mg) : mg x = some (.ref f) := PySem.W.mg_of X G S.ns
/-- the table of the def nm is empty at the head's end -/
def TabOf (nm : Str) (mg : Str → Option Value) (h : Heap) : Prop := ∃ (a : Addr) (o : Obj) (fd : FuncData) (c P : Addr), mg nm = some (.ref a) ∧ h.get? a = some o ∧ o.data = .func fd ∧ fd.code = .ref c ∧ h.IsCode c P #[] ∧ h.TableAt c P #[]
theorem TabOf.at_ {K : PySem.W.Frag} {x : Str} {st : Stmt} {f c PT : Addr} {h : Heap} {mg : Str → Option Value} (T : TabOf x mg h) (X : K.In h) (G : h.Ns mainGlobals mg) (S : Stands K x st f (.ref c)) (hc : CodeT K c PT) : h.get? PT = some { cls := .none, data := .fields #[] } ∧ PySem.W.CodeHd h c PT := by
  obtain ⟨a, o, fd, c', P', h1, h2, h3, h4, h5, h6⟩ := T
  obtain ⟨oc, od, kV, doc, pm, an, ct, osl, e⟩ := S.ex
  rw [S.mg X G] at h1
  cases h1
  rw [X _ _ e] at h2
  cases h2
  cases h3
  cases h4
  obtain ⟨e1, dd, vs, sl, k1, k2⟩ := hc
  have hh := h6
  obtain ⟨⟨o2, v2, g1, g2, g3, g4⟩, hP⟩ := h6
  rw [X _ _ k1] at g1
  cases g1
  cases g3
  rw [k2] at g4
  cases g4
  exact ⟨hP, PySem.W.CodeHd.of h5 hh⟩
theorem walk_tabs {l : PySem.W.OpenLaw} {q : Program} {loose : List Str} {XP : (Str → Option Value) → Heap → Prop} {YP : World → Heap → Prop} {d : DefRec} {K : Params → PySem.W.Frag} {k : Nat} (nms : List Str) (hk : Room k callerA)
    (hn : l.most = some 63) (hdf : d.params.defaults = []) (hrec : (nms.all fun nm => (recsOf q).any fun e => e.name == nm) = true) (hY : ∀ (w : World) (h : Heap), YP w h → (K w.params).In h)
    (F : ∀ (w : World) (mg : Str → Option Value) (fa : Addr) (h : Heap), (K w.params).In h → h.Ns mainGlobals mg → mg d.name = some (.ref fa) → (∀ nm ∈ nms, TabOf nm mg h) → LamX.LawAtS l w (K w.params) CX0 k 63 "script" mg fa h) :
    PySem.W.WalkO q loose XP YP l.row.toRowW d [] (fun f vs => PySem.call f vs) := by
  refine Att.attach_callB hn hdf fun w s₀ s₁ mg mb fa o pm cd doc a vs ns G Y _ _ _ hmg hobj hints hlen hbits hg => ?_
  have tab : ∀ nm ∈ nms, TabOf nm mg s₁.heap := fun nm hnm => by
    obtain ⟨r, hm, hr⟩ := List.any_eq_true.mp (List.all_eq_true.mp hrec nm hnm)
    have er : r.name = nm := beq_iff_eq.mp hr
    have t := G.T.tab r hm
    rw [er] at t
    exact t
  obtain ⟨fd, cs, sp, t1, t2, t3, hb, hsp, hF⟩ := F w mg fa _ (hY w _ Y) G.T.g hmg tab
  exact LamX.law_callTs (hY w _ Y) G.T.g G.T.b G.T.builtins G.T.nolimit hg t1 t2 t3 G.T.bmain hobj hints (Nat.le_trans hlen (by decide)) hk hF hb
    (fun H hH hS => hsp H a ns hlen hbits hH hS) fun _ _ _ z => z
/-- the law at its place -/
theorem law_at {l : PySem.W.OpenLaw} {w : World} {K : PySem.W.Frag} {mg : Str → Option Value} {h : Heap} {fa : Addr} {st : Stmt} {cd : Value} {k : Nat} (S : Stands K "law" st fa cd) (cs : List (Addr × Addr)) (t1 : ∀ p ∈ cs, h.get? p.2 = some { cls := .none, data := .fields #[] } ∧ PySem.W.CodeHd h p.1 p.2) (t2 : ∀ p ∈ cs, K.lookup p.2 = none)
    (hb : ∀ (kV doc pm : Value) (an : Option Addr) (cdv ct : Value) (s : Shared) (v : Value), bindArgs (PySem.W.fnOf "law" "law" (defArgs st) (defBody st) (defScope st) .none kV doc pm an cdv ct) ⟨[v], []⟩ = pure [(("script" : Str), v)])
    (hF : ∀ (base : Heap) (fd : FuncData), Fun K "law" "law" st fa fd → (∀ p ∈ cs, TabB base mg p.1 p.2) → FnOk l.prog w K mg base (L2.CX l.prog w) k fa fd ["script"] (spLaw K (cs.map (·.2)))) : LamX.LawAtS l w K CX0 k 63 "script" mg fa h := by
  obtain ⟨oc, od, kV, doc, pm, an, ct, osl, eL⟩ := S.ex
  have RL := fun_mk eL S.cd S.kp
  refine ⟨PySem.W.fnOf "law" "law" (defArgs st) (defBody st) (defScope st) .none kV doc pm an cd ct, cs, spLaw K (cs.map (·.2)), fun p hp => (t1 p hp).1, t2, fun p hp => (t1 p hp).2, fun s v => .of_eq (hb kV doc pm an cd ct s v), fun H a ns hl _ hH hS => ⟨a, ns, rfl, hS, hl, fun P hP => ?_, fun _ => rfl⟩, fun base _ _ hTB => ?_⟩
  · obtain ⟨p, hp, rfl⟩ := List.mem_map.mp hP
    exact ⟨#[], hH p hp, trivial⟩
  · exact VL.FnOk.cx0 (hF base _ RL fun p hp => ⟨(hTB p hp).code, (hTB p hp).bm, (hTB p hp).gP⟩) fun vs H Q E h => h
end VZ

set_option Elab.async false
set_option linter.all false
set_option maxRecDepth 100000
set_option maxHeartbeats 4000000
/-! k17_forms_of_problems: the stream, the errors -/
namespace K17
open PySem PySem.Spec PyProof.Rows L2 GxR GA KR GenW VL VM
abbrev s__law_stream : Stmt := top 12
abbrev s__law_next : Stmt := top 13
section
variable {P : Program} {w : World} {K : PySem.W.Frag} {mg : Str → Option Value} {base : Heap} {T : List Addr}
theorem sc__law_stream : FnScope ["script"] ["script"] (defScope s__law_stream) := ⟨rfl, rfl, rfl, by decide +kernel, rfl, by decide +kernel, by decide +kernel⟩
theorem ok_stream {f : Addr} {fd : FuncData} (F : Fun K "_law_stream" "_law_stream" s__law_stream f fd) (B : Bl mg) : FnOk P w K mg base CX0 1 f fd ["script"] (spStream K T) := by
  refine F.ok sc__law_stream (fun vs H Q E h => ?_) (fun cdv A outer s H vs Q E hr h => ?_)
  · obtain ⟨a, ns, rfl, _⟩ := h
    rfl
  obtain ⟨a, ns, rfl, hS, hl, q⟩ := h
  refine ⟨_, pss_one (ps_ret (pe_lst (pa_cons (pe_callTy call_list_of rfl B.list (by decide +kernel) (pa_cons (pv 0) pa_nil)) (pa_cons pe_int (pa_cons pe_int pa_nil))))), ?_⟩
  refine ⟨_, rfl, a, _, rfl, .inl hS, fun l hl => ?_⟩
  refine ⟨by show 3 ≤ sizeLine; decide, fun st hst => ?_⟩
  have n : l ≠ st := fun z => by rw [← z, upd_same] at hst; cases hst
  have hst' : H st = none := by rw [upd_ne n.symm] at hst; exact hst
  exact q st l _ hst' hl ((Kp.new hl).trans (Kp.new hst)) ⟨0, 0, ns, upd_same, by rw [upd_ne n, upd_same], n, by decide, by decide⟩
theorem sc__law_next : FnScope ["stream", "many", "k", "cell", "digit"] ["stream", "many"] (defScope s__law_next) := ⟨rfl, rfl, rfl, by decide +kernel, rfl, by decide +kernel, by decide +kernel⟩
theorem ok_next {f : Addr} {fd : FuncData} (F : Fun K "_law_next" "_law_next" s__law_next f fd) (B : Bl mg) (bF : L2.Binds K fd ["stream", "many"] []) (kF : PySem.W.keepIn K (.ref f) = true) (mF : mg "_law_next" = some (.ref f)) : Callee P w K mg base 1 "_law_next" ["stream", "many"] (spS K mg T false 2 mNext) := by
  refine ⟨f, fd, F.okX sc__law_next (fun vs H Q E h => ?_) (fun cdv A outer s H vs Q E hr h => ?_), bF, kF, mF⟩
  · obtain ⟨st, l, many, rfl, _⟩ := sp_next h
    rfl
  obtain ⟨st, l, many, rfl, ⟨b, k, ns, h1, h2, h3, h4, h5⟩, m1, m2, q⟩ := sp_next h
  refine ⟨_, C8.pss_cut (ps_if (pt_cmpR op_eq (pe_ix ix_list (pv 0) pe_int (fun _ _ => rfl)) pe_int (nomark _))
      (pss_cons (ps_set (i := 2) sc__law_next.nd rfl (Or.inl rfl) (pe_ix ix_list (pv 0) pe_int (fun _ _ => rfl)))
      (pss_cons (ps_set (i := 3) sc__law_next.nd rfl (Or.inl rfl) (pe_op op_add pe_int (pv 2)))
      (C8.pss_cut (ps_if (pt_cmpR op_lt (pv 2) (pe_callB call_len_seq rfl B.len PySem.boot_len (pa_cons (pe_ix ix_list (pv 0) pe_int (fun _ _ => rfl)) pa_nil)) (nomark _))
          (pss_one (ps_set (i := 3) sc__law_next.nd rfl (Or.inl rfl) (pe_callB call_abs rfl B.abs (by decide +kernel) (pa_cons (pe_ix ix_list (pe_ix ix_list (pv 0) pe_int (fun _ _ => rfl)) (pv 2) (fun _ _ => rfl)) pa_nil)))) pss_nil)
      (C8.pss_cut (ps_if (pt_cmpR op_lt (pv 3) (pe_op op_pow pe_int pe_int) (nomark _))
          (pss_cons (ps_set (i := 3) sc__law_next.nd rfl (Or.inl rfl) (pe_op op_mod (pe_callTy call_int1 rfl B.int (by decide +kernel) (pa_cons (pe_op op_add (pe_op op_add (pe_op op_mul (pv 3) pe_int) (pe_op op_mul (pv 2) pe_int)) pe_int) pa_nil)) pe_int))
          (pss_one (ps_set (i := 3) sc__law_next.nd rfl (Or.inl rfl) (pe_op op_add (pe_op op_mul (pe_op op_mod (pe_callTy call_int1 rfl B.int (by decide +kernel) (pa_cons (pe_op op_add (pe_op op_mul (pv 3) pe_int) pe_int) pa_nil)) pe_int) pe_int) (pv 3))))) pss_nil)
      (pss_cons (ps_asg (pv 3) (pg_sub (pv 0) pe_int set_list))
      (pss_one (ps_asg (pe_op op_add (pv 2) pe_int) (pg_sub (pv 0) pe_int set_list)))))))) pss_nil)
    (pss_cons (ps_set (i := 4) sc__law_next.nd rfl (Or.inl rfl) (pe_op op_mod (pe_callTy call_int1 rfl B.int (by decide +kernel) (pa_cons (pe_ix ix_list (pv 0) pe_int (fun _ _ => rfl)) pa_nil)) (pv 1)))
    (pss_cons (ps_asg (pe_op op_fdivW (pe_ix ix_list (pv 0) pe_int (fun _ _ => rfl)) (pv 1)) (pg_sub (pv 0) pe_int set_list))
    (pss_one (ps_ret (pv 4))))), ?_⟩
  -- behind the first if
  refine ⟨fun σ' H' => ∃ (b' k' : Int) (x2 x3 : Option V), σ' = [some (.ref st), some (.int many), x2, x3, none] ∧ VL.Kp (MS st) H H' ∧ H' st = some (.lst [.ref l, .int b', .int k']) ∧ H' l = some (.lst (ns.map V.int)) ∧ 0 ≤ b' ∧ 0 ≤ k', ?_, ?_⟩
  · refine ⟨_, rfl, st, _, _, _, rfl, rfl, SqL.of h1, atI_nat (j := 1) rfl, rfl, _, rfl, ?_⟩
    refine ite2 (fun c => ?_) (fun c => ?_)
    · refine ⟨_, rfl, st, _, _, _, rfl, rfl, SqL.of h1, atI_nat (j := 2) rfl, _, rfl, 7, _, rfl, rfl, ?_⟩
      refine ⟨fun σ' H' => ∃ cell : Int, 0 ≤ cell ∧ σ' = [some (.ref st), some (.int many), some (.int k), some (.int cell), none] ∧ H = H', ?_, ?_⟩
      · refine ⟨_, rfl, _, rfl, st, _, _, _, rfl, rfl, SqL.of h1, atI_nat (j := 0) rfl, l, _, rfl, .inl (SqL.of h2), _, _, rfl, rfl, _, rfl, ?_⟩
        refine ite2 (fun c2 => ?_) (fun c2 => ⟨7 + k, by omega, rfl, rfl⟩)
        have c2' : k < ((ns.map V.int).length : Int) := of_decide_eq_true c2
        rw [List.length_map] at c2'
        have hk : k.toNat < ns.length := by omega
        have ek : k = ((k.toNat : Nat) : Int) := by omega
        have hat := atI_nat (xs := ns.map V.int) (j := k.toNat) (v := .int ns[k.toNat]) (by rw [List.getElem?_map, List.getElem?_eq_getElem hk]; rfl)
        rw [← ek] at hat
        refine ⟨_, rfl, st, _, _, _, rfl, rfl, SqL.of h1, atI_nat (j := 0) rfl, _, rfl, l, _, _, _, rfl, rfl, SqL.of h2, hat, _, rfl, ?_⟩
        refine ⟨_, ?_, rfl, rfl⟩
        split <;> omega
      · rintro σ' H' ⟨cell, hc, rfl, rfl⟩
        refine ⟨fun σ' H' => ∃ cell : Int, 0 ≤ cell ∧ σ' = [some (.ref st), some (.int many), some (.int k), some (.int cell), none] ∧ H = H', ?_, ?_⟩
        · refine ⟨_, rfl, 10, 18, rfl, rfl, ⟨by decide, by decide, by decide⟩, _, _, rfl, rfl, _, rfl, ?_⟩
          refine ite2 (fun c2 => ?_) (fun c2 => ⟨cell, hc, rfl, rfl⟩)
          refine ⟨_, rfl, _, 48271, rfl, rfl, .inr ⟨by decide, by decide⟩, _, rfl, _, 69621, rfl, rfl, .inr ⟨by decide, by decide⟩, _, _, rfl, rfl, _, 11, rfl, rfl, .inl ⟨_, rfl, _, 2147483647, rfl, rfl, (by show (0 : Int) < 2147483647; decide), ?_⟩⟩
          refine ⟨_, rfl, _, 16807, rfl, rfl, .inr ⟨by decide, by decide⟩, _, 13, rfl, rfl, .inl ⟨_, rfl, _, 2147483647, rfl, rfl, (by show (0 : Int) < 2147483647; decide), _, 65537, rfl, rfl, .inr ⟨by decide, by decide⟩, _, rfl, _, _, rfl, rfl, ?_⟩⟩
          refine ⟨_, ?_, rfl, rfl⟩
          have e1 := Int.emod_nonneg (cell * 48271 + k * 69621 + 11) (show (2147483647 : Int) ≠ 0 by decide)
          have e2 := Int.emod_nonneg ((cell * 48271 + k * 69621 + 11) % 2147483647 * 16807 + 13) (show (2147483647 : Int) ≠ 0 by decide)
          omega
        · rintro σ' H' ⟨cell, hc, rfl, rfl⟩
          refine ⟨_, rfl, _, rfl, st, _, 1, 1, rfl, rfl, h1, rfl, ?_⟩
          refine ⟨_, rfl, k, 1, rfl, rfl, _, rfl, st, _, 2, 2, rfl, rfl, upd_same, rfl, ?_⟩
          rw [upd_upd]
          exact ⟨cell, k + 1, _, _, rfl, VL.Kp.put rfl h1 rfl, upd_same, by rw [upd_ne h3]; exact h2, hc, by omega⟩
    · exact ⟨b, k, none, none, rfl, .refl, h1, h2, h4, h5⟩
  · rintro σ' H' ⟨b', k', x2, x3, rfl, kp, g1, g2, g4, g5⟩
    refine ⟨_, rfl, st, _, _, _, rfl, rfl, SqL.of g1, atI_nat (j := 1) rfl, .inl ⟨_, rfl, _, rfl, _, _, rfl, rfl, m1, ?_⟩⟩
    refine ⟨_, rfl, st, _, _, _, rfl, rfl, SqL.of g1, atI_nat (j := 1) rfl, _, rfl, _, _, rfl, rfl, wide_div (b := 10) m1 (by omega) (by decide) (by decide), _, rfl, st, _, 1, 1, rfl, rfl, g1, rfl, _, rfl, ?_⟩
    refine q _ _ (Int.emod_nonneg _ (by omega)) (Int.emod_lt_of_pos _ m1) (kp.trans (VL.Kp.put rfl g1 rfl)) ⟨b' / many, k', ns, upd_same, by rw [upd_ne h3]; exact g2, h3, Int.ediv_nonneg g4 (by omega), g5⟩
end
end K17

set_option Elab.async false
set_option linter.all false
set_option maxRecDepth 100000
set_option maxHeartbeats 4000000
/-! k17_forms_of_problems: the program's top -/
namespace K17
open PySem PySem.Spec PyProof.Rows L2 GxR GA KR GenW VL VM VZ
theorem all_mk {l : PySem.W.OpenLaw} {w : World} {K : PySem.W.Frag} {h : Heap} {mg : Str → Option Value} {fa p1 g_is_integer g_is_size g_is_index g_is_problem g_is_rule g_common g__law_stream g__law_next g__law_tasks g__law_relation g__law_drawn_plan g__law_some_plan g__law_relations g__law_rule g__law_problem g__law_wrong_rules g_law c_is_problem a_RELATIONS : Addr} {c_is_integer c_is_size c_is_index c_is_rule c_common c__law_stream c__law_next c__law_tasks c__law_relation c__law_drawn_plan c__law_some_plan c__law_relations c__law_rule c__law_problem c__law_wrong_rules c_law : Value} {t_MOST_RULES t_MOST_TASKS : Tok}
    (X : K.In h) (G : h.Ns mainGlobals mg) (hfa : mg "law" = some (.ref fa)) (T : ∀ nm ∈ (["is_problem"] : List Str), TabOf nm mg h)
    (S_is_integer : Stands K "is_integer" s_is_integer g_is_integer c_is_integer)
    (S_is_size : Stands K "is_size" s_is_size g_is_size c_is_size)
    (S_is_index : Stands K "is_index" s_is_index g_is_index c_is_index)
    (S_is_problem : Stands K "is_problem" s_is_problem g_is_problem (.ref c_is_problem))
    (S_is_rule : Stands K "is_rule" s_is_rule g_is_rule c_is_rule)
    (S_common : Stands K "common" s_common g_common c_common)
    (S__law_stream : Stands K "_law_stream" s__law_stream g__law_stream c__law_stream)
    (S__law_next : Stands K "_law_next" s__law_next g__law_next c__law_next)
    (S__law_tasks : Stands K "_law_tasks" s__law_tasks g__law_tasks c__law_tasks)
    (S__law_relation : Stands K "_law_relation" s__law_relation g__law_relation c__law_relation)
    (S__law_drawn_plan : Stands K "_law_drawn_plan" s__law_drawn_plan g__law_drawn_plan c__law_drawn_plan)
    (S__law_some_plan : Stands K "_law_some_plan" s__law_some_plan g__law_some_plan c__law_some_plan)
    (S__law_relations : Stands K "_law_relations" s__law_relations g__law_relations c__law_relations)
    (S__law_rule : Stands K "_law_rule" s__law_rule g__law_rule c__law_rule)
    (S__law_problem : Stands K "_law_problem" s__law_problem g__law_problem c__law_problem)
    (S__law_wrong_rules : Stands K "_law_wrong_rules" s__law_wrong_rules g__law_wrong_rules c__law_wrong_rules)
    (S_law : Stands K "law" s_law g_law c_law)
    (hc_is_problem : CodeT K c_is_problem p1) (hp_is_problem : K.lookup p1 = none)
    (n_MOST_RULES : PySem.W.nsIn K mainGlobals "MOST_RULES" = some (some (.int 20 t_MOST_RULES)))
    (n_MOST_TASKS : PySem.W.nsIn K mainGlobals "MOST_TASKS" = some (some (.int 7 t_MOST_TASKS)))
    (n_RELATIONS : PySem.W.nsIn K mainGlobals "RELATIONS" = some (some (.ref a_RELATIONS))) (l_RELATIONS : StrsT K a_RELATIONS ["before", "beside", "after"])
    (z_isinstance : PySem.W.nsIn K mainGlobals "isinstance" = some none)
    (z_int : PySem.W.nsIn K mainGlobals "int" = some none)
    (z_bool : PySem.W.nsIn K mainGlobals "bool" = some none)
    (z_tuple : PySem.W.nsIn K mainGlobals "tuple" = some none)
    (z_list : PySem.W.nsIn K mainGlobals "list" = some none)
    (z_str : PySem.W.nsIn K mainGlobals "str" = some none)
    (z_len : PySem.W.nsIn K mainGlobals "len" = some none)
    (z_sorted : PySem.W.nsIn K mainGlobals "sorted" = some none)
    (z_range : PySem.W.nsIn K mainGlobals "range" = some none)
    (z_all : PySem.W.nsIn K mainGlobals "all" = some none)
    (z_any : PySem.W.nsIn K mainGlobals "any" = some none)
    (z_abs : PySem.W.nsIn K mainGlobals "abs" = some none)
    (z_min : PySem.W.nsIn K mainGlobals "min" = some none)
    (z_max : PySem.W.nsIn K mainGlobals "max" = some none)
    (z_sum : PySem.W.nsIn K mainGlobals "sum" = some none)
    (z_enumerate : PySem.W.nsIn K mainGlobals "enumerate" = some none)
    (z_zip : PySem.W.nsIn K mainGlobals "zip" = some none)
    (z_set : PySem.W.nsIn K mainGlobals "set" = some none)
    (z_divmod : PySem.W.nsIn K mainGlobals "divmod" = some none)
    : LamX.LawAtS l w K CX0 46 63 "script" mg fa h := by
  have eq := hfa.symm.trans (S_law.mg X G)
  cases eq
  obtain ⟨d_is_integer, F_is_integer, B_is_integer, FT_is_integer⟩ := S_is_integer.out (ps := ["value"]) fun _ _ _ _ _ _ us hl => match us, hl with | [_], _ => rfl
  obtain ⟨d_is_size, F_is_size, B_is_size, FT_is_size⟩ := S_is_size.out (ps := ["value"]) fun _ _ _ _ _ _ us hl => match us, hl with | [_], _ => rfl
  obtain ⟨d_is_index, F_is_index, B_is_index, FT_is_index⟩ := S_is_index.out (ps := ["value", "many"]) fun _ _ _ _ _ _ us hl => match us, hl with | [_, _], _ => rfl
  obtain ⟨d_is_problem, F_is_problem, B_is_problem, FT_is_problem⟩ := S_is_problem.out (ps := ["value"]) fun _ _ _ _ _ _ us hl => match us, hl with | [_], _ => rfl
  obtain ⟨d_is_rule, F_is_rule, B_is_rule, FT_is_rule⟩ := S_is_rule.out (ps := ["value", "size"]) fun _ _ _ _ _ _ us hl => match us, hl with | [_, _], _ => rfl
  obtain ⟨d_common, F_common, B_common, FT_common⟩ := S_common.out (ps := ["words", "others"]) fun _ _ _ _ _ _ us hl => match us, hl with | [_, _], _ => rfl
  obtain ⟨d__law_stream, F__law_stream, B__law_stream, FT__law_stream⟩ := S__law_stream.out (ps := ["script"]) fun _ _ _ _ _ _ us hl => match us, hl with | [_], _ => rfl
  obtain ⟨d__law_next, F__law_next, B__law_next, FT__law_next⟩ := S__law_next.out (ps := ["stream", "many"]) fun _ _ _ _ _ _ us hl => match us, hl with | [_, _], _ => rfl
  obtain ⟨d__law_tasks, F__law_tasks, B__law_tasks, FT__law_tasks⟩ := S__law_tasks.out (ps := ["plan"]) fun _ _ _ _ _ _ us hl => match us, hl with | [_], _ => rfl
  obtain ⟨d__law_relation, F__law_relation, B__law_relation, FT__law_relation⟩ := S__law_relation.out (ps := ["plan", "first", "second"]) fun _ _ _ _ _ _ us hl => match us, hl with | [_, _, _], _ => rfl
  obtain ⟨d__law_drawn_plan, F__law_drawn_plan, B__law_drawn_plan, FT__law_drawn_plan⟩ := S__law_drawn_plan.out (ps := ["stream", "tasks", "word"]) fun _ _ _ _ _ _ us hl => match us, hl with | [_, _, _], _ => rfl
  obtain ⟨d__law_some_plan, F__law_some_plan, B__law_some_plan, FT__law_some_plan⟩ := S__law_some_plan.out (ps := ["stream", "size"]) fun _ _ _ _ _ _ us hl => match us, hl with | [_, _], _ => rfl
  obtain ⟨d__law_relations, F__law_relations, B__law_relations, FT__law_relations⟩ := S__law_relations.out (ps := []) fun _ _ _ _ _ _ us hl => match us, hl with | [], _ => rfl
  obtain ⟨d__law_rule, F__law_rule, B__law_rule, FT__law_rule⟩ := S__law_rule.out (ps := ["stream", "size", "plan"]) fun _ _ _ _ _ _ us hl => match us, hl with | [_, _, _], _ => rfl
  obtain ⟨d__law_problem, F__law_problem, B__law_problem, FT__law_problem⟩ := S__law_problem.out (ps := ["stream", "least", "most", "many"]) fun _ _ _ _ _ _ us hl => match us, hl with | [_, _, _, _], _ => rfl
  obtain ⟨d__law_wrong_rules, F__law_wrong_rules, B__law_wrong_rules, FT__law_wrong_rules⟩ := S__law_wrong_rules.out (ps := ["stream", "size", "rule"]) fun _ _ _ _ _ _ us hl => match us, hl with | [_, _, _], _ => rfl
  have no : ∀ {x : Str}, PySem.W.nsIn K mainGlobals x = some none → mg x = none := fun e => PySem.W.mg_none_of X G e
  have NB : Bl mg := ⟨no z_isinstance, no z_int, no z_bool, no z_tuple, no z_list, no z_str, no z_len, no z_sorted, no z_range, no z_all, no z_any, no z_abs, no z_min, no z_max, no z_sum, no z_enumerate, no z_zip, no z_set, no z_divmod⟩
  obtain ⟨hP_is_problem, hC_is_problem⟩ := (T "is_problem" (by simp)).at_ X G S_is_problem hc_is_problem
  have each : ∀ (Pp : Addr × Addr → Prop), Pp (c_is_problem, p1) → ∀ p ∈ ([(c_is_problem, p1)] : List (Addr × Addr)), Pp p := fun Pp q0 p hp => by
    simp only [List.mem_cons, List.not_mem_nil, or_false] at hp
    subst hp; exact q0
  refine law_at S_law [(c_is_problem, p1)] (each _ ⟨hP_is_problem, hC_is_problem⟩) (each _ hp_is_problem) (fun _ _ _ _ _ _ _ _ => rfl) fun base fd F_law hTB => ?_
  have TB_is_problem := hTB (c_is_problem, p1) (by simp)
  have C_MOST_RULES : CstV false K mg "MOST_RULES" (.int 20) := cst_int ⟨_, PySem.W.mg_of X G n_MOST_RULES⟩
  have C_MOST_TASKS : CstV false K mg "MOST_TASKS" (.int 7) := cst_int ⟨_, PySem.W.mg_of X G n_MOST_TASKS⟩
  have C_RELATIONS : CstV false K mg "RELATIONS" (.tuple [(.str "before"), (.str "beside"), (.str "after")]) := l_RELATIONS.cst X G n_RELATIONS
  have G__law_stream := ok_stream (P := l.prog) (w := w) (base := base) (T := [p1]) F__law_stream NB
  have G__law_next := ok_next (P := l.prog) (w := w) (base := base) (T := [p1]) F__law_next NB B__law_next S__law_next.kp (S__law_next.mg X G)
  have G_is_integer := fv_is_integer (P := l.prog) (w := w) (base := base) (T := [p1]) NB F_is_integer B_is_integer S_is_integer.kp (S_is_integer.mg X G)
  have G_is_size := fv_is_size (P := l.prog) (w := w) (base := base) (T := [p1]) NB C_MOST_TASKS G_is_integer F_is_size B_is_size S_is_size.kp (S_is_size.mg X G)
  have G_is_index := fv_is_index (P := l.prog) (w := w) (base := base) (T := [p1]) NB G_is_integer F_is_index B_is_index S_is_index.kp (S_is_index.mg X G)
  have G_common := fv_common (P := l.prog) (w := w) (base := base) (T := [p1]) NB F_common B_common S_common.kp (S_common.mg X G)
  have G_is_rule := fv_is_rule (P := l.prog) (w := w) (base := base) (T := [p1]) NB C_RELATIONS G_is_index G_common F_is_rule B_is_rule S_is_rule.kp (S_is_rule.mg X G)
  have G_is_problem := fv_is_problem (P := l.prog) (w := w) (base := base) (T := [p1]) TB_is_problem (by simp) NB C_MOST_RULES G_is_size G_is_rule (FT_is_problem _ rfl) B_is_problem S_is_problem.kp (S_is_problem.mg X G)
  have R__law_tasks := fr__law_tasks (P := l.prog) (w := w) (base := base) (T := [p1]) NB F__law_tasks B__law_tasks S__law_tasks.kp (S__law_tasks.mg X G) 20
  have G__law_tasks : Callee l.prog w K mg base 22 "_law_tasks" ["plan"] (spV K mg [p1] false 1 m__law_tasks) := R__law_tasks
  have R__law_relation := fr__law_relation (P := l.prog) (w := w) (base := base) (T := [p1]) NB G__law_tasks F__law_relation B__law_relation S__law_relation.kp (S__law_relation.mg X G) 20
  have G__law_relation : Callee l.prog w K mg base 43 "_law_relation" ["plan", "first", "second"] (spV K mg [p1] false 3 m__law_relation) := R__law_relation
  have R__law_drawn_plan := fr__law_drawn_plan (P := l.prog) (w := w) (base := base) (T := [p1]) NB G__law_next F__law_drawn_plan B__law_drawn_plan S__law_drawn_plan.kp (S__law_drawn_plan.mg X G) 20
  have G__law_drawn_plan : Callee l.prog w K mg base 22 "_law_drawn_plan" ["stream", "tasks", "word"] (spS K mg [p1] false 3 m__law_drawn_plan) := R__law_drawn_plan
  have G__law_some_plan := fv__law_some_plan (P := l.prog) (w := w) (base := base) (T := [p1]) NB G__law_next G__law_drawn_plan F__law_some_plan B__law_some_plan S__law_some_plan.kp (S__law_some_plan.mg X G)
  have G__law_relations := fv__law_relations (P := l.prog) (w := w) (base := base) (T := [p1]) NB F__law_relations B__law_relations S__law_relations.kp (S__law_relations.mg X G)
  have G__law_rule := fv__law_rule (P := l.prog) (w := w) (base := base) (T := [p1]) NB G__law_next G__law_relation G__law_relations F__law_rule B__law_rule S__law_rule.kp (S__law_rule.mg X G)
  have G__law_problem := fv__law_problem (P := l.prog) (w := w) (base := base) (T := [p1]) NB G__law_next G__law_some_plan G__law_rule F__law_problem B__law_problem S__law_problem.kp (S__law_problem.mg X G)
  have G__law_wrong_rules := fv__law_wrong_rules (P := l.prog) (w := w) (base := base) (T := [p1]) NB G__law_next F__law_wrong_rules B__law_wrong_rules S__law_wrong_rules.kp (S__law_wrong_rules.mg X G)
  exact fv_law (P := l.prog) (w := w) (base := base) (T := [p1]) NB G_is_problem G__law_next G__law_rule G__law_problem G__law_wrong_rules F_law G__law_stream B__law_stream S__law_stream.kp (S__law_stream.mg X G) hrun
end K17

set_option Elab.async false
set_option linter.all false
open PySem PySem.W PyProof.Rows
set_option maxRecDepth 100000 in
set_option maxHeartbeats 0 in
theorem PySem.Challenge.cw_thenbeside_k17_forms_of_problems_holds : PySem.Challenge.rw_thenbeside_k17_forms_of_problems.Holds := by
  w_on; o_law; k_head; (case hw => w_witness2)
  k_fill
  refine VZ.walk_tabs (l := PySem.Challenge.rw_thenbeside_k17_forms_of_problems) (k := 46) ["is_problem"] ⟨rfl, by decide, by decide⟩ rfl rfl (by rfl) (fun w h Y => PySem.W.kIn_of Y) ?F
  case F =>
    intro w mg fa h KX G hmg T
    refine' K17.all_mk KX G hmg T ?S_is_integer ?S_is_size ?S_is_index ?S_is_problem ?S_is_rule ?S_common ?S__law_stream ?S__law_next ?S__law_tasks ?S__law_relation ?S__law_drawn_plan ?S__law_some_plan ?S__law_relations ?S__law_rule ?S__law_problem ?S__law_wrong_rules ?S_law ?hc_is_problem ?hp_is_problem ?n_MOST_RULES ?n_MOST_TASKS ?n_RELATIONS ?l_RELATIONS ?z_isinstance ?z_int ?z_bool ?z_tuple ?z_list ?z_str ?z_len ?z_sorted ?z_range ?z_all ?z_any ?z_abs ?z_min ?z_max ?z_sum ?z_enumerate ?z_zip ?z_set ?z_divmod
    (case S_is_integer => (refine' VZ.stands_mk ?a ?l ?c ?k; (case a => k_is); (case l => k_is); (case c => k_is); (case k => k_is)))
    (case S_is_size => (refine' VZ.stands_mk ?a ?l ?c ?k; (case a => k_is); (case l => k_is); (case c => k_is); (case k => k_is)))
    (case S_is_index => (refine' VZ.stands_mk ?a ?l ?c ?k; (case a => k_is); (case l => k_is); (case c => k_is); (case k => k_is)))
    (case S_is_problem => (refine' VZ.stands_mk ?a ?l ?c ?k; (case a => k_is); (case l => k_is); (case c => k_is); (case k => k_is)))
    (case S_is_rule => (refine' VZ.stands_mk ?a ?l ?c ?k; (case a => k_is); (case l => k_is); (case c => k_is); (case k => k_is)))
    (case S_common => (refine' VZ.stands_mk ?a ?l ?c ?k; (case a => k_is); (case l => k_is); (case c => k_is); (case k => k_is)))
    (case S__law_stream => (refine' VZ.stands_mk ?a ?l ?c ?k; (case a => k_is); (case l => k_is); (case c => k_is); (case k => k_is)))
    (case S__law_next => (refine' VZ.stands_mk ?a ?l ?c ?k; (case a => k_is); (case l => k_is); (case c => k_is); (case k => k_is)))
    (case S__law_tasks => (refine' VZ.stands_mk ?a ?l ?c ?k; (case a => k_is); (case l => k_is); (case c => k_is); (case k => k_is)))
    (case S__law_relation => (refine' VZ.stands_mk ?a ?l ?c ?k; (case a => k_is); (case l => k_is); (case c => k_is); (case k => k_is)))
    (case S__law_drawn_plan => (refine' VZ.stands_mk ?a ?l ?c ?k; (case a => k_is); (case l => k_is); (case c => k_is); (case k => k_is)))
    (case S__law_some_plan => (refine' VZ.stands_mk ?a ?l ?c ?k; (case a => k_is); (case l => k_is); (case c => k_is); (case k => k_is)))
    (case S__law_relations => (refine' VZ.stands_mk ?a ?l ?c ?k; (case a => k_is); (case l => k_is); (case c => k_is); (case k => k_is)))
    (case S__law_rule => (refine' VZ.stands_mk ?a ?l ?c ?k; (case a => k_is); (case l => k_is); (case c => k_is); (case k => k_is)))
    (case S__law_problem => (refine' VZ.stands_mk ?a ?l ?c ?k; (case a => k_is); (case l => k_is); (case c => k_is); (case k => k_is)))
    (case S__law_wrong_rules => (refine' VZ.stands_mk ?a ?l ?c ?k; (case a => k_is); (case l => k_is); (case c => k_is); (case k => k_is)))
    (case S_law => (refine' VZ.stands_mk ?a ?l ?c ?k; (case a => k_is); (case l => k_is); (case c => k_is); (case k => k_is)))
    (case hc_is_problem => (refine' VZ.code_mk ?lc1 ?pc1; (case lc1 => k_is); (case pc1 => rfl)))
    (case hp_is_problem => kernel_rfl)
    (case n_MOST_RULES => k_is)
    (case n_MOST_TASKS => k_is)
    (case n_RELATIONS => k_is)
    (case l_RELATIONS => (refine' VZ.strs_mk3 ?lw1 ?pw1 ?qw1; (case lw1 => k_is); (case pw1 => rfl); (case qw1 => rfl)))
    (case z_isinstance => k_is)
    (case z_int => k_is)
    (case z_bool => k_is)
    (case z_tuple => k_is)
    (case z_list => k_is)
    (case z_str => k_is)
    (case z_len => k_is)
    (case z_sorted => k_is)
    (case z_range => k_is)
    (case z_all => k_is)
    (case z_any => k_is)
    (case z_abs => k_is)
    (case z_min => k_is)
    (case z_max => k_is)
    (case z_sum => k_is)
    (case z_enumerate => k_is)
    (case z_zip => k_is)
    (case z_set => k_is)
    (case z_divmod => k_is)
