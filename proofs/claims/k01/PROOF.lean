import PyProof.Rows.All
import Wide.All
import OpenK.AllK
import Wide.FinOn
import HandS.ForMost
import HandS.IsInst
import HandS.EndTab
import HandS.Wide
import HandS.TupAny
import HandS.Conv
import HandS.Deep
import HandS.Style
import HandS.SortInts
import HandS.RaiseMore
import HandS.GenList
import HandS.AnyAll
import KE.KRevSl
import HandS.Codes
import PySem.Challenge.RW_thenbeside_k01_forms_of_plans
set_option Elab.async false
set_option linter.all false
set_option maxRecDepth 100000
set_option maxHeartbeats 4000000
/-! any, all of a generator expression over anything that PI serves, its element any expression that raises nothing. -/
namespace GA
open PySem PySem.Spec PyProof.Rows L2 GenW GxR

/-- the context of a generator expression's frame -/
abbrev gcx (X : Cx) (A' : Around) (s : Shared) (H : Hp) (cenv : Env) (fp : List Addr) : Cx :=
  { X with A := A', s_0 := s, H_0 := H, env := cenv, outer := X.stack, stack := cenv :: X.stack, ex := fp, fn := fun _ => false, calm := true, pn := [], xe := fun _ _ => False }
/-- its scope: its own names with their places, captured ones -/
structure GOk (N : List Str) (sc scope : Scope) (own : List (Str × Nat)) : Prop where
  kind : scope.kind = .function
  co : scope.isCoroutine = false
  cell : ∀ y ∈ scope.names, y.2 ≠ .cell
  dot : scope.names.lookup (".0" : Str) = some NameKind.local
  uniq : ∀ y ∈ scope.names, scope.names.lookup y.1 = some y.2
  ix : ∀ p ∈ own, N[p.2]? = some p.1
  free : ∀ y ∈ scope.names, y.2 = .free → sc.names.lookup y.1 = some .cell ∨ sc.names.lookup y.1 = some .free
  own : ∀ y ∈ scope.names, y.2 = .local → y.1 ∈ own.map (·.1) ∨ y.1 ∉ N
def gokC (N : List Str) (sc scope : Scope) (own : List (Str × Nat)) : Bool :=
  (match scope.kind with | .function => true | _ => false) && !scope.isCoroutine && decide (scope.names.lookup (".0" : Str) = some NameKind.local) && (scope.names.all fun y => decide (scope.names.lookup y.1 = some y.2)) && (own.all fun p => decide (N[p.2]? = some p.1)) &&
    (scope.names.all fun y => match y.2 with
      | .free => (match sc.names.lookup y.1 with | some .cell => true | some .free => true | _ => false)
      | .local => decide (y.1 ∈ own.map (·.1)) || decide (y.1 ∉ N)
      | .cell => false
      | _ => true)
theorem gok_by {N : List Str} {sc scope : Scope} {own : List (Str × Nat)} (h : gokC N sc scope own = true) : GOk N sc scope own := by
  unfold gokC at h
  simp only [Bool.and_eq_true, List.all_eq_true, decide_eq_true_eq] at h
  obtain ⟨⟨⟨⟨⟨h1, h1b⟩, h1c⟩, h2⟩, h3⟩, h4⟩ := h
  refine ⟨?_, by simpa using h1b, fun y hy e => ?_, h1c, h2, h3, fun y hy e => ?_, fun y hy e => ?_⟩
  · split at h1
    · assumption
    · cases h1
  · have q := h4 y hy
    rw [e] at q
    cases q
  · have q := h4 y hy
    rw [e] at q
    simp only at q
    split at q
    · rename_i k; exact .inl k
    · rename_i k; exact .inr k
    · cases q
  · have q := h4 y hy
    rw [e] at q
    simp only [Bool.or_eq_true, decide_eq_true_eq] at q
    exact q

section
variable {X : Cx} {pins : List (Addr × Obj)} {σ : L2.St} {H : Hp} {s : Shared}
/-- other generators, other tokens: the same heap -/
theorem inv_gens {s' : Shared} (I : Inv X pins σ H s) (hh : s'.heap = s.heap) (ho : s'.os = s.os) (hb : AllBare s'.gens) : Inv X pins σ H s' := by
  obtain ⟨h', g', d', t', o'⟩ := s'
  simp only at hh ho
  subst hh ho
  exact ⟨I.ok, I.os, hb, I.base, I.loc, I.cell, I.free, I.freeC, I.pin, I.hok, I.len⟩
theorem cl_mem {scope : Scope} (I : Inv X pins σ H s) (hfree : ∀ y ∈ scope.names, y.2 = .free → ∃ c, X.env.cells.lookup y.1 = some c) {y : Str} {c : Addr} (h : (cloFrom X.env.cells scope.names []).lookup y = some c) : X.env.cells.lookup y = some c := by
  rcases cloFrom_mem (PySem.mem_of_lookup h) with hm | ⟨h1, rfl⟩
  · cases hm
  · obtain ⟨c, hc⟩ := hfree _ h1 rfl
    rw [hc]
    rfl
/-- the generator is made: its frame and its object are laid -/
theorem gen_start {A' : Around} {scope : Scope} {own : List (Str × Nat)} {fp : List Addr} {code : Value} {h5 : Heap} {m0 : Str → Option Value} {go : Obj} {G5 : Array GenState} {t5 : Nat}
    (I : Inv X pins σ H s) (ok : GOk X.N X.env.scope scope own) (hN : X.N.Nodup) (hfp : ∀ b ∈ fp, FpOk X pins H b ∧ b < s.heap.objs.size)
    (hA : A'.handled = none) (hfr : A'.frames = some (genEnv scope (cloFrom X.env.cells scope.names []) s.heap.objs.size code builtinsNs X.env :: X.stack))
    (hk : ∀ b o, s.heap.get? b = some o → h5.get? b = some o) (hn : h5.Ns s.heap.objs.size m0) (hgo : h5.get? (s.heap.objs.size + 1) = some go) (hgd : ∀ v, go.data ≠ .cell v) (hb : AllBare G5) :
    Inv (gcx X A' s H (genEnv scope (cloFrom X.env.cells scope.names []) s.heap.objs.size code builtinsNs X.env) fp) [(s.heap.objs.size + 1, go)] (wipe σ (own.map (·.2))) H { s with heap := h5, gens := G5, toks := t5 } := by
  have hfree : ∀ y ∈ scope.names, y.2 = .free → ∃ c, X.env.cells.lookup y.1 = some c := fun y hy e => by
    rcases ok.free y hy e with k | k
    · exact I.ok.has _ (.inl k)
    · exact I.ok.has _ (.inr k)
  have cm : ∀ {y c}, (cloFrom X.env.cells scope.names []).lookup y = some c → X.env.cells.lookup y = some c := fun {y c} h => cl_mem I hfree h
  have clt : ∀ {y c}, X.env.cells.lookup y = some c → c < s.heap.objs.size := fun {y c} h => by
    obtain ⟨v, z⟩ := I.cell y c h
    exact z.lt
  have look : ∀ {y}, scope.names.lookup y = some .free → ∃ c, (cloFrom X.env.cells scope.names []).lookup y = some c ∧ X.env.cells.lookup y = some c := fun {y} hl => by
    have hy : (y, NameKind.free) ∈ scope.names := PySem.mem_of_lookup hl
    obtain ⟨c', e'⟩ := mem_lookup (cloFrom_has (cells := X.env.cells) (acc := []) hy)
    exact ⟨c', e', cm e'⟩
  have stk_lt : ∀ b ∈ frs X.stack, b < s.heap.objs.size := fun b hb => by
    obtain ⟨_, o, ho, _⟩ := I.stack.mem hb
    exact Heap.lt_size ho
  have okG : (gcx X A' s H (genEnv scope (cloFrom X.env.cells scope.names []) s.heap.objs.size code builtinsNs X.env) fp).Ok := by
    refine ⟨I.ok.mod, ok.kind, I.ok.glob, rfl, Nat.le_refl _, fun y z c e1 e2 => I.ok.inj y z c (cm e1) (cm e2), fun y hy => ?_, fun y c z e => (Bool.noConfusion z), fun _ => hA, hfr, .inr ⟨rfl, rfl⟩,
      fun b hb => ⟨Nat.ne_of_lt (hfp b hb).2, fun y c e z => (hfp b hb).1.2.2.2.2.1 y c (cm e) z⟩, I.bs, Nat.le_trans I.ok.bsz I.sz, fun b o e hb => ?_, fun b hb z => ?_, I.stack, I.stkFree⟩
    · rcases hy with hy | hy
      · exact absurd rfl (ok.cell _ (PySem.mem_of_lookup (show scope.names.lookup y = some .cell from hy)))
      · obtain ⟨c, h1, _⟩ := look (show scope.names.lookup y = some .free from hy)
        exact ⟨c, h1⟩
    · rcases (hfp b hb).1.2.2.2.1 with z | z
      · exact I.ok.noex b o e z
      · exact absurd (Nat.lt_of_lt_of_le (Heap.lt_size e) (Nat.le_trans I.ok.bsz z)) (Nat.lt_irrefl _)
    · rcases List.mem_cons.mp (I.stkSub b z) with z | z
      · exact (hfp b hb).1.2.1 z
      · exact (hfp b hb).1.2.2.1 z
  refine ⟨okG, rfl, hb, Un.kept hk, ⟨m0, hn, fun i y av e1 e2 e3 => ?_⟩, fun y c e => ?_, I.hok.fresh (Nat.le_refl _), fun y c e => I.freeC y c (cm e), fun p hp => ?_, I.hok.kept hk, by rw [wipe_length]; exact I.len⟩
  · obtain ⟨e2, hne⟩ := wipe_some e2
    have hfr : scope.names.lookup y = some .free := by
      rcases e3 with e | e | e
      · have e : scope.names.lookup y = some .local := e
        rcases ok.own _ (PySem.mem_of_lookup e) rfl with e' | e'
        · obtain ⟨p, hp, hpy⟩ := List.mem_map.mp e'
          have e3 := ok.ix p hp
          have : p.1 = y := hpy
          rw [this] at e3
          exact absurd (List.mem_map.mpr ⟨p, hp, nodup_ix hN e3 e1⟩) hne
        · exact absurd (List.mem_of_getElem? e1) e'
      · exact absurd rfl (ok.cell _ (PySem.mem_of_lookup (show scope.names.lookup y = some .cell from e)))
      · exact e
    obtain ⟨m, hn', hl⟩ := I.loc
    have hvis : Vis X.env.scope y := (ok.free _ (PySem.mem_of_lookup hfr) rfl).elim (fun k => .inr (.inl k)) (fun k => .inr (.inr k))
    obtain ⟨w, r, q⟩ := hl i y av e1 e2 hvis
    obtain ⟨c, h1, h2⟩ := look hfr
    refine ⟨w, r, .inr ⟨.inr hfr, c, h1, ?_⟩⟩
    rcases q with ⟨k, _⟩ | ⟨_, c', e', z⟩
    · have k : X.env.scope.names.lookup y = some .local := k
      rcases ok.free _ (PySem.mem_of_lookup hfr) rfl with k' | k' <;> rw [show X.env.scope.names.lookup y = _ from k'] at k <;> cases k
    · rw [h2] at e'; cases e'
      exact z.keeps hk
  · obtain ⟨v, z⟩ := I.cell y c (cm e)
    exact ⟨v, z.keeps hk⟩
  · have hp' : p = (s.heap.objs.size + 1, go) := by simpa using hp
    subst hp'
    refine ⟨hgo, I.hok.fresh (Nat.le_succ _), Nat.succ_ne_self _, fun z => ?_, hgd⟩
    exact absurd (stk_lt _ z) (Nat.not_lt.mpr (Nat.le_succ _))
end

/-! ### the generator's turns -/
/-- awake again: nothing of the heap has changed -/
def Woke (s s' : Shared) : Prop := s'.heap = s.heap ∧ s'.os = s.os ∧ AllBare s'.gens
def YA (X' : Cx) (pn : List (Addr × Obj)) (σw : L2.St) (stop : Bool) (Qf : Hp → Prop) : Protocol := fun _ _ v s kap =>
  ∃ (b : Bool) (H : Hp), v = .bool b ∧ Inv X' pn σw H s ∧ ((b = stop ∧ Qf H) ∨ (b = !stop ∧ ∀ s'', Woke s s'' → kap (.send .none) s''))
def PA' (X' : Cx) (pn : List (Addr × Obj)) (σw : L2.St) (Qe : Hp → Prop) : Nat → Shared → Shared → Prop := fun _ _ s => ∃ H, Inv X' pn σw H s ∧ Qe H

/-- what a turn asks -/
def TurnG (J : It) (g : TG) (te : TE) (σw : L2.St) (vs : List Nat) (stop : Bool) (Qf Qe : Hp → Prop) (W : Nat → Nat → Hp → Prop) : Prop := ∀ i m H, W i m H →
  (J.stop i H ∧ Qe H) ∨ (J.go i H ∧ ∃ Nx : Hp → Prop, (∀ H', Nx H' → ∃ m', m' < m ∧ W (i + 1) m' H') ∧ ∀ x H', J.yld i H x H' → g x σw H' fun σ2 H2 => wipe σ2 vs = σw ∧ te σ2 H2 fun y H3 => ∃ b, y = .bl b ∧ (b = stop → Qf H3) ∧ (b = !stop → Nx H3))

section
variable {X' : Cx} {A : Around} {elt tg iter : Expr} {scope : Scope} {pos : Pos} {it : Addr} {fp : List Addr} {tn : Nat → Heap → Prop} {J : It} {g : TG} {te : TE} {σw : L2.St} {vs : List Nat} {stop : Bool} {Qf Qe : Hp → Prop} {W : Nat → Nat → Hp → Prop} {pn : List (Addr × Obj)}
theorem seg_turns (hA : A.over (.compLoop (.GeneratorExp elt [⟨tg, iter, [], 0⟩] scope pos) 0 (.ref it) .none X'.env) [] = X'.A) (hex : X'.ex = fp) (hpn0 : X'.pn = []) (hxe : X'.xe = fun _ _ => False) (hcalm : X'.calm = true)
    (hco : X'.env.scope.isCoroutine = false) (T : Turn X'.prog X'.w X'.K tg J fp it tn) (hpf : ∀ p ∈ pn, p.1 ∉ fp) (pg : PG X' tg g) (pe : PE X' elt te) (turn : TurnG J g te σw vs stop Qf Qe W) :
    ∀ (n : Nat) (s₀ s : Shared) (i m : Nat) (H : Hp), m < n → Inv X' pn σw H s → tn i s.heap → (∀ b ∈ fp, H b = none) → W i m H →
      Seg (model X'.prog X'.w) A (fun n s₀ r s₁ => r = .ok .next ∧ PA' X' pn σw Qe n s₀ s₁) (YA X' pn σw stop Qf) n s₀
        (.compLoop (.GeneratorExp elt [⟨tg, iter, [], 0⟩] scope pos) 0 (.ref it) .none X'.env)
        ((model X'.prog X'.w).den (.compLoop (.GeneratorExp elt [⟨tg, iter, [], 0⟩] scope pos) 0 (.ref it) .none X'.env)) [] s := by
  have stat : ∀ {σ' : L2.St} {H' : Hp} {s' : Shared}, Inv X' pn σ' H' s' → (∀ b ∈ fp, H' b = none) → ∀ b ∈ fp, FpOk X' pn H' b := fun {σ' H' s'} I' hn b hb =>
    ⟨hn b hb, (I'.ok.exf b (by rw [hex]; exact hb)).1, I'.ok.exfs b (by rw [hex]; exact hb), .inl (by rw [hex]; exact hb), fun x c e => (I'.ok.exf b (by rw [hex]; exact hb)).2 x c e, fun p hp => by
      rw [hpn0] at hp
      intro z
      exact hpf p (by simpa using hp) (by rw [z]; exact hb)⟩
  intro n
  induction n with
  | zero => intro s₀ s i m H hm; exact absurd hm (Nat.not_lt_zero _)
  | succ n ih =>
    intro s₀ s i m H hm I st nn w
    show Seg _ A _ _ _ s₀ _ ((compTurn (.GeneratorExp elt [⟨tg, iter, [], 0⟩] scope pos) 0 (.ref it) .none X'.env).onRaise (leaving X'.env)) [] s
    rw [compTurn_gen, Sem.onRaise_eq_wrap]
    refine seg_bind_wrap (wpAny_standAt ?_)
    rcases turn i m H w with ⟨hstop, qe⟩ | ⟨hgo, Nx, hNx, step⟩
    · refine seg_bind_wrap ?_
      rw [hA]
      refine thnF (T.done X' rfl rfl rfl hcalm i pn s σw H (fun _ _ => False) I (stat I nn) st hstop) fun r s1 ⟨hr, I1⟩ => ?_
      subst hr
      exact seg_end (.ok .next) ⟨rfl, H, I1, qe⟩
    · refine seg_bind_wrap ?_
      rw [hA]
      refine thnF (T.item X' rfl rfl rfl hcalm i pn s σw H (fun _ _ => False) I (stat I nn) st hgo) fun r s1 ⟨u, hr, h1⟩ => ?_
      subst hr
      refine seg_bind_wrap ?_
      rw [hA]
      refine thnF h1 fun _ s2 ⟨x, H2, I2, r2, y2, st2, n2⟩ => ?_
      have I2' := I2.pinned (stat I2 n2) (T.obj _ _ st2)
      refine seg_bind_wrap ?_
      rw [hA]
      have pgr := pg.run _ s2 _ H2 x u _ I2' r2 (step x H2 y2)
      rw [hxe] at pgr
      refine thnF pgr fun _ s3 ⟨σ3, H3, I3, hw3, q3⟩ => ?_
      simp only [List.forIn_nil]
      refine seg_bind_wrap (wpAny_pure ?_)
      simp only [if_true]
      have hy : ∀ v, yieldOut X'.env v = yieldValue v := fun v => by simp only [yieldOut, hco, Bool.false_eq_true, if_false]
      simp only [hy]
      rw [Sem.bind_eq_wrap', Sem.bind_eq_wrap', Sem.wrap_wrap, Sem.wrap_wrap]
      refine seg_wrap ?_
      rw [hA]
      have per := pe.run _ s3 σ3 H3 _ I3 q3
      rw [hxe] at per
      refine thnF per fun yv s4 ⟨yV, H4, I4, r4, b, hyb, q4⟩ => ?_
      subst hyb
      have r4' : yv = Value.bool b := r4
      subst r4'
      have pin' : ∀ b ∈ fp, ∀ o, s2.heap.get? b = some o → s4.heap.get? b = some o ∧ H4 b = none := fun b hb o e =>
        let z := I4.pin (b, o) (List.mem_append_right _ (List.mem_append_right _ (mem_pinsAt hb e)))
        ⟨z.1, z.2.1⟩
      have hl : σw.length = σ3.length := by rw [← hw3, wipe_length]
      have I5 : Inv X' pn σw H4 s4 := (I4.unpinned (pins := pn)).weak hl fun j v e => by
        rw [← hw3] at e
        exact (wipe_some e).1
      have st5 : tn (i + 1) s4.heap := T.keep _ _ _ st2 fun b hb o e => (pin' b hb o e).1
      have n5 : ∀ b ∈ fp, H4 b = none := fun b hb => by
        obtain ⟨o, e, _⟩ := T.obj _ _ st2 b hb
        exact (pin' b hb o e).2
      refine seg_at (seg_yield rfl rfl rfl ⟨b, H4, rfl, I5, ?_⟩)
      by_cases hb : b = stop
      · exact .inl ⟨hb, q4.1 hb⟩
      · have hb' : b = !stop := by
          cases b <;> cases stop <;> first | rfl | exact absurd rfl hb
        obtain ⟨m', hm', w'⟩ := hNx _ (q4.2 hb')
        refine .inr ⟨hb', fun s'' ⟨z1, z2, z3⟩ => ?_⟩
        refine seg_again rfl (ih s'' s'' (i + 1) m' H4 (by omega) (inv_gens I5 z1 z2 z3) (by rw [z1]; exact st5) n5 w')
theorem seg_first (hA : A.over (.compLoop (.GeneratorExp elt [⟨tg, iter, [], 0⟩] scope pos) 0 (.ref it) .none X'.env) [] = X'.A) (hex : X'.ex = fp) (hpn0 : X'.pn = []) (hxe : X'.xe = fun _ _ => False) (hcalm : X'.calm = true)
    (hco : X'.env.scope.isCoroutine = false) (T : Turn X'.prog X'.w X'.K tg J fp it tn) (hpf : ∀ p ∈ pn, p.1 ∉ fp) (pg : PG X' tg g) (pe : PE X' elt te) (turn : TurnG J g te σw vs stop Qf Qe W)
    (n : Nat) (s₀ s : Shared) (m : Nat) (H : Hp) (hm : m < n) (I : Inv X' pn σw H s) (st : tn 0 s.heap) (nn : ∀ b ∈ fp, H b = none) (w : W 0 m H) :
      Seg (model X'.prog X'.w) A (fun n s₀ r s₁ => r = .ok .next ∧ PA' X' pn σw Qe n s₀ s₁) (YA X' pn σw stop Qf) n s₀
        (.compStart (.GeneratorExp elt [⟨tg, iter, [], 0⟩] scope pos) 0 (.ref it) .none X'.env)
        ((model X'.prog X'.w).den (.compStart (.GeneratorExp elt [⟨tg, iter, [], 0⟩] scope pos) 0 (.ref it) .none X'.env)) [] s := by
  have loop := seg_turns hA hex hpn0 hxe hcalm hco T hpf pg pe turn n s₀ s 0 m H hm I st nn w
  show Seg _ A _ _ _ s₀ _ ((compStart (.GeneratorExp elt [⟨tg, iter, [], 0⟩] scope pos) 0 (.ref it) .none X'.env).onRaise (leaving X'.env)) [] s
  unfold compStart
  rw [Sem.onRaise_eq_wrap]
  show Seg _ A _ _ _ s₀ _ ((ask >>= _).wrap _ _ _ _) [] s
  refine seg_bind_wrap (wpAny_askSetting ?_)
  split
  · exact seg_again rfl loop
  · first
      | exact seg_bind_wrap (wpAny_rule (seg_bind_wrap (wpAny_standAt (seg_bind_wrap (T.self _ 0 s _ _ st (seg_again rfl loop))))))
      | (refine seg_bind_wrap (wpAny_rule ?_); show Seg _ A _ _ _ s₀ _ ((standAt iter.pos >>= _).wrap _ _ _ _) [] s; exact seg_bind_wrap (wpAny_standAt (seg_bind_wrap (T.self _ 0 s _ _ st (seg_again rfl loop)))))
end
end GA

set_option Elab.async false
set_option linter.all false
set_option maxRecDepth 100000
set_option maxHeartbeats 4000000
namespace GA
open PySem PySem.Spec PyProof.Rows L2 GenW GxR

theorem room_gen {k : Nat} {A : Around} {e : Expr} {gs : List Comprehension} {sc : Scope} {p : Pos} {it acc : Value} {env : Env} (r : Room (k + 1) A) :
    Room k (A.in1.in1.over (.compLoop (.GeneratorExp e gs sc p) 0 it acc env) []) := by
  have h1 := r.dp
  have h2 := r.un
  have e1 : (A.in1.in1.over (.compLoop (.GeneratorExp e gs sc p) 0 it acc env) []).depth = A.depth + 1 := rfl
  have e2 : (A.in1.in1.over (.compLoop (.GeneratorExp e gs sc p) 0 it acc env) []).units = A.units + 5 := rfl
  exact ⟨r.hd, by rw [e1]; omega, by rw [e2]; omega⟩
theorem frames_gen {A : Around} {l : List Env} {e : Expr} {gs : List Comprehension} {sc : Scope} {p : Pos} {it acc : Value} {env : Env} (h : A.frames = some l) :
    (A.in1.in1.over (.compLoop (.GeneratorExp e gs sc p) 0 it acc env) []).frames = some (env :: l) := by
  have e1 : (A.in1.in1.over (.compLoop (.GeneratorExp e gs sc p) 0 it acc env) []).frames = A.frames.map ([env] ++ ·) := rfl
  rw [e1, h]
  rfl

section
variable {X' : Cx} {A : Around} {σw : L2.St} {Qf Qe : Hp → Prop} {pn : List (Addr × Obj)} {a : Addr} {g : Nat} {go : Obj} {R' : Result → Shared → Prop}
theorem all_loop (hh : A.handled = none) (hd : A.depth < recursionLimit) (hpn : (a, go) ∈ pn) (hgen : ∀ h : Heap, h.get? a = some go → h.IsGen a g)
    (hR : ∀ (b : Bool) (H : Hp) (s' : Shared), Inv X' pn σw H s' → (b = true → Qe H) → (b = false → Qf H) → R' (.ok (.ret (.bool b))) s') :
    ∀ (n : Nat) (s : Shared) (gs : GenState), s.heap.IsGen a g → s.heap.NoLimit → s.gens[g]? = some gs →
      gs.Goes (model X'.prog X'.w) A.in1.in1 (fun n s₀ r s₁ => r = .ok .next ∧ PA' X' pn σw Qe n s₀ s₁) (YA X' pn σw false Qf) n (.send .none) (s.setGen g .running) →
      codeAny (model X'.prog X'.w) A (.builtin "all.loop" ⟨[.ref a], []⟩) R' s := by
  intro n
  induction n using Nat.strongRecOn with
  | ind n ih =>
    intro s gs hg hl hgs hgo
    have hgl : g < s.gens.size := (Array.getElem?_eq_some_iff.mp hgs).1
    refine codeAny_builtin F.entry_all_loop ?_
    rw [Around.under_plainId F.plain_all_loop _]
    show wpAny _ A.in1 (pyNext (.ref a) >>= _) _ _ s
    refine wpAny_bind (wpAny_gsz (n := g + 1) hgl (wpAny_pyNext_genexpQ (A := A.in1) hh hl hd hg hgs hgo (fun v s₁ gs' hbare hv => ?_) (fun s₁ hp h' hk => ?_)))
    · intro hsz
      obtain ⟨b, H1, rfl, I1, q⟩ := hv
      have I2 : Inv X' pn σw H1 (s₁.setGen g gs') := inv_gens I1 rfl rfl (allBare_setGen I1.bare hbare)
      have hsz1 : g < s₁.gens.size := by
        have q : (s₁.setGen g gs').gens.size = s₁.gens.size := setGen_size _ _ _
        have hsz' : g + 1 ≤ (s₁.setGen g gs').gens.size := hsz
        omega
      have hg2 : (s₁.setGen g gs').heap.IsGen a g := hgen _ (I2.pin (a, go) (List.mem_append_right _ hpn)).1
      refine wpAny_bind (wpAny_holding (wpAny_truthy_bool ?_))
      refine wpAny_bind (wpAny_letGo ?_)
      cases b with
      | true =>
        simp only [if_true]
        rcases q with ⟨hb, _⟩ | ⟨_, hk⟩
        · cases hb
        cases n with
        | zero => exact False.elim (hk _ ⟨rfl, rfl, I1.bare⟩)
        | succ m =>
          refine wpAny_pure ⟨plainId_quiet F.plain_all_loop _, ih m (Nat.lt_succ_self m) _ gs' hg2 I2.nolimit (setGen_at hsz1) ?_⟩
          exact hk _ ⟨rfl, rfl, allBare_setGen (s := s₁.setGen g gs') I2.bare rfl⟩
      | false =>
        simp only [Bool.false_eq_true, if_false]
        rcases q with ⟨_, qf⟩ | ⟨hb, _⟩
        · exact wpAny_bind (wpAny_rule (wpAny_pure (hR false H1 _ I2 (fun z => by cases z) fun _ => qf)))
        · cases hb
    · intro _
      obtain ⟨H1, I1, qe⟩ := hp
      have I2 : Inv X' pn σw H1 { s₁.setGen g .finished with heap := h' } := inv_gens (s := { s₁ with heap := h' }) (I1.kept (t' := s₁.toks) hk) rfl rfl (allBare_setGen I1.bare rfl)
      exact wpAny_bind (wpAny_rule (wpAny_pure (hR true H1 _ I2 (fun _ => qe) fun z => by cases z)))
theorem any_loop (hh : A.handled = none) (hd : A.depth < recursionLimit) (hpn : (a, go) ∈ pn) (hgen : ∀ h : Heap, h.get? a = some go → h.IsGen a g)
    (hR : ∀ (b : Bool) (H : Hp) (s' : Shared), Inv X' pn σw H s' → (b = false → Qe H) → (b = true → Qf H) → R' (.ok (.ret (.bool b))) s') :
    ∀ (n : Nat) (s : Shared) (gs : GenState), s.heap.IsGen a g → s.heap.NoLimit → s.gens[g]? = some gs →
      gs.Goes (model X'.prog X'.w) A.in1.in1 (fun n s₀ r s₁ => r = .ok .next ∧ PA' X' pn σw Qe n s₀ s₁) (YA X' pn σw true Qf) n (.send .none) (s.setGen g .running) →
      codeAny (model X'.prog X'.w) A (.builtin "any.loop" ⟨[.ref a], []⟩) R' s := by
  intro n
  induction n using Nat.strongRecOn with
  | ind n ih =>
    intro s gs hg hl hgs hgo
    have hgl : g < s.gens.size := (Array.getElem?_eq_some_iff.mp hgs).1
    refine codeAny_builtin F.entry_any_loop ?_
    rw [Around.under_plainId F.plain_any_loop _]
    show wpAny _ A.in1 (pyNext (.ref a) >>= _) _ _ s
    refine wpAny_bind (wpAny_gsz (n := g + 1) hgl (wpAny_pyNext_genexpQ (A := A.in1) hh hl hd hg hgs hgo (fun v s₁ gs' hbare hv => ?_) (fun s₁ hp h' hk => ?_)))
    · intro hsz
      obtain ⟨b, H1, rfl, I1, q⟩ := hv
      have I2 : Inv X' pn σw H1 (s₁.setGen g gs') := inv_gens I1 rfl rfl (allBare_setGen I1.bare hbare)
      have hsz1 : g < s₁.gens.size := by
        have q : (s₁.setGen g gs').gens.size = s₁.gens.size := setGen_size _ _ _
        have hsz' : g + 1 ≤ (s₁.setGen g gs').gens.size := hsz
        omega
      have hg2 : (s₁.setGen g gs').heap.IsGen a g := hgen _ (I2.pin (a, go) (List.mem_append_right _ hpn)).1
      refine wpAny_bind (wpAny_holding (wpAny_truthy_bool ?_))
      refine wpAny_bind (wpAny_letGo ?_)
      cases b with
      | false =>
        simp only [Bool.false_eq_true, if_false]
        rcases q with ⟨hb, _⟩ | ⟨_, hk⟩
        · cases hb
        cases n with
        | zero => exact False.elim (hk _ ⟨rfl, rfl, I1.bare⟩)
        | succ m =>
          refine wpAny_pure ⟨plainId_quiet F.plain_any_loop _, ih m (Nat.lt_succ_self m) _ gs' hg2 I2.nolimit (setGen_at hsz1) ?_⟩
          exact hk _ ⟨rfl, rfl, allBare_setGen (s := s₁.setGen g gs') I2.bare rfl⟩
      | true =>
        simp only [if_true]
        rcases q with ⟨_, qf⟩ | ⟨hb, _⟩
        · exact wpAny_bind (wpAny_rule (wpAny_pure (hR true H1 _ I2 (fun z => by cases z) fun _ => qf)))
        · cases hb
    · intro _
      obtain ⟨H1, I1, qe⟩ := hp
      have I2 : Inv X' pn σw H1 { s₁.setGen g .finished with heap := h' } := inv_gens (s := { s₁ with heap := h' }) (I1.kept (t' := s₁.toks) hk) rfl rfl (allBare_setGen I1.bare rfl)
      exact wpAny_bind (wpAny_rule (wpAny_pure (hR false H1 _ I2 (fun _ => qe) fun z => by cases z)))
end

/-- the generator has been made; stop: what ends its consumer ahead of the end -/
def MadeG (X : Cx) (pins : List (Addr × Obj)) (σ : L2.St) (stop : Bool) (Qf Qe : Hp → Prop) (u : Value) (s5 : Shared) : Prop :=
  ∃ (a : Addr) (g n : Nat) (gs : GenState) (go : Obj) (X' : Cx) (pn : List (Addr × Obj)) (σw : L2.St), u = .ref a ∧ X'.prog = X.prog ∧ X'.w = X.w ∧ (a, go) ∈ pn ∧ (∀ h : Heap, h.get? a = some go → h.IsGen a g) ∧ s5.heap.IsGen a g ∧ s5.heap.NoLimit ∧ s5.gens[g]? = some gs ∧
    gs.Goes (model X.prog X.w) X.A.in1.in1 (fun n s₀ r s₁ => r = .ok .next ∧ PA' X' pn σw Qe n s₀ s₁) (YA X' pn σw stop Qf) n (.send .none) (s5.setGen g .running) ∧
    ∀ H' s', Inv X' pn σw H' s' → Inv X pins σ H' s'

section
variable {X : Cx} {pins : List (Addr × Obj)} {σ : L2.St} {H : Hp} {s : Shared}
theorem gen_make {c P : Addr} {elt tg iter : Expr} {gpos : Pos} {scope : Scope} {own : List (Str × Nat)} {wi : TI} {g : TG} {te : TE} {k : Nat} {stop : Bool} {Qf Qe : Hp → Prop} {Q' : Value → Shared → Prop}
    (hr : Room (k + 1) X.A) (TB : TabB X.base X.mg c P) (hcode : X.env.code = .ref c) (hN : X.N.Nodup) (ok : GOk X.N X.env.scope scope own) (hi : PI X tg iter wi)
    (hg : ∀ (A' : Around) (s : Shared) (H : Hp) (C : Addr) (code : Value) (fp : List Addr), PG (gcx X A' s H (genEnv scope (cloFrom X.env.cells scope.names []) C code builtinsNs X.env) fp) tg g)
    (he : ∀ (A' : Around) (s : Shared) (H : Hp) (C : Addr) (code : Value) (fp : List Addr), Room k A' → PE (gcx X A' s H (genEnv scope (cloFrom X.env.cells scope.names []) C code builtinsNs X.env) fp) elt te)
    (hs : ∀ v, genFold iter X.env v = pure v) (I : Inv X pins σ H s)
    (h : wi σ H fun J H1 => TabG H1 P ∧ ∀ H2, Tabbed P H1 H2 → ∃ W : Nat → Nat → Hp → Prop, (∃ m, W 0 m H2) ∧ TurnG J g te (wipe σ (own.map (·.2))) (own.map (·.2)) stop Qf Qe W)
    (hQ : ∀ u s5, MadeG X pins σ stop Qf Qe u s5 → Q' u s5) :
    wpAny (model X.prog X.w) X.A (eval (.GeneratorExp elt [⟨tg, iter, [], 0⟩] scope gpos) X.env) Q' X.xe s := by
  have hfree : ∀ y ∈ scope.names, y.2 = .free → ∃ c, X.env.cells.lookup y.1 = some c := fun y hy e => by
    rcases ok.free y hy e with k | k
    · exact I.ok.has _ (.inl k)
    · exact I.ok.has _ (.inr k)
  refine wpAny_GeneratorExp_make ok.co (closure_ok hfree) ok.cell ok.dot ok.kind (by have := hr.dp; omega) ?_ hs
  refine thn (hi.run pins s σ H _ I h) fun xv s1 hx => thn hx fun itv s2 h2 => ?_
  obtain ⟨it, fp, tn, J, H2, e, I2, T, st2, f2, ⟨ps, hP, ht⟩, q⟩ := h2
  subst e
  refine ⟨I2.nolimit, ?_⟩
  have hPs : s2.heap.get? P = some { cls := .none, data := .fields ps } := I2.hok P _ hP
  have cd : PySem.W.CodeHd s2.heap c P := TB.code.keeps I2.bk
  have fpP : ∀ b ∈ fp, b ≠ P := fun b hb z => by
    have := (f2 b hb).1
    rw [z, hP] at this
    cases this
  have cont : ∀ (code : Value) (h3 : Heap) (tk : Nat) (ps' : Array Value), Heap.ExtBut P s2.heap h3 → h3.get? P = some { cls := .none, data := .fields ps' } → (∃ more, ps' = ps ++ more) → TriplesOk ps'.toList →
      wpAny (model X.prog X.w) X.A (builtinsFor X.env.globals X.env.builtins) (fun bi s₄ =>
        ∀ h', h'.Ns s₄.heap.objs.size (fun y => if y = ".0" then some (Value.ref it) else none) → Heap.SameBut s₄.heap.objs.size (s₄.heap.push { cls := .type "frame", data := .dict #[] }) h' →
          Q' (.ref h'.objs.size) { s₄ with
            gens := s₄.gens.push (.fresh (.compStart (.GeneratorExp elt [⟨tg, iter, [], 0⟩] scope gpos) 0 (.ref it) .none (genEnv scope (cloFrom X.env.cells scope.names []) s₄.heap.objs.size code bi X.env))),
            toks := s₄.toks + 1 + 1 + 1,
            heap := h'.push { cls := .type "generator", data := .fields #[.int s₄.gens.size 0, .str "<genexpr>" (s₄.toks + 1), .str (X.env.qual ++ "<genexpr>") (s₄.toks + 1 + 1)] } }) X.xe { s2 with heap := h3, toks := tk } := by
    intro code h3 tk ps' hx hP3 hmore ht3
    obtain ⟨bm, ob, e1, e2, e3, e4, e5, e6, e7, e8⟩ := TB.bm
    have keep3 : ∀ b u, b ≠ P → s2.heap.get? b = some u → h3.get? b = some u := fun b u hb e => hx b u hb e
    refine wpAny_builtinsFor (m := X.mg) (by rw [I2.ok.glob]; exact (I2.mod.glob.keeps I2.bk).extBut hx TB.gP) e1 e2 (keep3 _ _ e4 (I2.bk _ _ e5)) e6 e7 e8 ?_
    obtain ⟨more, em⟩ := hmore
    have J3 := inv_tab (more := more) (h' := h3) (g' := s2.gens) (d' := s2.drawn) (t' := tk) I2 hP (fun b u hb e => keep3 b u hb e) (by rw [← em]; exact hP3) I2.bare
    obtain ⟨W, ⟨m, w⟩, turn⟩ := q (upd H2 P (.tbl (ps ++ more))) ⟨⟨ps ++ more, upd_same, by rw [← em]; exact ht3⟩, fun b hb => upd_ne hb⟩
    intro h' hn' hs'
    generalize hs4 : ({ s2 with heap := h3, gens := s2.gens, drawn := s2.drawn, toks := tk } : Shared) = s4 at J3
    have hs4' : ({ s2 with heap := h3, toks := tk } : Shared) = s4 := hs4
    try rw [hs4'] at hn'
    try rw [hs4'] at hs'
    try rw [hs4']
    have eh : s4.heap = h3 := by rw [← hs4]
    have szh : h'.objs.size = s4.heap.objs.size + 1 := by rw [hs'.1, Heap.size_push]
    have keep' : ∀ b o, s4.heap.get? b = some o → h'.get? b = some o := fun b o e => hs'.extBut b o (Nat.ne_of_lt (Heap.lt_size e)) (Heap.get?_push_of_some _ e)
    have st4 : tn 0 s4.heap := T.keep _ _ _ st2 fun b hb o e => by rw [eh]; exact keep3 b o (fpP b hb) e
    have f4 : ∀ b ∈ fp, FpOk X pins (upd H2 P (.tbl (ps ++ more))) b ∧ b < s4.heap.objs.size := fun b hb => by
      obtain ⟨o, e, _⟩ := T.obj _ _ st4 b hb
      exact ⟨⟨by rw [upd_ne (fpP b hb)]; exact (f2 b hb).1, (f2 b hb).2⟩, Heap.lt_size e⟩
    have keep5 : ∀ b o, s4.heap.get? b = some o → (h'.push { cls := .type "generator", data := .fields #[.int s4.gens.size 0, .str "<genexpr>" (s4.toks + 1), .str (X.env.qual ++ "<genexpr>") (s4.toks + 1 + 1)] }).get? b = some o :=
      fun b o e => Heap.get?_push_of_some _ (keep' b o e)
    have hgo : (h'.push { cls := .type "generator", data := .fields #[.int s4.gens.size 0, .str "<genexpr>" (s4.toks + 1), .str (X.env.qual ++ "<genexpr>") (s4.toks + 1 + 1)] }).get? (s4.heap.objs.size + 1) =
        some { cls := .type "generator", data := .fields #[.int s4.gens.size 0, .str "<genexpr>" (s4.toks + 1), .str (X.env.qual ++ "<genexpr>") (s4.toks + 1 + 1)] } := by
      rw [← szh]
      exact Heap.get?_push_size _ rfl
    generalize hA' : X.A.in1.in1.over (.compLoop (.GeneratorExp elt [⟨tg, iter, [], 0⟩] scope gpos) 0 (.ref it) .none (genEnv scope (cloFrom X.env.cells scope.names []) s4.heap.objs.size code builtinsNs X.env)) [] = A'
    have rA : Room k A' := by rw [← hA']; exact room_gen hr
    have fA : A'.frames = some (genEnv scope (cloFrom X.env.cells scope.names []) s4.heap.objs.size code builtinsNs X.env :: X.stack) := by rw [← hA']; exact frames_gen I2.ok.frames
    have I5 := gen_start (A' := A') (code := code) (go := { cls := .type "generator", data := .fields #[.int s4.gens.size 0, .str "<genexpr>" (s4.toks + 1), .str (X.env.qual ++ "<genexpr>") (s4.toks + 1 + 1)] })
      (G5 := s4.gens.push (.fresh (.compStart (.GeneratorExp elt [⟨tg, iter, [], 0⟩] scope gpos) 0 (.ref it) .none (genEnv scope (cloFrom X.env.cells scope.names []) s4.heap.objs.size code builtinsNs X.env)))) (t5 := s4.toks + 1 + 1 + 1)
      J3 ok hN f4 rA.hd fA keep5 (hn'.push _) hgo (fun v z => by cases z) (J3.bare.push rfl)
    have nfp : ∀ b ∈ fp, (upd H2 P (.tbl (ps ++ more))) b = none := fun b hb => (f4 b hb).1.1
    refine hQ _ _ ⟨h'.objs.size, s4.gens.size, m + 1, _, { cls := .type "generator", data := .fields #[.int s4.gens.size 0, .str "<genexpr>" (s4.toks + 1), .str (X.env.qual ++ "<genexpr>") (s4.toks + 1 + 1)] },
      gcx X A' s4 (upd H2 P (.tbl (ps ++ more))) (genEnv scope (cloFrom X.env.cells scope.names []) s4.heap.objs.size code builtinsNs X.env) fp,
      [(s4.heap.objs.size + 1, { cls := .type "generator", data := .fields #[.int s4.gens.size 0, .str "<genexpr>" (s4.toks + 1), .str (X.env.qual ++ "<genexpr>") (s4.toks + 1 + 1)] })], wipe σ (own.map (·.2)), rfl, rfl, rfl, ?_, ?_, ?_, I5.nolimit, Array.getElem?_push_size .., ?_, ?_⟩
    · rw [szh]; exact List.mem_singleton.mpr rfl
    · exact fun h hh => ⟨_, _, _, hh, rfl, rfl, rfl⟩
    · rw [szh]; exact ⟨_, _, _, hgo, rfl, rfl, rfl⟩
    · refine ⟨rfl, ?_⟩
      have I6 := inv_gens (s' := ({ s4 with
            gens := s4.gens.push (.fresh (.compStart (.GeneratorExp elt [⟨tg, iter, [], 0⟩] scope gpos) 0 (.ref it) .none (genEnv scope (cloFrom X.env.cells scope.names []) s4.heap.objs.size code builtinsNs X.env))),
            toks := s4.toks + 1 + 1 + 1,
            heap := h'.push { cls := .type "generator", data := .fields #[.int s4.gens.size 0, .str "<genexpr>" (s4.toks + 1), .str (X.env.qual ++ "<genexpr>") (s4.toks + 1 + 1)] } } : Shared).setGen s4.gens.size .running) I5 rfl rfl (allBare_setGen I5.bare rfl)
      exact seg_first (X' := gcx X A' s4 (upd H2 P (.tbl (ps ++ more))) (genEnv scope (cloFrom X.env.cells scope.names []) s4.heap.objs.size code builtinsNs X.env) fp) (A := X.A.in1.in1) hA' rfl rfl rfl rfl ok.co T
        (fun p hp z => by
          have e : p = _ := List.mem_singleton.mp hp
          rw [e] at z
          exact absurd (f4 _ z).2 (Nat.not_lt.mpr (Nat.le_succ _))) (hg A' s4 _ _ code fp) (he A' s4 _ _ code fp rA) turn (m + 1) _ _ m _ (Nat.lt_succ_self m) I6
        (T.keep _ _ _ st4 fun b _ o e => keep5 b o e) nfp w
    · intro H' s' J
      exact J3.call' (ch := fp) J.os J.base J.hok J.bare fun b hb => ⟨(f4 b hb).1.2.2.2.1, (f4 b hb).1.2.1, (f4 b hb).1.2.2.2.2.1, (f4 b hb).1.2.2.2.2.2⟩
  cases hf : codeAmong gpos ps.toList with
  | none =>
    refine wpAny_genexprCodeX hcode (cd.code hPs ht) (cd.tab hPs) hf fun c' h' tk hx hge hlt hco' _ htab' _ => ?_
    obtain ⟨o1, vs, f1, tf, fl, tg, inF, tx, tt, op, _, _, _, _, _, _, _, _, _, htr, _⟩ := hco'
    exact cont _ h' tk _ hx htab'.2 ⟨_, rfl⟩ htr
  | some cv =>
    refine wpAny_genexprCode_hit hcode (cd.code hPs ht) hf ?_
    exact cont cv s2.heap s2.toks ps (Heap.ExtBut.refl _ _) hPs ⟨#[], by simp⟩ ht
end

/-! ### any, all -/
/-- the reading: the walked thing, then the table may have grown; W by the turn and a measure -/
def tGen (stop : Bool) (P : Addr) (wi : TI) (g : TG) (te : TE) (vs : List Nat) : TE := fun σ H Q => wi σ H fun J H1 => TabG H1 P ∧ ∀ H2, Tabbed P H1 H2 → ∃ W : Nat → Nat → Hp → Prop, (∃ m, W 0 m H2) ∧
  TurnG J g te (wipe σ vs) vs stop (fun H' => Q (.bl stop) H') (fun H' => Q (.bl (!stop)) H') W
section
variable {X : Cx} {c P : Addr} {elt tg iter : Expr} {p pos gpos : Pos} {scope : Scope} {own : List (Str × Nat)} {wi : TI} {g : TG} {te : TE} {k : Nat}
theorem pe_all (hr : Room (k + 1) X.A) (hgl : Gl X "all") (hm : X.mg "all" = none) (TB : TabB X.base X.mg c P) (hcode : X.env.code = .ref c) (hN : X.N.Nodup) (ok : GOk X.N X.env.scope scope own) (hi : PI X tg iter wi)
    (hg : ∀ (A' : Around) (s : Shared) (H : Hp) (C : Addr) (code : Value) (fp : List Addr), PG (gcx X A' s H (genEnv scope (cloFrom X.env.cells scope.names []) C code builtinsNs X.env) fp) tg g)
    (he : ∀ (A' : Around) (s : Shared) (H : Hp) (C : Addr) (code : Value) (fp : List Addr), Room k A' → PE (gcx X A' s H (genEnv scope (cloFrom X.env.cells scope.names []) C code builtinsNs X.env) fp) elt te)
    (hs : ∀ v, genFold iter X.env v = pure v := by intro _; rfl)
    (hst : starEach [.GeneratorExp elt [⟨tg, iter, [], 0⟩] scope gpos] X.env = (false, eval (.GeneratorExp elt [⟨tg, iter, [], 0⟩] scope gpos) X.env) :: starEach [] X.env := by rfl) :
    PE X (.Call (.Name "all" p) [.GeneratorExp elt [⟨tg, iter, [], 0⟩] scope gpos] [] pos) (tGen false P wi g te (own.map (·.2))) := by
  refine ⟨fun pins s σ H Q I h => ?_⟩
  refine wpAny_Call_Name_kw (ld_blt I hgl hm (show bootBuiltins "all" = some (.builtin "all") by decide +kernel) ?_)
  refine PyProof.Rows.callWith_builtin1 ?_ hst (by rfl)
  rw [hst]
  show wpAny _ _ (spliced ((false, eval (.GeneratorExp elt [⟨tg, iter, [], 0⟩] scope gpos) X.env) :: backTo pos (starEach [] X.env))) _ _ s
  refine Calls.spliced_cons (gen_make hr TB hcode hN ok hi hg he hs I h fun u s5 hG => ?_)
  obtain ⟨a, gn, n, gs, go, X', pn, σw, rfl, e1, e2, hpn, hgen, hig, hl, hgs, hgo, back⟩ := hG
  refine Calls.spliced_nil ?_
  refine call_function_tree F.kind_all F.plain_all F.entry_all (F.args_all1 _) ?_
  unfold Builtin.«all»
  refine wpAny_bind (m := oneArg "all" _) (wpAny_pure ?_)
  refine wpAny_bind (wpAny_pyIter_gen hig ?_)
  refine wpAny_pure ⟨plainId_quiet F.plain_all_loop _, ?_⟩
  rw [← e1, ← e2] at hgo ⊢
  refine all_loop (X' := X') (A := X.A) hr.hd (by have := hr.dp; omega) hpn hgen (fun b H' s' J q1 q2 => ?_) n s5 gs hig hl hgs hgo
  refine ⟨.bl b, H', back H' s' J, rfl, ?_⟩
  cases b with
  | true => exact q1 rfl
  | false => exact q2 rfl
theorem pe_any (hr : Room (k + 1) X.A) (hgl : Gl X "any") (hm : X.mg "any" = none) (TB : TabB X.base X.mg c P) (hcode : X.env.code = .ref c) (hN : X.N.Nodup) (ok : GOk X.N X.env.scope scope own) (hi : PI X tg iter wi)
    (hg : ∀ (A' : Around) (s : Shared) (H : Hp) (C : Addr) (code : Value) (fp : List Addr), PG (gcx X A' s H (genEnv scope (cloFrom X.env.cells scope.names []) C code builtinsNs X.env) fp) tg g)
    (he : ∀ (A' : Around) (s : Shared) (H : Hp) (C : Addr) (code : Value) (fp : List Addr), Room k A' → PE (gcx X A' s H (genEnv scope (cloFrom X.env.cells scope.names []) C code builtinsNs X.env) fp) elt te)
    (hs : ∀ v, genFold iter X.env v = pure v := by intro _; rfl)
    (hst : starEach [.GeneratorExp elt [⟨tg, iter, [], 0⟩] scope gpos] X.env = (false, eval (.GeneratorExp elt [⟨tg, iter, [], 0⟩] scope gpos) X.env) :: starEach [] X.env := by rfl) :
    PE X (.Call (.Name "any" p) [.GeneratorExp elt [⟨tg, iter, [], 0⟩] scope gpos] [] pos) (tGen true P wi g te (own.map (·.2))) := by
  refine ⟨fun pins s σ H Q I h => ?_⟩
  refine wpAny_Call_Name_kw (ld_blt I hgl hm boot_any ?_)
  refine PyProof.Rows.callWith_builtin1 ?_ hst (by rfl)
  rw [hst]
  show wpAny _ _ (spliced ((false, eval (.GeneratorExp elt [⟨tg, iter, [], 0⟩] scope gpos) X.env) :: backTo pos (starEach [] X.env))) _ _ s
  refine Calls.spliced_cons (gen_make hr TB hcode hN ok hi hg he hs I h fun u s5 hG => ?_)
  obtain ⟨a, gn, n, gs, go, X', pn, σw, rfl, e1, e2, hpn, hgen, hig, hl, hgs, hgo, back⟩ := hG
  refine Calls.spliced_nil ?_
  refine call_function_tree F.kind_any F.plain_any F.entry_any (F.args_any1 _) ?_
  unfold Builtin.«any»
  refine wpAny_bind (m := oneArg "any" _) (wpAny_pure ?_)
  refine wpAny_bind (wpAny_pyIter_gen hig ?_)
  refine wpAny_pure ⟨plainId_quiet F.plain_any_loop _, ?_⟩
  rw [← e1, ← e2] at hgo ⊢
  refine any_loop (X' := X') (A := X.A) hr.hd (by have := hr.dp; omega) hpn hgen (fun b H' s' J q1 q2 => ?_) n s5 gs hig hl hgs hgo
  refine ⟨.bl b, H', back H' s' J, rfl, ?_⟩
  cases b with
  | false => exact q1 rfl
  | true => exact q2 rfl
end

/-! ### the forms one uses: over a tuple, a list, a range -/
section
variable {K : PySem.W.Frag} {g : TG} {te : TE} {σw : L2.St} {vs : List Nat} {stop : Bool} {Qf Qe : Hp → Prop}
theorem gen_tup {a : Addr} {xs : List V} {H2 : Hp} (Pv : Nat → Hp → Prop) (h0 : Pv 0 H2) (hl : ∀ i H, i ≤ xs.length → Pv i H → SqT K H a xs)
    (hs : ∀ i x H, xs[i]? = some x → Pv i H → g x σw H fun σ2 H2 => wipe σ2 vs = σw ∧ te σ2 H2 fun y H3 => ∃ b, y = .bl b ∧ (b = stop → Qf H3) ∧ (b = !stop → Pv (i + 1) H3))
    (hd : ∀ H, Pv xs.length H → Qe H) : ∃ W : Nat → Nat → Hp → Prop, (∃ m, W 0 m H2) ∧ TurnG (Itt K a) g te σw vs stop Qf Qe W := by
  refine ⟨fun i m H => m = xs.length - i ∧ i ≤ xs.length ∧ Pv i H, ⟨xs.length, by simp, Nat.zero_le _, h0⟩, ?_⟩
  rintro i m H ⟨rfl, hi, p⟩
  have q := hl i H hi p
  by_cases hlt : i < xs.length
  · refine .inr ⟨⟨xs, xs[i], q, by simp [hlt]⟩, Pv (i + 1), fun H' p' => ⟨xs.length - (i + 1), by omega, rfl, hlt, p'⟩, fun x H' y => ?_⟩
    obtain ⟨e, y⟩ := y
    subst e
    exact hs i x _ (y xs q) p
  · have e : i = xs.length := by omega
    subst e
    exact .inl ⟨⟨xs, q, Nat.le_refl _⟩, hd H p⟩
theorem gen_list {a : Addr} {xs : List V} {H2 : Hp} (Pv : Nat → Hp → Prop) (h0 : Pv 0 H2) (hl : ∀ i H, i ≤ xs.length → Pv i H → SqL K H a xs)
    (hs : ∀ i x H, xs[i]? = some x → Pv i H → g x σw H fun σ2 H2 => wipe σ2 vs = σw ∧ te σ2 H2 fun y H3 => ∃ b, y = .bl b ∧ (b = stop → Qf H3) ∧ (b = !stop → Pv (i + 1) H3))
    (hd : ∀ H, Pv xs.length H → Qe H) : ∃ W : Nat → Nat → Hp → Prop, (∃ m, W 0 m H2) ∧ TurnG (Itl K a) g te σw vs stop Qf Qe W := by
  refine ⟨fun i m H => m = xs.length - i ∧ i ≤ xs.length ∧ Pv i H, ⟨xs.length, by simp, Nat.zero_le _, h0⟩, ?_⟩
  rintro i m H ⟨rfl, hi, p⟩
  have q := hl i H hi p
  by_cases hlt : i < xs.length
  · refine .inr ⟨⟨xs, xs[i], q, by simp [hlt]⟩, Pv (i + 1), fun H' p' => ⟨xs.length - (i + 1), by omega, rfl, hlt, p'⟩, fun x H' y => ?_⟩
    obtain ⟨e, y⟩ := y
    subst e
    exact hs i x _ (y xs q) p
  · have e : i = xs.length := by omega
    subst e
    exact .inl ⟨⟨xs, q, Nat.le_refl _⟩, hd H p⟩
theorem gen_range {lo : Int} {n : Nat} {H2 : Hp} (Pv : Nat → Hp → Prop) (h0 : Pv 0 H2)
    (hs : ∀ i H, i < n → Pv i H → g (.int (lo + i)) σw H fun σ2 H2 => wipe σ2 vs = σw ∧ te σ2 H2 fun y H3 => ∃ b, y = .bl b ∧ (b = stop → Qf H3) ∧ (b = !stop → Pv (i + 1) H3))
    (hd : ∀ H, Pv n H → Qe H) : ∃ W : Nat → Nat → Hp → Prop, (∃ m, W 0 m H2) ∧ TurnG (Itr lo n) g te σw vs stop Qf Qe W := by
  refine ⟨fun i m H => m = n - i ∧ i ≤ n ∧ Pv i H, ⟨n, by simp, Nat.zero_le _, h0⟩, ?_⟩
  rintro i m H ⟨rfl, hi, p⟩
  by_cases hlt : i < n
  · refine .inr ⟨hlt, Pv (i + 1), fun H' p' => ⟨n - (i + 1), by omega, rfl, hlt, p'⟩, fun x H' y => ?_⟩
    obtain ⟨e, y⟩ := y
    subst e y
    exact hs i _ hlt p
  · have e : i = n := by omega
    subst e
    exact .inl ⟨Nat.le_refl _, hd H p⟩
end

/-! ### a def whose code's table is known -/
structure FunT (K : PySem.W.Frag) (x qual : Str) (st : Stmt) (f : Addr) (fd : FuncData) (c : Addr) : Prop where
  ex : ∃ (oc : Value) (od : Option Addr) (kV doc pm : Value) (an : Option Addr) (ct : Value) (osl : Array (Option Value)),
    fd = PySem.W.fnOf x qual (defArgs st) (defBody st) (defScope st) .none kV doc pm an (.ref c) ct ∧ K.lookup f = some ⟨oc, od, .func fd, osl⟩ ∧ PySem.W.codeIn K (.ref c) qual = true
  kp : PySem.W.keepIn K (.ref f) = true
section
variable {P : Program} {w : World} {K : PySem.W.Frag} {mg : Str → Option Value} {base : Heap}
theorem FunT.toFun {x qual : Str} {st : Stmt} {f : Addr} {fd : FuncData} {c : Addr} (F : FunT K x qual st f fd c) : Fun K x qual st f fd := by
  obtain ⟨oc, od, kV, doc, pm, an, ct, osl, rfl, lk, hcd⟩ := F.ex
  exact ⟨⟨oc, od, kV, doc, pm, an, _, ct, osl, rfl, lk, hcd⟩, F.kp⟩
theorem FunT.ok {x qual : Str} {st : Stmt} {f : Addr} {fd : FuncData} {c : Addr} {N ps : List Str} {k : Nat} {sp : Sp} (F : FunT K x qual st f fd c) (S : FnScope N ps (defScope st)) (len : ∀ vs H Q E, sp vs H Q E → vs.length = ps.length)
    (hbody : ∀ (A : Around) (outer : List Env) (s : Shared) (H : Hp) (vs : List V) (Q : VK) (E : XK), Room k (A.deeper (envOfC qual (defScope st) s.heap.objs.size f (.ref c))) → sp vs H Q E →
      ∃ t, PSs (cxOf CX0 P w K mg base N qual (defScope st) f (.ref c) A outer s H E).nox (defBody st) t ∧ t { nx := fun _ H' => Q .non H', rt := Q } (start N vs) H) : FnOk P w K mg base CX0 (k + 1) f fd ps sp := by
  obtain ⟨oc, od, kV, doc, pm, an, ct, osl, rfl, lk, hcd⟩ := F.ex
  refine fn_of lk hcd S len fun A outer s H vs Q E hr hsp => ?_
  obtain ⟨t, h, q⟩ := hbody A outer s H vs Q E hr hsp
  exact ⟨t, h.nox, q⟩
theorem funT_mk {x qual : Str} {st : Stmt} {f : Addr} {oc : Value} {od an : Option Addr} {osl : Array (Option Value)} {kV doc pm ct : Value} {c : Addr} (l : K.lookup f = some ⟨oc, od, .func (PySem.W.fnOf x qual (defArgs st) (defBody st) (defScope st) .none kV doc pm an (.ref c) ct), osl⟩)
    (hc : PySem.W.codeIn K (.ref c) qual = true) (k : PySem.W.keepIn K (.ref f) = true) : FunT K x qual st f (PySem.W.fnOf x qual (defArgs st) (defBody st) (defScope st) .none kV doc pm an (.ref c) ct) c := ⟨⟨oc, od, kV, doc, pm, an, ct, osl, rfl, l, hc⟩, k⟩
end
end GA

set_option Elab.async false
set_option linter.all false
set_option maxRecDepth 100000
set_option maxHeartbeats 4000000
/-! Data of any depth in the abstract heap; what a call keeps; the law's stream. -/
namespace KD
open PySem PySem.Spec PyProof.Rows L2 GxR GA

/-! ### data in the heap: lists that stand at M may change, so no datum is at one -/
mutual
inductive At (M : Addr → Prop) (H : Hp) : V → PyData → Prop
  | non : At M H .non .none
  | bl (b : Bool) : At M H (.bl b) (.bool b)
  | int (i : Int) : At M H (.int i) (.int i)
  | str (x : Str) : At M H (.str x) (.str x)
  | lst {a : Addr} {xs : List V} {ds : List PyData} : H a = some (.lst xs) → ¬ M a → AtL M H xs ds → At M H (.ref a) (.list ds)
  | tup {a : Addr} {xs : List V} {ds : List PyData} : H a = some (.tup xs) → AtL M H xs ds → At M H (.ref a) (.tuple ds)
inductive AtL (M : Addr → Prop) (H : Hp) : List V → List PyData → Prop
  | nil : AtL M H [] []
  | cons {v : V} {vs : List V} {d : PyData} {ds : List PyData} : At M H v d → AtL M H vs ds → AtL M H (v :: vs) (d :: ds)
end
/-- what a call keeps -/
structure Kp (M : Addr → Prop) (H H' : Hp) : Prop where
  tup : ∀ b xs, H b = some (.tup xs) → H' b = some (.tup xs)
  lst : ∀ b xs, ¬ M b → H b = some (.lst xs) → H' b = some (.lst xs)
  frz : ∀ b o u, H b = some (.frz o u) → H' b = some (.frz o u)
  tbl : ∀ P, TabG H P → TabG H' P
abbrev MN : Addr → Prop := fun _ => False
section
variable {M M' : Addr → Prop} {H H' H2 : Hp}
theorem Kp.refl : Kp M H H := ⟨fun _ _ h => h, fun _ _ _ h => h, fun _ _ _ h => h, fun _ h => h⟩
theorem Kp.trans (a : Kp M H H') (b : Kp M H' H2) : Kp M H H2 := ⟨fun c xs h => b.tup c xs (a.tup c xs h), fun c xs n h => b.lst c xs n (a.lst c xs n h), fun c o u h => b.frz c o u (a.frz c o u h), fun P h => b.tbl P (a.tbl P h)⟩
theorem Kp.mono (a : Kp M H H') (h : ∀ b, M b → M' b) : Kp M' H H' := ⟨a.tup, fun b xs n => a.lst b xs fun z => n (h b z), a.frz, a.tbl⟩
theorem Kp.any (a : Kp MN H H') : Kp M H H' := a.mono fun _ z => z.elim
theorem Kp.new {p : Addr} {o : HO} (h : H p = none) : Kp M H (upd H p o) := by
  have n : ∀ b u, H b = some u → b ≠ p := fun b u e => ne_of_none e h
  refine ⟨fun b xs e => by rw [upd_ne (n b _ e)]; exact e, fun b xs _ e => by rw [upd_ne (n b _ e)]; exact e, fun b o u e => by rw [upd_ne (n b _ e)]; exact e, fun P ⟨ps, e, t⟩ => ⟨ps, by rw [upd_ne (n P _ e)]; exact e, t⟩⟩
theorem Kp.put {a : Addr} {xs ys : List V} (hm : M a) (h : H a = some (.lst xs)) : Kp M H (upd H a (.lst ys)) := by
  refine ⟨fun b zs e => by rw [upd_ne (ne_of e h (by intro z; cases z))]; exact e, fun b zs n e => ?_, fun b o u e => by rw [upd_ne (ne_of e h (by intro z; cases z))]; exact e, fun P ⟨ps, e, t⟩ => ⟨ps, by rw [upd_ne (ne_of e h (by intro z; cases z))]; exact e, t⟩⟩
  rw [upd_ne (fun z => n (by rw [z]; exact hm))]
  exact e
theorem Kp.tabbed {P : Addr} (hP : TabG H P) (h : Tabbed P H H') : Kp M H H' := by
  obtain ⟨ps, e, t⟩ := hP
  have n : ∀ b u, H b = some u → (∀ q, u ≠ .tbl q) → b ≠ P := fun b u z q y => by
    rw [y, e] at z
    exact q ps (Option.some.inj z).symm
  refine ⟨fun b xs z => by rw [h.2 b (n b _ z (by intro q y; cases y))]; exact z, fun b xs _ z => by rw [h.2 b (n b _ z (by intro q y; cases y))]; exact z, fun b o u z => by rw [h.2 b (n b _ z (by intro q y; cases y))]; exact z, fun P' ⟨ps', e', t'⟩ => ?_⟩
  by_cases hb : P' = P
  · rw [hb]; exact h.1
  · exact ⟨ps', by rw [h.2 P' hb]; exact e', t'⟩
/-- a write to a list that stood nowhere at the beginning -/
theorem Kp.putNew {a : Addr} {xs ys : List V} (k : Kp M H H') (hn : H a = none) (h : H' a = some (.lst xs)) : Kp M H (upd H' a (.lst ys)) := by
  have n : ∀ b u, H b = some u → b ≠ a := fun b u e => ne_of_none e hn
  refine ⟨fun b zs e => by rw [upd_ne (n b _ e)]; exact k.tup b zs e, fun b zs m e => by rw [upd_ne (n b _ e)]; exact k.lst b zs m e, fun b o u e => by rw [upd_ne (n b _ e)]; exact k.frz b o u e, fun P hP => ?_⟩
  obtain ⟨ps, e, t⟩ := k.tbl P hP
  exact ⟨ps, by rw [upd_ne (ne_of e h (by intro z; cases z))]; exact e, t⟩
theorem Kp.putFresh {a : Addr} {xs ys : List V} (k : Kp M H H') (hn : ∀ zs, H a ≠ some (.lst zs)) (h : H' a = some (.lst xs)) : Kp M H (upd H' a (.lst ys)) := by
  refine ⟨fun b zs e => ?_, fun b zs m e => ?_, fun b o u e => ?_, fun P hP => ?_⟩
  · have e' := k.tup b zs e
    rw [upd_ne (ne_of e' h (by intro z; cases z))]; exact e'
  · rw [upd_ne (fun z => hn zs (by rw [← z]; exact e))]; exact k.lst b zs m e
  · have e' := k.frz b o u e
    rw [upd_ne (ne_of e' h (by intro z; cases z))]; exact e'
  · obtain ⟨ps, e, t⟩ := k.tbl P hP
    exact ⟨ps, by rw [upd_ne (ne_of e h (by intro z; cases z))]; exact e, t⟩
theorem Kp.noLst {a : Addr} (k : Kp M H H') (hm : ¬ M a) (h : H' a = none) : ∀ zs, H a ≠ some (.lst zs) := fun zs e => by
  rw [k.lst a zs hm e] at h
  cases h
theorem Kp.seqL {K : PySem.W.Frag} {a : Addr} {xs : List V} (k : Kp M H H') (hm : ¬ M a) (h : SqL K H a xs) : SqL K H' a xs := by
  rcases h with (h | ⟨o, h⟩) | h
  · exact .inl (.inl (k.lst _ _ hm h))
  · exact .inl (.inr ⟨o, k.frz _ _ _ h⟩)
  · exact .inr h
theorem Kp.seqT {K : PySem.W.Frag} {a : Addr} {xs : List V} (k : Kp M H H') (h : SqT K H a xs) : SqT K H' a xs := by
  rcases h with (h | ⟨o, h⟩) | h
  · exact .inl (.inl (k.tup _ _ h))
  · exact .inl (.inr ⟨o, k.frz _ _ _ h⟩)
  · exact .inr h
mutual
theorem At.kp (k : Kp M H H') : ∀ {d : PyData} {v : V}, At M H v d → At M H' v d
  | .none, _, h => by cases h; exact .non
  | .bool b, _, h => by cases h; exact .bl b
  | .int i, _, h => by cases h; exact .int i
  | .str x, _, h => by cases h; exact .str x
  | .list ds, _, h => by
    cases h with
    | lst e n r => exact .lst (k.lst _ _ n e) n (AtL.kp k r)
  | .tuple ds, _, h => by
    cases h with
    | tup e r => exact .tup (k.tup _ _ e) (AtL.kp k r)
  | .dict _, _, h => by cases h
theorem AtL.kp (k : Kp M H H') : ∀ {ds : List PyData} {vs : List V}, AtL M H vs ds → AtL M H' vs ds
  | [], _, h => by cases h; exact .nil
  | d :: ds, _, h => by
    cases h with
    | cons a r => exact .cons (At.kp k a) (AtL.kp k r)
end
mutual
theorem At.weak (w : ∀ a, M' a → M a) : ∀ {d : PyData} {v : V}, At M H v d → At M' H v d
  | .none, _, h => by cases h; exact .non
  | .bool b, _, h => by cases h; exact .bl b
  | .int i, _, h => by cases h; exact .int i
  | .str x, _, h => by cases h; exact .str x
  | .list ds, _, h => by
    cases h with
    | lst e n r => exact .lst e (fun z => n (w _ z)) (AtL.weak w r)
  | .tuple ds, _, h => by
    cases h with
    | tup e r => exact .tup e (AtL.weak w r)
  | .dict _, _, h => by cases h
theorem AtL.weak (w : ∀ a, M' a → M a) : ∀ {ds : List PyData} {vs : List V}, AtL M H vs ds → AtL M' H vs ds
  | [], _, h => by cases h; exact .nil
  | d :: ds, _, h => by
    cases h with
    | cons a r => exact .cons (At.weak w a) (AtL.weak w r)
end
theorem At.mn {d : PyData} {v : V} (h : At M H v d) : At MN H v d := h.weak fun _ z => z.elim
theorem AtL.mn {d : List PyData} {v : List V} (h : AtL M H v d) : AtL MN H v d := h.weak fun _ z => z.elim
mutual
theorem At.dp {K : PySem.W.Frag} : ∀ {d : PyData} {v : V}, At M H v d → Dp K H v d
  | .none, _, h => by cases h; exact .non
  | .bool b, _, h => by cases h; exact .bl b
  | .int i, _, h => by cases h; exact .int i
  | .str x, _, h => by cases h; exact .str x
  | .list ds, _, h => by
    cases h with
    | lst e n r => exact .lst (SqL.of e) (AtL.dp r)
  | .tuple ds, _, h => by
    cases h with
    | tup e r => exact .tup (SqT.of e) (AtL.dp r)
  | .dict _, _, h => by cases h
theorem AtL.dp {K : PySem.W.Frag} : ∀ {ds : List PyData} {vs : List V}, AtL M H vs ds → DpAll K H vs ds
  | [], _, h => by cases h; exact .nil
  | d :: ds, _, h => by
    cases h with
    | cons a r => exact .cons (At.dp a) (AtL.dp r)
end
theorem AtL.length : ∀ {ds : List PyData} {vs : List V}, AtL M H vs ds → vs.length = ds.length
  | [], _, h => by cases h; rfl
  | d :: ds, _, h => by
    cases h with
    | cons a r => exact congrArg (· + 1) (AtL.length r)
theorem AtL.get : ∀ {ds : List PyData} {vs : List V} {i : Nat} {v : V}, AtL M H vs ds → vs[i]? = some v → ∃ d, ds[i]? = some d ∧ At M H v d
  | [], _, i, v, h, e => by cases h; simp at e
  | d :: ds, _, 0, v, h, e => by
    cases h with
    | cons a r => simp at e; subst e; exact ⟨d, rfl, a⟩
  | d :: ds, _, i + 1, v, h, e => by
    cases h with
    | cons a r =>
      obtain ⟨d', h1, h2⟩ := AtL.get (i := i) r (by simpa using e)
      exact ⟨d', by simpa using h1, h2⟩
theorem AtL.get' {ds : List PyData} {vs : List V} {i : Nat} {d : PyData} (h : AtL M H vs ds) (e : ds[i]? = some d) : ∃ v, vs[i]? = some v ∧ At M H v d := by
  have hl := h.length
  obtain ⟨h1, _⟩ := List.getElem?_eq_some_iff.mp e
  have hv : vs[i]? = some (vs[i]'(by omega)) := List.getElem?_eq_getElem (by omega)
  obtain ⟨d', h2, h3⟩ := h.get hv
  rw [e] at h2; cases h2
  exact ⟨_, hv, h3⟩
theorem AtL.append : ∀ {ds es : List PyData} {vs us : List V}, AtL M H vs ds → AtL M H us es → AtL M H (vs ++ us) (ds ++ es)
  | [], _, _, _, h, g => by cases h; exact g
  | d :: ds, _, _, _, h, g => by
    cases h with
    | cons a r => exact .cons a (AtL.append r g)
theorem AtL.one {d : PyData} {v : V} (h : At M H v d) : AtL M H [v] [d] := .cons h .nil
theorem AtL.drop : ∀ {ds : List PyData} {vs : List V} (n : Nat), AtL M H vs ds → AtL M H (vs.drop n) (ds.drop n)
  | _, _, 0, h => h
  | [], _, n + 1, h => by cases h; exact .nil
  | d :: ds, _, n + 1, h => by
    cases h with
    | cons a r => exact AtL.drop n r
theorem AtL.take : ∀ {ds : List PyData} {vs : List V} (n : Nat), AtL M H vs ds → AtL M H (vs.take n) (ds.take n)
  | _, _, 0, h => .nil
  | [], _, n + 1, h => by cases h; exact .nil
  | d :: ds, _, n + 1, h => by
    cases h with
    | cons a r => exact .cons a (AtL.take n r)
theorem AtL.rev : ∀ {ds : List PyData} {vs : List V}, AtL M H vs ds → AtL M H vs.reverse ds.reverse
  | [], _, h => by cases h; exact .nil
  | d :: ds, _, h => by
    cases h with
    | cons a r => rw [List.reverse_cons, List.reverse_cons]; exact (AtL.rev r).append (.one a)
theorem AtL.ints : ∀ ns : List Int, AtL M H (ns.map V.int) (ns.map PyData.int)
  | [] => .nil
  | n :: r => .cons (.int n) (AtL.ints r)
theorem AtL.bls : ∀ ns : List Bool, AtL M H (ns.map V.bl) (ns.map PyData.bool)
  | [] => .nil
  | n :: r => .cons (.bl n) (AtL.bls r)
/-- a datum's value tells its scalar -/
theorem At.int_of {v : V} {i : Int} (h : At M H v (.int i)) : v = .int i := by cases h; rfl
theorem At.str_of {v : V} {i : Str} (h : At M H v (.str i)) : v = .str i := by cases h; rfl
theorem At.tup_of {v : V} {ds : List PyData} (h : At M H v (.tuple ds)) : ∃ a xs, v = .ref a ∧ H a = some (.tup xs) ∧ AtL M H xs ds := by
  cases h with
  | tup e r => exact ⟨_, _, rfl, e, r⟩
theorem At.lst_of {v : V} {ds : List PyData} (h : At M H v (.list ds)) : ∃ a xs, v = .ref a ∧ H a = some (.lst xs) ∧ ¬ M a ∧ AtL M H xs ds := by
  cases h with
  | lst e n r => exact ⟨_, _, rfl, e, n, r⟩
end

/-! ### the kind of a value -/
def isI : PyData → Bool
  | .int _ => true
  | _ => false
def isTup : PyData → Bool
  | .tuple _ => true
  | _ => false
def isLst : PyData → Bool
  | .list _ => true
  | _ => false
def isB : PyData → Bool
  | .bool _ => true
  | _ => false
def isS : PyData → Bool
  | .str _ => true
  | _ => false
def tyD : PyData → String
  | .none => "NoneType"
  | .bool _ => "bool"
  | .int _ => "int"
  | .str _ => "str"
  | .list _ => "list"
  | .tuple _ => "tuple"
  | .dict _ => "dict"
theorem At.ty {K : PySem.W.Frag} {M : Addr → Prop} {H : Hp} {v : V} {d : PyData} (h : At M H v d) : TyX K H v (.type (tyD d)) := by
  cases h with
  | non => exact .base .non
  | bl b => exact .base (.bl b)
  | int i => exact .base (.int i)
  | str x => exact .base (.str x)
  | lst e n r => exact .base (.lst e)
  | tup e r => exact .base (.tup e)
/-- isinstance(v, int) and the like -/
theorem kit_int {K : PySem.W.Frag} (d : PyData) : PySem.W.kitOne K (.type (tyD d)) (.type "int") = some (isI d || isB d) := by
  cases d <;> (refine kit_ty ?_; simp only [tyD, isI, isB, isS, isTup, isLst]; decide +kernel)
theorem kit_bool {K : PySem.W.Frag} (d : PyData) : PySem.W.kitOne K (.type (tyD d)) (.type "bool") = some (isB d) := by
  cases d <;> (refine kit_ty ?_; simp only [tyD, isI, isB, isS, isTup, isLst]; decide +kernel)
theorem kit_tup {K : PySem.W.Frag} (d : PyData) : PySem.W.kitOne K (.type (tyD d)) (.type "tuple") = some (isTup d) := by
  cases d <;> (refine kit_ty ?_; simp only [tyD, isI, isB, isS, isTup, isLst]; decide +kernel)
theorem kit_lst {K : PySem.W.Frag} (d : PyData) : PySem.W.kitOne K (.type (tyD d)) (.type "list") = some (isLst d) := by
  cases d <;> (refine kit_ty ?_; simp only [tyD, isI, isB, isS, isTup, isLst]; decide +kernel)
theorem kit_str {K : PySem.W.Frag} (d : PyData) : PySem.W.kitOne K (.type (tyD d)) (.type "str") = some (isS d) := by
  cases d <;> (refine kit_ty ?_; simp only [tyD, isI, isB, isS, isTup, isLst]; decide +kernel)
end KD

set_option Elab.async false
set_option linter.all false
set_option maxRecDepth 100000
set_option maxHeartbeats 4000000
/-! Rules that the hand layer lacks: sorted(tuple of ints), x in tuple of data, t[::-1]. -/
namespace KR
open PySem PySem.Spec PyProof.Rows L2 GxR GA KD
section
variable {prog : Program} {w : World} {A : Around} {E : Value → Shared → Prop} {s : Shared}
theorem sorted_tup {t : Addr} {vs : List Value} {ns : List Int} {Q : Value → Shared → Prop} (ht : IsTup s.heap t vs.toArray) (hI : IntsAre vs ns) (h64 : vs.length < 64)
    (h : ∀ (out : List Value) (ns' : List Int) (h1 h' : Heap) (a : Addr) (e : Nat), IntsAre out ns' → ns'.Perm ns → ns'.Pairwise (· ≤ ·) → (∀ b o, s.heap.get? b = some o → h1.get? b = some o) → (∀ b o, h1.get? b = some o → h'.get? b = some o) → h1.objs.size ≤ a → h'.get? a = some (seqObj "list" out.toArray e) → Q (.ref a) { s with heap := h' }) :
    wpAny (model prog w) A (call (.builtin "sorted") [.ref t]) Q E s := by
  obtain ⟨o, ho, hc, n, hd⟩ := id ht
  refine Calls.call_function_entry kind_sorted plain_sorted entry_sorted (args_sorted1 _) ?_
  unfold Builtin.«sorted»
  refine wpAny_bind (m := checkCount "sorted" 1 1 _) (wpAny_pure ?_)
  refine wpAny_bind (wpAny_collect_seq t (.inr rfl) ho hc hd (fun h1 k1 => ?_) (by rw [List.size_toArray]; exact small64 h64))
  refine wpAny_bind (wpAny_newList ?_ (by show _ ≤ _; exact small64 h64))
  have hoL : (h1.push (seqObj "list" vs.toArray 0)).get? h1.objs.size = some (seqObj "list" vs.toArray 0) := Heap.get?_push_size _ rfl
  have k2 : ∀ b o, h1.get? b = some o → b < h1.objs.size ∧ (h1.push (seqObj "list" vs.toArray 0)).get? b = some o := fun b o e => ⟨Heap.lt_size e, Heap.get?_push_of_some _ e⟩
  refine wpAny_bind (wpAny_holding (wpAny_call_entry slot_list_sort ⟨_, hoL, rfl⟩ entry_list_sort (list_sort_tree hoL hI h64 fun out ns' a1 a2 a3 => ⟨_, rfl, ?_⟩) (args_list_sort _)))
  refine wpAny_pure ⟨_, rfl, ?_⟩
  obtain ⟨e, he⟩ := sortedHeap_at (out := out) hoL
  refine h out.toList ns' h1 _ _ e a1 a2 a3 k1 (fun b o q => ?_) (Nat.le_refl _) (by simpa using he)
  obtain ⟨q1, q2⟩ := k2 b o q
  rw [sortedHeap_old (Nat.ne_of_lt q1) (by rw [size_push']; exact Nat.lt_succ_of_lt q1)]
  exact q2
end
section
variable {X : Cx}
def rSortedTp (K : PySem.W.Frag) : List V → Hp → VK → Prop := fun vs H Q => ∃ (a : Addr) (ns : List Int), vs = [V.ref a] ∧ SqT K H a (ns.map V.int) ∧ ns.length < 64 ∧ ∀ (ns' : List Int) (p : Addr), ns'.Perm ns → ns'.Pairwise (· ≤ ·) → H p = none → Q (.ref p) (upd H p (.lst (ns'.map V.int)))
theorem cr_sortedTp : CallR X (.builtin "sorted") (rSortedTp X.K) := by
  intro pins s σ H vs us Q I r h
  obtain ⟨a, ns, rfl, hs, h64, q⟩ := h
  obtain ⟨its, rv, hl, _⟩ := I.tuple hs
  rw [Vals.ref1 r]
  have hi := rv.ints
  refine sorted_tup hl hi (by rw [hi.length]; exact h64) fun out ns' hh h' p e h1 h2 h3 hk0 hk hp he => ?_
  have I1 := I.kept (t' := s.toks) hk0
  have hlen : (ns'.map V.int).length ≤ sizeLine := by rw [List.length_map, h2.length_eq]; exact small64 h64
  exact ⟨.ref _, upd H p (.lst (ns'.map V.int)), I1.laid (t' := s.toks) hk hp ⟨hlen, out, e, vals_of_ints h1, he⟩, rfl, q ns' _ h2 h3 (I1.hok.fresh hp)⟩
def rInT (K : PySem.W.Frag) (neg : Bool) : R2 := fun x y H Q => ∃ d ds, Dp K H x d ∧ Dp K H y (.tuple ds) ∧ SeqAt.shaped d = true ∧ SeqAt.shaped (.tuple ds) = true ∧ Q (.bl (if neg then !(ds.any fun z => PyData.eqv z d) else ds.any fun z => PyData.eqv z d)) H
theorem op_inT (hu : X.A.units + 65 < cLine) : OpR X (compareOp .In) (rInT X.K false) := by
  intro pins s σ H x y v u Q I rx ry h
  obtain ⟨d, ds, hd, he, sd, se, q⟩ := h
  obtain ⟨as, r1⟩ := Dp.reads I d x v hd rx
  obtain ⟨bs, r2⟩ := Dp.reads I (.tuple ds) y u he ry
  exact SeqAt.in_tuple_reads r2 r1 (SeqAt.canLay_of_shaped se) (SeqAt.canLay_of_shaped sd) (room_in_shaped sd hu) ⟨.bl _, H, I, rfl, q⟩
theorem op_notInT (hu : X.A.units + 65 < cLine) : OpR X (compareOp .NotIn) (rInT X.K true) := by
  intro pins s σ H x y v u Q I rx ry h
  obtain ⟨d, ds, hd, he, sd, se, q⟩ := h
  obtain ⟨as, r1⟩ := Dp.reads I d x v hd rx
  obtain ⟨bs, r2⟩ := Dp.reads I (.tuple ds) y u he ry
  exact SeqAt.notIn_tuple_reads r2 r1 (SeqAt.canLay_of_shaped se) (SeqAt.canLay_of_shaped sd) (room_in_shaped sd hu) ⟨.bl _, H, I, rfl, q⟩
end

/-! ### t[::-1] -/
section
variable {prog : Program} {w : World} {A : Around} {E : Value → Shared → Prop} {s : Shared}
theorem getItem_tuple_rev {t sl : Addr} {items : Array Value} {vs : Value} {Q : Value → Shared → Prop} (ht : IsTup s.heap t items) (hs : s.heap.IsSliceOf sl .none .none vs) (ps : IsPart vs (some (-1)))
    (h : Q (.ref s.heap.objs.size) { s with heap := s.heap.push { cls := .type "tuple", data := .seq items.toList.reverse.toArray } })
    (hsz : items.size ≤ sizeLine) : wpAny (model prog w) A (getItem (.ref t) (.ref sl)) Q E s := by
  have htake : sizeOk (.seq items.toList.reverse.toArray) := by
    show items.toList.reverse.toArray.size ≤ sizeLine
    rw [List.size_toArray, List.length_reverse, Array.length_toList]
    omega
  obtain ⟨os, hos, hcs, hds⟩ := id hs
  have hTs : s.TypeIs (.ref sl) "slice" := ⟨os, hos, hcs⟩
  unfold getItem
  try with_reducible refine wpAny_holding ?_
  first | refine wpAny_bind (wpAny_pure ?_) | skip
  refine wpAny_bind (wpAny_sequenceKey ht.typeIs (by decide) ?_)
  refine wpAny_bind (wpAny_callSpecial?_slot (name := Str.ofString "__getitem__") ht.typeIs PyProof.Rows.slot_tuple_getitem
    (wpAny_call_entry PyProof.Rows.slot_tuple_getitem ht.typeIs entry_tuple_getitem ?_ (args_tuple_getitem _ _)))
  show wpAny _ _ (Builtin.Tuple.tupleItemsOf (.ref t) >>= _) _ _ s
  refine wpAny_bind (tupleItemsOf_ ht ?_)
  refine wpAny_bind (wpAny_typeOf hTs ?_)
  rw [if_pos (by decide)]
  have adj : Builtin.Slice.sliceAdjust none none (-1) (items.size : Int) = ((items.size : Int) - 1, -1) := by
    unfold Builtin.Slice.sliceAdjust
    simp
  have plc : Builtin.Slice.slicePlaces ((items.size : Int) - 1) (-1) (-1) = items.size := by
    unfold Builtin.Slice.slicePlaces
    simp
    try omega
  refine wpAny_bind ?_
  unfold Builtin.Slice.sliceApplied Builtin.Slice.sliceFields
  refine wpAny_bind (wpAny_bind (wpAny_field hos hds (x := .none) rfl (wpAny_bind (wpAny_field hos hds (x := .none) rfl (wpAny_bind (wpAny_field hos hds (x := vs) rfl (wpAny_pure ?_)))))))
  refine wpAny_bind (HT.slicePart_ ps ?_)
  show wpAny _ _ (if ((-1 : Int) == 0) = true then _ else _) _ _ s
  rw [if_neg (by decide)]
  refine wpAny_bind (HT.slicePart_ .none (wpAny_bind (HT.slicePart_ .none (wpAny_bind (wpAny_pure ?_)))))
  show wpAny _ _ (match Builtin.Slice.sliceAdjust none none (-1) (items.size : Int) with | (lo, hi) => pure (lo, (-1 : Int), Builtin.Slice.slicePlaces lo hi (-1))) _ _ s
  rw [adj]
  show wpAny _ _ (pure ((items.size : Int) - 1, (-1 : Int), Builtin.Slice.slicePlaces ((items.size : Int) - 1) (-1) (-1))) _ _ s
  rw [plc]
  refine wpAny_pure ?_
  show wpAny _ _ (if (((items.size : Int) - 1) == 0 && (-1 : Int) == 1 && items.size == items.size) = true then _ else _) _ _ s
  rw [if_neg (by
    intro q
    rw [Bool.and_eq_true, Bool.and_eq_true] at q
    exact absurd q.1.2 (by decide))]
  have pick : ((List.range items.size).filterMap fun (m : Nat) => items[((items.size : Int) - 1 + (m : Int) * (-1)).toNat]?).toArray = items.toList.reverse.toArray := by
    have e : (List.range items.size).filterMap (fun (m : Nat) => items[((items.size : Int) - 1 + (m : Int) * (-1)).toNat]?) = ((List.range items.size).map fun k => items.size - 1 - k).filterMap (items[·]?) := by
      rw [List.filterMap_map]
      have ef : (fun (m : Nat) => items[((items.size : Int) - 1 + (m : Int) * (-1)).toNat]?) = ((fun x => items[x]?) ∘ fun k => items.size - 1 - k) := by
        funext m
        have : ((items.size : Int) - 1 + (m : Int) * (-1)).toNat = items.size - 1 - m := by omega
        show items[((items.size : Int) - 1 + (m : Int) * (-1)).toNat]? = items[items.size - 1 - m]?
        rw [this]
      rw [ef]
    rw [e, PySem.W.krv_range, List.filterMap_reverse, PySem.W.krv_all]
  rw [pick]
  first
    | exact wpAny_bind (m := Builtin.Tuple.tupleExact _) (wpAny_newObj_type (wpAny_pure ⟨_, rfl, wpAny_pure h⟩) htake)
    | exact wpAny_bind (m := Builtin.Tuple.tupleExact _) (wpAny_newObj_type (wpAny_bind (wpAny_pure (wpAny_pure ⟨_, rfl, wpAny_pure h⟩))) htake)
    | exact wpAny_bind (wpAny_bind (m := Builtin.Tuple.tupleExact _) (wpAny_newObj_type (wpAny_pure (wpAny_pure ⟨_, rfl, wpAny_pure h⟩)) htake))
    | exact wpAny_bind (wpAny_bind (m := Builtin.Tuple.tupleExact _) (wpAny_newObj_type (wpAny_pure ⟨_, rfl, wpAny_pure h⟩) htake))
end
section
variable {X : Cx}
def tRevT (K : PySem.W.Frag) (te : TE) : TE := fun σ H Q => te σ H fun x H1 => ∃ a xs, x = .ref a ∧ SqT K H1 a xs ∧ ∀ p, H1 p = none → Q (.ref p) (upd H1 p (.tup xs.reverse))
theorem pe_revT {e : Expr} {te : TE} {k : Nat} {p1 p2 p3 pos : Pos} (he : PE X e te) : PE X (.Subscript e (.Slice none none (some (.UnaryOp .USub (.Constant (.int 1) k p1) p2)) p3) pos) (tRevT X.K te) := by
  refine ⟨fun pins s σ H Q I h => ?_⟩
  refine Subscript_ (thn (he.run pins s σ H _ I h) fun v s1 ⟨x, H1, I1, r1, q1⟩ => ?_)
  obtain ⟨a, xs, ex, hx, q⟩ := q1
  subst ex
  cases r1
  have hst : PO X (some (.UnaryOp .USub (.Constant (.int 1) k p1) p2)) (tPart (tUn (rU fun i => .int (-i)) (tC (.int 1)))) := po_some (pe_un un_neg pe_int)
  refine wpAny_Slice (thn (po_none.run pins s1 σ H1 (fun o H2 => o = none ∧ H2 = H1) I1 ⟨rfl, rfl⟩) fun vl s2 ⟨l, H2, I2, pl, el, e2⟩ => ?_)
  subst el e2
  refine thn (po_none.run pins s2 σ H2 (fun o H3 => o = none ∧ H3 = H2) I2 ⟨rfl, rfl⟩) fun vu s3 ⟨u, H3, I3, pu, eu, e3⟩ => ?_
  subst eu e3
  refine thn (hst.run pins s3 σ H3 (fun o H4 => o = some (-1) ∧ H4 = H3) I3 ⟨1, rfl, -1, rfl, rfl, rfl⟩) fun vs s4 ⟨o, H4, I4, ps, eo, e4⟩ => ?_
  subst eo e4
  cases pl
  cases pu
  have I5 : Inv X pins σ H4 { s4 with heap := s4.heap.push { cls := .type "slice", data := .fields #[.none, .none, vs] } } := I4.kept (t' := s4.toks) fun b ob q => Heap.get?_push_of_some _ q
  obtain ⟨its, r, ht, hz⟩ := I5.tuple hx
  have hlen := r.length
  show wpAny (model X.prog X.w) X.A (subscriptTail e (.Slice none none (some (.UnaryOp .USub (.Constant (.int 1) k p1) p2)) p3) (.ref a) (.ref s4.heap.objs.size)) (EP X pins σ Q) X.xe { s4 with heap := s4.heap.push { cls := .type "slice", data := .fields #[.none, .none, vs] } }
  refine tail_any (ops := [.ref a, .ref s4.heap.objs.size]) ht.typeIs PyProof.Rows.slot_tuple_getitem.lookup ?_ (by with_unfolding_all rfl)
  refine getItem_tuple_rev ht (Heap.IsSliceOf.new _ .none .none vs) ps ?_ (by rw [List.size_toArray]; omega)
  refine ⟨.ref _, _, I5.laid (t' := s4.toks) (o := .tup xs.reverse) (fun b ob q => Heap.get?_push_of_some _ q) (Nat.le_refl _) ?_, rfl, q _ (I5.hok.fresh (Nat.le_refl _))⟩
  exact ⟨by rw [List.length_reverse]; exact hz, _, r.reverse, IsTup.new _ _⟩
end
end KR

set_option Elab.async false
set_option linter.all false
set_option maxRecDepth 100000
set_option maxHeartbeats 4000000
/-! What is a plan, as functions over data. -/
namespace KM
open PySem KD

def wd (w : Str) : Bool := decide (w = "then") || decide (w = "beside")
mutual
def formed : PyData → Str → Option (List Int)
  | .int i, _ => some [i]
  | .tuple [.str w, .tuple ps], o => if (wd w && !decide (w = o) && decide (2 ≤ ps.length)) = true then formedL ps w else none
  | _, _ => none
termination_by d => sizeOf d
def formedL : List PyData → Str → Option (List Int)
  | [], _ => some []
  | p :: r, w => match formed p w, formedL r w with
    | some a, some b => some (a ++ b)
    | _, _ => none
termination_by ds => sizeOf ds
end
theorem formed_int (i : Int) (o : Str) : formed (.int i) o = some [i] := by rw [formed]
theorem formed_parts (w o : Str) (ps : List PyData) : formed (.tuple [.str w, .tuple ps]) o = if (wd w && !decide (w = o) && decide (2 ≤ ps.length)) = true then formedL ps w else none := by rw [formed]
theorem formedL_nil (w : Str) : formedL [] w = some [] := by rw [formedL]
theorem formedL_cons (p : PyData) (r : List PyData) (w : Str) : formedL (p :: r) w = (match formed p w, formedL r w with
    | some a, some b => some (a ++ b)
    | _, _ => none) := by rw [formedL]
mutual
theorem formed_ne : ∀ (d : PyData) (o : Str) (l : List Int), formed d o = some l → l ≠ []
  | .int i, o, l, h => by rw [formed_int] at h; cases h; simp
  | .tuple [.str w, .tuple ps], o, l, h => by
    rw [formed_parts] at h
    split at h
    · rename_i c
      simp only [Bool.and_eq_true, decide_eq_true_eq] at c
      have q := formedL_len ps w l h
      intro e
      rw [e] at q
      have : ps.length ≤ 0 := q
      omega
    · cases h
  | .none, o, l, h => by rw [formed] at h <;> first | cases h | (intros; simp_all)
  | .bool _, o, l, h => by rw [formed] at h <;> first | cases h | (intros; simp_all)
  | .str _, o, l, h => by rw [formed] at h <;> first | cases h | (intros; simp_all)
  | .list _, o, l, h => by rw [formed] at h <;> first | cases h | (intros; simp_all)
  | .dict _, o, l, h => by rw [formed] at h <;> first | cases h | (intros; simp_all)
  | .tuple xs, o, l, h => by
    unfold formed at h
    split at h
    · rename_i e; cases e
    · rename_i w ps heq
      injection heq with heq
      subst heq
      split at h
      · rename_i c
        simp only [Bool.and_eq_true, decide_eq_true_eq] at c
        have q := formedL_len ps w l h
        intro e
        rw [e] at q
        have : ps.length ≤ 0 := q
        omega
      · cases h
    · cases h
termination_by d => sizeOf d
theorem formedL_len : ∀ (ds : List PyData) (w : Str) (l : List Int), formedL ds w = some l → ds.length ≤ l.length
  | [], w, l, h => Nat.zero_le _
  | p :: r, w, l, h => by
    rw [formedL_cons] at h
    split at h
    · rename_i a b e1 e2
      cases h
      have h1 := formed_ne p w a e1
      have h2 := formedL_len r w b e2
      have h3 : 0 < a.length := List.length_pos_iff.mpr h1
      rw [List.length_append, List.length_cons]
      omega
    · cases h
termination_by ds => sizeOf ds
end

/-! ### a permutation of 0, 1, .. -/
def full (l : List Int) : Prop := ∀ k : Nat, k < l.length → (k : Int) ∈ l
instance (l : List Int) : Decidable (full l) := by unfold full; exact inferInstance
def okL (l : List Int) : Bool := decide (l.length ≤ 7 ∧ full l)
def rng (n : Nat) : List Int := (List.range n).map Int.ofNat
theorem rng_length (n : Nat) : (rng n).length = n := by simp [rng]
theorem mem_rng {n : Nat} {x : Int} : x ∈ rng n ↔ 0 ≤ x ∧ x < n := by
  unfold rng
  rw [List.mem_map]
  constructor
  · rintro ⟨k, hk, rfl⟩
    have := List.mem_range.mp hk
    simp only [Int.ofNat_eq_natCast]
    omega
  · intro ⟨h1, h2⟩
    exact ⟨x.toNat, List.mem_range.mpr (by omega), by simp only [Int.ofNat_eq_natCast]; omega⟩
theorem rng_sorted (n : Nat) : (rng n).Pairwise (· ≤ ·) := by
  unfold rng
  rw [List.pairwise_map]
  refine List.Pairwise.imp ?_ (List.pairwise_lt_range (n := n))
  intro a b h
  simp only [Int.ofNat_eq_natCast]
  omega
theorem full_perm : ∀ (n : Nat) (l : List Int), l.length = n → full l → l.Perm (rng n)
  | 0, l, h, _ => by
    have : l = [] := List.length_eq_zero_iff.mp h
    subst this
    exact List.Perm.refl _
  | n + 1, l, h, f => by
    have hm : (n : Int) ∈ l := f n (by omega)
    have h1 := List.perm_cons_erase hm
    have hl : (l.erase (n : Int)).length = n := by rw [List.length_erase_of_mem hm]; omega
    have ih := full_perm n (l.erase (n : Int)) hl fun k hk => by
      rw [hl] at hk
      have := f k (by omega)
      exact (List.mem_erase_of_ne (by omega)).mpr this
    refine h1.trans ((List.Perm.cons _ ih).trans ?_)
    have e : rng (n + 1) = rng n ++ [(n : Int)] := by
      unfold rng
      rw [List.range_succ, List.map_append]
      rfl
    rw [e]
    exact (List.perm_append_singleton _ _).symm
theorem full_of_perm {l l' : List Int} (p : l.Perm l') (f : full l) : full l' := fun k hk => p.mem_iff.mp (f k (by rw [p.length_eq]; exact hk))
theorem okL_perm {l l' : List Int} (p : l.Perm l') : okL l = okL l' := by
  unfold okL
  rw [decide_eq_decide]
  constructor
  · exact fun ⟨a, b⟩ => ⟨by rw [← p.length_eq]; exact a, full_of_perm p b⟩
  · exact fun ⟨a, b⟩ => ⟨by rw [p.length_eq]; exact a, full_of_perm p.symm b⟩
theorem sorted_rng {l l' : List Int} {n : Nat} (p : l'.Perm l) (s : l'.Pairwise (· ≤ ·)) : l' = rng n ↔ l.length = n ∧ full l := by
  constructor
  · intro e
    subst e
    have hl : l.length = n := by rw [← p.length_eq, rng_length]
    exact ⟨hl, fun k hk => p.mem_iff.mp (mem_rng.mpr ⟨by omega, by omega⟩)⟩
  · intro ⟨h1, h2⟩
    have q := full_perm n l h1 h2
    exact List.Perm.eq_of_pairwise (fun _ _ _ _ a b => Int.le_antisymm a b) s (rng_sorted n) (p.trans q)
theorem okL_mem {l : List Int} (h : okL l = true) {x : Int} (hx : x ∈ l) : 0 ≤ x ∧ x < l.length ∧ x < 7 := by
  have q := of_decide_eq_true h
  have := (full_perm _ l rfl q.2).mem_iff.mp hx
  have := mem_rng.mp this
  omega

/-! ### the verdict -/
def allF : List (Str × PyData) → Option (List Int)
  | [] => some []
  | (o, d) :: r => match formed d o, allF r with
    | some a, some b => some (a ++ b)
    | _, _ => none
def verd (found : List Int) (ws : List (Str × PyData)) : Nat := match allF ws with
  | some l => if okL (found ++ l) = true then (found ++ l).length else 0
  | none => 0
theorem allF_app : ∀ (ws us : List (Str × PyData)), allF (ws ++ us) = (match allF ws, allF us with
    | some a, some b => some (a ++ b)
    | _, _ => none)
  | [], us => by
    show allF us = _
    cases allF us <;> rfl
  | (o, d) :: r, us => by
    show (match formed d o, allF (r ++ us) with | some a, some b => some (a ++ b) | _, _ => none) = (match (match formed d o, allF r with | some a, some b => some (a ++ b) | _, _ => none), allF us with | some a, some b => some (a ++ b) | _, _ => none)
    rw [allF_app r us]
    cases formed d o <;> cases allF r <;> cases allF us <;> simp
theorem allF_map (w : Str) : ∀ ps : List PyData, allF (ps.map fun p => (w, p)) = formedL ps w
  | [] => by rw [formedL_nil]; rfl
  | p :: r => by
    rw [formedL_cons, ← allF_map w r]
    rfl
theorem allF_one (o : Str) (d : PyData) : allF [(o, d)] = formed d o := by
  show (match formed d o, some ([] : List Int) with | some a, some b => some (a ++ b) | _, _ => none) = formed d o
  cases formed d o <;> simp
theorem allF_len : ∀ (ws : List (Str × PyData)) (l : List Int), allF ws = some l → ws.length ≤ l.length
  | [], l, h => Nat.zero_le _
  | (o, d) :: r, l, h => by
    have h : (match formed d o, allF r with | some a, some b => some (a ++ b) | _, _ => none) = some l := h
    split at h
    · rename_i a b e1 e2
      cases h
      have h1 := formed_ne d o a e1
      have h2 := allF_len r b e2
      have h3 : 0 < a.length := List.length_pos_iff.mpr h1
      rw [List.length_append, List.length_cons]
      omega
    · cases h
theorem verd_task {found : List Int} {ws : List (Str × PyData)} {o : Str} {i : Int} : verd found (ws ++ [(o, .int i)]) = verd (found ++ [i]) ws := by
  unfold verd
  rw [allF_app, allF_one, formed_int]
  cases h : allF ws with
  | none => rfl
  | some l =>
    show (if okL (found ++ (l ++ [i])) = true then (found ++ (l ++ [i])).length else 0) = if okL (found ++ [i] ++ l) = true then (found ++ [i] ++ l).length else 0
    have p : (found ++ (l ++ [i])).Perm (found ++ [i] ++ l) := by
      rw [List.append_assoc]
      exact List.Perm.append_left _ List.perm_append_comm
    rw [okL_perm p, p.length_eq]
theorem verd_noTask {found : List Int} {ws : List (Str × PyData)} {o : Str} {i : Int} (h : ¬ (0 ≤ i ∧ i < 7)) : verd found (ws ++ [(o, .int i)]) = 0 := by
  rw [verd_task]
  unfold verd
  cases allF ws with
  | none => rfl
  | some l =>
    show (if okL (found ++ [i] ++ l) = true then _ else 0) = 0
    rw [if_neg fun q => h ?_]
    have := okL_mem q (x := i) (by simp)
    omega
theorem verd_parts {found : List Int} {ws : List (Str × PyData)} {o w : Str} {ps : List PyData} (h1 : wd w = true) (h2 : w ≠ o) (h3 : 2 ≤ ps.length) :
    verd found (ws ++ [(o, .tuple [.str w, .tuple ps])]) = verd found (ws ++ ps.map fun p => (w, p)) := by
  unfold verd
  rw [allF_app, allF_one, formed_parts, allF_app, allF_map, if_pos (by simp [h1, h2, h3])]
theorem verd_none {found : List Int} {ws : List (Str × PyData)} {o : Str} {d : PyData} (h : formed d o = none) : verd found (ws ++ [(o, d)]) = 0 := by
  unfold verd
  rw [allF_app, allF_one, h]
  cases allF ws <;> rfl
theorem verd_many {found : List Int} {ws : List (Str × PyData)} (h : 7 < found.length + ws.length) : verd found ws = 0 := by
  unfold verd
  cases e : allF ws with
  | none => rfl
  | some l =>
    have := allF_len ws l e
    show (if okL (found ++ l) = true then _ else 0) = 0
    rw [if_neg fun q => ?_]
    have := (of_decide_eq_true q).1
    rw [List.length_append] at this
    omega
theorem verd_long {found : List Int} {ws : List (Str × PyData)} {o w : Str} {ps : List PyData} (h : 7 < ps.length) :
    verd found (ws ++ [(o, .tuple [.str w, .tuple ps])]) = 0 := by
  unfold verd
  rw [allF_app, allF_one, formed_parts]
  split
  · rename_i l e
    split at e
    · rename_i a b e1 e2
      cases e
      split at e2
      · have := formedL_len ps w b e2
        rw [if_neg fun q => ?_]
        have := (of_decide_eq_true q).1
        rw [List.length_append, List.length_append] at this
        omega
      · cases e2
    · cases e
  · rfl
def vdt (d : PyData) : Nat := verd [] [(("" : Str), d)]
theorem vdt_eq (d : PyData) : vdt d = (match formed d "" with | some l => if okL l = true then l.length else 0 | none => 0) := by
  unfold vdt verd
  rw [allF_one]
  rfl
theorem vdt_plan {d : PyData} {l : List Int} {n : Nat} (h : formed d "" = some l) (p : l.Perm (rng n)) (h7 : n ≤ 7) : vdt d = n := by
  rw [vdt_eq, h]
  have hl : l.length = n := by rw [p.length_eq, rng_length]
  have : okL l = true := decide_eq_true ⟨by omega, fun k hk => p.mem_iff.mpr (mem_rng.mpr ⟨by omega, by omega⟩)⟩
  show (if okL l = true then l.length else 0) = n
  rw [if_pos this, hl]
/-- what is_plan says of a datum and a size -/
def isSz : PyData → Bool
  | .int n => decide (1 ≤ n ∧ n ≤ 7)
  | _ => false
def isTk (n : Int) : PyData → Bool
  | .int i => decide (0 ≤ i ∧ i < n)
  | _ => false
def isPl (d : PyData) : PyData → Bool
  | .int n => decide (1 ≤ n ∧ n ≤ 7) && decide ((vdt d : Int) = n)
  | _ => false
/-- what the law says -/
def lawPl (d : PyData) (n : Int) : Bool := match formed d "" with
  | some l => decide ((l.length : Int) = n ∧ full l)
  | none => false
theorem isPl_law (d : PyData) (n : Int) (h : 1 ≤ n) : isPl d (.int n) = (decide (n < 8) && lawPl d n) := by
  unfold isPl lawPl
  rw [vdt_eq]
  cases formed d "" with
  | none =>
    have : ¬ (((0 : Nat) : Int) = n) := by omega
    simp only [decide_eq_false this, Bool.and_false]
  | some l =>
    show (decide (1 ≤ n ∧ n ≤ 7) && decide (((if okL l = true then l.length else 0 : Nat) : Int) = n)) = (decide (n < 8) && decide ((l.length : Int) = n ∧ full l))
    by_cases h8 : n < 8
    · have h7 : 1 ≤ n ∧ n ≤ 7 := by omega
      rw [decide_eq_true h7, decide_eq_true h8, Bool.true_and, Bool.true_and, decide_eq_decide]
      by_cases ho : okL l = true
      · rw [if_pos ho]
        exact ⟨fun e => ⟨e, (of_decide_eq_true ho).2⟩, fun e => e.1⟩
      · rw [if_neg ho]
        refine ⟨fun e => ?_, fun e => ?_⟩
        · have : ((0 : Nat) : Int) = n := e
          omega
        · exact absurd (decide_eq_true ⟨by omega, e.2⟩) ho
    · have h7 : ¬ (1 ≤ n ∧ n ≤ 7) := by omega
      rw [decide_eq_false h7, decide_eq_false h8, Bool.false_and, Bool.false_and]
/-- == of two lists of ints -/
theorem eqv_ints : ∀ a b : List Int, PyData.eqv (.list (a.map PyData.int)) (.list (b.map PyData.int)) = decide (a = b) := by
  have key : ∀ a b : List Int, PyData.eqvAll (a.map PyData.int) (b.map PyData.int) = decide (a = b) := by
    intro a
    induction a with
    | nil => intro b; cases b <;> simp [PyData.eqvAll]
    | cons x r ih =>
      intro b
      cases b with
      | nil => simp [PyData.eqvAll]
      | cons y t =>
        simp only [List.map_cons, PyData.eqvAll, PyData.eqv, ih t]
        rw [Bool.eq_iff_iff]
        simp
  intro a b
  simp only [PyData.eqv]
  exact key a b
end KM

set_option Elab.async false
set_option linter.all false
set_option maxRecDepth 100000
set_option maxHeartbeats 4000000
namespace K1
open PySem L2 GxR GA KD KR KM
def top (i : Nat) : Stmt := PySem.Challenge.pw_thenbeside_k01_forms_of_plans.main.body.getD i (.Pass ⟨0, 0, 0, 0⟩)
abbrev sIsInt : Stmt := top 2
abbrev sIsSize : Stmt := top 3
abbrev sIsTask : Stmt := top 4
abbrev sAreTasks : Stmt := top 5
abbrev sIsOrder : Stmt := top 6
abbrev sIsPlan : Stmt := top 9
abbrev sSizeOf : Stmt := top 10
abbrev sHasParts : Stmt := top 11
/-- the built-ins that no name of the module hides, the module's constants -/
structure Bl (K : PySem.W.Frag) (mg : Str → Option Value) : Prop where
  isinstance : mg "isinstance" = none
  int : mg "int" = none
  bool : mg "bool" = none
  tuple : mg "tuple" = none
  list : mg "list" = none
  str : mg "str" = none
  len : mg "len" = none
  sorted : mg "sorted" = none
  range : mg "range" = none
  all : mg "all" = none
  any : mg "any" = none
  abs : mg "abs" = none
  most : ∃ t, mg "MOST_TASKS" = some (.int 7 t)
  words : ∃ a, mg "WORDS" = some (.ref a) ∧ ∀ H : Hp, SqT K H a [.str "then", .str "beside"]
/-! ### promises -/
def spIsInt : Sp := fun vs H Q _ => ∃ (v : V) (d : PyData), vs = [v] ∧ At MN H v d ∧ Q (.bl (isI d)) H
def spIsSize : Sp := fun vs H Q _ => ∃ (v : V) (d : PyData), vs = [v] ∧ At MN H v d ∧ Q (.bl (isSz d)) H
def spIsTask : Sp := fun vs H Q _ => ∃ (v : V) (d : PyData) (n : Int), vs = [v, .int n] ∧ At MN H v d ∧ Q (.bl (isTk n d)) H
def areTk (n : Int) : PyData → Bool
  | .tuple ds => ds.all (isTk n)
  | _ => false
def spAreTasks (PT : Addr) : Sp := fun vs H Q _ => ∃ (v : V) (d : PyData) (n : Int), vs = [v, .int n] ∧ At MN H v d ∧ TabG H PT ∧ ∀ H', Kp MN H H' → Q (.bl (areTk n d)) H'

section
variable {P : Program} {w : World} {K : PySem.W.Frag} {mg : Str → Option Value} {base : Heap}
theorem scIsInt : FnScope ["value"] ["value"] (defScope sIsInt) := ⟨rfl, rfl, rfl, by decide +kernel, rfl, by decide +kernel, by decide +kernel⟩
theorem ok_isInt {f : Addr} {fd : FuncData} (F : Fun K "is_integer" "is_integer" sIsInt f fd) (B : Bl K mg) : FnOk P w K mg base CX0 1 f fd ["value"] spIsInt := by
  refine F.ok scIsInt (fun vs H Q E h => ?_) (fun cdv A outer s H vs Q E hr h => ?_)
  · obtain ⟨v, d, rfl, _⟩ := h
    rfl
  obtain ⟨v, d, rfl, hA, q⟩ := h
  refine ⟨_, pss_one (ps_ret (pe_and (pe_callB call_isi rfl B.isinstance (by decide +kernel) (pa_cons (pv 0) (pa_cons (pe_bltn rfl B.int (by decide +kernel) (v := .ty "int") rfl) pa_nil)))
    (pe_one (pe_not (pe_callB call_isi rfl B.isinstance (by decide +kernel) (pa_cons (pv 0) (pa_cons (pe_bltn rfl B.bool (by decide +kernel) (v := .ty "bool") rfl) pa_nil))))))), ?_⟩
  refine ⟨_, rfl, _, _, _, _, _, rfl, .ty _, hA.ty, kit_int d, _, rfl, ?_⟩
  refine ite2 (fun c => ?_) (fun c => ?_)
  · refine ⟨_, rfl, _, _, _, _, _, rfl, .ty _, hA.ty, kit_bool d, _, rfl, ?_⟩
    have e : (!isB d) = isI d := by cases d <;> simp_all [isI, isB]
    rw [← e] at q
    exact q
  · have e : false = isI d := by cases d <;> simp_all [isI, isB]
    rw [← e] at q
    exact q

theorem scIsSize : FnScope ["value"] ["value"] (defScope sIsSize) := ⟨rfl, rfl, rfl, by decide +kernel, rfl, by decide +kernel, by decide +kernel⟩
theorem ok_isSize {f g : Addr} {fd gd : FuncData} (F : Fun K "is_size" "is_size" sIsSize f fd) (B : Bl K mg) (G : FnOk P w K mg base CX0 1 g gd ["value"] spIsInt) (bG : Binds K gd ["value"] []) (kG : PySem.W.keepIn K (.ref g) = true) (mG : mg "is_integer" = some (.ref g)) :
    FnOk P w K mg base CX0 2 f fd ["value"] spIsSize := by
  refine F.ok scIsSize (fun vs H Q E h => ?_) (fun cdv A outer s H vs Q E hr h => ?_)
  · obtain ⟨v, d, rfl, _⟩ := h
    rfl
  obtain ⟨v, d, rfl, hA, q⟩ := h
  obtain ⟨t, hm⟩ := B.most
  refine ⟨_, pss_one (ps_ret (pe_and (pe_call G hr rfl mG kG bG .nil pass0 (pa_cons (pv 0) pa_nil))
    (pe_one (pe_chain op_le op_le pe_int (pv 0) (pe_glob rfl hm (v := .int 7) ⟨_, rfl⟩))))), ?_⟩
  refine ⟨_, rfl, v, d, rfl, hA, _, rfl, ?_⟩
  cases d with
  | int i =>
    cases hA.int_of
    refine iteT ?_
    refine ⟨_, rfl, _, _, rfl, rfl, _, rfl, ?_⟩
    refine ite2 (fun c => ?_) (fun c => ?_)
    · refine ⟨_, _, rfl, rfl, ?_⟩
      have c' : 1 ≤ i := of_decide_eq_true c
      have e : decide (i ≤ 7) = isSz (.int i) := by show decide (i ≤ 7) = decide (1 ≤ i ∧ i ≤ 7); rw [decide_eq_decide]; omega
      rw [← e] at q
      exact q
    · have c' : ¬ 1 ≤ i := of_decide_eq_false (Bool.eq_false_iff.mpr c)
      have e : false = isSz (.int i) := by show false = decide (1 ≤ i ∧ i ≤ 7); rw [decide_eq_false]; omega
      rw [← e] at q
      exact q
  | _ => exact iteF q
theorem scIsTask : FnScope ["value", "many"] ["value", "many"] (defScope sIsTask) := ⟨rfl, rfl, rfl, by decide +kernel, rfl, by decide +kernel, by decide +kernel⟩
theorem ok_isTask {f g : Addr} {fd gd : FuncData} (F : Fun K "is_index" "is_index" sIsTask f fd) (B : Bl K mg) (G : FnOk P w K mg base CX0 1 g gd ["value"] spIsInt) (bG : Binds K gd ["value"] []) (kG : PySem.W.keepIn K (.ref g) = true) (mG : mg "is_integer" = some (.ref g)) :
    FnOk P w K mg base CX0 2 f fd ["value", "many"] spIsTask := by
  refine F.ok scIsTask (fun vs H Q E h => ?_) (fun cdv A outer s H vs Q E hr h => ?_)
  · obtain ⟨v, d, n, rfl, _⟩ := h
    rfl
  obtain ⟨v, d, n, rfl, hA, q⟩ := h
  refine ⟨_, pss_one (ps_ret (pe_and (pe_call G hr rfl mG kG bG .nil pass0 (pa_cons (pv 0) pa_nil))
    (pe_one (pe_chain op_le op_lt pe_int (pv 0) (pv 1))))), ?_⟩
  refine ⟨_, rfl, v, d, rfl, hA, _, rfl, ?_⟩
  cases d with
  | int i =>
    cases hA.int_of
    refine iteT ?_
    refine ⟨_, rfl, _, _, rfl, rfl, _, rfl, ?_⟩
    refine ite2 (fun c => ?_) (fun c => ?_)
    · refine ⟨_, rfl, _, _, rfl, rfl, ?_⟩
      have c' : 0 ≤ i := of_decide_eq_true c
      have e : decide (i < n) = isTk n (.int i) := by show decide (i < n) = decide (0 ≤ i ∧ i < n); rw [decide_eq_decide]; omega
      rw [← e] at q
      exact q
    · have c' : ¬ 0 ≤ i := of_decide_eq_false (Bool.eq_false_iff.mpr c)
      have e : false = isTk n (.int i) := by show false = decide (0 ≤ i ∧ i < n); rw [decide_eq_false]; omega
      rw [← e] at q
      exact q
  | _ => exact iteF q
theorem scAreTasks : FnScope ["value", "many", "item"] ["value", "many"] (defScope sAreTasks) := ⟨rfl, rfl, rfl, by decide +kernel, rfl, by decide +kernel, by decide +kernel⟩
theorem ok_areTasks {f g c PT : Addr} {fd gd : FuncData} (F : FunT K "are_indexes" "are_indexes" sAreTasks f fd c) (TB : TabB base mg c PT) (B : Bl K mg) (G : FnOk P w K mg base CX0 2 g gd ["value", "many"] spIsTask) (bG : Binds K gd ["value", "many"] []) (kG : PySem.W.keepIn K (.ref g) = true) (mG : mg "is_index" = some (.ref g)) :
    FnOk P w K mg base CX0 4 f fd ["value", "many"] (spAreTasks PT) := by
  refine F.ok scAreTasks (fun vs H Q E h => ?_) (fun A outer s H vs Q E hr h => ?_)
  · obtain ⟨v, d, n, rfl, _⟩ := h
    rfl
  obtain ⟨v, d, n, rfl, hA, hT, q⟩ := h
  refine ⟨_, pss_one (ps_ret (pe_and (pe_callB call_isi rfl B.isinstance (by decide +kernel) (pa_cons (pv 0) (pa_cons (pe_bltn rfl B.tuple (by decide +kernel) (v := .ty "tuple") rfl) pa_nil)))
    (pe_one (pe_all (own := [("item", 2)]) (hr : Room (2 + 1) _) rfl B.all TB rfl scAreTasks.nd (gok_by (N := ["value", "many", "item"]) (sc := defScope sAreTasks) (own := [("item", 2)]) (by decide +kernel)) (pi_tup (pv 0)) (fun _ _ _ _ _ _ => pg_name (i := 2) scAreTasks.nd rfl (Or.inl rfl))
      (fun _ _ _ _ _ _ r => pe_call G r rfl mG kG bG .nil pass0 (pa_cons (pv 2) (pa_cons (pv 1) pa_nil))))))), ?_⟩
  refine ⟨_, rfl, _, _, _, _, _, rfl, .ty _, hA.ty, kit_tup d, _, rfl, ?_⟩
  cases d with
  | tuple ds =>
    obtain ⟨a, xs, rfl, hx, hall⟩ := hA.tup_of
    have hl := hall.length
    refine iteT ?_
    refine ⟨_, rfl, a, rfl, ⟨_, SqT.of hx⟩, hT, fun H2 hTb => gen_tup (K := K) (a := a) (xs := xs) (fun i H' => Kp MN H H' ∧ (ds.take i).all (isTk n) = true) ⟨Kp.tabbed hT hTb, rfl⟩ (fun i H' _ p => p.1.seqT (SqT.of hx)) (fun i x H' hi p => ?_) (fun H' p => ?_)⟩
    · obtain ⟨d', hd', ha'⟩ := hall.get hi
      refine ⟨rfl, _, rfl, _, rfl, x, d', n, rfl, ha'.kp p.1, _, rfl, fun e => ?_, fun e => ⟨p.1, ?_⟩⟩
      · have e2 : areTk n (.tuple ds) = false := by
          show ds.all (isTk n) = false
          rw [List.all_eq_false]
          exact ⟨d', List.mem_of_getElem? hd', by rw [e]; exact Bool.false_ne_true⟩
        have := q H' p.1
        rw [e2] at this
        exact this
      · rw [List.take_succ, hd', List.all_append, p.2]
        show (true && (isTk n d' && true)) = true
        rw [e]
        rfl
    · have e2 : areTk n (.tuple ds) = true := by
        have := p.2
        rw [hl, List.take_length] at this
        exact this
      have := q H' p.1
      rw [e2] at this
      exact this
  | _ => exact iteF (q H .refl)

theorem atl_ints {M : Addr → Prop} {H : Hp} : ∀ {l : List Int} {xs : List V}, AtL M H xs (l.map PyData.int) → xs = l.map V.int
  | [], _, h => by cases h; rfl
  | i :: r, _, h => by
    cases h with
    | cons a t => rw [a.int_of, atl_ints t]; rfl
theorem tk_ints {n : Int} : ∀ {ds : List PyData}, ds.all (isTk n) = true → ∃ l : List Int, ds = l.map PyData.int ∧ ∀ x ∈ l, 0 ≤ x ∧ x < n
  | [], _ => ⟨[], rfl, fun _ h => by cases h⟩
  | d :: r, h => by
    rw [List.all_cons, Bool.and_eq_true] at h
    obtain ⟨l, e, q⟩ := tk_ints h.2
    cases d with
    | int i =>
      refine ⟨i :: l, by rw [e]; rfl, fun x hx => ?_⟩
      rcases List.mem_cons.mp hx with z | z
      · rw [z]; exact of_decide_eq_true h.1
      · exact q x z
    | _ => cases h.1
theorem shaped_ints (l : List Int) : SeqAt.shaped (.list (l.map PyData.int)) = true := by
  have h1 : ∀ l : List Int, PyData.canLayAll0 (l.map PyData.int) = true := by
    intro l
    induction l with
    | nil => simp [PyData.canLayAll0]
    | cons x r ih => simp [PyData.canLayAll0, PyData.canLay0, ih]
  have h2 : ∀ l : List Int, PyData.depthAll (l.map PyData.int) ≤ 1 := by
    intro l
    induction l with
    | nil => simp [PyData.depthAll]
    | cons x r ih => simp only [List.map_cons, PyData.depthAll, PyData.depth]; omega
  have h3 := h2 l
  show (PyData.canLay0 (.list (l.map PyData.int)) && decide (PyData.depth (.list (l.map PyData.int)) ≤ 64)) = true
  rw [Bool.and_eq_true]
  refine ⟨by simp only [PyData.canLay0]; exact h1 l, decide_eq_true ?_⟩
  simp only [PyData.depth]
  omega
theorem rgV_rng (n : Nat) : rgV 0 (n : Int) = (rng n).map V.int := by
  unfold rgV rng
  rw [List.map_map]
  have e : ((n : Int) - 0).toNat = n := by omega
  rw [e]
  refine List.map_congr_left fun k _ => ?_
  show V.int (0 + (k : Int)) = V.int (Int.ofNat k)
  rw [Int.zero_add]
  rfl
/-- sorted(l) == list(range(n)) -/
def ordB (l : List Int) (n : Int) : Bool := decide ((l.length : Int) = n ∧ full l)
def intsOf : List PyData → Option (List Int)
  | [] => some []
  | .int i :: r => (intsOf r).map (i :: ·)
  | _ => none
theorem intsOf_map : ∀ l : List Int, intsOf (l.map PyData.int) = some l
  | [] => rfl
  | i :: r => by
    show (intsOf (r.map PyData.int)).map (i :: ·) = _
    rw [intsOf_map r]
    rfl
theorem intsOf_some : ∀ {ds : List PyData} {l : List Int}, intsOf ds = some l → ds = l.map PyData.int
  | [], l, h => by cases h; rfl
  | d :: r, l, h => by
    cases d with
    | int i =>
      have h : (intsOf r).map (i :: ·) = some l := h
      cases q : intsOf r with
      | none => rw [q] at h; cases h
      | some l' =>
        rw [q] at h
        cases h
        rw [intsOf_some q]
        rfl
    | _ => cases h
def isOrd (n : Int) : PyData → Bool
  | .tuple ds => match intsOf ds with
    | some l => ds.all (isTk n) && ordB l n
    | none => false
  | _ => false
theorem isOrd_ints (l : List Int) (n : Int) : isOrd n (.tuple (l.map PyData.int)) = ((l.map PyData.int).all (isTk n) && ordB l n) := by
  show (match intsOf (l.map PyData.int) with | some l' => (l.map PyData.int).all (isTk n) && ordB l' n | none => false) = _
  rw [intsOf_map]
def spIsOrder (PT : Addr) : Sp := fun vs H Q _ => ∃ (v : V) (d : PyData) (n : Nat), vs = [v, .int n] ∧ At MN H v d ∧ TabG H PT ∧ n < 64 ∧ (∀ ds, d = .tuple ds → ds.length < 64) ∧ ∀ H', Kp MN H H' → Q (.bl (isOrd n d)) H'
theorem scIsOrder : FnScope ["value", "many"] ["value", "many"] (defScope sIsOrder) := ⟨rfl, rfl, rfl, by decide +kernel, rfl, by decide +kernel, by decide +kernel⟩
theorem ok_isOrder {f g PT : Addr} {fd gd : FuncData} (F : Fun K "is_order" "is_order" sIsOrder f fd) (B : Bl K mg) (G : FnOk P w K mg base CX0 4 g gd ["value", "many"] (spAreTasks PT)) (bG : Binds K gd ["value", "many"] []) (kG : PySem.W.keepIn K (.ref g) = true) (mG : mg "are_indexes" = some (.ref g)) :
    FnOk P w K mg base CX0 5 f fd ["value", "many"] (spIsOrder PT) := by
  refine F.ok scIsOrder (fun vs H Q E h => ?_) (fun cdv A outer s H vs Q E hr h => ?_)
  · obtain ⟨v, d, n, rfl, _⟩ := h
    rfl
  obtain ⟨v, d, n, rfl, hA, hT, hn, hd, q⟩ := h
  refine ⟨_, pss_one (ps_ret (pe_and (pe_call G hr rfl mG kG bG .nil pass0 (pa_cons (pv 0) (pa_cons (pv 1) pa_nil)))
    (pe_one (pe_cmpR (op_eqD hr.units) (pe_callB cr_sortedTp rfl B.sorted (by decide +kernel) (pa_cons (pv 0) pa_nil)) (pe_listRg rfl rfl B.list (prg_1 rfl B.range (pv 1))) (nomark _))))), ?_⟩
  refine ⟨_, rfl, _, rfl, v, d, n, rfl, hA, hT, fun H1 k1 => ⟨_, rfl, ?_⟩⟩
  by_cases c : areTk n d = true
  · rw [c]
    refine iteT ?_
    cases d with
    | tuple ds =>
      obtain ⟨l, rfl, hl⟩ := tk_ints (show ds.all (isTk n) = true from c)
      obtain ⟨a, xs, rfl, hx, hall⟩ := hA.tup_of
      have exs := atl_ints hall
      subst exs
      have hlen : l.length < 64 := by have := hd _ rfl; rw [List.length_map] at this; exact this
      refine ⟨_, rfl, a, l, rfl, k1.seqT (SqT.of hx), hlen, fun ns' p perm srt hp => ?_⟩
      refine ⟨_, rfl, _, rfl, RgOk.of_le (by omega) (by omega) (by omega) (by omega), fun p2 hp2 => ?_⟩
      have hpp : p2 ≠ p := fun z => by
        rw [z, upd_same] at hp2
        cases hp2
      refine ⟨.list (ns'.map PyData.int), .list ((rng n).map PyData.int), .lst (SqL.of ((upd_ne hpp.symm).trans upd_same)) (AtL.dp (AtL.ints (M := MN) ns')), .lst (SqL.of (upd_same.trans (by rw [rgV_rng]))) (AtL.dp (AtL.ints (M := MN) (rng n))), shaped_ints _, shaped_ints _, ?_⟩
      rw [eqv_ints]
      have e : decide (ns' = rng n) = isOrd n (.tuple (l.map PyData.int)) := by
        rw [isOrd_ints, show (l.map PyData.int).all (isTk n) = true from c, Bool.true_and]
        unfold ordB
        rw [decide_eq_decide]
        rw [sorted_rng (n := n) perm srt]
        exact ⟨fun z => ⟨by omega, z.2⟩, fun z => ⟨by omega, z.2⟩⟩
      rw [e]
      exact q _ (k1.trans ((Kp.new hp).trans (Kp.new hp2)))
    | _ => cases c
  · have c' : areTk n d = false := Bool.eq_false_iff.mpr c
    rw [c']
    refine iteF ?_
    have e : false = isOrd n d := by
      cases d with
      | tuple ds =>
        show false = (match intsOf ds with | some l => ds.all (isTk n) && ordB l n | none => false)
        rw [show ds.all (isTk n) = false from c']
        cases intsOf ds <;> rfl
      | _ => rfl
    rw [e]
    exact q _ k1

theorem shaped_tup {ds : List PyData} {d : PyData} (h : SeqAt.shaped (.tuple ds) = true) (hd : d ∈ ds) : SeqAt.shaped d = true := by
  have key : ∀ ds : List PyData, PyData.canLayAll0 ds = true → PyData.depthAll ds ≤ 64 → ∀ d ∈ ds, SeqAt.shaped d = true := by
    intro ds
    induction ds with
    | nil => intro _ _ d hd; cases hd
    | cons x r ih =>
      intro h1 h2 d hd
      simp only [PyData.canLayAll0, Bool.and_eq_true] at h1
      simp only [PyData.depthAll] at h2
      rcases List.mem_cons.mp hd with z | z
      · rw [z]
        show (PyData.canLay0 x && decide (PyData.depth x ≤ 64)) = true
        rw [Bool.and_eq_true]
        exact ⟨h1.1, decide_eq_true (by omega)⟩
      · exact ih h1.2 (by omega) d z
  have h' : (PyData.canLay0 (.tuple ds) && decide (PyData.depth (.tuple ds) ≤ 64)) = true := h
  rw [Bool.and_eq_true] at h'
  have h2 := of_decide_eq_true h'.2
  simp only [PyData.canLay0] at h'
  simp only [PyData.depth] at h2
  exact key ds h'.1 (by omega) d hd
def inW : PyData → Bool
  | .str s => wd s
  | _ => false
theorem any_words (w : PyData) : ([PyData.str "then", PyData.str "beside"].any fun z => PyData.eqv z w) = inW w := by
  cases w with
  | str s =>
    have e : ∀ a : Str, PyData.eqv (.str a) (.str s) = decide (s = a) := fun a => by
      show (a == s) = decide (s = a)
      rw [Bool.eq_iff_iff, beq_iff_eq, decide_eq_true_eq]
      exact eq_comm
    show (PyData.eqv (.str "then") (.str s) || (PyData.eqv (.str "beside") (.str s) || false)) = _
    rw [e, e, Bool.or_false]
    rfl
  | _ => simp [PyData.eqv, inW]
theorem shaped_words : SeqAt.shaped (.tuple [PyData.str "then", PyData.str "beside"]) = true := by decide +kernel
def hasP : PyData → Bool
  | .tuple [w, .tuple ps] => inW w && decide (2 ≤ ps.length ∧ ps.length ≤ 7)
  | _ => false
theorem room65 {k : Nat} {A : Around} (r : Room k A) : A.units + 65 < cLine := by have := r.un; omega
def spHasParts : Sp := fun vs H Q _ => ∃ (v : V) (d : PyData), vs = [v] ∧ At MN H v d ∧ SeqAt.shaped d = true ∧ Q (.bl (hasP d)) H
theorem scHasParts : FnScope ["value"] ["value"] (defScope sHasParts) := ⟨rfl, rfl, rfl, by decide +kernel, rfl, by decide +kernel, by decide +kernel⟩
theorem dp_words {a : Addr} {H : Hp} (h : SqT K H a [.str "then", .str "beside"]) : Dp K H (.ref a) (.tuple [PyData.str "then", PyData.str "beside"]) := .tup h (.cons (.str _) (.cons (.str _) .nil))
theorem ok_hasParts {f : Addr} {fd : FuncData} (F : Fun K "has_parts" "has_parts" sHasParts f fd) (B : Bl K mg) : FnOk P w K mg base CX0 1 f fd ["value"] spHasParts := by
  refine F.ok scHasParts (fun vs H Q E h => ?_) (fun cdv A outer s H vs Q E hr h => ?_)
  · obtain ⟨v, d, rfl, _⟩ := h
    rfl
  obtain ⟨v, d, rfl, hA, hS, q⟩ := h
  obtain ⟨t, hm⟩ := B.most
  obtain ⟨aw, mw, hw⟩ := B.words
  refine ⟨_, pss_cons (ps_if (PW.pt (pw_or (pt_not (pt_val (pe_callB call_isi rfl B.isinstance (by decide +kernel) (pa_cons (pv 0) (pa_cons (pe_bltn rfl B.tuple (by decide +kernel) (v := .ty "tuple") rfl) pa_nil)))))
      (pw_or (pt_cmpR op_ne (pe_callB call_len_seq rfl B.len PySem.boot_len (pa_cons (pv 0) pa_nil)) pe_int (nomark _))
        (pw_or1 (pt_cmpR (op_notInT (room65 hr)) (pe_ix ix_tup (pv 0) pe_int (fun _ _ => rfl)) (pe_glob rfl mw (v := .ref aw) rfl) rfl)))))
      (pss_one (ps_ret pe_bl)) pss_nil)
    (pss_one (ps_ret (pe_and (pe_callB call_isi rfl B.isinstance (by decide +kernel) (pa_cons (pe_ix ix_tup (pv 0) pe_int (fun _ _ => rfl)) (pa_cons (pe_bltn rfl B.tuple (by decide +kernel) (v := .ty "tuple") rfl) pa_nil)))
      (pe_one (pe_chain op_le op_le pe_int (pe_callB call_len_seq rfl B.len PySem.boot_len (pa_cons (pe_ix ix_tup (pv 0) pe_int (fun _ _ => rfl)) pa_nil)) (pe_glob rfl hm (v := .int 7) ⟨_, rfl⟩)))))), ?_⟩
  refine ⟨_, rfl, _, _, _, _, _, rfl, .ty _, hA.ty, kit_tup d, _, rfl, ?_⟩
  cases d with
  | tuple ds =>
    obtain ⟨a, xs, rfl, hx, hall⟩ := hA.tup_of
    have hl := hall.length
    refine iteF ?_
    refine ⟨_, rfl, a, xs, rfl, .inr (SqT.of hx), rfl, _, rfl, ?_⟩
    refine ite2 (fun c => ?_) (fun c => ?_)
    · refine iteT ?_
      have e : hasP (.tuple ds) = false := by
        have c' : ¬ (xs.length = 2) := fun z => by
          rw [z] at c
          exact absurd c (by decide)
        unfold hasP
        split
        · rename_i e
          injection e with e
          rw [e] at hl
          exact absurd hl c'
        · rfl
      rw [e] at q
      exact q
    · have h2 : xs.length = 2 := by
        have c' := Bool.eq_false_iff.mpr c
        have := of_decide_eq_true (show decide (V.int (xs.length : Int) = V.int 2) = true by simpa using c')
        injection this with this
        omega
      obtain ⟨w0, p0, rfl⟩ : ∃ w0 p0, ds = [w0, p0] := by
        match ds, hl.symm.trans h2 with
        | [w0, p0], _ => exact ⟨w0, p0, rfl⟩
      obtain ⟨vw, vp, rfl⟩ : ∃ vw vp, xs = [vw, vp] := by
        match xs, h2 with
        | [vw, vp], _ => exact ⟨vw, vp, rfl⟩
      have aw0 : At MN H vw w0 := by cases hall with | cons a r => exact a
      have ap0 : At MN H vp p0 := by cases hall with | cons a r => cases r with | cons b _ => exact b
      refine ⟨_, rfl, _, _, _, _, rfl, rfl, SqT.of hx, atI_nat (j := 0) rfl, w0, _, aw0.dp, dp_words (hw H), shaped_tup hS (by simp), shaped_words, ?_⟩
      rw [if_pos rfl, any_words]
      refine ⟨_, rfl, ?_⟩
      by_cases cw : inW w0 = true
      · rw [cw]
        refine iteF ?_
        refine ⟨_, rfl, _, _, _, _, rfl, rfl, SqT.of hx, atI_nat (j := 1) rfl, _, _, _, _, _, rfl, .ty _, ap0.ty, kit_tup p0, _, rfl, ?_⟩
        cases p0 with
        | tuple ps =>
          obtain ⟨a2, xs2, rfl, hx2, hall2⟩ := ap0.tup_of
          have hl2 := hall2.length
          refine iteT ?_
          have e : hasP (.tuple [w0, .tuple ps]) = decide (2 ≤ ps.length ∧ ps.length ≤ 7) := by
            show (inW w0 && _) = _
            rw [cw, Bool.true_and]
          rw [e] at q
          refine ⟨_, rfl, _, _, _, _, rfl, rfl, SqT.of hx, atI_nat (j := 1) rfl, a2, xs2, rfl, .inr (SqT.of hx2), _, _, rfl, rfl, _, rfl, ?_⟩
          refine ite2 (fun c => ?_) (fun c => ?_)
          · have c' : (2 : Int) ≤ (xs2.length : Int) := of_decide_eq_true c
            refine ⟨_, _, rfl, rfl, ?_⟩
            have e2 : decide ((xs2.length : Int) ≤ 7) = decide (2 ≤ ps.length ∧ ps.length ≤ 7) := by rw [decide_eq_decide]; omega
            show Q (.bl (decide ((xs2.length : Int) ≤ 7))) H
            rw [e2]
            exact q
          · have c' : ¬ (2 : Int) ≤ (xs2.length : Int) := of_decide_eq_false (Bool.eq_false_iff.mpr c)
            have e2 : false = decide (2 ≤ ps.length ∧ ps.length ≤ 7) := by rw [eq_comm, decide_eq_false_iff_not]; omega
            show Q (.bl false) H
            rw [e2]
            exact q
        | _ => exact iteF q
      · have cw' := Bool.eq_false_iff.mpr cw
        rw [cw']
        refine iteT ?_
        have e : hasP (.tuple [w0, p0]) = false := by
          cases p0 with
          | tuple ps => show (inW w0 && _) = false; rw [cw']; rfl
          | _ => rfl
        rw [e] at q
        exact q
  | _ => exact iteT q
end
end K1

set_option Elab.async false
set_option linter.all false
set_option maxRecDepth 100000
set_option maxHeartbeats 4000000
namespace K1
open PySem L2 GxR GA KD KR KM

theorem formed_tup {ds : List PyData} {o : Str} {l : List Int} (h : formed (.tuple ds) o = some l) : ∃ w ps, ds = [.str w, .tuple ps] ∧ wd w = true ∧ w ≠ o ∧ 2 ≤ ps.length ∧ formedL ps w = some l := by
  unfold formed at h
  split at h
  · rename_i e; cases e
  · rename_i w ps heq
    injection heq with heq
    subst heq
    split at h
    · rename_i c
      simp only [Bool.and_eq_true, decide_eq_true_eq, Bool.not_eq_true', decide_eq_false_iff_not] at c
      exact ⟨w, ps, rfl, c.1.1, c.1.2, c.2, h⟩
    · cases h
  · cases h
theorem verd_bad {found : List Int} {ws : List (Str × PyData)} {o : Str} {d : PyData} (h1 : isTk 7 d = false) (h2 : hasP d = false) : verd found (ws ++ [(o, d)]) = 0 := by
  cases d with
  | int i => exact verd_noTask (of_decide_eq_false h1)
  | tuple ds =>
    cases e : formed (.tuple ds) o with
    | none => exact verd_none e
    | some l =>
      obtain ⟨w, ps, rfl, c1, c2, c3, _⟩ := formed_tup e
      have h2 : (wd w && decide (2 ≤ ps.length ∧ ps.length ≤ 7)) = false := h2
      rw [c1, Bool.true_and] at h2
      have := of_decide_eq_false h2
      exact verd_long (by omega)
  | none => exact verd_none (by unfold formed; rfl)
  | bool b => exact verd_none (by unfold formed; rfl)
  | str b => exact verd_none (by unfold formed; rfl)
  | list b => exact verd_none (by unfold formed; rfl)
  | dict b => exact verd_none (by unfold formed; rfl)
theorem hasP_some {d : PyData} (h : hasP d = true) : ∃ w ps, d = .tuple [.str w, .tuple ps] ∧ wd w = true ∧ 2 ≤ ps.length ∧ ps.length ≤ 7 := by
  unfold hasP at h
  split at h
  · rename_i w ps
    rw [Bool.and_eq_true] at h
    cases w with
    | str s =>
      have := of_decide_eq_true h.2
      exact ⟨s, ps, rfl, h.1, this.1, this.2⟩
    | _ => cases h.1
  · cases h
noncomputable def msz (ws : List (Str × PyData)) : Nat := (ws.map fun p => sizeOf p.2).sum
theorem msz_app (a b : List (Str × PyData)) : msz (a ++ b) = msz a + msz b := by unfold msz; rw [List.map_append, List.sum_append]
theorem msz_one (o : Str) (d : PyData) : msz [(o, d)] = sizeOf d := by unfold msz; simp
theorem size_pos (d : PyData) : 0 < sizeOf d := by cases d <;> simp <;> omega
theorem msz_map (w : Str) : ∀ ps : List PyData, msz (ps.map fun p => (w, p)) ≤ sizeOf ps
  | [] => by unfold msz; simp
  | p :: r => by
    have := msz_map w r
    have e : msz ((p :: r).map fun p => (w, p)) = sizeOf p + msz (r.map fun p => (w, p)) := by unfold msz; simp
    rw [e]
    simp
    omega
theorem msz_parts (w : Str) (ps : List PyData) : msz (ps.map fun p => (w, p)) < sizeOf (PyData.tuple [.str w, .tuple ps]) := by
  have := msz_map w ps
  simp
  omega
/-- pairs that wait -/
inductive Prs (H0 H : Hp) : List V → List (Str × PyData) → Prop
  | nil : Prs H0 H [] []
  | cons {t : Addr} {o : Str} {v : V} {d : PyData} {vs : List V} {ws : List (Str × PyData)} : H t = some (.tup [.str o, v]) → At MN H0 v d → SeqAt.shaped d = true → Prs H0 H vs ws → Prs H0 H (.ref t :: vs) ((o, d) :: ws)
theorem Prs.kp {H0 H H' : Hp} (k : ∀ b xs, H b = some (.tup xs) → H' b = some (.tup xs)) : ∀ {vs : List V} {ws : List (Str × PyData)}, Prs H0 H vs ws → Prs H0 H' vs ws
  | _, _, .nil => .nil
  | _, _, .cons e a s r => .cons (k _ _ e) a s (Prs.kp k r)
theorem Prs.length {H0 H : Hp} : ∀ {vs : List V} {ws : List (Str × PyData)}, Prs H0 H vs ws → vs.length = ws.length
  | _, _, .nil => rfl
  | _, _, .cons _ _ _ r => congrArg (· + 1) (Prs.length r)
theorem Prs.append {H0 H : Hp} : ∀ {vs us : List V} {ws zs : List (Str × PyData)}, Prs H0 H vs ws → Prs H0 H us zs → Prs H0 H (vs ++ us) (ws ++ zs)
  | _, _, _, _, .nil, g => g
  | _, _, _, _, .cons e a s r, g => .cons e a s (Prs.append r g)
theorem Prs.last {H0 H : Hp} : ∀ {vs : List V} {ws : List (Str × PyData)}, Prs H0 H vs ws → vs ≠ [] → ∃ vs' ws' t o v d, vs = vs' ++ [.ref t] ∧ ws = ws' ++ [(o, d)] ∧ Prs H0 H vs' ws' ∧ H t = some (.tup [.str o, v]) ∧ At MN H0 v d ∧ SeqAt.shaped d = true
  | _, _, .nil, h => absurd rfl h
  | _, _, .cons (t := t) (o := o) (v := v) (d := d) (vs := vs) (ws := ws) e a s r, _ => by
    by_cases q : vs = []
    · subst q
      cases r
      exact ⟨[], [], t, o, v, d, rfl, rfl, .nil, e, a, s⟩
    · obtain ⟨vs', ws', t', o', v', d', e1, e2, r', e3, a', s'⟩ := Prs.last r q
      exact ⟨.ref t :: vs', (o, d) :: ws', t', o', v', d', by rw [e1]; rfl, by rw [e2]; rfl, .cons e a s r', e3, a', s'⟩
theorem isOrd_okL {l : List Int} (h : l.length ≤ 7) : isOrd l.length (.tuple (l.map PyData.int)) = okL l := by
  rw [isOrd_ints]
  by_cases f : full l
  · have e1 : okL l = true := decide_eq_true ⟨h, f⟩
    have e2 : ordB l l.length = true := decide_eq_true ⟨rfl, f⟩
    rw [e1, e2, Bool.and_true, List.all_map, List.all_eq_true]
    intro x hx
    have := okL_mem e1 hx
    exact decide_eq_true ⟨this.1, this.2.1⟩
  · have e1 : okL l = false := decide_eq_false fun q => f q.2
    have e2 : ordB l l.length = false := decide_eq_false fun q => f q.2
    rw [e1, e2, Bool.and_false]

def spSizeOf (PT : Addr) : Sp := fun vs H Q _ => ∃ (v : V) (d : PyData), vs = [v] ∧ At MN H v d ∧ SeqAt.shaped d = true ∧ TabG H PT ∧ ∀ H', Kp MN H H' → Q (.int (vdt d : Nat)) H'
def spIsPlan (PT : Addr) : Sp := fun vs H Q _ => ∃ (v u : V) (d e : PyData), vs = [v, u] ∧ At MN H v d ∧ At MN H u e ∧ SeqAt.shaped d = true ∧ TabG H PT ∧ ∀ H', Kp MN H H' → Q (.bl (isPl d e)) H'
section
variable {P : Program} {w : World} {K : PySem.W.Frag} {mg : Str → Option Value} {base : Heap}
theorem scSizeOf : FnScope ["value", "found", "waiting", "outer", "item", "piece"] ["value"] (defScope sSizeOf) := ⟨rfl, rfl, rfl, by decide +kernel, rfl, by decide +kernel, by decide +kernel⟩
/-- the loop's word -/
def SzInv (v : V) (d : PyData) (H0 : Hp) (m : Nat) (σ : St) (H : Hp) : Prop := ∃ (F Wt : Addr) (found : List Int) (wvs : List V) (ws : List (Str × PyData)) (x3 x4 x5 : Option V),
  σ = [some v, some (.ref F), some (.ref Wt), x3, x4, x5] ∧ H0 F = none ∧ H0 Wt = none ∧ F ≠ Wt ∧ Kp MN H0 H ∧ H F = some (.lst (found.map V.int)) ∧ H Wt = some (.lst wvs) ∧ Prs H0 H wvs ws ∧ verd found ws = vdt d ∧ found.length + ws.length ≤ 7 ∧ m = msz ws
theorem ok_sizeOf {f gT gP gO PT : Addr} {fd dT dP dO : FuncData} (F : Fun K "size_of" "size_of" sSizeOf f fd) (B : Bl K mg)
    (GT : FnOk P w K mg base CX0 2 gT dT ["value", "many"] spIsTask) (bT : Binds K dT ["value", "many"] []) (kT : PySem.W.keepIn K (.ref gT) = true) (mT : mg "is_index" = some (.ref gT))
    (GP : FnOk P w K mg base CX0 1 gP dP ["value"] spHasParts) (bP : Binds K dP ["value"] []) (kP : PySem.W.keepIn K (.ref gP) = true) (mP : mg "has_parts" = some (.ref gP))
    (GO : FnOk P w K mg base CX0 5 gO dO ["value", "many"] (spIsOrder PT)) (bO : Binds K dO ["value", "many"] []) (kO : PySem.W.keepIn K (.ref gO) = true) (mO : mg "is_order" = some (.ref gO)) :
    FnOk P w K mg base CX0 6 f fd ["value"] (spSizeOf PT) := by
  refine F.ok scSizeOf (fun vs H Q E h => ?_) (fun cdv A outer s H vs Q E hr h => ?_)
  · obtain ⟨v, d, rfl, _⟩ := h
    rfl
  obtain ⟨v, d, rfl, hA, hS, hT, q⟩ := h
  obtain ⟨t, hm⟩ := B.most
  refine ⟨_, pss_cons (ps_set (i := 1) scSizeOf.nd rfl (Or.inl rfl) (pe_lst pa_nil))
    (pss_cons (ps_set (i := 2) scSizeOf.nd rfl (Or.inl rfl) (pe_lst (pa_cons (pe_tup (pa_cons pe_str (pa_cons (pv 0) pa_nil))) pa_nil)))
    (pss_cons (ps_while PassesOwn.never (pt_truth (pv 2) (by intro _; rfl))
      (pss_cons (ps_asg (pe_bm0 PySem.F.plainAttrs_list PySem.F.slot_list_pop PySem.F.type_list_pop mt_pop (pv 2)) (pg_tup rfl (pgs_cons (pg_name (i := 3) scSizeOf.nd rfl (Or.inl rfl)) (pgs_cons (pg_name (i := 4) scSizeOf.nd rfl (Or.inr rfl)) pgs_nil))))
      (pss_cons (ps_if (pt_val (pe_call GT (hr.mono (by decide)) rfl mT kT bT .nil pass0 (pa_cons (pv 4) (pa_cons (pe_glob rfl hm (v := .int 7) ⟨_, rfl⟩) pa_nil))))
          (pss_one (ps_expr (pe_bm PySem.F.plainAttrs_list PySem.F.slot_list_append PySem.F.type_list_append mt_append (pv 1) (pa_cons (pv 4) pa_nil))))
          (pss_one (ps_if (PW.pt (pw_and (pt_val (pe_call GP (hr.mono (by decide)) rfl mP kP bP .nil pass0 (pa_cons (pv 4) pa_nil))) (pw_and1 (pt_cmpR op_ne (pe_ix ix_tup (pv 4) pe_int (fun _ _ => rfl)) (pv 3) (nomark _)))))
            (pss_one (ps_expr (pe_bm PySem.F.plainAttrs_list PySem.F.slot_list_extend PySem.F.type_list_extend mt_extend (pv 2) (pa_cons
              (pe_lc (own := [("piece", 5)]) (g := gName 5) (tt := tYes) rfl scSizeOf.nd (pi_tup (pe_ix ix_tup (pv 4) pe_int (fun _ _ => rfl))) (blkOk_by (own := [("piece", 5)]) (N := ["value", "found", "waiting", "outer", "item", "piece"]) (sc := defScope sSizeOf) (by decide +kernel))
                (fun _ _ _ _ _ => pg_name (i := 5) scSizeOf.nd rfl (Or.inl rfl)) (fun _ _ _ _ _ => pts_nil) (fun _ _ _ _ _ => pe_tup (pa_cons (pe_ix (r := rIxT K) ix_tup (pv 4) pe_int (fun _ _ => rfl)) (pa_cons (pv 5) pa_nil)))) pa_nil))))
            (pss_one (ps_ret pe_int)))))
      (pss_one (ps_if (pt_cmpR op_gt (pe_op op_add (pe_callB call_len_seq rfl B.len PySem.boot_len (pa_cons (pv 1) pa_nil)) (pe_callB call_len_seq rfl B.len PySem.boot_len (pa_cons (pv 2) pa_nil))) (pe_glob rfl hm (v := .int 7) ⟨_, rfl⟩) (nomark _)) (pss_one (ps_ret pe_int)) pss_nil)))))
    (pss_one (ps_ret (pe_ifExp (pt_val (pe_call GO hr rfl mO kO bO .nil pass0 (pa_cons (pe_callTy call_tuple_of rfl B.tuple (by decide +kernel) (pa_cons (pv 1) pa_nil)) (pa_cons (pe_callB call_len_seq rfl B.len PySem.boot_len (pa_cons (pv 1) pa_nil)) pa_nil))))
      (pe_callB call_len_seq rfl B.len PySem.boot_len (pa_cons (pv 1) pa_nil)) pe_int))))), ?_⟩
  refine ⟨(by show 0 ≤ sizeLine; decide), fun F hF => ⟨_, rfl, (by show 2 ≤ sizeLine; decide), fun t0 ht0 => ⟨(by show 1 ≤ sizeLine; decide), fun Wt hWt => ?_⟩⟩⟩
  have nFt : F ≠ t0 := fun z => by rw [← z, upd_same] at ht0; cases ht0
  have nFW : F ≠ Wt := fun z => by rw [← z, upd_ne nFt, upd_same] at hWt; cases hWt
  have ntW : t0 ≠ Wt := fun z => by rw [← z, upd_same] at hWt; cases hWt
  have ht0' : H t0 = none := by rw [upd_ne nFt.symm] at ht0; exact ht0
  have hWt' : H Wt = none := by rw [upd_ne ntW.symm, upd_ne nFW.symm] at hWt; exact hWt
  have k0 : Kp MN H (upd (upd (upd H F (.lst [])) t0 (.tup [.str "", v])) Wt (.lst [.ref t0])) := (Kp.new hF).trans ((Kp.new ht0).trans (Kp.new hWt))
  refine ⟨fun m σ H' => SzInv v d H m σ H', ⟨_, F, Wt, [], [.ref t0], [("", d)], none, none, none, rfl, hF, hWt', nFW, k0, by rw [upd_ne nFW, upd_ne nFt, upd_same]; rfl, upd_same, .cons (by rw [upd_ne ntW, upd_same]) hA hS .nil, rfl, by show 0 + 1 ≤ 7; decide, rfl⟩, ?_⟩
  rintro m σ1 H1 ⟨F, Wt, found, wvs, ws, x3, x4, x5, rfl, hF0, hW0, hne, k, hF, hW, prs, hv, hle, rfl⟩
  have hT1 : TabG H1 PT := k.tbl _ hT
  refine ⟨_, rfl, !wvs.isEmpty, .inl ⟨wvs, SqL.of hW, rfl⟩, ?_⟩
  by_cases hw : wvs = []
  · subst hw
    cases prs
    refine iteF ?_
    refine ⟨_, rfl, F, _, rfl, .inl ⟨SqL.of hF, fun p hp => ?_⟩⟩
    have hpF : F ≠ p := ne_of_none hF hp
    refine ⟨_, rfl, F, _, rfl, .inl (SqL.of (by rw [upd_ne hpF]; exact hF)), .ref p, .tuple (found.map PyData.int), (found.map V.int).length, rfl, .tup upd_same (AtL.ints found), (Kp.new (M := MN) hp).tbl _ hT1, ?_, ?_, fun H2 k2 => ⟨_, rfl, ?_⟩⟩
    · rw [List.length_map]; simp at hle; omega
    · intro ds e
      injection e with e
      rw [← e, List.length_map]
      simp at hle
      omega
    · have hle' : found.length ≤ 7 := by simpa using hle
      rw [List.length_map, isOrd_okL hle']
      have hv' : vdt d = if okL found = true then found.length else 0 := by
        rw [← hv]
        show (if okL (found ++ []) = true then (found ++ []).length else 0) = _
        rw [List.append_nil]
      have hF2 : H2 F = some (.lst (found.map V.int)) := k2.lst F _ (fun z => z) (by rw [upd_ne hpF]; exact hF)
      have kk : Kp MN H H2 := k.trans ((Kp.new hp).trans k2)
      refine ite2 (fun c => ?_) (fun c => ?_)
      · refine ⟨_, rfl, F, _, rfl, .inl (SqL.of hF2), ?_⟩
        have := q H2 kk
        rw [hv', if_pos c] at this
        rw [List.length_map]
        exact this
      · have := q H2 kk
        rw [hv', if_neg c] at this
        exact this
  · obtain ⟨vs', ws', t', o', v', d', rfl, rfl, prs', ht', hA', hS'⟩ := prs.last hw
    have he : (!(vs' ++ [V.ref t']).isEmpty) = true := by cases vs' <;> rfl
    rw [he]
    refine iteT ?_
    refine ⟨fun σ' H' => ∃ m', m' < msz (ws' ++ [(o', d')]) ∧ SzInv v d H m' σ' H', fun _ _ z => z, ?_⟩
    refine ⟨_, rfl, .inl ⟨rfl, _, .inl (.inl hW)⟩, Wt, _, _, rfl, rfl, hW, (by rw [List.length_append]; show (vs' ++ [V.ref t'])[vs'.length + 1 - 1]? = some (V.ref t'); simp), ?_⟩
    rw [List.dropLast_concat]
    have k1 : Kp MN H (upd H1 Wt (.lst vs')) := k.putNew hW0 hW
    have ht1 : (upd H1 Wt (.lst vs')) t' = some (.tup [.str o', v']) := by rw [upd_ne (ne_of ht' hW (by intro z; cases z))]; exact ht'
    have hF1 : (upd H1 Wt (.lst vs')) F = some (.lst (found.map V.int)) := by rw [upd_ne hne]; exact hF
    have hW1 : (upd H1 Wt (.lst vs')) Wt = some (.lst vs') := upd_same
    have prs1 : Prs H (upd H1 Wt (.lst vs')) vs' ws' := prs'.kp fun b xs e => by rw [upd_ne (ne_of e hW (by intro z; cases z))]; exact e
    have hA1 : At MN (upd H1 Wt (.lst vs')) v' d' := hA'.kp k1
    generalize upd H1 Wt (.lst vs') = H2 at k1 ht1 hF1 hW1 prs1 hA1 ⊢
    have hlw := prs1.length
    have hle' : found.length + (ws'.length + 1) ≤ 7 := by rw [List.length_append] at hle; exact hle
    refine ⟨t', _, rfl, SqT.of ht1, rfl, _, _, rfl, _, _, rfl, rfl, ?_⟩
    refine ⟨_, rfl, v', d', 7, rfl, hA1, _, rfl, ?_⟩
    have fin : ∀ (found3 : List Int) (vs3 : List V) (ws3 : List (Str × PyData)) (H3 : Hp), Kp MN H H3 → H3 F = some (.lst (found3.map V.int)) → H3 Wt = some (.lst vs3) → Prs H H3 vs3 ws3 → verd found3 ws3 = vdt d → msz ws3 < msz (ws' ++ [(o', d')]) →
        (decide ((7 : Int) < ((found3.map V.int).length : Int) + (vs3.length : Int)) = true → Q (.int 0) H3) ∧ (¬ decide ((7 : Int) < ((found3.map V.int).length : Int) + (vs3.length : Int)) = true → ∃ m', m' < msz (ws' ++ [(o', d')]) ∧ SzInv v d H m' [some v, some (.ref F), some (.ref Wt), some (.str o'), some v', x5] H3) := by
      intro found3 vs3 ws3 H3 k3 hF3 hW3 prs3 hv3 hm3
      have hl3 := prs3.length
      rw [List.length_map]
      refine ⟨fun c => ?_, fun c => ?_⟩
      · have c' := of_decide_eq_true c
        have := q H3 k3
        rw [← hv3, verd_many (by omega)] at this
        exact this
      · have c' := of_decide_eq_false (Bool.eq_false_iff.mpr c)
        exact ⟨_, hm3, F, Wt, found3, vs3, ws3, _, _, _, rfl, hF0, hW0, hne, k3, hF3, hW3, prs3, hv3, by omega, rfl⟩
    refine ite2 (fun c => ?_) (fun c => ?_)
    · cases d' with
      | int i =>
        cases hA1.int_of
        refine ⟨_, rfl, .inl ⟨rfl, _, .inl (.inl hF1)⟩, _, rfl, F, _, _, rfl, rfl, hF1, (by rw [List.length_map]; exact small1000 (by omega)), ?_⟩
        obtain ⟨f1, f2⟩ := fin (found ++ [i]) vs' ws' (upd H2 F (.lst (found.map V.int ++ [.int i]))) (k1.putNew hF0 hF1) (by rw [upd_same, List.map_append]; rfl) (by rw [upd_ne hne.symm]; exact hW1)
          (prs1.kp fun b xs e => by rw [upd_ne (ne_of e hF1 (by intro z; cases z))]; exact e) (by rw [← verd_task (o := o'), hv]) (by rw [msz_app, msz_one]; have := size_pos (.int i); omega)
        rw [List.map_append] at f1 f2
        refine ⟨_, rfl, F, _, rfl, .inl (SqL.of upd_same), _, rfl, Wt, _, rfl, .inl (SqL.of (by rw [upd_ne hne.symm]; exact hW1)), _, _, rfl, rfl, _, _, rfl, rfl, _, rfl, ?_⟩
        exact ite2 f1 f2
      | _ => cases c
    · have c' := Bool.eq_false_iff.mpr c
      refine ⟨_, rfl, v', d', rfl, hA1, hS', _, rfl, ?_⟩
      have bad : vdt d = 0 → Q (.int 0) H2 := fun e => by
        have := q H2 k1
        rw [e] at this
        exact this
      by_cases cp : hasP d' = true
      · rw [cp]
        refine iteT ?_
        obtain ⟨w0, ps, rfl, g1, g2, g3⟩ := hasP_some cp
        obtain ⟨a2, xs2, rfl, hx20, hall2⟩ := hA'.tup_of
        obtain ⟨vp, rfl, ap⟩ : ∃ vp, xs2 = [.str w0, vp] ∧ At MN H vp (.tuple ps) := by
          cases hall2 with
          | cons a1 r1 =>
            cases r1 with
            | cons b1 r2 =>
              cases r2
              exact ⟨_, by rw [a1.str_of], b1⟩
        obtain ⟨a3, xs3, rfl, hx30, hall3⟩ := ap.tup_of
        have hx2 := k1.tup _ _ hx20
        have hx3 := k1.tup _ _ hx30
        have hl3 := hall3.length
        refine ⟨_, rfl, _, _, _, _, rfl, rfl, SqT.of hx2, atI_nat (j := 0) rfl, _, rfl, rfl, _, rfl, ?_⟩
        by_cases cw : w0 = o'
        · subst cw
          have e0 : (!decide (V.str w0 = V.str w0)) = false := by simp
          rw [e0]
          refine iteF (bad ?_)
          rw [← hv]
          refine verd_none ?_
          rw [formed_parts, if_neg (by simp)]
        · have e0 : (!decide (V.str w0 = V.str o')) = true := by
            rw [decide_eq_false fun z => cw (by injection z)]
            rfl
          rw [e0]
          refine iteT ?_
          refine ⟨_, rfl, .inl ⟨rfl, _, .inl (.inl hW1)⟩, ?_⟩
          refine ⟨_, rfl, _, _, _, _, rfl, rfl, SqT.of hx2, atI_nat (j := 1) rfl, a3, rfl, ⟨_, SqT.of hx3⟩, fun D hD => ?_⟩
          have nF := ne_of_none hF1 hD
          have nW := ne_of_none hW1 hD
          have nD := k1.noLst (a := D) (fun z => z) hD
          refine lc_tup (K := K) (a := a3) (xs := xs3) (fun i H' => Kp MN H H' ∧ H' F = some (.lst (found.map V.int)) ∧ H' Wt = some (.lst vs') ∧ H' a2 = some (.tup [.str w0, .ref a3]) ∧ H' a3 = some (.tup xs3) ∧ Prs H H' vs' ws' ∧
            ∃ us, H' D = some (.lst us) ∧ Prs H H' us ((ps.take i).map fun p => (w0, p))) ?_ (fun i H' _ p => SqT.of p.2.2.2.2.1) (fun i x H' hi p => ?_) (fun H' p => ?_)
          · refine ⟨k1.trans (Kp.new hD), by rw [upd_ne nF]; exact hF1, by rw [upd_ne nW]; exact hW1, by rw [upd_ne (ne_of_none hx2 hD)]; exact hx2, by rw [upd_ne (ne_of_none hx3 hD)]; exact hx3, prs1.kp fun b xs e => by rw [upd_ne (ne_of_none e hD)]; exact e, [], upd_same, .nil⟩
          · obtain ⟨k3, hF3, hW3, h2, h3, pr3, us, hu, pu⟩ := p
            obtain ⟨pd, hpd, hap⟩ := hall3.get hi
            have hlu := pu.length
            rw [List.length_map, List.length_take] at hlu
            refine ⟨rfl, ?_⟩
            dsimp only [tYes]
            rw [if_pos rfl]
            refine ⟨_, rfl, _, _, _, _, rfl, rfl, SqT.of h2, atI_nat (j := 0) rfl, _, rfl, (by show 2 ≤ sizeLine; decide), fun p hp => ?_⟩
            have nDp := ne_of_none hu hp
            refine ⟨us, by rw [upd_ne nDp]; exact hu, small1000 (by omega), ?_⟩
            have kt : ∀ b xs, H' b = some (.tup xs) → (upd (upd H' p (.tup [.str w0, x])) D (.lst (us ++ [.ref p]))) b = some (.tup xs) := fun b xs e => by
              rw [upd_ne (ne_of e hu (by intro z; cases z)), upd_ne (ne_of_none e hp)]
              exact e
            refine ⟨(k3.trans (Kp.new hp)).putFresh nD (by rw [upd_ne nDp]; exact hu), by rw [upd_ne nF, upd_ne (ne_of_none hF3 hp)]; exact hF3, by rw [upd_ne nW, upd_ne (ne_of_none hW3 hp)]; exact hW3, kt _ _ h2, kt _ _ h3, pr3.kp kt, _, upd_same, ?_⟩
            rw [List.take_succ, hpd, List.map_append]
            exact (pu.kp kt).append (.cons (by rw [upd_ne nDp.symm, upd_same]) hap (shaped_tup (shaped_tup hS' (by simp)) (List.mem_of_getElem? hpd)) .nil)
          · obtain ⟨k3, hF3, hW3, h2, h3, pr3, us, hu, pu⟩ := p
            rw [hl3, List.take_length] at pu
            have hlu := pu.length
            rw [List.length_map] at hlu
            refine ⟨Wt, D, _, _, rfl, rfl, hW3, hu, Nat.le_of_lt (small1000 (by omega)), ?_⟩
            have kt : ∀ b xs, H' b = some (.tup xs) → (upd H' Wt (.lst (vs' ++ us))) b = some (.tup xs) := fun b xs e => by
              rw [upd_ne (ne_of e hW3 (by intro z; cases z))]
              exact e
            obtain ⟨f1, f2⟩ := fin found (vs' ++ us) (ws' ++ ps.map fun p => (w0, p)) (upd H' Wt (.lst (vs' ++ us))) (k3.putNew hW0 hW3) (by rw [upd_ne hne]; exact hF3) upd_same
              ((pr3.kp kt).append (pu.kp kt)) (by rw [← verd_parts (o := o') g1 cw g2, hv]) (by rw [msz_app, msz_app, msz_one]; have := msz_parts w0 ps; omega)
            refine ⟨_, rfl, F, _, rfl, .inl (SqL.of (by rw [upd_ne hne]; exact hF3)), _, rfl, Wt, _, rfl, .inl (SqL.of upd_same), _, _, rfl, rfl, _, _, rfl, rfl, _, rfl, ?_⟩
            exact ite2 f1 f2
      · have cp' := Bool.eq_false_iff.mpr cp
        rw [cp']
        exact iteF (bad (by rw [← hv]; exact verd_bad c' cp'))
end
end K1

set_option Elab.async false
set_option linter.all false
set_option maxRecDepth 100000
set_option maxHeartbeats 4000000
namespace K1
open PySem L2 GxR GA KD KR KM
abbrev sStream : Stmt := top 13
abbrev sNext : Stmt := top 14
abbrev sLIsInt : Stmt := top 15
abbrev sEqual : Stmt := top 16
abbrev sPick : Stmt := top 17
abbrev sOrder : Stmt := top 18
abbrev sGrown : Stmt := top 19
abbrev sPlan : Stmt := top 20
/-- the law's stream at st -/
def StAt (st l : Addr) (H : Hp) : Prop := ∃ (b k : Int) (ns : List Int), H st = some (.lst [.ref l, .int b, .int k]) ∧ H l = some (.lst (ns.map V.int)) ∧ l ≠ st ∧ 0 ≤ b ∧ 0 ≤ k
abbrev MS (st : Addr) : Addr → Prop := fun a => a = st
theorem StAt.kp {st l : Addr} {H H' : Hp} (h : StAt st l H) (k : Kp MN H H') : StAt st l H' := by
  obtain ⟨b, c, ns, h1, h2, h3, h4, h5⟩ := h
  exact ⟨b, c, ns, k.lst _ _ (fun z => z) h1, k.lst _ _ (fun z => z) h2, h3, h4, h5⟩
theorem StAt.ex {st l : Addr} {H : Hp} (h : StAt st l H) : ∃ xs, H st = some (.lst xs) := by
  obtain ⟨b, c, ns, h1, _⟩ := h
  exact ⟨_, h1⟩
theorem StAt.ex2 {st l : Addr} {H : Hp} (h : StAt st l H) : ∃ xs, H l = some (.lst xs) := by
  obtain ⟨b, c, ns, _, h2, _⟩ := h
  exact ⟨_, h2⟩
def spStream (K : PySem.W.Frag) : Sp := fun vs H Q _ => ∃ (a : Addr) (ns : List Int), vs = [.ref a] ∧ SqL K H a (ns.map V.int) ∧ ns.length ≤ 63 ∧ ∀ st l H', H st = none → Kp MN H H' → StAt st l H' → Q (.ref st) H'
def spNext : Sp := fun vs H Q _ => ∃ (st l : Addr) (many : Int), vs = [.ref st, .int many] ∧ StAt st l H ∧ 0 < many ∧ many < 1000 ∧ ∀ d H', 0 ≤ d → d < many → Kp (MS st) H H' → StAt st l H' → Q (.int d) H'
section
variable {P : Program} {w : World} {K : PySem.W.Frag} {mg : Str → Option Value} {base : Heap}
theorem scIsPlan : FnScope ["value", "size"] ["value", "size"] (defScope sIsPlan) := ⟨rfl, rfl, rfl, by decide +kernel, rfl, by decide +kernel, by decide +kernel⟩
theorem ok_isPlan {f gS gZ PT : Addr} {fd dS dZ : FuncData} (F : Fun K "is_plan" "is_plan" sIsPlan f fd) (B : Bl K mg)
    (GS : FnOk P w K mg base CX0 2 gS dS ["value"] spIsSize) (bS : Binds K dS ["value"] []) (kS : PySem.W.keepIn K (.ref gS) = true) (mS : mg "is_size" = some (.ref gS))
    (GZ : FnOk P w K mg base CX0 6 gZ dZ ["value"] (spSizeOf PT)) (bZ : Binds K dZ ["value"] []) (kZ : PySem.W.keepIn K (.ref gZ) = true) (mZ : mg "size_of" = some (.ref gZ)) :
    FnOk P w K mg base CX0 7 f fd ["value", "size"] (spIsPlan PT) := by
  refine F.ok scIsPlan (fun vs H Q E h => ?_) (fun cdv A outer s H vs Q E hr h => ?_)
  · obtain ⟨v, u, d, e, rfl, _⟩ := h
    rfl
  obtain ⟨v, u, d, e, rfl, hA, hU, hS, hT, q⟩ := h
  refine ⟨_, pss_one (ps_ret (pe_and (pe_call GS (hr.mono (by decide)) rfl mS kS bS .nil pass0 (pa_cons (pv 1) pa_nil))
    (pe_one (pe_cmpR op_eq (pe_call GZ hr rfl mZ kZ bZ .nil pass0 (pa_cons (pv 0) pa_nil)) (pv 1) (nomark _))))), ?_⟩
  refine ⟨_, rfl, u, e, rfl, hU, _, rfl, ?_⟩
  cases e with
  | int n =>
    cases hU.int_of
    refine ite2 (fun c => ?_) (fun c => ?_)
    · refine ⟨_, rfl, v, d, rfl, hA, hS, hT, fun H' k => ⟨_, rfl, rfl, ?_⟩⟩
      have c' : (1 ≤ n ∧ n ≤ 7) := of_decide_eq_true c
      have e : decide (V.int (vdt d : Nat) = V.int n) = isPl d (.int n) := by
        show _ = (decide (1 ≤ n ∧ n ≤ 7) && decide ((vdt d : Int) = n))
        rw [decide_eq_true c', Bool.true_and, decide_eq_decide]
        exact ⟨fun z => by injection z, fun z => by rw [z]⟩
      show Q (.bl (decide (V.int (vdt d : Nat) = V.int n))) H'
      rw [e]
      exact q H' k
    · have c' : ¬ (1 ≤ n ∧ n ≤ 7) := of_decide_eq_false (Bool.eq_false_iff.mpr c)
      have e : false = isPl d (.int n) := by
        show _ = (decide (1 ≤ n ∧ n ≤ 7) && decide ((vdt d : Int) = n))
        rw [decide_eq_false c']
        rfl
      show Q (.bl false) H
      rw [e]
      exact q H .refl
  | _ => exact iteF (q H .refl)
theorem scStream : FnScope ["script"] ["script"] (defScope sStream) := ⟨rfl, rfl, rfl, by decide +kernel, rfl, by decide +kernel, by decide +kernel⟩
theorem ok_stream {f : Addr} {fd : FuncData} (F : Fun K "_law_stream" "_law_stream" sStream f fd) (B : Bl K mg) : FnOk P w K mg base CX0 1 f fd ["script"] (spStream K) := by
  refine F.ok scStream (fun vs H Q E h => ?_) (fun cdv A outer s H vs Q E hr h => ?_)
  · obtain ⟨a, ns, rfl, _⟩ := h
    rfl
  obtain ⟨a, ns, rfl, hS, hl, q⟩ := h
  refine ⟨_, pss_one (ps_ret (pe_lst (pa_cons (pe_callTy call_list_of rfl B.list (by decide +kernel) (pa_cons (pv 0) pa_nil)) (pa_cons pe_int (pa_cons pe_int pa_nil))))), ?_⟩
  refine ⟨_, rfl, a, _, rfl, .inl hS, fun l hl => ?_⟩
  refine ⟨by show 3 ≤ sizeLine; decide, fun st hst => ?_⟩
  have n : l ≠ st := fun z => by rw [← z, upd_same] at hst; cases hst
  have hst' : H st = none := by rw [upd_ne n.symm] at hst; exact hst
  exact q st l _ hst' ((Kp.new hl).trans (Kp.new hst)) ⟨0, 0, ns, upd_same, by rw [upd_ne n, upd_same], n, by decide, by decide⟩
theorem scNext : FnScope ["stream", "many", "k", "cell", "digit"] ["stream", "many"] (defScope sNext) := ⟨rfl, rfl, rfl, by decide +kernel, rfl, by decide +kernel, by decide +kernel⟩
theorem ok_next {f : Addr} {fd : FuncData} (F : Fun K "_law_next" "_law_next" sNext f fd) (B : Bl K mg) : FnOk P w K mg base CX0 1 f fd ["stream", "many"] spNext := by
  refine F.ok scNext (fun vs H Q E h => ?_) (fun cdv A outer s H vs Q E hr h => ?_)
  · obtain ⟨st, l, many, rfl, _⟩ := h
    rfl
  obtain ⟨st, l, many, rfl, ⟨b, k, ns, h1, h2, h3, h4, h5⟩, m1, m2, q⟩ := h
  refine ⟨_, C8.pss_cut (ps_if (pt_cmpR op_eq (pe_ix ix_list (pv 0) pe_int (fun _ _ => rfl)) pe_int (nomark _))
      (pss_cons (ps_set (i := 2) scNext.nd rfl (Or.inl rfl) (pe_ix ix_list (pv 0) pe_int (fun _ _ => rfl)))
      (pss_cons (ps_set (i := 3) scNext.nd rfl (Or.inl rfl) (pe_op op_add pe_int (pv 2)))
      (C8.pss_cut (ps_if (pt_cmpR op_lt (pv 2) (pe_callB call_len_seq rfl B.len PySem.boot_len (pa_cons (pe_ix ix_list (pv 0) pe_int (fun _ _ => rfl)) pa_nil)) (nomark _))
          (pss_one (ps_set (i := 3) scNext.nd rfl (Or.inl rfl) (pe_callB call_abs rfl B.abs (by decide +kernel) (pa_cons (pe_ix ix_list (pe_ix ix_list (pv 0) pe_int (fun _ _ => rfl)) (pv 2) (fun _ _ => rfl)) pa_nil)))) pss_nil)
      (C8.pss_cut (ps_if (pt_cmpR op_lt (pv 3) (pe_op op_pow pe_int pe_int) (nomark _))
          (pss_cons (ps_set (i := 3) scNext.nd rfl (Or.inl rfl) (pe_op op_mod (pe_callTy call_int1 rfl B.int (by decide +kernel) (pa_cons (pe_op op_add (pe_op op_add (pe_op op_mul (pv 3) pe_int) (pe_op op_mul (pv 2) pe_int)) pe_int) pa_nil)) pe_int))
          (pss_one (ps_set (i := 3) scNext.nd rfl (Or.inl rfl) (pe_op op_add (pe_op op_mul (pe_op op_mod (pe_callTy call_int1 rfl B.int (by decide +kernel) (pa_cons (pe_op op_add (pe_op op_mul (pv 3) pe_int) pe_int) pa_nil)) pe_int) pe_int) (pv 3))))) pss_nil)
      (pss_cons (ps_asg (pv 3) (pg_sub (pv 0) pe_int set_list))
      (pss_one (ps_asg (pe_op op_add (pv 2) pe_int) (pg_sub (pv 0) pe_int set_list)))))))) pss_nil)
    (pss_cons (ps_set (i := 4) scNext.nd rfl (Or.inl rfl) (pe_op op_mod (pe_callTy call_int1 rfl B.int (by decide +kernel) (pa_cons (pe_ix ix_list (pv 0) pe_int (fun _ _ => rfl)) pa_nil)) (pv 1)))
    (pss_cons (ps_asg (pe_op op_fdivW (pe_ix ix_list (pv 0) pe_int (fun _ _ => rfl)) (pv 1)) (pg_sub (pv 0) pe_int set_list))
    (pss_one (ps_ret (pv 4))))), ?_⟩
  -- behind the first if
  refine ⟨fun σ' H' => ∃ (b' k' : Int) (x2 x3 : Option V), σ' = [some (.ref st), some (.int many), x2, x3, none] ∧ Kp (MS st) H H' ∧ H' st = some (.lst [.ref l, .int b', .int k']) ∧ H' l = some (.lst (ns.map V.int)) ∧ 0 ≤ b' ∧ 0 ≤ k', ?_, ?_⟩
  · refine ⟨_, rfl, st, _, _, _, rfl, rfl, SqL.of h1, atI_nat (j := 1) rfl, rfl, _, rfl, ?_⟩
    refine ite2 (fun c => ?_) (fun c => ?_)
    · refine ⟨_, rfl, st, _, _, _, rfl, rfl, SqL.of h1, atI_nat (j := 2) rfl, _, rfl, 7, _, rfl, rfl, ?_⟩
      refine ⟨fun σ' H' => ∃ cell : Int, 0 ≤ cell ∧ σ' = [some (.ref st), some (.int many), some (.int k), some (.int cell), none] ∧ H = H', ?_, ?_⟩
      · refine ⟨_, rfl, _, rfl, st, _, _, _, rfl, rfl, SqL.of h1, atI_nat (j := 0) rfl, l, _, rfl, .inl (SqL.of h2), _, _, rfl, rfl, _, rfl, ?_⟩
        refine ite2 (fun c2 => ?_) (fun c2 => ⟨7 + k, by omega, rfl, rfl⟩)
        have c2' : k < ((ns.map V.int).length : Int) := of_decide_eq_true c2
        rw [List.length_map] at c2'
        have hk : k.toNat < ns.length := by omega
        have ek : k = ((k.toNat : Nat) : Int) := by omega
        have hat := atI_nat (xs := ns.map V.int) (j := k.toNat) (v := .int ns[k.toNat]) (by rw [List.getElem?_map, List.getElem?_eq_getElem hk]; rfl)
        rw [← ek] at hat
        refine ⟨_, rfl, st, _, _, _, rfl, rfl, SqL.of h1, atI_nat (j := 0) rfl, _, rfl, l, _, _, _, rfl, rfl, SqL.of h2, hat, _, rfl, ?_⟩
        refine ⟨_, ?_, rfl, rfl⟩
        split <;> omega
      · rintro σ' H' ⟨cell, hc, rfl, rfl⟩
        refine ⟨fun σ' H' => ∃ cell : Int, 0 ≤ cell ∧ σ' = [some (.ref st), some (.int many), some (.int k), some (.int cell), none] ∧ H = H', ?_, ?_⟩
        · refine ⟨_, rfl, 10, 18, rfl, rfl, ⟨by decide, by decide, by decide⟩, _, _, rfl, rfl, _, rfl, ?_⟩
          refine ite2 (fun c2 => ?_) (fun c2 => ⟨cell, hc, rfl, rfl⟩)
          refine ⟨_, rfl, _, 48271, rfl, rfl, .inr ⟨by decide, by decide⟩, _, rfl, _, 69621, rfl, rfl, .inr ⟨by decide, by decide⟩, _, _, rfl, rfl, _, 11, rfl, rfl, .inl ⟨_, rfl, _, 2147483647, rfl, rfl, (by show (0 : Int) < 2147483647; decide), ?_⟩⟩
          refine ⟨_, rfl, _, 16807, rfl, rfl, .inr ⟨by decide, by decide⟩, _, 13, rfl, rfl, .inl ⟨_, rfl, _, 2147483647, rfl, rfl, (by show (0 : Int) < 2147483647; decide), _, 65537, rfl, rfl, .inr ⟨by decide, by decide⟩, _, rfl, _, _, rfl, rfl, ?_⟩⟩
          refine ⟨_, ?_, rfl, rfl⟩
          have e1 := Int.emod_nonneg (cell * 48271 + k * 69621 + 11) (show (2147483647 : Int) ≠ 0 by decide)
          have e2 := Int.emod_nonneg ((cell * 48271 + k * 69621 + 11) % 2147483647 * 16807 + 13) (show (2147483647 : Int) ≠ 0 by decide)
          omega
        · rintro σ' H' ⟨cell, hc, rfl, rfl⟩
          refine ⟨_, rfl, _, rfl, st, _, 1, 1, rfl, rfl, h1, rfl, ?_⟩
          refine ⟨_, rfl, k, 1, rfl, rfl, _, rfl, st, _, 2, 2, rfl, rfl, upd_same, rfl, ?_⟩
          rw [upd_upd]
          exact ⟨cell, k + 1, _, _, rfl, Kp.put rfl h1, upd_same, by rw [upd_ne h3]; exact h2, hc, by omega⟩
    · exact ⟨b, k, none, none, rfl, .refl, h1, h2, h4, h5⟩
  · rintro σ' H' ⟨b', k', x2, x3, rfl, kp, g1, g2, g4, g5⟩
    refine ⟨_, rfl, st, _, _, _, rfl, rfl, SqL.of g1, atI_nat (j := 1) rfl, .inl ⟨_, rfl, _, rfl, _, _, rfl, rfl, m1, ?_⟩⟩
    refine ⟨_, rfl, st, _, _, _, rfl, rfl, SqL.of g1, atI_nat (j := 1) rfl, _, rfl, _, _, rfl, rfl, wide_div (b := 10) m1 (by omega) (by decide) (by decide), _, rfl, st, _, 1, 1, rfl, rfl, g1, rfl, _, rfl, ?_⟩
    refine q _ _ (Int.emod_nonneg _ (by omega)) (Int.emod_lt_of_pos _ m1) (kp.trans (Kp.put rfl g1)) ⟨b' / many, k', ns, upd_same, by rw [upd_ne h3]; exact g2, h3, Int.ediv_nonneg g4 (by omega), g5⟩
end
end K1

set_option Elab.async false
set_option linter.all false
set_option maxRecDepth 100000
set_option maxHeartbeats 4000000
namespace K1
open PySem L2 GxR GA KD KR KM
mutual
/-- what the law means by equal: (actual, due) -/
def leq : PyData → PyData → Bool
  | .none, .none => true
  | .bool a, .bool b => decide (a = b)
  | .int a, .int b => decide (a = b)
  | .str a, .str b => decide (a = b)
  | .list xs, .list ys => leqL xs ys
  | .tuple xs, .tuple ys => leqL xs ys
  | _, _ => false
def leqL : List PyData → List PyData → Bool
  | [], [] => true
  | x :: xs, y :: ys => leq x y && leqL xs ys
  | _, _ => false
end
theorem leqL_len : ∀ {xs ys : List PyData}, leqL xs ys = true → xs.length = ys.length
  | [], [], _ => rfl
  | x :: xs, y :: ys, h => by
    simp only [leqL, Bool.and_eq_true] at h
    exact congrArg (· + 1) (leqL_len h.2)
  | [], _ :: _, h => by simp [leqL] at h
  | _ :: _, [], h => by simp [leqL] at h
mutual
theorem leq_refl : ∀ d : PyData, d.canLay0 = true → leq d d = true
  | .none, _ => by simp [leq]
  | .bool b, _ => by simp [leq]
  | .int b, _ => by simp [leq]
  | .str b, _ => by simp [leq]
  | .list xs, h => by simp only [leq]; exact leqL_refl xs (by simpa [PyData.canLay0] using h)
  | .tuple xs, h => by simp only [leq]; exact leqL_refl xs (by simpa [PyData.canLay0] using h)
  | .dict _, h => by simp [PyData.canLay0] at h
theorem leqL_refl : ∀ d : List PyData, PyData.canLayAll0 d = true → leqL d d = true
  | [], _ => by simp [leqL]
  | x :: xs, h => by
    simp only [PyData.canLayAll0, Bool.and_eq_true] at h
    simp only [leqL, leq_refl x h.1, leqL_refl xs h.2, Bool.and_self]
end
/-- place by place -/
theorem leqL_at : ∀ (xs ys : List PyData), xs.length = ys.length → leqL xs ys = ((List.range ys.length).map fun i => leq (xs.getD i .none) (ys.getD i .none)).all id
  | [], [], _ => by simp [leqL]
  | x :: xs, y :: ys, h => by
    have ih := leqL_at xs ys (by simpa using h)
    simp only [leqL, ih, List.length_cons, List.range_succ_eq_map, List.map_cons, List.map_map, List.all_cons, id]
    rfl
  | [], _ :: _, h => by simp at h
  | _ :: _, [], h => by simp at h
theorem depth_mem : ∀ {ds : List PyData} {d : PyData}, d ∈ ds → d.depth ≤ PyData.depthAll ds
  | x :: r, d, h => by
    simp only [PyData.depthAll]
    rcases List.mem_cons.mp h with z | z
    · rw [z]; omega
    · have := depth_mem z
      omega
mutual
def slim : PyData → Bool
  | .list xs => decide (xs.length ≤ 900) && slimL xs
  | .tuple xs => decide (xs.length ≤ 900) && slimL xs
  | _ => true
def slimL : List PyData → Bool
  | [] => true
  | x :: r => slim x && slimL r
end
theorem slimL_mem : ∀ {ds : List PyData} {d : PyData}, slimL ds = true → d ∈ ds → slim d = true
  | x :: r, d, h, hd => by
    simp only [slimL, Bool.and_eq_true] at h
    rcases List.mem_cons.mp hd with z | z
    · rw [z]; exact h.1
    · exact slimL_mem h.2 z
def spEq (n : Nat) : Sp := fun vs H Q _ => ∃ (v u : V) (d e : PyData), vs = [v, u] ∧ At MN H v d ∧ At MN H u e ∧ e.depth < n ∧ slim e = true ∧ ∀ H', Kp MN H H' → Q (.bl (leq d e)) H'
def spPick : Sp := fun vs H Q _ => ∃ (st l : Addr) (r : V) (ds : List PyData), vs = [.ref st, r] ∧ StAt st l H ∧ At (MS st) H r (.list ds) ∧ ds ≠ [] ∧ ds.length < 1000 ∧ ∀ x d H', d ∈ ds → At (MS st) H' x d → Kp (MS st) H H' → StAt st l H' → Q x H'
def spOrder : Sp := fun vs H Q _ => ∃ (st c : Addr) (n : Nat), vs = [.ref st, .int n] ∧ StAt st c H ∧ n < 60 ∧ ∀ p (l : List Int) H', l.Perm (rng n) → H' p = some (.tup (l.map V.int)) → Kp (MS st) H H' → StAt st c H' → Q (.ref p) H'
section
variable {P : Program} {w : World} {K : PySem.W.Frag} {mg : Str → Option Value} {base : Heap}
theorem scLIsInt : FnScope ["actual"] ["actual"] (defScope sLIsInt) := ⟨rfl, rfl, rfl, by decide +kernel, rfl, by decide +kernel, by decide +kernel⟩
theorem ok_lIsInt {f : Addr} {fd : FuncData} (F : Fun K "_law_is_integer" "_law_is_integer" sLIsInt f fd) (B : Bl K mg) : FnOk P w K mg base CX0 1 f fd ["actual"] spIsInt := by
  refine F.ok scLIsInt (fun vs H Q E h => ?_) (fun cdv A outer s H vs Q E hr h => ?_)
  · obtain ⟨v, d, rfl, _⟩ := h
    rfl
  obtain ⟨v, d, rfl, hA, q⟩ := h
  refine ⟨_, pss_one (ps_ret (pe_and (pe_callB call_isi rfl B.isinstance (by decide +kernel) (pa_cons (pv 0) (pa_cons (pe_bltn rfl B.int (by decide +kernel) (v := .ty "int") rfl) pa_nil)))
    (pe_one (pe_not (pe_callB call_isi rfl B.isinstance (by decide +kernel) (pa_cons (pv 0) (pa_cons (pe_bltn rfl B.bool (by decide +kernel) (v := .ty "bool") rfl) pa_nil))))))), ?_⟩
  refine ⟨_, rfl, _, _, _, _, _, rfl, .ty _, hA.ty, kit_int d, _, rfl, ?_⟩
  refine ite2 (fun c => ?_) (fun c => ?_)
  · refine ⟨_, rfl, _, _, _, _, _, rfl, .ty _, hA.ty, kit_bool d, _, rfl, ?_⟩
    have e : (!isB d) = isI d := by cases d <;> simp_all [isI, isB]
    rw [← e] at q
    exact q
  · have e : false = isI d := by cases d <;> simp_all [isI, isB]
    rw [← e] at q
    exact q
theorem scEqual : FnScope ["actual", "due", "at"] ["actual", "due"] (defScope sEqual) := ⟨rfl, rfl, rfl, by decide +kernel, rfl, by decide +kernel, by decide +kernel⟩
theorem ok_equal {n : Nat} {f g : Addr} {fd gd : FuncData} (F : Fun K "_law_equal" "_law_equal" sEqual f fd) (B : Bl K mg)
    (G : FnOk P w K mg base CX0 1 g gd ["actual"] spIsInt) (bG : Binds K gd ["actual"] []) (kG : PySem.W.keepIn K (.ref g) = true) (mG : mg "_law_is_integer" = some (.ref g))
    (R : FnOk P w K mg base CX0 (n + 1) f fd ["actual", "due"] (spEq n)) (bF : Binds K fd ["actual", "due"] []) (mF : mg "_law_equal" = some (.ref f)) :
    FnOk P w K mg base CX0 (n + 2) f fd ["actual", "due"] (spEq (n + 1)) := by
  refine F.ok scEqual (fun vs H Q E h => ?_) (fun cdv A outer s H vs Q E hr h => ?_)
  · obtain ⟨v, u, d, e, rfl, _⟩ := h
    rfl
  obtain ⟨v, u, d, e, rfl, hV, hU, hd, hsl, q⟩ := h
  refine ⟨_, pss_cons (ps_if (pt_cmp (pc_isN (pv 1))) (pss_one (ps_ret (pe_cmp (pc_isN (pv 0))))) pss_nil)
    (pss_cons (ps_if (pt_val (pe_callB call_isi rfl B.isinstance (by decide +kernel) (pa_cons (pv 1) (pa_cons (pe_bltn rfl B.bool (by decide +kernel) (v := .ty "bool") rfl) pa_nil))))
      (pss_one (ps_ret (pe_and (pe_callB call_isi rfl B.isinstance (by decide +kernel) (pa_cons (pv 0) (pa_cons (pe_bltn rfl B.bool (by decide +kernel) (v := .ty "bool") rfl) pa_nil))) (pe_one (pe_cmpR op_eq (pv 0) (pv 1) (nomark _)))))) pss_nil)
    (pss_cons (ps_if (pt_val (pe_callB call_isi rfl B.isinstance (by decide +kernel) (pa_cons (pv 1) (pa_cons (pe_bltn rfl B.int (by decide +kernel) (v := .ty "int") rfl) pa_nil))))
      (pss_one (ps_ret (pe_and (pe_call G (hr.mono (Nat.le_add_left 1 n)) rfl mG kG bG .nil pass0 (pa_cons (pv 0) pa_nil)) (pe_one (pe_cmpR op_eq (pv 0) (pv 1) (nomark _)))))) pss_nil)
    (pss_cons (ps_if (pt_val (pe_callB call_isi rfl B.isinstance (by decide +kernel) (pa_cons (pv 1) (pa_cons (pe_bltn rfl B.str (by decide +kernel) (v := .ty "str") rfl) pa_nil))))
      (pss_one (ps_ret (pe_and (pe_callB call_isi rfl B.isinstance (by decide +kernel) (pa_cons (pv 0) (pa_cons (pe_bltn rfl B.str (by decide +kernel) (v := .ty "str") rfl) pa_nil))) (pe_one (pe_cmpR op_eq (pv 0) (pv 1) (nomark _)))))) pss_nil)
    (pss_cons (ps_if (PW.pt (pw_and (pt_val (pe_callB call_isi rfl B.isinstance (by decide +kernel) (pa_cons (pv 1) (pa_cons (pe_bltn rfl B.tuple (by decide +kernel) (v := .ty "tuple") rfl) pa_nil))))
        (pw_and1 (pt_not (pt_val (pe_callB call_isi rfl B.isinstance (by decide +kernel) (pa_cons (pv 0) (pa_cons (pe_bltn rfl B.tuple (by decide +kernel) (v := .ty "tuple") rfl) pa_nil))))))))
      (pss_one (ps_ret pe_bl)) pss_nil)
    (pss_cons (ps_if (PW.pt (pw_and (pt_val (pe_callB call_isi rfl B.isinstance (by decide +kernel) (pa_cons (pv 1) (pa_cons (pe_bltn rfl B.list (by decide +kernel) (v := .ty "list") rfl) pa_nil))))
        (pw_and1 (pt_not (pt_val (pe_callB call_isi rfl B.isinstance (by decide +kernel) (pa_cons (pv 0) (pa_cons (pe_bltn rfl B.list (by decide +kernel) (v := .ty "list") rfl) pa_nil))))))))
      (pss_one (ps_ret pe_bl)) pss_nil)
    (pss_cons (ps_if (pt_cmpR op_ne (pe_callB call_len_seq rfl B.len PySem.boot_len (pa_cons (pv 0) pa_nil)) (pe_callB call_len_seq rfl B.len PySem.boot_len (pa_cons (pv 1) pa_nil)) (nomark _)) (pss_one (ps_ret pe_bl)) pss_nil)
    (pss_one (ps_ret (pe_callB (cr_all rfl) rfl B.all (by decide +kernel) (pa_cons
      (pe_lc (own := [("at", 2)]) (g := gName 2) (tt := tYes) rfl scEqual.nd (pi_range1 rfl B.range (pa_cons (pe_callB call_len_seq rfl B.len PySem.boot_len (pa_cons (pv 1) pa_nil)) pa_nil)) (blkOk_by (own := [("at", 2)]) (N := ["actual", "due", "at"]) (sc := defScope sEqual) (by decide +kernel))
        (fun _ _ _ _ _ => pg_name (i := 2) scEqual.nd rfl (Or.inl rfl)) (fun _ _ _ _ _ => pts_nil)
        (fun _ _ _ _ _ => pe_call R hr rfl mF F.kp bF .nil pass0 (pa_cons (pe_ix (r := fun x y H Q => rIxL K x y H Q ∨ rIxT K x y H Q) (IxR.or ix_list ix_tup) (pv 0) (pv 2) (fun _ _ => rfl)) (pa_cons (pe_ix (r := fun x y H Q => rIxL K x y H Q ∨ rIxT K x y H Q) (IxR.or ix_list ix_tup) (pv 1) (pv 2) (fun _ _ => rfl)) pa_nil)))) pa_nil)))))))))), ?_⟩
  have hV' := hV
  have hU' := hU
  refine ⟨_, rfl, _, rfl, ?_⟩
  cases hU with
  | non =>
    refine iteT ?_
    refine ⟨_, rfl, ?_⟩
    cases hV <;> exact q H .refl
  | bl b =>
    refine iteF ?_
    refine ⟨_, rfl, _, _, _, _, _, rfl, .ty _, hU'.ty, kit_bool _, _, rfl, ?_⟩
    refine iteT ?_
    refine ⟨_, rfl, _, _, _, _, _, rfl, .ty _, hV'.ty, kit_bool _, _, rfl, ?_⟩
    cases hV with
    | bl a =>
      refine iteT ⟨_, rfl, _, rfl, rfl, ?_⟩
      have e : decide (V.bl a = V.bl b) = leq (.bool a) (.bool b) := by simp only [leq, decide_eq_decide]; exact ⟨fun z => by injection z, fun z => by rw [z]⟩
      rw [e]
      exact q H .refl
    | _ => exact iteF (q H .refl)
  | int b =>
    refine iteF ?_
    refine ⟨_, rfl, _, _, _, _, _, rfl, .ty _, hU'.ty, kit_bool _, _, rfl, ?_⟩
    refine iteF ?_
    refine ⟨_, rfl, _, _, _, _, _, rfl, .ty _, hU'.ty, kit_int _, _, rfl, ?_⟩
    refine iteT ?_
    refine ⟨_, rfl, v, d, rfl, hV', _, rfl, ?_⟩
    cases hV with
    | int a =>
      refine iteT ⟨_, rfl, _, rfl, rfl, ?_⟩
      have e : decide (V.int a = V.int b) = leq (.int a) (.int b) := by simp only [leq, decide_eq_decide]; exact ⟨fun z => by injection z, fun z => by rw [z]⟩
      rw [e]
      exact q H .refl
    | _ => exact iteF (q H .refl)
  | str b =>
    refine iteF ?_
    refine ⟨_, rfl, _, _, _, _, _, rfl, .ty _, hU'.ty, kit_bool _, _, rfl, ?_⟩
    refine iteF ?_
    refine ⟨_, rfl, _, _, _, _, _, rfl, .ty _, hU'.ty, kit_int _, _, rfl, ?_⟩
    refine iteF ?_
    refine ⟨_, rfl, _, _, _, _, _, rfl, .ty _, hU'.ty, kit_str _, _, rfl, ?_⟩
    refine iteT ?_
    refine ⟨_, rfl, _, _, _, _, _, rfl, .ty _, hV'.ty, kit_str _, _, rfl, ?_⟩
    cases hV with
    | str a =>
      refine iteT ⟨_, rfl, _, rfl, rfl, ?_⟩
      have e : decide (V.str a = V.str b) = leq (.str a) (.str b) := by simp only [leq, decide_eq_decide]; exact ⟨fun z => by injection z, fun z => by rw [z]⟩
      rw [e]
      exact q H .refl
    | _ => exact iteF (q H .refl)
  | @lst a2 ys es hy0 _ hay =>
    refine iteF ?_
    refine ⟨_, rfl, _, _, _, _, _, rfl, .ty _, hU'.ty, kit_bool _, _, rfl, ?_⟩
    refine iteF ?_
    refine ⟨_, rfl, _, _, _, _, _, rfl, .ty _, hU'.ty, kit_int _, _, rfl, ?_⟩
    refine iteF ?_
    refine ⟨_, rfl, _, _, _, _, _, rfl, .ty _, hU'.ty, kit_str _, _, rfl, ?_⟩
    refine iteF ?_
    refine ⟨_, rfl, _, _, _, _, _, rfl, .ty _, hU'.ty, kit_tup _, _, rfl, ?_⟩
    refine iteF ?_
    refine ⟨_, rfl, _, _, _, _, _, rfl, .ty _, hU'.ty, kit_lst _, _, rfl, ?_⟩
    refine iteT ?_
    refine ⟨_, rfl, _, _, _, _, _, rfl, .ty _, hV'.ty, kit_lst _, _, rfl, ?_⟩
    cases hV with
    | @lst a1 xs ds hx0 _ hax =>
      refine iteF ?_
      have hl1 := hax.length
      have hl2 := hay.length
      refine ⟨_, rfl, _, xs, rfl, .inl (SqL.of hx0), _, rfl, _, ys, rfl, .inl (SqL.of hy0), rfl, _, rfl, ?_⟩
      refine ite2 (fun c => ?_) (fun c => ?_)
      · have c' : ¬ xs.length = ys.length := fun z => by
          rw [z] at c
          exact absurd c (by simp)
        have e : leq (.list ds) (.list es) = false := by
          simp only [leq]
          exact Bool.eq_false_iff.mpr fun z => c' (by rw [hl1, hl2]; exact leqL_len z)
        have := q H .refl
        rw [e] at this
        exact this
      · have hlen : xs.length = ys.length := by
          have c' := Bool.eq_false_iff.mpr c
          have := of_decide_eq_true (show decide (V.int (xs.length : Int) = V.int (ys.length : Int)) = true by simpa using c')
          injection this with this
          omega
        simp only [slim, Bool.and_eq_true, decide_eq_true_eq] at hsl
        obtain ⟨hs1, hs2⟩ := hsl
        refine ⟨_, rfl, _, ys, rfl, .inl (SqL.of hy0), (ys.length : Int), rfl, by omega, by omega, fun D hD => ?_⟩
        refine lc_range (lo := 0) (n := ((ys.length : Int)).toNat) (fun i H' => Kp MN H H' ∧ H' D = some (.lst (((List.range i).map fun j => leq (ds.getD j .none) (es.getD j .none)).map V.bl))) ⟨Kp.new hD, upd_same⟩ (fun i H' hi p => ?_) (fun H' p => ?_)
        · obtain ⟨k1, hD1⟩ := p
          have hi' : i < ys.length := by omega
          have hx : xs[i]? = some (xs[i]'(by omega)) := List.getElem?_eq_getElem (by omega)
          have hy : ys[i]? = some (ys[i]'(by omega)) := List.getElem?_eq_getElem (by omega)
          obtain ⟨dx, hdx, ax⟩ := hax.get hx
          obtain ⟨dy, hdy, ay⟩ := hay.get hy
          refine ⟨rfl, ?_⟩
          dsimp only [tYes]
          rw [if_pos rfl]
          refine ⟨_, rfl, _, rfl, .inl ⟨_, _, _, _, rfl, rfl, (k1.seqL (fun z => z) (SqL.of hx0)), (by rw [Int.zero_add]; exact atI_nat hx), _, rfl, _, rfl, .inl ⟨_, _, _, _, rfl, rfl, (k1.seqL (fun z => z) (SqL.of hy0)), (by rw [Int.zero_add]; exact atI_nat hy), ?_⟩⟩⟩
          refine ⟨_, _, dx, dy, rfl, ax.kp k1, ay.kp k1, ?_, slimL_mem hs2 (List.mem_of_getElem? hdy), fun H2 k2 => ⟨_, k2.lst D _ (fun z => z) hD1, by rw [List.length_map, List.length_map, List.length_range]; exact small1000 (by omega), (k1.trans k2).putFresh (Kp.noLst (M := MN) .refl (fun z => z) hD) (k2.lst D _ (fun z => z) hD1), ?_⟩⟩
          · have := depth_mem (List.mem_of_getElem? hdy)
            simp only [PyData.depth] at hd
            omega
          · rw [upd_same, List.range_succ, List.map_append, List.map_append]
            have e1 : ds.getD i .none = dx := by rw [List.getD_eq_getElem?_getD, hdx]; rfl
            have e2 : es.getD i .none = dy := by rw [List.getD_eq_getElem?_getD, hdy]; rfl
            simp only [List.map_cons, List.map_nil, e1, e2]
        · obtain ⟨k1, hD1⟩ := p
          refine ⟨D, _, rfl, SqL.of hD1, ?_⟩
          have e : leq (.list ds) (.list es) = (List.map (fun j => leq (ds.getD j .none) (es.getD j .none)) (List.range ((ys.length : Int)).toNat)).all id := by
            simp only [leq]
            rw [leqL_at ds es (by omega)]
            rw [show ((ys.length : Int)).toNat = es.length by omega]
          have := q H' k1
          rw [e] at this
          exact this
    | _ => exact iteT (q H .refl)
  | @tup a2 ys es hy0 hay =>
    refine iteF ?_
    refine ⟨_, rfl, _, _, _, _, _, rfl, .ty _, hU'.ty, kit_bool _, _, rfl, ?_⟩
    refine iteF ?_
    refine ⟨_, rfl, _, _, _, _, _, rfl, .ty _, hU'.ty, kit_int _, _, rfl, ?_⟩
    refine iteF ?_
    refine ⟨_, rfl, _, _, _, _, _, rfl, .ty _, hU'.ty, kit_str _, _, rfl, ?_⟩
    refine iteF ?_
    refine ⟨_, rfl, _, _, _, _, _, rfl, .ty _, hU'.ty, kit_tup _, _, rfl, ?_⟩
    refine iteT ?_
    refine ⟨_, rfl, _, _, _, _, _, rfl, .ty _, hV'.ty, kit_tup _, _, rfl, ?_⟩
    cases hV with
    | @tup a1 xs ds hx0 hax =>
      refine iteF ?_
      refine ⟨_, rfl, _, _, _, _, _, rfl, .ty _, hU'.ty, kit_lst _, _, rfl, ?_⟩
      refine iteF ?_
      have hl1 := hax.length
      have hl2 := hay.length
      refine ⟨_, rfl, _, xs, rfl, .inr (SqT.of hx0), _, rfl, _, ys, rfl, .inr (SqT.of hy0), rfl, _, rfl, ?_⟩
      refine ite2 (fun c => ?_) (fun c => ?_)
      · have c' : ¬ xs.length = ys.length := fun z => by
          rw [z] at c
          exact absurd c (by simp)
        have e : leq (.tuple ds) (.tuple es) = false := by
          simp only [leq]
          exact Bool.eq_false_iff.mpr fun z => c' (by rw [hl1, hl2]; exact leqL_len z)
        have := q H .refl
        rw [e] at this
        exact this
      · have hlen : xs.length = ys.length := by
          have c' := Bool.eq_false_iff.mpr c
          have := of_decide_eq_true (show decide (V.int (xs.length : Int) = V.int (ys.length : Int)) = true by simpa using c')
          injection this with this
          omega
        simp only [slim, Bool.and_eq_true, decide_eq_true_eq] at hsl
        obtain ⟨hs1, hs2⟩ := hsl
        refine ⟨_, rfl, _, ys, rfl, .inr (SqT.of hy0), (ys.length : Int), rfl, by omega, by omega, fun D hD => ?_⟩
        refine lc_range (lo := 0) (n := ((ys.length : Int)).toNat) (fun i H' => Kp MN H H' ∧ H' D = some (.lst (((List.range i).map fun j => leq (ds.getD j .none) (es.getD j .none)).map V.bl))) ⟨Kp.new hD, upd_same⟩ (fun i H' hi p => ?_) (fun H' p => ?_)
        · obtain ⟨k1, hD1⟩ := p
          have hi' : i < ys.length := by omega
          have hx : xs[i]? = some (xs[i]'(by omega)) := List.getElem?_eq_getElem (by omega)
          have hy : ys[i]? = some (ys[i]'(by omega)) := List.getElem?_eq_getElem (by omega)
          obtain ⟨dx, hdx, ax⟩ := hax.get hx
          obtain ⟨dy, hdy, ay⟩ := hay.get hy
          refine ⟨rfl, ?_⟩
          dsimp only [tYes]
          rw [if_pos rfl]
          refine ⟨_, rfl, _, rfl, .inr ⟨_, _, _, _, rfl, rfl, (k1.seqT (SqT.of hx0)), (by rw [Int.zero_add]; exact atI_nat hx), _, rfl, _, rfl, .inr ⟨_, _, _, _, rfl, rfl, (k1.seqT (SqT.of hy0)), (by rw [Int.zero_add]; exact atI_nat hy), ?_⟩⟩⟩
          refine ⟨_, _, dx, dy, rfl, ax.kp k1, ay.kp k1, ?_, slimL_mem hs2 (List.mem_of_getElem? hdy), fun H2 k2 => ⟨_, k2.lst D _ (fun z => z) hD1, by rw [List.length_map, List.length_map, List.length_range]; exact small1000 (by omega), (k1.trans k2).putFresh (Kp.noLst (M := MN) .refl (fun z => z) hD) (k2.lst D _ (fun z => z) hD1), ?_⟩⟩
          · have := depth_mem (List.mem_of_getElem? hdy)
            simp only [PyData.depth] at hd
            omega
          · rw [upd_same, List.range_succ, List.map_append, List.map_append]
            have e1 : ds.getD i .none = dx := by rw [List.getD_eq_getElem?_getD, hdx]; rfl
            have e2 : es.getD i .none = dy := by rw [List.getD_eq_getElem?_getD, hdy]; rfl
            simp only [List.map_cons, List.map_nil, e1, e2]
        · obtain ⟨k1, hD1⟩ := p
          refine ⟨D, _, rfl, SqL.of hD1, ?_⟩
          have e : leq (.tuple ds) (.tuple es) = (List.map (fun j => leq (ds.getD j .none) (es.getD j .none)) (List.range ((ys.length : Int)).toNat)).all id := by
            simp only [leq]
            rw [leqL_at ds es (by omega)]
            rw [show ((ys.length : Int)).toNat = es.length by omega]
          have := q H' k1
          rw [e] at this
          exact this
    | _ => exact iteT (q H .refl)
end
end K1

set_option Elab.async false
set_option linter.all false
set_option maxRecDepth 100000
set_option maxHeartbeats 4000000
namespace K1
open PySem L2 GxR GA KD KR KM
theorem pop_perm : ∀ {l : List Int} {j : Nat} (h : j < l.length), (l[j] :: l.eraseIdx j).Perm l
  | x :: r, 0, h => List.Perm.refl _
  | x :: r, j + 1, h => by
    have hj : j < r.length := by simpa using h
    have ih := pop_perm (l := r) (j := j) hj
    show (r[j] :: x :: r.eraseIdx j).Perm (x :: r)
    exact (List.Perm.swap x r[j] _).trans (List.Perm.cons x ih)
theorem map_eraseIdx {α β : Type} (f : α → β) : ∀ (l : List α) (j : Nat), (l.eraseIdx j).map f = (l.map f).eraseIdx j
  | [], _ => rfl
  | x :: r, 0 => rfl
  | x :: r, j + 1 => congrArg (f x :: ·) (map_eraseIdx f r j)
theorem seq_ix {d : Int} {n : Nat} (h0 : 0 ≤ d) (h1 : d < n) : PySem.seqIndex? d n = some d.toNat := (ixN_seq (by unfold ixN; rw [if_pos h0, if_pos h1])).1
theorem StAt.new {st c p : Addr} {H : Hp} {o : HO} (s : StAt st c H) (h : H p = none) : StAt st c (upd H p o) := s.kp (Kp.new h)
theorem StAt.ne {st c p : Addr} {H : Hp} (s : StAt st c H) (h : H p = none) : p ≠ st ∧ p ≠ c := by
  obtain ⟨xs, e⟩ := s.ex
  obtain ⟨ys, e2⟩ := s.ex2
  exact ⟨(ne_of_none e h).symm, (ne_of_none e2 h).symm⟩
/-- a write to a list that is not the stream's -/
theorem StAt.put {st c a : Addr} {H : Hp} {xs : List V} (s : StAt st c H) (hn : a ≠ st ∧ a ≠ c) : StAt st c (upd H a (.lst xs)) := by
  obtain ⟨b, k, ns, h1, h2, h3, h4, h5⟩ := s
  exact ⟨b, k, ns, by rw [upd_ne hn.1.symm]; exact h1, by rw [upd_ne hn.2.symm]; exact h2, h3, h4, h5⟩
section
variable {P : Program} {w : World} {K : PySem.W.Frag} {mg : Str → Option Value} {base : Heap}
theorem never_ok {f : Addr} {fd : FuncData} {ps : List Str} {sp : Sp} {k : Nat} (no : ∀ vs H Q E, ¬ sp vs H Q E) : FnOk P w K mg base CX0 k f fd ps sp :=
  ⟨fun vs H Q E h => absurd h (no vs H Q E), fun A outer s H args us vs Q E _ _ _ _ h => absurd h (no vs H Q E)⟩
theorem oks_equal {f g : Addr} {fd gd : FuncData} (F : Fun K "_law_equal" "_law_equal" sEqual f fd) (B : Bl K mg)
    (G : FnOk P w K mg base CX0 1 g gd ["actual"] spIsInt) (bG : Binds K gd ["actual"] []) (kG : PySem.W.keepIn K (.ref g) = true) (mG : mg "_law_is_integer" = some (.ref g))
    (bF : Binds K fd ["actual", "due"] []) (mF : mg "_law_equal" = some (.ref f)) : ∀ n : Nat, FnOk P w K mg base CX0 (n + 1) f fd ["actual", "due"] (spEq n)
  | 0 => never_ok fun vs H Q E h => by
    obtain ⟨_, _, _, _, _, _, _, h, _⟩ := h
    exact absurd h (Nat.not_lt_zero _)
  | n + 1 => ok_equal F B G bG kG mG (oks_equal F B G bG kG mG bF mF n) bF mF
theorem scPick : FnScope ["stream", "rows"] ["stream", "rows"] (defScope sPick) := ⟨rfl, rfl, rfl, by decide +kernel, rfl, by decide +kernel, by decide +kernel⟩
theorem ok_pick {f g : Addr} {fd gd : FuncData} (F : Fun K "_law_pick" "_law_pick" sPick f fd) (B : Bl K mg)
    (G : FnOk P w K mg base CX0 1 g gd ["stream", "many"] spNext) (bG : Binds K gd ["stream", "many"] []) (kG : PySem.W.keepIn K (.ref g) = true) (mG : mg "_law_next" = some (.ref g)) : FnOk P w K mg base CX0 2 f fd ["stream", "rows"] spPick := by
  refine F.ok scPick (fun vs H Q E h => ?_) (fun cdv A outer s H vs Q E hr h => ?_)
  · obtain ⟨st, c, r, ds, rfl, _⟩ := h
    rfl
  obtain ⟨st, c, r, ds, rfl, hst, hA, hne, hlen, q⟩ := h
  obtain ⟨a, xs, rfl, hx, hm, hall⟩ := hA.lst_of
  have hl := hall.length
  refine ⟨_, pss_one (ps_ret (pe_ix ix_list (pv 1) (pe_call G hr rfl mG kG bG .nil pass0 (pa_cons (pv 0) (pa_cons (pe_callB call_len_seq rfl B.len PySem.boot_len (pa_cons (pv 1) pa_nil)) pa_nil))) (fun _ _ => rfl))), ?_⟩
  have hpos : 0 < xs.length := by rw [hl]; exact List.length_pos_iff.mpr hne
  refine ⟨_, rfl, _, rfl, _, rfl, a, xs, rfl, .inl (SqL.of hx), st, c, (xs.length : Int), rfl, hst, by omega, by omega, fun d H' d0 d1 k s' => ?_⟩
  have hd : d.toNat < xs.length := by omega
  have hv : xs[d.toNat]? = some xs[d.toNat] := List.getElem?_eq_getElem hd
  obtain ⟨dd, hdd, add⟩ := hall.get hv
  have ed : d = ((d.toNat : Nat) : Int) := by omega
  have hat := atI_nat hv
  rw [← ed] at hat
  exact ⟨a, xs, d, _, rfl, rfl, SqL.of (k.lst a xs hm hx), hat, q _ dd H' (List.mem_of_getElem? hdd) (add.kp k) k s'⟩
theorem scOrder : FnScope ["stream", "many", "left", "k"] ["stream", "many"] (defScope sOrder) := ⟨rfl, rfl, rfl, by decide +kernel, rfl, by decide +kernel, by decide +kernel⟩
theorem ok_order {f g : Addr} {fd gd : FuncData} (F : Fun K "_law_order" "_law_order" sOrder f fd) (B : Bl K mg)
    (G : FnOk P w K mg base CX0 1 g gd ["stream", "many"] spNext) (bG : Binds K gd ["stream", "many"] []) (kG : PySem.W.keepIn K (.ref g) = true) (mG : mg "_law_next" = some (.ref g)) : FnOk P w K mg base CX0 2 f fd ["stream", "many"] spOrder := by
  refine F.ok scOrder (fun vs H Q E h => ?_) (fun cdv A outer s H vs Q E hr h => ?_)
  · obtain ⟨st, c, n, rfl, _⟩ := h
    rfl
  obtain ⟨st, c, n, rfl, hst, hn, q⟩ := h
  refine ⟨_, pss_cons (ps_set (i := 2) scOrder.nd rfl (Or.inr rfl) (pe_listRg rfl rfl B.list (prg_1 rfl B.range (pv 1))))
    (pss_one (ps_ret (pe_callTy call_tuple_of rfl B.tuple (by decide +kernel) (pa_cons
      (pe_lc (own := [("k", 3)]) (g := gName 3) (tt := tYes) rfl scOrder.nd (pi_range1 rfl B.range (pa_cons (pv 1) pa_nil)) (blkOk_by (own := [("k", 3)]) (N := ["stream", "many", "left", "k"]) (sc := defScope sOrder) (by decide +kernel))
        (fun _ _ _ _ _ => pg_name (i := 3) scOrder.nd rfl (Or.inl rfl)) (fun _ _ _ _ _ => pts_nil)
        (te := tBM K "list" rPopAt (tVar 2) (tCons (tCall spNext [] E0 (tCons (tVar 0) (tCons (tCB (fun xs H Q => ∃ p ys, xs = [.ref p] ∧ (SqL K H p ys ∨ SqT K H p ys) ∧ Q (.int ys.length) H) (tCons (tVar 2) tNil)) tNil))) tNil))
        (fun _ _ _ _ _ => pe_bm PySem.F.plainAttrs_list PySem.F.slot_list_pop PySem.F.type_list_pop mt_popAt (pv 2) (pa_cons (pe_call G hr rfl mG kG bG .nil pass0 (pa_cons (pv 0) (pa_cons (pe_callB call_len_seq rfl B.len PySem.boot_len (pa_cons (pv 2) pa_nil)) pa_nil))) pa_nil))) pa_nil)))), ?_⟩
  refine ⟨_, rfl, _, rfl, RgOk.of_le (by omega) (by omega) (by omega) (by omega), fun L hL => ?_⟩
  have hs0 : StAt st c (upd H L (.lst (rgV 0 n))) := hst.new hL
  refine ⟨_, rfl, (n : Int), rfl, by omega, by omega, fun D hD => ?_⟩
  have nL : L ≠ D := fun z => by rw [← z, upd_same] at hD; cases hD
  have hD' : H D = none := by rw [upd_ne nL.symm] at hD; exact hD
  have sL := hst.ne hL
  have sD := hst.ne hD'
  refine lc_range (lo := 0) (n := ((n : Int)).toNat) (fun i H' => ∃ (rest taken : List Int), H' L = some (.lst (rest.map V.int)) ∧ H' D = some (.lst (taken.map V.int)) ∧ taken.length = i ∧ (taken ++ rest).Perm (rng n) ∧ Kp (MS st) H H' ∧ StAt st c H')
    ⟨rng n, [], by rw [upd_ne nL, upd_same, rgV_rng], upd_same, rfl, List.Perm.refl _, (Kp.new hL).trans (Kp.new hD), hs0.new hD⟩ (fun i H' hi p => ?_) (fun H' p => ?_)
  · obtain ⟨rest, taken, h1, h2, h3, h4, h5, h6⟩ := p
    have hlen : taken.length + rest.length = n := by rw [← List.length_append, h4.length_eq, rng_length]
    refine ⟨rfl, ?_⟩
    dsimp only [tYes]
    rw [if_pos rfl]
    refine ⟨_, rfl, .inl ⟨rfl, _, .inl (.inl h1)⟩, _, rfl, _, rfl, L, _, rfl, .inl (SqL.of h1), st, c, _, rfl, h6, by rw [List.length_map]; omega, by rw [List.length_map]; omega, fun d H2 d0 d1 k2 s2 => ?_⟩
    rw [List.length_map] at d1
    have hd : d.toNat < rest.length := by omega
    have h1' := k2.lst L _ sL.1 h1
    have h2' := k2.lst D _ sD.1 h2
    refine ⟨L, _, d, d.toNat, .int rest[d.toNat], rfl, rfl, h1', by omega, by omega, by rw [List.length_map]; exact seq_ix d0 d1, by rw [List.getElem?_map, List.getElem?_eq_getElem hd]; rfl, ?_⟩
    refine ⟨taken.map V.int, by rw [upd_ne nL.symm]; exact h2', by rw [List.length_map]; exact small1000 (by omega), rest.eraseIdx d.toNat, taken ++ [rest[d.toNat]], by rw [upd_ne nL, upd_same, map_eraseIdx], by rw [upd_same, List.map_append]; rfl, by rw [List.length_append, h3]; rfl, ?_, ?_, (s2.put sL).put sD⟩
    · refine List.Perm.trans ?_ h4
      rw [List.append_assoc]
      exact List.Perm.append_left _ (pop_perm hd)
    · have k3 := h5.trans k2
      refine Kp.putFresh (Kp.putFresh k3 (fun zs e => ?_) h1') (fun zs e => ?_) (by rw [upd_ne nL.symm]; exact h2')
      · rw [hL] at e; cases e
      · rw [hD'] at e; cases e
  · obtain ⟨rest, taken, h1, h2, h3, h4, h5, h6⟩ := p
    have hlen : taken.length + rest.length = n := by rw [← List.length_append, h4.length_eq, rng_length]
    have hr0 : rest = [] := List.length_eq_zero_iff.mp (by omega)
    subst hr0
    rw [List.append_nil] at h4
    exact ⟨D, _, rfl, .inl ⟨SqL.of h2, fun p hp => q p taken _ h4 upd_same (h5.trans (Kp.new hp)) (h6.new hp)⟩⟩
end
end K1

set_option Elab.async false
set_option linter.all false
set_option maxRecDepth 100000
set_option maxHeartbeats 4000000
namespace K1
open PySem L2 GxR GA KD KR KM
mutual
/-- no list within -/
def noL : PyData → Bool
  | .list _ => false
  | .tuple xs => noLL xs
  | _ => true
def noLL : List PyData → Bool
  | [] => true
  | x :: r => noL x && noLL r
end
theorem noLL_app : ∀ ds es : List PyData, noLL (ds ++ es) = (noLL ds && noLL es)
  | [], es => by simp [noLL]
  | d :: r, es => by
    show noLL (d :: (r ++ es)) = _
    simp only [noLL, noLL_app r es, Bool.and_assoc]
mutual
theorem At.put {M M' : Addr → Prop} {H H' : Hp} (k : ∀ b xs, H b = some (.tup xs) → H' b = some (.tup xs)) : ∀ {d : PyData} {v : V}, At M H v d → noL d = true → At M' H' v d
  | .none, _, h, _ => by cases h; exact .non
  | .bool b, _, h, _ => by cases h; exact .bl b
  | .int i, _, h, _ => by cases h; exact .int i
  | .str x, _, h, _ => by cases h; exact .str x
  | .list ds, _, h, n => by simp [noL] at n
  | .tuple ds, _, h, n => by
    cases h with
    | tup e r => exact .tup (k _ _ e) (AtL.put k r (by simpa [noL] using n))
  | .dict _, _, h, _ => by cases h
theorem AtL.put {M M' : Addr → Prop} {H H' : Hp} (k : ∀ b xs, H b = some (.tup xs) → H' b = some (.tup xs)) : ∀ {ds : List PyData} {vs : List V}, AtL M H vs ds → noLL ds = true → AtL M' H' vs ds
  | [], _, h, _ => by cases h; exact .nil
  | d :: ds, _, h, n => by
    simp only [noLL, Bool.and_eq_true] at n
    cases h with
    | cons a r => exact .cons (At.put k a n.1) (AtL.put k r n.2)
end
structure PlanD (d : PyData) (w : Str) (ts : List Int) : Prop where
  form : ∀ o, o ≠ w → ∃ l, formed d o = some l ∧ l.Perm ts
  lay : d.canLay0 = true
  dep : d.depth + 2 ≤ 2 * ts.length
  slm : slim d = true
  nol : noL d = true
structure PartsD (ds : List PyData) (w : Str) (ls : List (List Int)) (n : Nat) : Prop where
  form : ∃ l, formedL ds w = some l ∧ l.Perm ls.flatten
  lay : PyData.canLayAll0 ds = true
  dep : PyData.depthAll ds + 4 ≤ 2 * n
  slm : slimL ds = true
  nol : noLL ds = true
  len : ds.length = ls.length
theorem formedL_app (w : Str) : ∀ ds es : List PyData, formedL (ds ++ es) w = (match formedL ds w, formedL es w with | some a, some b => some (a ++ b) | _, _ => none)
  | [], es => by
    rw [formedL_nil]
    show formedL es w = _
    cases formedL es w <;> rfl
  | d :: r, es => by
    show formedL (d :: (r ++ es)) w = _
    rw [formedL_cons, formedL_cons, formedL_app w r es]
    cases formed d w <;> cases formedL r w <;> cases formedL es w <;> simp
theorem formedL_one (d : PyData) (w : Str) : formedL [d] w = formed d w := by
  rw [formedL_cons, formedL_nil]
  cases formed d w <;> simp
theorem depthAll_app : ∀ ds es : List PyData, PyData.depthAll (ds ++ es) = max (PyData.depthAll ds) (PyData.depthAll es)
  | [], es => by simp [PyData.depthAll]
  | d :: r, es => by
    show PyData.depthAll (d :: (r ++ es)) = _
    simp only [PyData.depthAll, depthAll_app r es]
    omega
theorem layAll_app : ∀ ds es : List PyData, PyData.canLayAll0 (ds ++ es) = (PyData.canLayAll0 ds && PyData.canLayAll0 es)
  | [], es => by simp [PyData.canLayAll0]
  | d :: r, es => by
    show PyData.canLayAll0 (d :: (r ++ es)) = _
    simp only [PyData.canLayAll0, layAll_app r es, Bool.and_assoc]
theorem slimL_app : ∀ ds es : List PyData, slimL (ds ++ es) = (slimL ds && slimL es)
  | [], es => by simp [slimL]
  | d :: r, es => by
    show slimL (d :: (r ++ es)) = _
    simp only [slimL, slimL_app r es, Bool.and_assoc]
theorem PartsD.nil {w : Str} {n : Nat} (h : 2 ≤ n) : PartsD [] w [] n := ⟨⟨[], by rw [formedL_nil], List.Perm.refl _⟩, by simp [PyData.canLayAll0], by simp [PyData.depthAll]; omega, by simp [slimL], by simp [noLL], rfl⟩
theorem PartsD.snoc {ds : List PyData} {w o : Str} {ls : List (List Int)} {n : Nat} {d : PyData} {l : List Int} (p : PartsD ds w ls n) (q : PlanD d o l) (hn : w ≠ o) (hl : l.length + 1 ≤ n) : PartsD (ds ++ [d]) w (ls ++ [l]) n := by
  obtain ⟨⟨a, a1, a2⟩, b, c, e, n0, f⟩ := p
  obtain ⟨x, x1, x2⟩ := q.form w hn
  refine ⟨⟨a ++ x, ?_, ?_⟩, ?_, ?_, ?_, ?_, ?_⟩
  · rw [formedL_app, formedL_one, a1, x1]
  · rw [List.flatten_append]
    simp only [List.flatten_cons, List.flatten_nil, List.append_nil]
    exact a2.append x2
  · rw [layAll_app, b]
    simp [PyData.canLayAll0, q.lay]
  · rw [depthAll_app]
    have := q.dep
    simp only [PyData.depthAll]
    omega
  · rw [slimL_app, e]
    simp [slimL, q.slm]
  · rw [noLL_app, n0]
    simp [noLL, q.nol]
  · rw [List.length_append, List.length_append, f]
    rfl
theorem wd_or {w : Str} (h : wd w = true) : w = "then" ∨ w = "beside" := by
  unfold wd at h
  simpa using h
theorem strOk_words : PyData.strOk "then" = true ∧ PyData.strOk "beside" = true := by constructor <;> decide +kernel
theorem PartsD.plan {ds : List PyData} {w : Str} {ls : List (List Int)} {ts : List Int} (p : PartsD ds w ls ts.length) (hw : wd w = true) (h2 : 2 ≤ ls.length) (hp : ls.flatten.Perm ts) (h9 : ls.length ≤ 900) : PlanD (.tuple [.str w, .tuple ds]) w ts := by
  obtain ⟨⟨a, a1, a2⟩, b, c, e, n0, f⟩ := p
  refine ⟨fun o ho => ⟨a, ?_, a2.trans hp⟩, ?_, ?_, ?_, ?_⟩
  · rw [formed_parts, if_pos, a1]
    simp [hw, ho.symm]
    omega
  · have hs : PyData.strOk w = true := by
      rcases wd_or hw with z | z <;> rw [z]
      · exact strOk_words.1
      · exact strOk_words.2
    simp [PyData.canLay0, PyData.canLayAll0, b, hs]
  · simp only [PyData.depth, PyData.depthAll]
    omega
  · simp [slim, slimL, e]
    omega
  · simp [noL, noLL, n0]
theorem PlanD.one (i : Int) (w : Str) : PlanD (.int i) w [i] := ⟨fun o _ => ⟨[i], formed_int i o, List.Perm.refl _⟩, by simp [PyData.canLay0], by simp [PyData.depth], by simp [slim], by simp [noL]⟩
theorem PlanD.shaped {d : PyData} {w : Str} {ts : List Int} (p : PlanD d w ts) (h : ts.length ≤ 30) : SeqAt.shaped d = true := by
  show (PyData.canLay0 d && decide (PyData.depth d ≤ 64)) = true
  rw [Bool.and_eq_true]
  have := p.dep
  exact ⟨p.lay, decide_eq_true (by omega)⟩
/-! ### rows: lists of ints in a list -/
structure RowsAt (H : Hp) (R : Addr) (rows : List (Addr × List Int)) : Prop where
  at_ : H R = some (.lst (rows.map fun r => V.ref r.1))
  nd : (rows.map (·.1)).Nodup
  row : ∀ r ∈ rows, H r.1 = some (.lst (r.2.map V.int))
  ne : ∀ r ∈ rows, r.1 ≠ R
theorem RowsAt.kp {st R : Addr} {H H' : Hp} {rows : List (Addr × List Int)} (h : RowsAt H R rows) (k : Kp (MS st) H H') (hR : R ≠ st) (hr : ∀ r ∈ rows, r.1 ≠ st) : RowsAt H' R rows :=
  ⟨k.lst _ _ hR h.at_, h.nd, fun r m => k.lst _ _ (hr r m) (h.row r m), h.ne⟩
theorem set_fst {rows : List (Addr × List Int)} {j : Nat} {a : Addr} {l x : List Int} (h : rows[j]? = some (a, l)) : (rows.set j (a, x)).map (·.1) = rows.map (·.1) := by
  rw [List.map_set]
  show (rows.map (·.1)).set j a = rows.map (·.1)
  refine List.ext_getElem? fun i => ?_
  by_cases e : i = j
  · subst e
    obtain ⟨hl, _⟩ := List.getElem?_eq_some_iff.mp h
    rw [List.getElem?_set_self (by rw [List.length_map]; exact hl), List.getElem?_map, h]
    rfl
  · rw [List.getElem?_set_ne (Ne.symm e)]
theorem set_flat : ∀ {rows : List (Addr × List Int)} {j : Nat} {a : Addr} {l : List Int} {t : Int}, rows[j]? = some (a, l) → (((rows.set j (a, l ++ [t])).map (·.2)).flatten).Perm ((rows.map (·.2)).flatten ++ [t])
  | r :: rs, 0, a, l, t, h => by
    simp at h
    subst h
    simp only [List.set_cons_zero, List.map_cons, List.flatten_cons]
    rw [List.append_assoc, List.append_assoc]
    exact List.Perm.append_left _ List.perm_append_comm
  | r :: rs, j + 1, a, l, t, h => by
    have ih := set_flat (rows := rs) (t := t) (by simpa using h)
    simp only [List.set_cons_succ, List.map_cons, List.flatten_cons]
    rw [List.append_assoc]
    exact List.Perm.append_left _ ih
theorem mem_set_cases {α : Type} {l : List α} {j : Nat} {x y : α} (h : y ∈ l.set j x) : y ∈ l ∨ y = x := List.mem_or_eq_of_mem_set h
theorem RowsAt.put {H : Hp} {R a : Addr} {rows : List (Addr × List Int)} {j : Nat} {l : List Int} {t : Int} (h : RowsAt H R rows) (hj : rows[j]? = some (a, l)) :
    RowsAt (upd H a (.lst (l.map V.int ++ [.int t]))) R (rows.set j (a, l ++ [t])) := by
  have ha : (a, l) ∈ rows := List.mem_of_getElem? hj
  have hRa : R ≠ a := (h.ne _ ha).symm
  have nd := h.nd
  obtain ⟨hjl, ej⟩ := List.getElem?_eq_some_iff.mp hj
  refine ⟨?_, by rw [set_fst hj]; exact nd, fun r hr => ?_, fun r hr => ?_⟩
  · rw [upd_ne hRa, h.at_]
    have e : (rows.set j (a, l ++ [t])).map (fun r => V.ref r.1) = rows.map (fun r => V.ref r.1) := by
      have := congrArg (List.map V.ref) (set_fst (x := l ++ [t]) hj)
      rw [List.map_map, List.map_map] at this
      exact this
    rw [e]
  · obtain ⟨i, hi, e⟩ := List.getElem_of_mem hr
    rw [List.length_set] at hi
    by_cases z : i = j
    · subst z
      rw [List.getElem_set_self] at e
      subst e
      rw [upd_same, List.map_append]
      rfl
    · rw [List.getElem_set_ne (Ne.symm z)] at e
      have hm : r ∈ rows := by rw [← e]; exact List.getElem_mem hi
      have hne : r.1 ≠ a := fun q => by
        have e1 : (rows.map (·.1))[i]'(by rw [List.length_map]; exact hi) = (rows.map (·.1))[j]'(by rw [List.length_map]; exact hjl) := by
          rw [List.getElem_map, List.getElem_map, e, ej]
          exact q
        exact z ((List.getElem_inj nd).mp e1)
      rw [upd_ne hne]
      exact h.row r hm
  · rcases mem_set_cases hr with z | z
    · exact h.ne r z
    · rw [z]; exact hRa.symm
theorem cut_to {ts : List Int} {m : Nat} (h : m ≤ ts.length) : cutV (ts.map V.int) none (some (m : Int)) = (ts.take m).map V.int := by
  unfold cutV
  rw [HT.sIx_none, HT.sIx_nat, List.length_map, List.drop_zero, Nat.sub_zero, Nat.min_eq_left h, List.map_take]
theorem cut_from {ts : List Int} {m : Nat} (h : m ≤ ts.length) : cutV (ts.map V.int) (some (m : Int)) none = (ts.drop m).map V.int := by
  unfold cutV
  rw [HT.sIx_none, HT.sIx_nat, List.length_map, Nat.min_eq_left h, List.map_drop, List.take_of_length_le (by rw [List.length_drop, List.length_map]; exact Nat.le_refl _)]
theorem RowsAt.snoc {H : Hp} {R p : Addr} {rows : List (Addr × List Int)} {l : List Int} (h : RowsAt H R rows) (hp : H p = none) :
    RowsAt (upd (upd H p (.lst (l.map V.int))) R (.lst (rows.map (fun r => V.ref r.1) ++ [.ref p]))) R (rows ++ [(p, l)]) := by
  have nR : p ≠ R := (ne_of_none h.at_ hp).symm
  have nr : ∀ r ∈ rows, r.1 ≠ p := fun r m => ne_of_none (h.row r m) hp
  refine ⟨by rw [upd_same, List.map_append]; rfl, ?_, fun r hr => ?_, fun r hr => ?_⟩
  · rw [List.map_append, List.nodup_append]
    refine ⟨h.nd, by simp, fun x hx y hy => ?_⟩
    obtain ⟨r, hr, rfl⟩ := List.mem_map.mp hx
    have : y = p := by simpa using hy
    rw [this]
    exact nr r hr
  · rcases List.mem_append.mp hr with z | z
    · rw [upd_ne (h.ne r z), upd_ne (nr r z)]
      exact h.row r z
    · have : r = (p, l) := by simpa using z
      subst this
      rw [upd_ne nR, upd_same]
  · rcases List.mem_append.mp hr with z | z
    · exact h.ne r z
    · have : r = (p, l) := by simpa using z
      subst this
      exact nR
theorem row_len {ls : List (List Int)} (h : ∀ l ∈ ls, l ≠ []) {l : List Int} (hl : l ∈ ls) : l.length + ls.length ≤ ls.flatten.length + 1 := by
  have key : ∀ ls : List (List Int), (∀ l ∈ ls, l ≠ []) → ls.length ≤ ls.flatten.length := by
    intro ls
    induction ls with
    | nil => intro _; simp
    | cons x r ih =>
      intro h
      have h1 := ih fun l m => h l (List.mem_cons_of_mem _ m)
      have h2 : 0 < x.length := List.length_pos_iff.mpr (h x List.mem_cons_self)
      simp only [List.length_cons, List.flatten_cons, List.length_append]
      omega
  induction ls with
  | nil => cases hl
  | cons x r ih =>
    have h2 : 0 < x.length := List.length_pos_iff.mpr (h x List.mem_cons_self)
    have h3 := key r fun l m => h l (List.mem_cons_of_mem _ m)
    simp only [List.length_cons, List.flatten_cons, List.length_append]
    rcases List.mem_cons.mp hl with z | z
    · subst z; omega
    · have := ih (fun l m => h l (List.mem_cons_of_mem _ m)) z
      omega
theorem flat_ones (ts : List Int) : (ts.map fun t => [t]).flatten = ts := by
  induction ts with
  | nil => rfl
  | cons t r ih => simp [ih]
end K1

set_option Elab.async false
set_option linter.all false
set_option maxRecDepth 100000
set_option maxHeartbeats 4000000
namespace K1
open PySem L2 GxR GA KD KR KM
def spGrown (n : Nat) : Sp := fun vs H Q _ => ∃ (st c a : Addr) (w : Str) (ts : List Int), vs = [.ref st, .ref a, .str w] ∧ StAt st c H ∧ a ≠ st ∧ H a = some (.lst (ts.map V.int)) ∧ wd w = true ∧ ts ≠ [] ∧ ts.length ≤ n ∧ ts.length ≤ 60 ∧
  ∀ v d H', At (MS st) H' v d → PlanD d w ts → Kp (MS st) H H' → StAt st c H' → Q v H'
def spPlan : Sp := fun vs H Q _ => ∃ (st c : Addr) (n : Nat), vs = [.ref st, .int n] ∧ StAt st c H ∧ 1 ≤ n ∧ n ≤ 7 ∧
  ∀ v d w ts H', At (MS st) H' v d → PlanD d w ts → wd w = true → ts.Perm (rng n) → Kp (MS st) H H' → StAt st c H' → Q v H'
section
variable {P : Program} {w : World} {K : PySem.W.Frag} {mg : Str → Option Value} {base : Heap}
theorem _root_.K1.RowsAt.upd {H : Hp} {R b : Addr} {o : HO} {rows : List (Addr × List Int)} (h : RowsAt H R rows) (hR : R ≠ b) (hr : ∀ r ∈ rows, r.1 ≠ b) : RowsAt (upd H b o) R rows :=
  ⟨by rw [upd_ne hR]; exact h.at_, h.nd, fun r m => by rw [upd_ne (hr r m)]; exact h.row r m, h.ne⟩
theorem scGrown : FnScope ["stream", "tasks", "word", "many", "task", "rows", "other", "row"] ["stream", "tasks", "word"] (defScope sGrown) := ⟨rfl, rfl, rfl, by decide +kernel, rfl, by decide +kernel, by decide +kernel⟩
theorem ok_grown {n : Nat} {f g : Addr} {fd gd : FuncData} (F : Fun K "_law_grown" "_law_grown" sGrown f fd) (B : Bl K mg)
    (G : FnOk P w K mg base CX0 1 g gd ["stream", "many"] spNext) (bG : Binds K gd ["stream", "many"] []) (kG : PySem.W.keepIn K (.ref g) = true) (mG : mg "_law_next" = some (.ref g))
    (R : FnOk P w K mg base CX0 (n + 2) f fd ["stream", "tasks", "word"] (spGrown n)) (bF : Binds K fd ["stream", "tasks", "word"] []) (mF : mg "_law_grown" = some (.ref f)) :
    FnOk P w K mg base CX0 (n + 3) f fd ["stream", "tasks", "word"] (spGrown (n + 1)) := by
  refine F.ok scGrown (fun vs H Q E h => ?_) (fun cdv A outer s H vs Q E hr h => ?_)
  · obtain ⟨st, c, a, w, ts, rfl, _⟩ := h
    rfl
  obtain ⟨st, c, a, wo, ts, rfl, hst, hast, ha, hwd, hne, hln, hl60, q⟩ := h
  have hr1 : Room 1 _ := hr.mono (Nat.le_add_left 1 (n + 1))
  refine ⟨_, pss_cons (ps_if (pt_cmpR op_eq (pe_callB call_len_seq rfl B.len PySem.boot_len (pa_cons (pv 1) pa_nil)) pe_int (nomark _)) (pss_one (ps_ret (pe_ix ix_list (pv 1) pe_int (fun _ _ => rfl)))) pss_nil)
    (pss_cons (ps_set (i := 3) scGrown.nd rfl (Or.inl rfl) (pe_op op_add pe_int (pe_call G hr1 rfl mG kG bG .nil pass0 (pa_cons (pv 0) (pa_cons (pe_op op_sub (pe_callB call_len_seq rfl B.len PySem.boot_len (pa_cons (pv 1) pa_nil)) pe_int) pa_nil)))))
    (pss_cons (ps_setLc (i := 5) (own := [("task", 4)]) (g := gName 4) (tt := tYes) (te := tLst (tCons (tVar 4) tNil)) (by rfl) scGrown.nd rfl rfl (sw_true rfl rfl rfl (by decide +kernel)) (pi_list (pe_slice sl_list (pv 1) po_none (po_some (pv 3))))
        (blkOk_by (own := [("task", 4)]) (N := ["stream", "tasks", "word", "many", "task", "rows", "other", "row"]) (sc := defScope sGrown) (by decide +kernel)) (fun _ _ _ _ _ => pg_name (i := 4) scGrown.nd rfl (Or.inl rfl)) (fun _ _ _ _ _ => pts_nil) (fun _ _ _ _ _ => pe_lst (pa_cons (pv 4) pa_nil)))
    (pss_cons (ps_for PassesOwn.never rfl (pi_list (pe_slice sl_list (pv 1) (po_some (pv 3)) po_none)) (pg_name (i := 4) scGrown.nd rfl (Or.inl rfl))
        (pss_one (ps_expr (pe_bm PySem.F.plainAttrs_list PySem.F.slot_list_append PySem.F.type_list_append mt_append (pe_ix ix_list (pv 5) (pe_call G hr1 rfl mG kG bG .nil pass0 (pa_cons (pv 0) (pa_cons (pv 3) pa_nil))) (fun _ _ => rfl)) (pa_cons (pv 4) pa_nil)))))
    (C8.pss_cut (ps_set (i := 6) scGrown.nd rfl (Or.inr rfl) (pe_ifExp (pt_cmpR op_eq (pv 2) pe_str (nomark _)) pe_str pe_str))
    (pss_one (ps_ret (pe_tup (pa_cons (pv 2) (pa_cons (pe_callTy call_tuple_of rfl B.tuple (by decide +kernel) (pa_cons
      (pe_lc (own := [("row", 7)]) (g := gName 7) (tt := tYes) (te := tCall (spGrown n) [] E0 (tCons (tVar 0) (tCons (tVar 7) (tCons (tVar 6) tNil)))) rfl scGrown.nd (pi_list (pv 5)) (blkOk_by (own := [("row", 7)]) (N := ["stream", "tasks", "word", "many", "task", "rows", "other", "row"]) (sc := defScope sGrown) (by decide +kernel))
        (fun _ _ _ _ _ => pg_name (i := 7) scGrown.nd rfl (Or.inl rfl)) (fun _ _ _ _ _ => pts_nil) (fun _ _ _ _ _ => pe_call R hr rfl mF F.kp bF .nil pass0 (pa_cons (pv 0) (pa_cons (pv 7) (pa_cons (pv 6) pa_nil))))) pa_nil)) pa_nil))))))))), ?_⟩
  have hl : (ts.map V.int).length = ts.length := List.length_map _
  have hpos : 0 < ts.length := List.length_pos_iff.mpr hne
  refine ⟨_, rfl, a, _, rfl, .inl (SqL.of ha), rfl, _, rfl, ?_⟩
  refine ite2 (fun c1 => ?_) (fun c1 => ?_)
  · have c' := of_decide_eq_true c1
    injection c' with c'
    rw [hl] at c'
    obtain ⟨t, rfl⟩ : ∃ t, ts = [t] := by
      match ts, (show ts.length = 1 by omega) with
      | [t], _ => exact ⟨t, rfl⟩
    exact ⟨_, rfl, a, _, _, _, rfl, rfl, SqL.of ha, atI_nat (j := 0) rfl, q _ _ H (.int t) (PlanD.one t wo) .refl hst⟩
  have h2 : 2 ≤ ts.length := by
    have c' := of_decide_eq_false (Bool.eq_false_iff.mpr c1)
    rw [hl] at c'
    have : ts.length ≠ 1 := fun z => c' (by rw [z]; rfl)
    omega
  refine ⟨_, rfl, _, rfl, a, _, rfl, .inl (SqL.of ha), _, 1, rfl, rfl, st, c, _, rfl, hst, by rw [hl]; omega, by rw [hl]; omega, fun d0 H1 d00 d01 k1 s1 => ?_⟩
  rw [hl] at d01
  have ha1 := k1.lst a _ hast ha
  obtain ⟨m, em⟩ : ∃ m : Nat, (2 : Int) + d0 = (m : Int) := ⟨(2 + d0).toNat, by omega⟩
  have hm2 : 2 ≤ m := by omega
  have hmt : m ≤ ts.length := by omega
  refine ⟨2, d0, rfl, rfl, ?_⟩
  dsimp only
  rw [em]
  -- rows = [[task] for task in tasks[:many]]
  refine ⟨_, rfl, _, rfl, _, rfl, a, _, rfl, SqL.of ha1, fun S1 hS1 => ⟨S1, rfl, ⟨_, SqL.of upd_same⟩, fun D hD => ?_⟩⟩
  rw [cut_to hmt] at hD ⊢
  have nS1 := s1.ne hS1
  have s2 : StAt st c (upd H1 S1 (.lst ((ts.take m).map V.int))) := s1.new hS1
  have nD := s2.ne hD
  have k2 : Kp (MS st) H (upd H1 S1 (.lst ((ts.take m).map V.int))) := k1.trans (Kp.new hS1)
  have fD : ∀ zs, H D ≠ some (.lst zs) := k2.noLst nD.1 hD
  refine lc_list (K := K) (a := S1) (xs := (ts.take m).map V.int) (fun i H' => ∃ rows, Kp (MS st) H H' ∧ StAt st c H' ∧ H' S1 = some (.lst ((ts.take m).map V.int)) ∧ RowsAt H' D rows ∧ rows.map (·.2) = ((ts.take m).take i).map (fun t => [t]) ∧ ∀ r ∈ rows, ∀ zs, H r.1 ≠ some (.lst zs))
    ⟨[], k2.trans (Kp.new hD), s2.new hD, by rw [upd_ne (ne_of_none upd_same hD), upd_same], ⟨upd_same, by simp, (fun _ h => by cases h), (fun _ h => by cases h)⟩, rfl, (fun _ h => by cases h)⟩ (fun i H' _ p => SqL.of (by obtain ⟨_, _, _, e, _⟩ := p; exact e)) (fun i x H' hi p => ?_) (fun H' p => ?_)
  · obtain ⟨rows, k3, s3, e3, r3, f3, g3⟩ := p
    rw [List.getElem?_map] at hi
    obtain ⟨t, ht, rfl⟩ := Option.map_eq_some_iff.mp hi
    have hi' := (List.getElem?_eq_some_iff.mp ht).1
    rw [List.length_take] at hi'
    refine ⟨rfl, ?_⟩
    dsimp only [tYes]
    rw [if_pos rfl]
    refine ⟨_, rfl, (by show 1 ≤ sizeLine; decide), fun p hp => ?_⟩
    have np := s3.ne hp
    have hD3 := r3.at_
    have nDp : D ≠ p := ne_of_none hD3 hp
    have hlr : rows.length ≤ 60 := by
      have := congrArg List.length f3
      simp only [List.length_map, List.length_take] at this
      omega
    refine ⟨_, by rw [upd_ne nDp]; exact hD3, by rw [List.length_map]; exact small1000 (by omega), rows ++ [(p, [t])], ?_, (s3.new hp).put nD, ?_, r3.snoc (l := [t]) hp, ?_, fun r hr => ?_⟩
    · exact (k3.trans (Kp.new hp)).putFresh fD (by rw [upd_ne nDp]; exact hD3)
    · have n1 : S1 ≠ D := by
        intro z
        rw [z, upd_same] at hD
        cases hD
      rw [upd_ne n1, upd_ne (ne_of_none e3 hp)]
      exact e3
    · rw [List.map_append, f3, List.take_succ, ht, List.map_append]
      rfl
    · rcases List.mem_append.mp hr with z | z
      · exact g3 r z
      · have : r = (p, [t]) := by simpa using z
        subst this
        exact k3.noLst np.1 hp
  · obtain ⟨rows, k3, s3, e3, r3, f3, g3⟩ := p
    rw [List.length_map, List.take_length] at f3
    have ha3 := k3.lst a _ hast ha
    -- for task in tasks[many:]
    refine ⟨_, rfl, _, rfl, _, rfl, a, _, rfl, SqL.of ha3, fun S2 hS2 => ⟨S2, rfl, ⟨_, SqL.of upd_same⟩, ?_⟩⟩
    rw [cut_from hmt]
    have hrl : rows.length = m := by
      have := congrArg List.length f3
      simp only [List.length_map, List.length_take] at this
      omega
    refine for_list (K := K) (a := S2) (xs := (ts.drop m).map V.int) (fun i σ H' => ∃ rows x4, σ = [some (.ref st), some (.ref a), some (.str wo), some (.int m), x4, some (.ref D), none, none] ∧ Kp (MS st) H H' ∧ StAt st c H' ∧ H' S2 = some (.lst ((ts.drop m).map V.int)) ∧ RowsAt H' D rows ∧
        (∀ r ∈ rows, ∀ zs, H r.1 ≠ some (.lst zs)) ∧ (∀ r ∈ rows, r.1 ≠ S2) ∧ rows.length = m ∧ (∀ r ∈ rows, r.2 ≠ []) ∧ ((rows.map (·.2)).flatten).Perm (ts.take m ++ (ts.drop m).take i))
      ⟨rows, none, rfl, k3.trans (Kp.new hS2), s3.new hS2, upd_same, r3.kp (st := st) (Kp.new hS2) nD.1 (fun r hr z => ?_), g3, fun r hr => ne_of_none (r3.row r hr) hS2, hrl, fun r hr e => ?_, ?_⟩ (fun i σ H' _ p => SqL.of (by obtain ⟨_, _, _, _, _, e, _⟩ := p; exact e)) (fun i x σ H' hi p => ?_) (fun σ H' p => ?_)
    · obtain ⟨xs, e⟩ := hst.ex
      exact g3 r hr xs (by rw [z]; exact e)
    · have : r.2 ∈ rows.map (·.2) := List.mem_map.mpr ⟨r, hr, rfl⟩
      rw [f3, e] at this
      obtain ⟨t, _, z⟩ := List.mem_map.mp this
      cases z
    · rw [f3, flat_ones, List.take_zero, List.append_nil]
    · obtain ⟨rows, x4, rfl, k4, s4, e4, r4, g4, n4, l4, m4, p4⟩ := p
      rw [List.getElem?_map] at hi
      obtain ⟨t, ht, rfl⟩ := Option.map_eq_some_iff.mp hi
      refine ⟨_, rfl, _, rfl, _, rfl, st, c, _, rfl, s4, by omega, by omega, fun d H5 d50 d51 k5 s5 => ?_⟩
      have hd : d.toNat < rows.length := by omega
      obtain ⟨⟨aj, lj⟩, hj⟩ : ∃ r, rows[d.toNat]? = some r := ⟨_, List.getElem?_eq_getElem hd⟩
      have hm := List.mem_of_getElem? hj
      have nst : ∀ r ∈ rows, r.1 ≠ st := fun r hr z => by
        obtain ⟨xs, e⟩ := hst.ex
        exact g4 r hr xs (by rw [z]; exact e)
      have nc : ∀ r ∈ rows, r.1 ≠ c := fun r hr z => by
        obtain ⟨xs, e⟩ := hst.ex2
        exact g4 r hr xs (by rw [z]; exact e)
      have r5 := r4.kp k5 nD.1 nst
      have e5 : H5 S2 = some (.lst ((ts.drop m).map V.int)) := k5.lst S2 _ (s3.ne hS2).1 e4
      have hat := atI_nat (xs := rows.map fun r => V.ref r.1) (j := d.toNat) (v := .ref aj) (by rw [List.getElem?_map, hj]; rfl)
      have ed : ((d.toNat : Nat) : Int) = d := by omega
      rw [ed] at hat
      have hrow := r5.row _ hm
      have hlen : lj.length ≤ 60 := by
        have h1 := row_len (ls := rows.map (·.2)) (fun l hl => by obtain ⟨r, hr, rfl⟩ := List.mem_map.mp hl; exact m4 r hr) (List.mem_map.mpr ⟨_, hm, rfl⟩)
        have h2 := p4.length_eq
        rw [List.length_append, List.length_take, List.length_take, List.length_drop] at h2
        rw [List.length_map] at h1
        dsimp only at h1
        have hi' := (List.getElem?_eq_some_iff.mp ht).1
        rw [List.length_drop] at hi'
        rw [Nat.min_eq_left hmt, Nat.min_eq_left (by omega)] at h2
        omega
      refine ⟨D, _, d, _, rfl, rfl, SqL.of r5.at_, hat, .inl ⟨rfl, _, .inl (.inl hrow)⟩, _, rfl, aj, _, _, rfl, rfl, hrow, by rw [List.length_map]; exact small1000 (by dsimp only; omega), ?_⟩
      refine ⟨rows.set d.toNat (aj, lj ++ [t]), _, rfl, (k4.trans k5).putFresh (g4 _ hm) hrow, s5.put ⟨nst _ hm, nc _ hm⟩, by rw [upd_ne (n4 _ hm).symm]; exact e5, r5.put hj, fun r hr => ?_, fun r hr => ?_, by rw [List.length_set]; exact l4, fun r hr => ?_, ?_⟩
      · rcases mem_set_cases hr with z | z
        · exact g4 r z
        · rw [z]; exact g4 (aj, lj) hm
      · rcases mem_set_cases hr with z | z
        · exact n4 r z
        · rw [z]; exact n4 (aj, lj) hm
      · rcases mem_set_cases hr with z | z
        · exact m4 r z
        · rw [z]; simp
      · refine (set_flat hj).trans ?_
        rw [List.take_succ, ht, ← List.append_assoc]
        exact List.Perm.append_right _ p4
    · obtain ⟨rows, x4, rfl, k4, s4, e4, r4, g4, n4, l4, m4, p4⟩ := p
      rw [List.length_map, List.take_length, List.take_append_drop] at p4
      refine ⟨fun σ' H'' => ∃ oth x, σ' = [some (.ref st), some (.ref a), some (.str wo), some (.int m), x, some (.ref D), some (.str oth), none] ∧ wd oth = true ∧ wo ≠ oth ∧ H' = H'', ?_, ?_⟩
      · refine ⟨_, rfl, rfl, _, rfl, ?_⟩
        refine ite2 (fun c => ?_) (fun c => ?_)
        · have c' := of_decide_eq_true c
          injection c' with c'
          exact ⟨"beside", x4, rfl, by decide +kernel, by rw [c']; decide +kernel, rfl⟩
        · have c' := of_decide_eq_false (Bool.eq_false_iff.mpr c)
          exact ⟨"then", x4, rfl, by decide +kernel, fun z => c' (by rw [z]), rfl⟩
      rintro σ' H'' ⟨oth, x, rfl, hoth, hno, rfl⟩
      refine ⟨_, rfl, ?_⟩
      refine ⟨_, rfl, D, rfl, ⟨_, SqL.of r4.at_⟩, fun D2 hD2 => ?_⟩
      have n2 := s4.ne hD2
      have k5 : Kp (MS st) H (upd H' D2 (.lst [])) := k4.trans (Kp.new hD2)
      have f2 : ∀ zs, H D2 ≠ some (.lst zs) := k4.noLst n2.1 hD2
      have nDD : D ≠ D2 := ne_of_none r4.at_ hD2
      have nRD : ∀ r ∈ rows, r.1 ≠ D2 := fun r hr => ne_of_none (r4.row r hr) hD2
      have hL : (rows.map (·.2)).length = m := by rw [List.length_map]; exact l4
      refine lc_list (K := K) (a := D) (xs := rows.map fun r => V.ref r.1) (fun i H3 => ∃ vs ds, Kp (MS st) H H3 ∧ StAt st c H3 ∧ RowsAt H3 D rows ∧ H3 D2 = some (.lst vs) ∧ AtL (MS st) H3 vs ds ∧ PartsD ds wo ((rows.map (·.2)).take i) ts.length)
        ⟨[], [], k5, s4.new hD2, r4.upd nDD nRD, upd_same, .nil, PartsD.nil h2⟩ (fun i H3 _ p => SqL.of (by obtain ⟨_, _, _, _, r, _⟩ := p; exact r.at_)) (fun i x H3 hi p => ?_) (fun H3 p => ?_)
      · obtain ⟨vs, ds, k6, s6, r6, e6, a6, p6⟩ := p
        rw [List.getElem?_map] at hi
        obtain ⟨⟨ar, lr⟩, hr', rfl⟩ := Option.map_eq_some_iff.mp hi
        have hm := List.mem_of_getElem? hr'
        have hlen := row_len (ls := rows.map (·.2)) (fun l hl => by obtain ⟨r, hr, rfl⟩ := List.mem_map.mp hl; exact m4 r hr) (List.mem_map.mpr ⟨_, hm, rfl⟩)
        rw [p4.length_eq, hL] at hlen
        have hlen' : lr.length + m ≤ ts.length + 1 := hlen
        refine ⟨rfl, ?_⟩
        dsimp only [tYes]
        rw [if_pos rfl]
        have nst : ar ≠ st := fun z => by
          obtain ⟨xs, e⟩ := hst.ex
          exact g4 _ hm xs (by rw [z]; exact e)
        refine ⟨_, rfl, _, rfl, _, rfl, st, c, ar, oth, lr, rfl, s6, nst, r6.row _ hm, hoth, m4 _ hm, by omega, by omega, fun v d H7 a7 q7 k7 s7 => ?_⟩
        have e7 := k7.lst D2 _ n2.1 e6
        have hds := p6.len
        have hvs := a6.length
        rw [List.length_take, hL] at hds
        refine ⟨vs, e7, small1000 (by have : min i m ≤ m := Nat.min_le_right _ _; omega), vs ++ [v], ds ++ [d], (k6.trans k7).putFresh f2 e7, s7.put n2, (r6.kp k7 nD.1 fun r hr z => ?_).upd nDD nRD, upd_same, ?_, ?_⟩
        · obtain ⟨xs, e⟩ := hst.ex
          exact g4 r hr xs (by rw [z]; exact e)
        · have tk : ∀ b xs, H7 b = some (.tup xs) → upd H7 D2 (.lst (vs ++ [v])) b = some (.tup xs) := fun b xs e => by
            rw [upd_ne]
            · exact e
            · intro z
              rw [z, e7] at e
              cases e
          exact AtL.append (AtL.put tk (a6.kp k7) p6.nol) (AtL.one (At.put tk a7 q7.nol))
        · rw [List.take_succ, List.getElem?_map, hr']
          exact p6.snoc q7 hno (by show lr.length + 1 ≤ _; omega)
      · obtain ⟨vs, ds, k6, s6, r6, e6, a6, p6⟩ := p
        rw [List.length_map, List.take_of_length_le (by rw [List.length_map]; exact Nat.le_refl _)] at p6
        refine ⟨D2, vs, rfl, .inl ⟨SqL.of e6, fun p1 hp1 => ?_⟩⟩
        refine ⟨(by show 2 ≤ sizeLine; decide), fun p2 hp2 => ?_⟩
        have kk : Kp (MS st) H3 (upd (upd H3 p1 (.tup vs)) p2 (.tup [.str wo, .ref p1])) := (Kp.new hp1).trans (Kp.new hp2)
        refine q _ (.tuple [.str wo, .tuple ds]) _ (.tup upd_same (.cons (.str wo) (.cons (.tup ?_ (a6.kp kk)) .nil))) ?_ (k6.trans kk) ((s6.new hp1).new hp2)
        · rw [upd_ne (ne_of_none upd_same hp2), upd_same]
        · exact p6.plan hwd (by omega) p4 (by omega)
end
end K1

set_option Elab.async false
set_option linter.all false
set_option maxRecDepth 100000
set_option maxHeartbeats 4000000
namespace K1
open PySem L2 GxR GA KD KR KM
abbrev sLIsPlan : Stmt := top 21
abbrev sFormed : Stmt := top 22
mutual
/-- how many whole numbers stand in tuples -/
def lv : PyData → Nat
  | .int _ => 1
  | .tuple xs => lvL xs
  | _ => 0
def lvL : List PyData → Nat
  | [] => 0
  | x :: r => lv x + lvL r
end
theorem lvL_cons (x : PyData) (r : List PyData) : lvL (x :: r) = lv x + lvL r := by simp only [lvL]
theorem lv_tuple (r : List PyData) : lv (.tuple r) = lvL r := by simp only [lv]
theorem lv_str (s : Str) : lv (.str s) = 0 := by simp only [lv]
mutual
theorem formed_lv : ∀ (d : PyData) (o : Str) (l : List Int), formed d o = some l → l.length = lv d
  | .int i, o, l, h => by
    rw [formed_int] at h
    cases h
    simp only [lv]
    rfl
  | .tuple [.str w, .tuple ps], o, l, h => by
    rw [formed_parts] at h
    split at h
    · rw [formedL_lv ps w l h, lv_tuple, lvL_cons, lvL_cons, lv_str, lv_tuple]
      simp only [lvL]
      omega
    · cases h
  | .none, _, _, h => by simp [formed] at h
  | .bool _, _, _, h => by simp [formed] at h
  | .str _, _, _, h => by simp [formed] at h
  | .list _, _, _, h => by simp [formed] at h
  | .dict _, _, _, h => by simp [formed] at h
  | .tuple [], _, _, h => by simp [formed] at h
  | .tuple [_], _, _, h => by simp [formed] at h
  | .tuple (.str _ :: .none :: _), _, _, h => by simp [formed] at h
  | .tuple (.str _ :: .bool _ :: _), _, _, h => by simp [formed] at h
  | .tuple (.str _ :: .int _ :: _), _, _, h => by simp [formed] at h
  | .tuple (.str _ :: .str _ :: _), _, _, h => by simp [formed] at h
  | .tuple (.str _ :: .list _ :: _), _, _, h => by simp [formed] at h
  | .tuple (.str _ :: .dict _ :: _), _, _, h => by simp [formed] at h
  | .tuple (.none :: _ :: _), _, _, h => by simp [formed] at h
  | .tuple (.bool _ :: _ :: _), _, _, h => by simp [formed] at h
  | .tuple (.int _ :: _ :: _), _, _, h => by simp [formed] at h
  | .tuple (.tuple _ :: _ :: _), _, _, h => by simp [formed] at h
  | .tuple (.list _ :: _ :: _), _, _, h => by simp [formed] at h
  | .tuple (.dict _ :: _ :: _), _, _, h => by simp [formed] at h
  | .tuple (.str _ :: .tuple _ :: _ :: _), _, _, h => by simp [formed] at h
theorem formedL_lv : ∀ (ds : List PyData) (w : Str) (l : List Int), formedL ds w = some l → l.length = lvL ds
  | [], w, l, h => by
    rw [formedL_nil] at h
    cases h
    simp only [lvL]
    rfl
  | p :: r, w, l, h => by
    rw [formedL_cons] at h
    cases e1 : formed p w with
    | none => rw [e1] at h; cases h
    | some a =>
      cases e2 : formedL r w with
      | none => rw [e1, e2] at h; cases h
      | some b =>
        rw [e1, e2] at h
        cases h
        rw [List.length_append, formed_lv p w a e1, formedL_lv r w b e2, lvL_cons]
end
theorem lvL_take : ∀ (ds : List PyData) (i : Nat), lvL (ds.take i) ≤ lvL ds
  | [], i => by simp [lvL]
  | d :: r, 0 => by simp [lvL]
  | d :: r, i + 1 => by
    rw [List.take_succ_cons, lvL_cons, lvL_cons]
    have := lvL_take r i
    omega
theorem lvL_mem : ∀ {ds : List PyData} {d : PyData}, d ∈ ds → lv d ≤ lvL ds
  | x :: r, d, h => by
    rw [lvL_cons]
    rcases List.mem_cons.mp h with z | z
    · rw [z]; omega
    · have := lvL_mem z
      omega
theorem formedL_bad {w : Str} : ∀ {ds : List PyData} {d : PyData}, d ∈ ds → formed d w = none → formedL ds w = none
  | x :: r, d, h, e => by
    rw [formedL_cons]
    rcases List.mem_cons.mp h with z | z
    · rw [← z, e]
    · rw [formedL_bad z e]
      cases formed x w <;> rfl
theorem formedL_succ {w : Str} {ds : List PyData} {i : Nat} {p : PyData} {a b : List Int} (h : formedL (ds.take i) w = some a) (hp : ds[i]? = some p) (hb : formed p w = some b) : formedL (ds.take (i + 1)) w = some (a ++ b) := by
  rw [List.take_succ, hp]
  show formedL (ds.take i ++ [p]) w = _
  rw [formedL_app, formedL_one, h, hb]
/-- the parts' answers in a list -/
inductive FR (M : Addr → Prop) (H : Hp) (w : Str) : List V → List PyData → Prop
  | nil : FR M H w [] []
  | bad {p : PyData} {vs : List V} {ps : List PyData} : formed p w = none → FR M H w vs ps → FR M H w (.non :: vs) (p :: ps)
  | good {p : PyData} {l : List Int} {a : Addr} {vs : List V} {ps : List PyData} : formed p w = some l → H a = some (.lst (l.map V.int)) → ¬ M a → FR M H w vs ps → FR M H w (.ref a :: vs) (p :: ps)
theorem FR.kp {M : Addr → Prop} {H H' : Hp} {w : Str} (k : Kp M H H') : ∀ {vs : List V} {ps : List PyData}, FR M H w vs ps → FR M H' w vs ps
  | _, _, .nil => .nil
  | _, _, .bad e r => .bad e (FR.kp k r)
  | _, _, .good e h n r => .good e (k.lst _ _ n h) n (FR.kp k r)
theorem FR.len {M : Addr → Prop} {H : Hp} {w : Str} : ∀ {vs : List V} {ps : List PyData}, FR M H w vs ps → vs.length = ps.length
  | _, _, .nil => rfl
  | _, _, .bad _ r => congrArg (· + 1) (FR.len r)
  | _, _, .good _ _ _ r => congrArg (· + 1) (FR.len r)
theorem FR.snocB {M : Addr → Prop} {H : Hp} {w : Str} {p : PyData} (e : formed p w = none) : ∀ {vs : List V} {ps : List PyData}, FR M H w vs ps → FR M H w (vs ++ [.non]) (ps ++ [p])
  | _, _, .nil => .bad e .nil
  | _, _, .bad e' r => .bad e' (FR.snocB e r)
  | _, _, .good e' h n r => .good e' h n (FR.snocB e r)
theorem FR.snocG {M : Addr → Prop} {H : Hp} {w : Str} {p : PyData} {l : List Int} {a : Addr} (e : formed p w = some l) (ha : H a = some (.lst (l.map V.int))) (hm : ¬ M a) : ∀ {vs : List V} {ps : List PyData}, FR M H w vs ps → FR M H w (vs ++ [.ref a]) (ps ++ [p])
  | _, _, .nil => .good e ha hm .nil
  | _, _, .bad e' r => .bad e' (FR.snocG e ha hm r)
  | _, _, .good e' h n r => .good e' h n (FR.snocG e ha hm r)
theorem FR.get {M : Addr → Prop} {H : Hp} {w : Str} : ∀ {vs : List V} {ps : List PyData} {i : Nat} {v : V}, FR M H w vs ps → vs[i]? = some v →
    ∃ p, ps[i]? = some p ∧ ((formed p w = none ∧ v = .non) ∨ ∃ l a, formed p w = some l ∧ v = .ref a ∧ H a = some (.lst (l.map V.int)) ∧ ¬ M a)
  | _, _, 0, v, .bad (p := p) e r, h => by
    simp at h
    exact ⟨p, rfl, .inl ⟨e, h.symm⟩⟩
  | _, _, 0, v, .good (p := p) e h' n r, h => by
    simp at h
    exact ⟨p, rfl, .inr ⟨_, _, e, h.symm, h', n⟩⟩
  | _, _, i + 1, v, .bad e r, h => FR.get (i := i) r (by simpa using h)
  | _, _, i + 1, v, .good e _ _ r, h => FR.get (i := i) r (by simpa using h)
theorem FR.fresh {M : Addr → Prop} {H : Hp} {w : Str} {D : Addr} {o : HO} (hD : H D = none) : ∀ {vs : List V} {ps : List PyData}, FR M H w vs ps → FR (MS D) (upd H D o) w vs ps
  | _, _, .nil => .nil
  | _, _, .bad e r => .bad e (FR.fresh hD r)
  | _, _, .good e h n r => .good e (by rw [upd_ne (ne_of_none h hD)]; exact h) (fun z => ne_of_none h hD z) (FR.fresh hD r)
def spFormed (n : Nat) : Sp := fun vs H Q _ => ∃ (v : V) (d : PyData) (o : Str), vs = [v, .str o] ∧ At MN H v d ∧ d.depth < n ∧ SeqAt.shaped d = true ∧ slim d = true ∧ lv d ≤ 60 ∧
  (∀ H', formed d o = none → Kp MN H H' → Q .non H') ∧ (∀ l a H', formed d o = some l → (∀ zs, H a ≠ some (.lst zs)) → Kp MN H H' → H' a = some (.lst (l.map V.int)) → Q (.ref a) H')
def spLIsPlan : Sp := fun vs H Q _ => ∃ (v : V) (d : PyData) (n : Nat), vs = [v, .int n] ∧ At MN H v d ∧ n < 60 ∧ SeqAt.shaped d = true ∧ slim d = true ∧ lv d ≤ 60 ∧ ∀ H', Kp MN H H' → Q (.bl (lawPl d n)) H'
section
variable {P : Program} {w : World} {K : PySem.W.Frag} {mg : Str → Option Value} {base : Heap}
theorem oks_grown {f g : Addr} {fd gd : FuncData} (F : Fun K "_law_grown" "_law_grown" sGrown f fd) (B : Bl K mg)
    (G : FnOk P w K mg base CX0 1 g gd ["stream", "many"] spNext) (bG : Binds K gd ["stream", "many"] []) (kG : PySem.W.keepIn K (.ref g) = true) (mG : mg "_law_next" = some (.ref g))
    (bF : Binds K fd ["stream", "tasks", "word"] []) (mF : mg "_law_grown" = some (.ref f)) : ∀ n : Nat, FnOk P w K mg base CX0 (n + 2) f fd ["stream", "tasks", "word"] (spGrown n)
  | 0 => never_ok fun vs H Q E h => by
    obtain ⟨_, _, _, _, ts, _, _, _, _, _, hn, h0, _⟩ := h
    exact hn (List.length_eq_zero_iff.mp (Nat.le_zero.mp h0))
  | n + 1 => ok_grown F B G bG kG mG (oks_grown F B G bG kG mG bF mF n) bF mF
theorem scPlan : FnScope ["stream", "size"] ["stream", "size"] (defScope sPlan) := ⟨rfl, rfl, rfl, by decide +kernel, rfl, by decide +kernel, by decide +kernel⟩
theorem ok_plan {f g o p : Addr} {fd gd od pd : FuncData} (F : Fun K "_law_plan" "_law_plan" sPlan f fd) (B : Bl K mg)
    (G : FnOk P w K mg base CX0 9 g gd ["stream", "tasks", "word"] (spGrown 7)) (bG : Binds K gd ["stream", "tasks", "word"] []) (kG : PySem.W.keepIn K (.ref g) = true) (mG : mg "_law_grown" = some (.ref g))
    (O : FnOk P w K mg base CX0 2 o od ["stream", "many"] spOrder) (bO : Binds K od ["stream", "many"] []) (kO : PySem.W.keepIn K (.ref o) = true) (mO : mg "_law_order" = some (.ref o))
    (C : FnOk P w K mg base CX0 2 p pd ["stream", "rows"] spPick) (bC : Binds K pd ["stream", "rows"] []) (kC : PySem.W.keepIn K (.ref p) = true) (mC : mg "_law_pick" = some (.ref p)) :
    FnOk P w K mg base CX0 10 f fd ["stream", "size"] spPlan := by
  refine F.ok scPlan (fun vs H Q E h => ?_) (fun cdv A outer s H vs Q E hr h => ?_)
  · obtain ⟨st, c, n, rfl, _⟩ := h
    rfl
  obtain ⟨st, c, n, rfl, hst, h1, h7, q⟩ := h
  have hr2 : Room 2 _ := hr.mono (by decide)
  refine ⟨_, pss_one (ps_ret (pe_call G hr rfl mG kG bG .nil pass0 (pa_cons (pv 0) (pa_cons (pe_callTy call_list_of rfl B.list (by decide +kernel) (pa_cons (pe_call O hr2 rfl mO kO bO .nil pass0 (pa_cons (pv 0) (pa_cons (pv 1) pa_nil))) pa_nil))
    (pa_cons (pe_call C hr2 rfl mC kC bC .nil pass0 (pa_cons (pv 0) (pa_cons (pe_lst (pa_cons pe_str (pa_cons pe_str pa_nil))) pa_nil))) pa_nil))))), ?_⟩
  refine ⟨_, rfl, _, rfl, _, rfl, st, c, n, rfl, hst, by omega, fun p ts H1 perm hp k1 s1 => ?_⟩
  refine ⟨p, _, rfl, .inr (SqT.of hp), fun L hL => ?_⟩
  refine ⟨_, rfl, (by show 2 ≤ sizeLine; decide), fun R hR => ?_⟩
  have nL := s1.ne hL
  have s2 : StAt st c (upd H1 L (.lst (ts.map V.int))) := s1.new hL
  have s3 := s2.new hR (o := .lst [.str "then", .str "beside"])
  have nR := s2.ne hR
  refine ⟨st, c, _, [.str "then", .str "beside"], rfl, s3, .lst upd_same nR.1 (.cons (.str _) (.cons (.str _) .nil)), by simp, by decide, fun x d H2 hd ax k2 s4 => ?_⟩
  obtain ⟨wo, rfl, hwo⟩ : ∃ wo, d = .str wo ∧ wd wo = true := by
    rcases List.mem_cons.mp hd with z | z
    · exact ⟨_, z, by decide +kernel⟩
    · exact ⟨_, List.mem_singleton.mp z, by decide +kernel⟩
  cases ax.str_of
  have hlen := perm.length_eq
  rw [rng_length] at hlen
  have nLR : L ≠ R := fun z => by
    rw [← z, upd_same] at hR
    cases hR
  have eL := k2.lst L (ts.map V.int) nL.1 (by rw [upd_ne nLR]; exact upd_same)
  exact ⟨st, c, L, wo, ts, rfl, s4, nL.1, eL, hwo, fun z => by rw [z] at hlen; simp at hlen; omega, by omega, by omega, fun v d H3 a3 p3 k3 s5 => q v d wo ts H3 a3 p3 hwo perm (k1.trans ((Kp.new hL).trans ((Kp.new hR).trans (k2.trans k3)))) s5⟩
theorem scFormed : FnScope ["value", "outer", "rows", "part", "row", "found"] ["value", "outer"] (defScope sFormed) := ⟨rfl, rfl, rfl, by decide +kernel, rfl, by decide +kernel, by decide +kernel⟩
end
end K1

set_option Elab.async false
set_option linter.all false
set_option maxRecDepth 100000
set_option maxHeartbeats 4000000
namespace K1
open PySem L2 GxR GA KD KR KM
theorem shaped_lwords : SeqAt.shaped (.list [PyData.str "then", PyData.str "beside"]) = true := by decide +kernel
theorem formed_noTup {d : PyData} {o : Str} (h1 : isI d = false) (h2 : isTup d = false) : formed d o = none := by
  cases d with
  | int i => simp [isI] at h1
  | tuple ds => simp [isTup] at h2
  | _ => simp [formed]
theorem formed_len {ds : List PyData} {o : Str} (h : ds.length ≠ 2) : formed (.tuple ds) o = none := by
  match ds, h with
  | [], _ => simp [formed]
  | [a], _ => simp [formed]
  | [a, b], h => exact absurd rfl h
  | a :: b :: c :: r, _ => cases a <;> cases b <;> simp [formed]
theorem formed_head {a b : PyData} {o : Str} (h : inW a = false) : formed (.tuple [a, b]) o = none := by
  cases a with
  | str s =>
    cases b with
    | tuple ps =>
      rw [formed_parts]
      have h : wd s = false := h
      rw [h]
      rfl
    | _ => simp [formed]
  | _ => simp [formed]
theorem formed_tail {a b : PyData} {o : Str} (h : isTup b = false) : formed (.tuple [a, b]) o = none := by
  cases b with
  | tuple ds => simp [isTup] at h
  | _ => cases a <;> simp [formed]
theorem formed_same (b : PyData) (o : Str) : formed (.tuple [.str o, b]) o = none := by
  cases b with
  | tuple ps => rw [formed_parts]; simp
  | _ => simp [formed]
theorem isN_bools {M : Addr → Prop} {H : Hp} {w : Str} : ∀ {vs : List V} {ps : List PyData}, FR M H w vs ps → ((vs.map fun v => decide (v = V.non)).any id = true ∧ formedL ps w = none) ∨ ((vs.map fun v => decide (v = V.non)).any id = false ∧ ∀ p ∈ ps, formed p w ≠ none)
  | _, _, .nil => .inr ⟨rfl, fun _ h => by cases h⟩
  | _, _, .bad e r => .inl ⟨rfl, formedL_bad List.mem_cons_self e⟩
  | _, _, .good (p := p) e _ _ r => by
    rcases isN_bools r with ⟨z, y⟩ | ⟨z, y⟩
    · refine .inl ⟨?_, ?_⟩
      · rw [List.map_cons, List.any_cons, z, Bool.or_true]
      · rw [formedL_cons, e, y]
    · refine .inr ⟨?_, fun q hq => ?_⟩
      · rw [List.map_cons, List.any_cons, z]
        rfl
      · rcases List.mem_cons.mp hq with t | t
        · rw [t, e]
          exact fun x => by cases x
        · exact y q t
section
variable {P : Program} {w : World} {K : PySem.W.Frag} {mg : Str → Option Value} {base : Heap}
theorem ok_formed {n : Nat} {f g : Addr} {fd gd : FuncData} (F : Fun K "_law_formed" "_law_formed" sFormed f fd) (B : Bl K mg)
    (G : FnOk P w K mg base CX0 1 g gd ["actual"] spIsInt) (bG : Binds K gd ["actual"] []) (kG : PySem.W.keepIn K (.ref g) = true) (mG : mg "_law_is_integer" = some (.ref g))
    (R : FnOk P w K mg base CX0 (n + 1) f fd ["value", "outer"] (spFormed n)) (bF : Binds K fd ["value", "outer"] []) (mF : mg "_law_formed" = some (.ref f)) :
    FnOk P w K mg base CX0 (n + 2) f fd ["value", "outer"] (spFormed (n + 1)) := by
  refine F.ok scFormed (fun vs H Q E h => ?_) (fun cdv A outer s H vs Q E hr h => ?_)
  · obtain ⟨v, d, o, rfl, _⟩ := h
    rfl
  obtain ⟨v, d, o, rfl, hA, hd, hS, hsl, hlv, q1, q2⟩ := h
  refine ⟨_, pss_cons (ps_if (pt_val (pe_call G (hr.mono (Nat.le_add_left 1 n)) rfl mG kG bG .nil pass0 (pa_cons (pv 0) pa_nil))) (pss_one (ps_ret (pe_lst (pa_cons (pv 0) pa_nil)))) pss_nil)
    (pss_cons (ps_if (PW.pt (pw_or (pt_not (pt_val (pe_callB call_isi rfl B.isinstance (by decide +kernel) (pa_cons (pv 0) (pa_cons (pe_bltn rfl B.tuple (by decide +kernel) (v := .ty "tuple") rfl) pa_nil)))))
      (pw_or (pt_cmpR op_ne (pe_callB call_len_seq rfl B.len PySem.boot_len (pa_cons (pv 0) pa_nil)) pe_int (nomark _))
        (pw_or (pt_cmpR (op_notInD (room65 hr)) (pe_ix ix_tup (pv 0) pe_int (fun _ _ => rfl)) (pe_lst (pa_cons pe_str (pa_cons pe_str pa_nil))) rfl)
          (pw_or1 (pt_cmpR op_eq (pe_ix ix_tup (pv 0) pe_int (fun _ _ => rfl)) (pv 1) (nomark _)))))))
      (pss_one (ps_ret pe_non)) pss_nil)
    (pss_cons (ps_if (PW.pt (pw_or (pt_not (pt_val (pe_callB call_isi rfl B.isinstance (by decide +kernel) (pa_cons (pe_ix ix_tup (pv 0) pe_int (fun _ _ => rfl)) (pa_cons (pe_bltn rfl B.tuple (by decide +kernel) (v := .ty "tuple") rfl) pa_nil)))))
        (pw_or1 (pt_cmpR op_lt (pe_callB call_len_seq rfl B.len PySem.boot_len (pa_cons (pe_ix ix_tup (pv 0) pe_int (fun _ _ => rfl)) pa_nil)) pe_int (nomark _)))))
      (pss_one (ps_ret pe_non)) pss_nil)
    (pss_cons (ps_setLc (i := 2) (own := [("part", 3)]) (g := gName 3) (tt := tYes) (te := tCall (spFormed n) [] E0 (tCons (tVar 3) (tCons (tOp (rIxT K) (tVar 0) (tC (.int 0))) tNil))) (by rfl) scFormed.nd rfl rfl (sw_true rfl rfl rfl (by decide +kernel)) (pi_tup (pe_ix ix_tup (pv 0) pe_int (fun _ _ => rfl)))
        (blkOk_by (own := [("part", 3)]) (N := ["value", "outer", "rows", "part", "row", "found"]) (sc := defScope sFormed) (by decide +kernel)) (fun _ _ _ _ _ => pg_name (i := 3) scFormed.nd rfl (Or.inl rfl)) (fun _ _ _ _ _ => pts_nil)
        (fun _ _ _ _ _ => pe_call R hr rfl mF F.kp bF .nil pass0 (pa_cons (pv 3) (pa_cons (pe_ix (r := rIxT K) ix_tup (pv 0) pe_int (fun _ _ => rfl)) pa_nil))))
    (pss_cons (ps_if (pt_val (pe_callB (cr_any rfl) rfl B.any (by decide +kernel) (pa_cons
        (pe_lc (own := [("row", 4)]) (g := gName 4) (tt := tYes) (te := tIsN (tVar 4)) rfl scFormed.nd (pi_list (pv 2)) (blkOk_by (own := [("row", 4)]) (N := ["value", "outer", "rows", "part", "row", "found"]) (sc := defScope sFormed) (by decide +kernel))
        (fun _ _ _ _ _ => pg_name (i := 4) scFormed.nd rfl (Or.inl rfl)) (fun _ _ _ _ _ => pts_nil) (fun _ _ _ _ _ => pe_cmp (pc_isN (pv 4)))) pa_nil))) (pss_one (ps_ret pe_non)) pss_nil)
    (pss_cons (ps_set (i := 5) scFormed.nd rfl (Or.inl rfl) (pe_lst pa_nil))
    (pss_cons (ps_for PassesOwn.never rfl (pi_list (pv 2)) (pg_name (i := 4) scFormed.nd rfl (Or.inl rfl))
        (pss_one (ps_expr (pe_bm PySem.F.plainAttrs_list PySem.F.slot_list_extend PySem.F.type_list_extend mt_extend (pv 5) (pa_cons (pv 4) pa_nil)))))
    (pss_one (ps_ret (pv 5))))))))), ?_⟩
  refine ⟨_, rfl, v, d, rfl, hA, _, rfl, ?_⟩
  by_cases ci : isI d = true
  · rw [ci]
    refine iteT ?_
    cases d with
    | int i =>
      cases hA.int_of
      exact ⟨_, rfl, (by show 1 ≤ sizeLine; decide), fun p hp => q2 [i] p _ (formed_int i o) (fun zs z => by rw [hp] at z; cases z) (Kp.new hp) upd_same⟩
    | _ => cases ci
  have ci' := Bool.eq_false_iff.mpr ci
  rw [ci']
  refine iteF ?_
  refine ⟨_, rfl, _, _, _, _, _, rfl, .ty _, hA.ty, kit_tup d, _, rfl, ?_⟩
  by_cases ct : isTup d = true
  case neg =>
    have ct' := Bool.eq_false_iff.mpr ct
    rw [ct']
    exact iteT (q1 H (formed_noTup ci' ct') .refl)
  rw [ct]
  obtain ⟨ds, rfl⟩ : ∃ ds, d = .tuple ds := by
    cases d with
    | tuple ds => exact ⟨ds, rfl⟩
    | _ => cases ct
  obtain ⟨a, xs, rfl, hx, hall⟩ := hA.tup_of
  have hl := hall.length
  refine iteF ?_
  refine ⟨_, rfl, a, xs, rfl, .inr (SqT.of hx), rfl, _, rfl, ?_⟩
  refine ite2 (fun c => ?_) (fun c => ?_)
  · refine iteT (q1 H (formed_len fun z => ?_) .refl)
    rw [← hl] at z
    rw [z] at c
    exact absurd c (by decide)
  have h2 : xs.length = 2 := by
    have c' := Bool.eq_false_iff.mpr c
    have := of_decide_eq_true (show decide (V.int (xs.length : Int) = V.int 2) = true by simpa using c')
    injection this with this
    omega
  obtain ⟨w0, p0, rfl⟩ : ∃ w0 p0, ds = [w0, p0] := by
    match ds, hl.symm.trans h2 with
    | [w0, p0], _ => exact ⟨w0, p0, rfl⟩
  obtain ⟨vw, vp, rfl⟩ : ∃ vw vp, xs = [vw, vp] := by
    match xs, h2 with
    | [vw, vp], _ => exact ⟨vw, vp, rfl⟩
  have aw0 : At MN H vw w0 := by cases hall with | cons a r => exact a
  have ap0 : At MN H vp p0 := by cases hall with | cons a r => cases r with | cons b _ => exact b
  refine ⟨_, rfl, _, _, _, _, rfl, rfl, SqT.of hx, atI_nat (j := 0) rfl, (by show 2 ≤ sizeLine; decide), fun W hW => ?_⟩
  have kW : Kp MN H (upd H W (.lst [.str "then", .str "beside"])) := Kp.new hW
  refine ⟨w0, [.str "then", .str "beside"], (aw0.kp kW).dp, .lst (SqL.of upd_same) (.cons (.str _) (.cons (.str _) .nil)), shaped_tup hS (by simp), shaped_lwords, ?_⟩
  rw [any_words]
  refine ⟨_, rfl, ?_⟩
  by_cases cw : inW w0 = true
  case neg =>
    have cw' := Bool.eq_false_iff.mpr cw
    rw [cw']
    exact iteT (q1 _ (formed_head cw') kW)
  rw [cw]
  obtain ⟨wo, rfl⟩ : ∃ wo, w0 = .str wo := by
    cases w0 with
    | str s => exact ⟨s, rfl⟩
    | _ => cases cw
  cases aw0.str_of
  have hwd : wd wo = true := cw
  refine iteF ?_
  refine ⟨_, rfl, _, _, _, _, rfl, rfl, SqT.of (kW.tup _ _ hx), atI_nat (j := 0) rfl, _, rfl, rfl, _, rfl, ?_⟩
  refine ite2 (fun c => ?_) (fun c => ?_)
  · have c' := of_decide_eq_true c
    injection c' with c'
    refine q1 _ ?_ kW
    rw [c']
    exact formed_same p0 o
  have hno : wo ≠ o := fun z => (of_decide_eq_false (Bool.eq_false_iff.mpr c)) (by rw [z])
  refine ⟨_, rfl, _, _, _, _, rfl, rfl, SqT.of (kW.tup _ _ hx), atI_nat (j := 1) rfl, _, _, _, _, _, rfl, .ty _, (ap0.kp kW).ty, kit_tup p0, _, rfl, ?_⟩
  by_cases cp : isTup p0 = true
  case neg =>
    have cp' := Bool.eq_false_iff.mpr cp
    rw [cp']
    exact iteT (q1 _ (formed_tail cp') kW)
  rw [cp]
  obtain ⟨ps, rfl⟩ : ∃ ps, p0 = .tuple ps := by
    cases p0 with
    | tuple ds => exact ⟨ds, rfl⟩
    | _ => cases cp
  refine iteF ?_
  have hparts := formed_parts wo o ps
  rw [hwd, decide_eq_false hno] at hparts
  obtain ⟨a2, xs2, rfl, hx2, hall2⟩ := (ap0.kp kW).tup_of
  have hl2 := hall2.length
  have hx' := kW.tup _ _ hx
  refine ⟨_, rfl, _, _, _, _, rfl, rfl, SqT.of hx', atI_nat (j := 1) rfl, a2, xs2, rfl, .inr (SqT.of hx2), _, _, rfl, rfl, _, rfl, ?_⟩
  refine ite2 (fun c => ?_) (fun c => ?_)
  · have c' : (xs2.length : Int) < 2 := of_decide_eq_true c
    refine q1 _ ?_ kW
    rw [hparts, decide_eq_false (by omega)]
    rfl
  have c2 : ¬ (xs2.length : Int) < 2 := of_decide_eq_false (Bool.eq_false_iff.mpr c)
  rw [decide_eq_true (show 2 ≤ ps.length by omega)] at hparts
  have hparts : formed (.tuple [.str wo, .tuple ps]) o = formedL ps wo := hparts
  refine ⟨_, rfl, _, _, _, _, rfl, rfl, SqT.of hx', atI_nat (j := 1) rfl, a2, rfl, ⟨_, SqT.of hx2⟩, fun D hD => ?_⟩
  have hSp := shaped_tup hS (show PyData.tuple ps ∈ _ by simp)
  have hps : ps.length ≤ 900 ∧ slimL ps = true := by
    simp only [slim, slimL, Bool.and_eq_true, decide_eq_true_eq] at hsl
    exact hsl.2.2.1
  have hdep : PyData.depthAll ps < n := by
    simp only [PyData.depth, PyData.depthAll] at hd
    omega
  have hlvp : lvL ps ≤ 60 := by
    rw [lv_tuple, lvL_cons, lvL_cons, lv_tuple] at hlv
    omega
  have kD : Kp MN H (upd (upd H W (.lst [.str "then", .str "beside"])) D (.lst [])) := kW.trans (Kp.new hD)
  have hDH : H D = none := by
    have nWD : D ≠ W := fun z => by
      rw [z, upd_same] at hD
      cases hD
    rw [upd_ne nWD] at hD
    exact hD
  refine lc_tup (K := K) (a := a2) (xs := xs2) (fun i H' => ∃ vs, Kp MN (upd H W (.lst [.str "then", .str "beside"])) H' ∧ H' D = some (.lst vs) ∧ FR (MS D) H' wo vs (ps.take i))
    ⟨[], Kp.new hD, upd_same, .nil⟩ (fun i H' _ p => SqT.of (by
      obtain ⟨_, k, _⟩ := p
      exact k.tup _ _ hx2)) (fun i x H' hi p => ?_) (fun H' p => ?_)
  · obtain ⟨vs, k3, e3, r3⟩ := p
    obtain ⟨d', hd', ha'⟩ := hall2.get hi
    have hm := List.mem_of_getElem? hd'
    refine ⟨rfl, ?_⟩
    dsimp only [tYes]
    rw [if_pos rfl]
    have hvs : vs.length ≤ 900 := by
      rw [r3.len, List.length_take]
      omega
    have htk : ps.take (i + 1) = ps.take i ++ [d'] := by rw [List.take_succ, hd']; rfl
    refine ⟨_, rfl, _, rfl, _, _, _, _, rfl, rfl, SqT.of (k3.tup _ _ hx'), atI_nat (j := 0) rfl, x, d', wo, rfl, ?_, ?_, shaped_tup hSp hm, slimL_mem hps.2 hm, Nat.le_trans (lvL_mem hm) hlvp, fun H5 hn k5 => ?_, fun l b H5 hg hb k5 he => ?_⟩
    · exact ha'.kp k3
    · exact Nat.lt_of_le_of_lt (depth_mem hm) hdep
    · have e5 := k5.lst D _ (fun z => z) e3
      refine ⟨vs, e5, small1000 (by omega), vs ++ [.non], (k3.trans k5).putNew hD e5, upd_same, ?_⟩
      rw [htk]
      exact FR.snocB hn ((r3.kp (k5.any)).kp (Kp.put (M := MS D) rfl e5))
    · have e5 := k5.lst D _ (fun z => z) e3
      have nb : b ≠ D := fun z => hb vs (by rw [z]; exact e3)
      refine ⟨vs, e5, small1000 (by omega), vs ++ [.ref b], (k3.trans k5).putNew hD e5, upd_same, ?_⟩
      rw [htk]
      exact FR.snocG (M := MS D) hg (by rw [upd_ne nb]; exact he) (fun z => nb z) ((r3.kp (k5.any)).kp (Kp.put (M := MS D) rfl e5))
  · obtain ⟨vs, k3, e3, r3⟩ := p
    rw [hl2, List.take_length] at r3
    have hvs := r3.len
    refine ⟨_, rfl, D, rfl, ⟨_, SqL.of e3⟩, fun D2 hD2 => ?_⟩
    refine lc_list (K := K) (a := D) (xs := vs) (fun i H2 => Kp MN H' H2 ∧ H2 D2 = some (.lst (((vs.take i).map fun v => decide (v = V.non)).map V.bl)))
      ⟨Kp.new hD2, upd_same⟩ (fun i H2 _ p => SqL.of (p.1.lst _ _ (fun z => z) e3)) (fun i x H2 hi p => ?_) (fun H2 p => ?_)
    · refine ⟨rfl, ?_⟩
      dsimp only [tYes]
      rw [if_pos rfl]
      refine ⟨_, rfl, _, p.2, ?_, p.1.putNew hD2 p.2, ?_⟩
      · rw [List.length_map, List.length_map, List.length_take]
        exact small1000 (by omega)
      · rw [upd_same, List.take_succ, hi, List.map_append, List.map_append]
        rfl
    · obtain ⟨k4, e4⟩ := p
      rw [List.take_length] at e4
      refine ⟨D2, _, rfl, SqL.of e4, _, rfl, ?_⟩
      have e3' := k4.lst _ _ (fun z => z) e3
      have r4 := r3.kp (M := MS D) k4.any
      rcases isN_bools r4 with ⟨z, y⟩ | ⟨z, y⟩
      · rw [z]
        exact iteT (q1 _ (hparts.trans y) (kW.trans (k3.trans k4)))
      rw [z]
      refine iteF ?_
      refine ⟨(by show 0 ≤ sizeLine; decide), fun D3 hD3 => ?_⟩
      have nDD := ne_of_none e3' hD3
      refine ⟨_, rfl, D, rfl, ⟨_, SqL.of (by rw [upd_ne nDD]; exact e3')⟩, ?_⟩
      refine for_list (K := K) (a := D) (xs := vs) (fun i σ H' => ∃ x4 l, σ = [some (.ref a), some (.str o), some (.ref D), none, x4, some (.ref D3)] ∧ Kp MN H2 H' ∧ FR (MS D3) H' wo vs ps ∧ formedL (ps.take i) wo = some l ∧ H' D3 = some (.lst (l.map V.int)))
        ⟨none, [], rfl, Kp.new hD3, r4.fresh hD3, formedL_nil wo, upd_same⟩ (fun i σ H' _ p => SqL.of (by obtain ⟨_, _, _, k, _⟩ := p; exact k.lst _ _ (fun z => z) e3')) (fun i x σ H' hi p => ?_) (fun σ H' p => ?_)
      · obtain ⟨x4, l, rfl, k5, r5, f5, e5⟩ := p
        obtain ⟨p', hp', hc⟩ := r5.get hi
        rcases hc with ⟨hn, _⟩ | ⟨l', b, hg, rfl, hb, nb⟩
        · exact absurd hn (y p' (List.mem_of_getElem? hp'))
        have f6 := formedL_succ f5 hp' hg
        have hlen : l.length + l'.length ≤ 60 := by
          have := formedL_lv _ _ _ f6
          rw [List.length_append] at this
          have := lvL_take ps (i + 1)
          omega
        refine ⟨_, rfl, .inl ⟨rfl, _, .inl (.inl e5)⟩, _, rfl, D3, b, _, _, rfl, rfl, e5, hb, ?_, _, l ++ l', rfl, k5.putNew hD3 e5, r5.kp (Kp.put (M := MS D3) rfl e5), f6, ?_⟩
        · rw [List.length_map, List.length_map]
          exact Nat.le_of_lt (small1000 (by omega))
        · rw [upd_same, List.map_append]
      · obtain ⟨x4, l, rfl, k5, r5, f5, e5⟩ := p
        rw [hvs, List.take_length] at f5
        have kk := kW.trans (k3.trans (k4.trans (M := MN) (H2 := H2) .refl))
        exact ⟨_, rfl, q2 l D3 _ (hparts.trans f5) (kk.noLst (fun z => z) hD3) (kk.trans k5) e5⟩
theorem oks_formed {f g : Addr} {fd gd : FuncData} (F : Fun K "_law_formed" "_law_formed" sFormed f fd) (B : Bl K mg)
    (G : FnOk P w K mg base CX0 1 g gd ["actual"] spIsInt) (bG : Binds K gd ["actual"] []) (kG : PySem.W.keepIn K (.ref g) = true) (mG : mg "_law_is_integer" = some (.ref g))
    (bF : Binds K fd ["value", "outer"] []) (mF : mg "_law_formed" = some (.ref f)) : ∀ n : Nat, FnOk P w K mg base CX0 (n + 1) f fd ["value", "outer"] (spFormed n)
  | 0 => never_ok fun vs H Q E h => by
    obtain ⟨_, _, _, _, _, h, _⟩ := h
    exact absurd h (Nat.not_lt_zero _)
  | n + 1 => ok_formed F B G bG kG mG (oks_formed F B G bG kG mG bF mF n) bF mF
theorem scLIsPlan : FnScope ["value", "size", "found"] ["value", "size"] (defScope sLIsPlan) := ⟨rfl, rfl, rfl, by decide +kernel, rfl, by decide +kernel, by decide +kernel⟩
theorem ok_lIsPlan {f g : Addr} {fd gd : FuncData} (F : Fun K "_law_is_plan" "_law_is_plan" sLIsPlan f fd) (B : Bl K mg)
    (G : FnOk P w K mg base CX0 66 g gd ["value", "outer"] (spFormed 65)) (bG : Binds K gd ["value", "outer"] []) (kG : PySem.W.keepIn K (.ref g) = true) (mG : mg "_law_formed" = some (.ref g)) :
    FnOk P w K mg base CX0 67 f fd ["value", "size"] spLIsPlan := by
  refine F.ok scLIsPlan (fun vs H Q E h => ?_) (fun cdv A outer s H vs Q E hr h => ?_)
  · obtain ⟨v, d, n, rfl, _⟩ := h
    rfl
  obtain ⟨v, d, n, rfl, hA, hn, hS, hsl, hlv, q⟩ := h
  refine ⟨_, pss_cons (ps_set (i := 2) scLIsPlan.nd rfl (Or.inl rfl) (pe_call G hr rfl mG kG bG .nil pass0 (pa_cons (pv 0) (pa_cons pe_str pa_nil))))
    (pss_one (ps_ret (pe_and (pe_cmp (pc_notN (pv 2))) (pe_one (pe_cmpR (op_eqD hr.units) (pe_callB cr_sorted rfl B.sorted (by decide +kernel) (pa_cons (pv 2) pa_nil)) (pe_listRg rfl rfl B.list (prg_1 rfl B.range (pv 1))) (nomark _)))))), ?_⟩
  refine ⟨_, rfl, v, d, "", rfl, hA, ?_, hS, hsl, hlv, fun H' hf k => ?_, fun l a H' hf ha k e => ?_⟩
  · have h' : (PyData.canLay0 d && decide (PyData.depth d ≤ 64)) = true := hS
    rw [Bool.and_eq_true] at h'
    exact Nat.lt_succ_of_le (of_decide_eq_true h'.2)
  · refine ⟨_, rfl, _, rfl, ?_⟩
    have := q H' k
    rw [show lawPl d n = false by unfold lawPl; rw [hf]] at this
    exact iteF this
  · refine ⟨_, rfl, _, rfl, ?_⟩
    refine iteT ?_
    have hlen : l.length < 64 := by
      have := formed_lv d "" l hf
      omega
    refine ⟨_, rfl, a, l, rfl, SqL.of e, hlen, fun ns' p perm srt hp => ?_⟩
    refine ⟨_, rfl, _, rfl, RgOk.of_le (by omega) (by omega) (by omega) (by omega), fun p2 hp2 => ?_⟩
    have hpp : p2 ≠ p := fun z => by
      rw [z, upd_same] at hp2
      cases hp2
    refine ⟨.list (ns'.map PyData.int), .list ((rng n).map PyData.int), .lst (SqL.of ((upd_ne hpp.symm).trans upd_same)) (AtL.dp (AtL.ints (M := MN) ns')), .lst (SqL.of (upd_same.trans (by rw [rgV_rng]))) (AtL.dp (AtL.ints (M := MN) (rng n))), shaped_ints _, shaped_ints _, ?_⟩
    rw [eqv_ints]
    have e2 : decide (ns' = rng n) = lawPl d n := by
      unfold lawPl
      rw [hf]
      show _ = decide ((l.length : Int) = (n : Int) ∧ full l)
      rw [decide_eq_decide]
      rw [sorted_rng (n := n) perm srt]
      exact ⟨fun z => ⟨by omega, z.2⟩, fun z => ⟨by omega, z.2⟩⟩
    rw [e2]
    exact q _ (k.trans ((Kp.new hp).trans (Kp.new hp2)))
end
end K1

set_option Elab.async false
set_option linter.all false
set_option maxRecDepth 100000
set_option maxHeartbeats 4000000
namespace K1
open PySem L2 GxR GA KD KR KM
/-! ### sizes of data -/
structure Sz (l k : Nat) (d : PyData) : Prop where
  lay : d.canLay0 = true
  slm : slim d = true
  lvs : lv d ≤ l
  dep : d.depth ≤ k
structure SzL (m l k : Nat) (ds : List PyData) : Prop where
  len : ds.length ≤ m
  lay : PyData.canLayAll0 ds = true
  slm : slimL ds = true
  lvs : lvL ds ≤ l
  dep : PyData.depthAll ds ≤ k
theorem Sz.mono {l k l' k' : Nat} {d : PyData} (h : Sz l k d) (h1 : l ≤ l') (h2 : k ≤ k') : Sz l' k' d := ⟨h.lay, h.slm, Nat.le_trans h.lvs h1, Nat.le_trans h.dep h2⟩
theorem Sz.int (i : Int) : Sz 1 0 (.int i) := ⟨by simp [PyData.canLay0], by simp [slim], by simp [lv], by simp [PyData.depth]⟩
theorem Sz.bool (i : Bool) : Sz 0 0 (.bool i) := ⟨by simp [PyData.canLay0], by simp [slim], by simp [lv], by simp [PyData.depth]⟩
theorem Sz.non : Sz 0 0 .none := ⟨by simp [PyData.canLay0], by simp [slim], by simp [lv], by simp [PyData.depth]⟩
theorem Sz.str {s : Str} (h : PyData.strOk s = true) : Sz 0 0 (.str s) := ⟨by simp [PyData.canLay0, h], by simp [slim], by simp [lv], by simp [PyData.depth]⟩
theorem SzL.nil : SzL 0 0 0 [] := ⟨Nat.le_refl _, by simp [PyData.canLayAll0], by simp [slimL], by simp [lvL], by simp [PyData.depthAll]⟩
theorem SzL.cons {d : PyData} {ds : List PyData} {m l k l' k' : Nat} (h : Sz l k d) (r : SzL m l' k' ds) : SzL (m + 1) (l + l') (max k k') (d :: ds) := by
  refine ⟨Nat.succ_le_succ r.len, by simp [PyData.canLayAll0, h.lay, r.lay], by simp [slimL, h.slm, r.slm], ?_, ?_⟩
  · rw [lvL_cons]; exact Nat.add_le_add h.lvs r.lvs
  · have h1 := h.dep
    have h2 := r.dep
    simp only [PyData.depthAll]
    omega
theorem SzL.mono {m l k m' l' k' : Nat} {d : List PyData} (h : SzL m l k d) (h0 : m ≤ m') (h1 : l ≤ l') (h2 : k ≤ k') : SzL m' l' k' d := ⟨Nat.le_trans h.len h0, h.lay, h.slm, Nat.le_trans h.lvs h1, Nat.le_trans h.dep h2⟩
theorem SzL.tup {m l k : Nat} {ds : List PyData} (h : SzL m l k ds) (hm : m ≤ 900) : Sz l (k + 1) (.tuple ds) := by
  refine ⟨by simp only [PyData.canLay0]; exact h.lay, ?_, by rw [lv_tuple]; exact h.lvs, ?_⟩
  · have := h.len
    simp only [slim, Bool.and_eq_true]
    exact ⟨decide_eq_true (by omega), h.slm⟩
  · have := h.dep
    simp only [PyData.depth]
    omega
theorem SzL.lst {m l k : Nat} {ds : List PyData} (h : SzL m l k ds) (hm : m ≤ 900) : Sz 0 (k + 1) (.list ds) := by
  refine ⟨by simp only [PyData.canLay0]; exact h.lay, ?_, by simp [lv], ?_⟩
  · have := h.len
    simp only [slim, Bool.and_eq_true]
    exact ⟨decide_eq_true (by omega), h.slm⟩
  · have := h.dep
    simp only [PyData.depth]
    omega
theorem Sz.tupL {l k : Nat} {ds : List PyData} (h : Sz l k (.tuple ds)) : SzL 900 l (k - 1) ds := by
  obtain ⟨a, b, c, e⟩ := h
  simp only [PyData.canLay0] at a
  simp only [slim, Bool.and_eq_true, decide_eq_true_eq] at b
  rw [lv_tuple] at c
  simp only [PyData.depth] at e
  exact ⟨b.1, a, b.2, c, by omega⟩
theorem SzL.app : ∀ {ds es : List PyData} {m l k m' l' k' : Nat}, SzL m l k ds → SzL m' l' k' es → SzL (m + m') (l + l') (max k k') (ds ++ es) := by
  intro ds es m l k m' l' k' h h'
  obtain ⟨a1, a2, a3, a4, a5⟩ := h
  obtain ⟨b1, b2, b3, b4, b5⟩ := h'
  have key : ∀ ds es : List PyData, lvL (ds ++ es) = lvL ds + lvL es := by
    intro ds es
    induction ds with
    | nil => simp [lvL]
    | cons d r ih => rw [List.cons_append, lvL_cons, lvL_cons, ih]; omega
  exact ⟨by rw [List.length_append]; omega, by rw [layAll_app, a2, b2]; rfl, by rw [slimL_app, a3, b3]; rfl, by rw [key]; omega, by rw [depthAll_app]; omega⟩
theorem SzL.mem {m l k : Nat} : ∀ {ds : List PyData}, SzL m l k ds → ∀ d ∈ ds, Sz l k d := by
  intro ds h d hd
  obtain ⟨a1, a2, a3, a4, a5⟩ := h
  refine ⟨?_, slimL_mem a3 hd, Nat.le_trans (lvL_mem hd) a4, Nat.le_trans (depth_mem hd) a5⟩
  clear a1 a3 a4 a5
  induction ds with
  | nil => cases hd
  | cons x r ih =>
    simp only [PyData.canLayAll0, Bool.and_eq_true] at a2
    rcases List.mem_cons.mp hd with z | z
    · rw [z]; exact a2.1
    · exact ih z a2.2
theorem SzL.sub {m l k : Nat} {ds es : List PyData} (h : SzL m l k ds) (hs : es.Sublist ds) : SzL m l k es := by
  induction hs generalizing m l with
  | slnil => exact h
  | cons x s ih =>
    obtain ⟨a1, a2, a3, a4, a5⟩ := h
    simp only [PyData.canLayAll0, slimL, Bool.and_eq_true] at a2 a3
    simp only [List.length_cons] at a1
    rw [lvL_cons] at a4
    simp only [PyData.depthAll] at a5
    exact ih ⟨by omega, a2.2, a3.2, by omega, by omega⟩
  | @cons_cons es ds x s ih =>
    obtain ⟨a1, a2, a3, a4, a5⟩ := h
    simp only [PyData.canLayAll0, slimL, Bool.and_eq_true] at a2 a3
    simp only [List.length_cons] at a1
    rw [lvL_cons] at a4
    simp only [PyData.depthAll] at a5
    have hh : SzL (m - 1) (l - lv x) k ds := ⟨by omega, a2.2, a3.2, by omega, by omega⟩
    obtain ⟨b1, b2, b3, b4, b5⟩ := ih hh
    refine ⟨by simp only [List.length_cons]; omega, by simp [PyData.canLayAll0, a2.1, b2], by simp [slimL, a3.1, b3], by rw [lvL_cons]; omega, by simp only [PyData.depthAll]; omega⟩
theorem SzL.rev {m l k : Nat} : ∀ {ds : List PyData}, SzL m l k ds → SzL m l k ds.reverse := by
  have key : ∀ ds : List PyData, lvL ds.reverse = lvL ds ∧ PyData.depthAll ds.reverse = PyData.depthAll ds ∧ slimL ds.reverse = slimL ds ∧ PyData.canLayAll0 ds.reverse = PyData.canLayAll0 ds := by
    intro ds
    have ka : ∀ ds es : List PyData, lvL (ds ++ es) = lvL ds + lvL es := by
      intro ds es
      induction ds with
      | nil => simp [lvL]
      | cons d r ih => rw [List.cons_append, lvL_cons, lvL_cons, ih]; omega
    induction ds with
    | nil => simp
    | cons d r ih =>
      obtain ⟨i1, i2, i3, i4⟩ := ih
      rw [List.reverse_cons, ka, depthAll_app, slimL_app, layAll_app, i1, i2, i3, i4]
      simp [lvL, PyData.depthAll, slimL, PyData.canLayAll0, Nat.add_comm, Nat.max_comm, Bool.and_comm]
  intro ds h
  obtain ⟨k1, k2, k3, k4⟩ := key ds
  exact ⟨by rw [List.length_reverse]; exact h.len, by rw [k4]; exact h.lay, by rw [k3]; exact h.slm, by rw [k1]; exact h.lvs, by rw [k2]; exact h.dep⟩
theorem Sz.shaped {l k : Nat} {d : PyData} (h : Sz l k d) (hk : k ≤ 64) : SeqAt.shaped d = true := by
  show (PyData.canLay0 d && decide (PyData.depth d ≤ 64)) = true
  rw [Bool.and_eq_true]
  exact ⟨h.lay, decide_eq_true (Nat.le_trans h.dep hk)⟩
/-! ### expressions that make data -/
def DE (st c : Addr) (H0 : Hp) (σ : L2.St) (t : TE) (S : PyData → Prop) : Prop := ∀ (H : Hp) (Q : VK), Kp (MS st) H0 H → StAt st c H → (∀ v d H', S d → At (MS st) H' v d → Kp (MS st) H H' → StAt st c H' → Q v H') → t σ H Q
def DEs (st c : Addr) (H0 : Hp) (σ : L2.St) (t : TA) (S : List PyData → Prop) : Prop := ∀ (H : Hp) (Q : List V → Hp → Prop), Kp (MS st) H0 H → StAt st c H → (∀ vs ds H', S ds → AtL (MS st) H' vs ds → Kp (MS st) H H' → StAt st c H' → Q vs H') → t σ H Q
section
variable {st c : Addr} {H0 : Hp} {σ : L2.St}
theorem DE.imp {t : TE} {S S' : PyData → Prop} (h : DE st c H0 σ t S) (hs : ∀ d, S d → S' d) : DE st c H0 σ t S' := fun H Q k s q => h H Q k s fun v d H' z => q v d H' (hs d z)
theorem DEs.imp {t : TA} {S S' : List PyData → Prop} (h : DEs st c H0 σ t S) (hs : ∀ d, S d → S' d) : DEs st c H0 σ t S' := fun H Q k s q => h H Q k s fun v d H' z => q v d H' (hs d z)
theorem DE.var {i : Nat} {v : V} {d : PyData} (hv : σ[i]? = some (some v)) (ha : At (MS st) H0 v d) : DE st c H0 σ (tVar i) (fun e => e = d) := fun H Q k s q => ⟨v, hv, q v d H rfl (ha.kp k) .refl s⟩
theorem DE.lit {v : V} {d : PyData} (ha : ∀ H, At (MS st) H v d) : DE st c H0 σ (tC v) (fun e => e = d) := fun H Q k s q => q v d H rfl (ha H) .refl s
theorem DE.int (i : Int) : DE st c H0 σ (tC (.int i)) (Sz 1 0) := (DE.lit fun H => .int i).imp fun d e => by rw [e]; exact Sz.int i
theorem DE.bool (i : Bool) : DE st c H0 σ (tC (.bl i)) (Sz 0 0) := (DE.lit fun H => .bl i).imp fun d e => by rw [e]; exact Sz.bool i
theorem DE.non : DE st c H0 σ (tC .non) (Sz 0 0) := (DE.lit fun H => .non).imp fun d e => by rw [e]; exact Sz.non
theorem DE.str {s : Str} (h : PyData.strOk s = true) : DE st c H0 σ (tC (.str s)) (Sz 0 0) := (DE.lit fun H => .str s).imp fun d e => by rw [e]; exact Sz.str h
theorem DE.ivar {i : Nat} {n : Int} (hv : σ[i]? = some (some (.int n))) : DE st c H0 σ (tVar i) (Sz 1 0) := (DE.var hv (.int n)).imp fun d e => by rw [e]; exact Sz.int n
theorem DEs.nil : DEs st c H0 σ tNil (SzL 0 0 0) := fun H Q k s q => q [] [] H SzL.nil .nil .refl s
theorem DEs.cons' {t : TE} {ts : TA} {S : PyData → Prop} {Ss S' : List PyData → Prop} (h : DE st c H0 σ t S) (r : DEs st c H0 σ ts Ss) (hs : ∀ d ds, S d → Ss ds → S' (d :: ds)) : DEs st c H0 σ (tCons t ts) S' := fun H Q k s q =>
  h H _ k s fun v d H1 hd a k1 s1 => r H1 _ (k.trans k1) s1 fun vs ds H2 hds as k2 s2 => q (v :: vs) (d :: ds) H2 (hs d ds hd hds) (.cons (a.kp k2) as) (k1.trans k2) s2
theorem DEs.cons {t : TE} {ts : TA} {l k m l' k' : Nat} (h : DE st c H0 σ t (Sz l k)) (r : DEs st c H0 σ ts (SzL m l' k')) : DEs st c H0 σ (tCons t ts) (SzL (m + 1) (l + l') (max k k')) := DEs.cons' h r fun d ds a b => SzL.cons a b
/-- all of them so -/
def AllS (n : Nat) (G : PyData → Prop) (ds : List PyData) : Prop := ds.length = n ∧ ∀ d ∈ ds, G d
theorem DEs.anil {G : PyData → Prop} : DEs st c H0 σ tNil (AllS 0 G) := fun H Q k s q => q [] [] H ⟨rfl, fun _ h => by cases h⟩ .nil .refl s
theorem DEs.acons {t : TE} {ts : TA} {n : Nat} {S G : PyData → Prop} (h : DE st c H0 σ t S) (hs : ∀ d, S d → G d) (r : DEs st c H0 σ ts (AllS n G)) : DEs st c H0 σ (tCons t ts) (AllS (n + 1) G) := DEs.cons' h r fun d ds a b => ⟨congrArg (· + 1) b.1, fun x hx => by
  rcases List.mem_cons.mp hx with z | z
  · rw [z]; exact hs d a
  · exact b.2 x z⟩
theorem DE.tup' {t : TA} {S : List PyData → Prop} (h : DEs st c H0 σ t S) (hn : ∀ ds, S ds → ds.length ≤ 900) : DE st c H0 σ (tTup t) (fun d => ∃ ds, d = .tuple ds ∧ S ds) := fun H Q k s q =>
  h H _ k s fun vs ds H1 hds as k1 s1 => ⟨by
    have := hn ds hds
    have := as.length
    exact Nat.le_of_lt (small1000 (by omega)), fun p hp => q _ (.tuple ds) _ ⟨ds, rfl, hds⟩ (.tup upd_same (as.kp (Kp.new hp))) (k1.trans (Kp.new hp)) (s1.new hp)⟩
theorem DE.lst' {t : TA} {S : List PyData → Prop} (h : DEs st c H0 σ t S) (hn : ∀ ds, S ds → ds.length ≤ 900) : DE st c H0 σ (tLst t) (fun d => ∃ ds, d = .list ds ∧ S ds) := fun H Q k s q =>
  h H _ k s fun vs ds H1 hds as k1 s1 => ⟨by
    have := hn ds hds
    have := as.length
    exact Nat.le_of_lt (small1000 (by omega)), fun p hp => q _ (.list ds) _ ⟨ds, rfl, hds⟩ (.lst upd_same (s1.ne hp).1 (as.kp (Kp.new hp))) (k1.trans (Kp.new hp)) (s1.new hp)⟩
theorem DE.tup {t : TA} {m l k : Nat} (h : DEs st c H0 σ t (SzL m l k)) (hm : m ≤ 900) : DE st c H0 σ (tTup t) (Sz l (k + 1)) := (DE.tup' h fun ds s => Nat.le_trans s.len hm).imp fun d ⟨ds, e, s⟩ => by rw [e]; exact s.tup hm
theorem DE.lst {t : TA} {m l k : Nat} (h : DEs st c H0 σ t (SzL m l k)) (hm : m ≤ 900) : DE st c H0 σ (tLst t) (Sz 0 (k + 1)) := (DE.lst' h fun ds s => Nat.le_trans s.len hm).imp fun d ⟨ds, e, s⟩ => by rw [e]; exact s.lst hm
theorem DE.addI {ta tb : TE} {a b : Int} (ha : ∀ (H : Hp) (Q : VK), Q (.int a) H → ta σ H Q) (hb : ∀ (H : Hp) (Q : VK), Q (.int b) H → tb σ H Q) : DE st c H0 σ (tOp (rI0 fun i j => .int (i + j)) ta tb) (fun e => e = .int (a + b)) := fun H Q k s q =>
  ha H _ (hb H _ ⟨a, b, rfl, rfl, q _ (.int (a + b)) H rfl (.int _) .refl s⟩)
/-- the j-th item of a tuple -/
theorem DE.ix {K : PySem.W.Frag} {t : TE} {ds : List PyData} {j : Nat} {d : PyData} (h : DE st c H0 σ t (fun e => e = .tuple ds)) (hd : ds[j]? = some d) : DE st c H0 σ (tOp (rIxT K) t (tC (.int j))) (fun e => e = d) := fun H Q k s q =>
  h H _ k s fun v e H1 he a k1 s1 => by
    rw [he] at a
    obtain ⟨p, xs, rfl, hx, hall⟩ := a.tup_of
    obtain ⟨x, ex, ax⟩ := hall.get' hd
    exact ⟨p, xs, j, x, rfl, rfl, SqT.of hx, atI_nat ex, q x d H1 rfl ax k1 s1⟩
theorem cutV_sub (xs : List V) (lo hi : Option Int) : ∃ a b, cutV xs lo hi = (xs.drop a).take b := ⟨_, _, rfl⟩
theorem DE.cut {K : PySem.W.Frag} {t : TE} {tl th : TO} {ds : List PyData} {lo hi : Option Int} (h : DE st c H0 σ t (fun e => e = .tuple ds)) (hl : ∀ (H : Hp) (Q : Option Int → Hp → Prop), Q lo H → tl σ H Q) (hh : ∀ (H : Hp) (Q : Option Int → Hp → Prop), Q hi H → th σ H Q) :
    DE st c H0 σ (fun σ H Q => t σ H fun x H1 => tl σ H1 fun l H2 => th σ H2 fun u H3 => rSlA K x l u H3 Q) (fun e => ∃ es, e = .tuple es ∧ es.Sublist ds) := fun H Q k s q =>
  h H _ k s fun v e H1 he a k1 s1 => hl _ _ (hh _ _ (by
    rw [he] at a
    obtain ⟨p, xs, rfl, hx, hall⟩ := a.tup_of
    refine ⟨p, xs, rfl, SqT.of hx, fun _ => q _ (.tuple ds) H1 ⟨ds, rfl, List.Sublist.refl _⟩ (.tup hx hall) k1 s1, fun _ r hr => ?_⟩
    obtain ⟨n, m, e2⟩ := cutV_sub xs lo hi
    rw [e2]
    exact q _ (.tuple ((ds.drop n).take m)) _ ⟨_, rfl, (List.take_sublist _ _).trans (List.drop_sublist _ _)⟩ (.tup upd_same (((hall.drop n).take m).kp (Kp.new hr))) (k1.trans (Kp.new hr)) (s1.new hr)))
theorem DE.cat {K : PySem.W.Frag} {ta tb : TE} {Sa Sb : List PyData → Prop} (ha : DE st c H0 σ ta (fun e => ∃ es, e = .tuple es ∧ Sa es)) (hb : DE st c H0 σ tb (fun e => ∃ es, e = .tuple es ∧ Sb es)) (na : ∀ ds, Sa ds → ds.length ≤ 400) (nb : ∀ ds, Sb ds → ds.length ≤ 400) :
    DE st c H0 σ (tOp (rCatA K) ta tb) (fun e => ∃ ds es, e = .tuple (ds ++ es) ∧ Sa ds ∧ Sb es) := fun H Q k s q =>
  ha H _ k s fun v e H1 he a k1 s1 => hb H1 _ (k.trans k1) s1 fun v2 e2 H2 he2 a2 k2 s2 => by
    obtain ⟨ds, rfl, sd⟩ := he
    obtain ⟨es, rfl, se⟩ := he2
    obtain ⟨p, xs, rfl, hx, hall⟩ := (a.kp k2).tup_of
    obtain ⟨p2, ys, rfl, hy, hall2⟩ := a2.tup_of
    have l1 := hall.length
    have l2 := hall2.length
    have l3 := na _ sd
    have l4 := nb _ se
    refine ⟨p, p2, xs, ys, rfl, rfl, SqT.of hx, SqT.of hy, Nat.le_of_lt (small1000 (by omega)), fun z => ?_, fun _ z => ?_, fun _ _ r hr => ?_⟩
    · rw [z] at l1
      have : ds = [] := List.length_eq_zero_iff.mp l1.symm
      subst this
      exact q _ (.tuple es) H2 ⟨[], es, rfl, sd, se⟩ (.tup hy hall2) (k1.trans k2) s2
    · rw [z] at l2
      have : es = [] := List.length_eq_zero_iff.mp l2.symm
      subst this
      exact q _ (.tuple ds) H2 ⟨ds, [], by rw [List.append_nil], sd, se⟩ (.tup hx hall) (k1.trans k2) s2
    · exact q _ (.tuple (ds ++ es)) _ ⟨ds, es, rfl, sd, se⟩ (.tup upd_same ((hall.append hall2).kp (Kp.new hr))) (k1.trans (k2.trans (Kp.new hr))) (s2.new hr)
theorem DE.rev {K : PySem.W.Frag} {t : TE} {ds : List PyData} (h : DE st c H0 σ t (fun e => e = .tuple ds)) : DE st c H0 σ (tRevT K t) (fun e => e = .tuple ds.reverse) := fun H Q k s q =>
  h H _ k s fun v e H1 he a k1 s1 => by
    rw [he] at a
    obtain ⟨p, xs, rfl, hx, hall⟩ := a.tup_of
    exact ⟨p, xs, rfl, SqT.of hx, fun r hr => q _ _ _ rfl (.tup upd_same (hall.rev.kp (Kp.new hr))) (k1.trans (Kp.new hr)) (s1.new hr)⟩
theorem DE.toLst {K : PySem.W.Frag} {t : TE} {ds : List PyData} (h : DE st c H0 σ t (fun e => e = .tuple ds)) :
    DE st c H0 σ (tCB (fun xs H Q => ∃ p ys, xs = [.ref p] ∧ (SqL K H p ys ∨ SqT K H p ys) ∧ ∀ l, H l = none → Q (.ref l) (upd H l (.lst ys))) (tCons t tNil)) (fun e => e = .list ds) := fun H Q k s q =>
  h H _ k s fun v e H1 he a k1 s1 => by
    rw [he] at a
    obtain ⟨p, xs, rfl, hx, hall⟩ := a.tup_of
    exact ⟨p, xs, rfl, .inr (SqT.of hx), fun r hr => q _ _ _ rfl (.lst upd_same (s1.ne hr).1 (hall.kp (Kp.new hr))) (k1.trans (Kp.new hr)) (s1.new hr)⟩
theorem DE.next {i j : Nat} {n : Int} (h1 : σ[i]? = some (some (.ref st))) (h2 : σ[j]? = some (some (.int n))) (n0 : 0 < n) (n1 : n < 1000) : DE st c H0 σ (tCall spNext [] E0 (tCons (tVar i) (tCons (tVar j) tNil))) (Sz 1 0) := fun H Q k s q =>
  ⟨_, h1, _, h2, st, c, n, rfl, s, n0, n1, fun d H' _ _ k' s' => q _ (.int d) H' (Sz.int d) (.int d) k' s'⟩
theorem DE.pick {i : Nat} {n : Nat} {t : TE} {G : PyData → Prop} (h1 : σ[i]? = some (some (.ref st))) (h : DE st c H0 σ t (fun d => ∃ ds, d = .list ds ∧ AllS n G ds)) (n0 : 0 < n) (n1 : n < 1000) : DE st c H0 σ (tCall spPick [] E0 (tCons (tVar i) (tCons t tNil))) G := fun H Q k s q =>
  ⟨_, h1, h H _ k s fun v d H1 hd a k1 s1 => by
    obtain ⟨ds, rfl, hl, hg⟩ := hd
    exact ⟨st, c, v, ds, rfl, s1, a, fun z => by rw [z] at hl; simp at hl; omega, by omega, fun x e H2 he ae k2 s2 => q x e H2 (hg e he) ae (k1.trans k2) s2⟩⟩
/-- the same, no list within -/
def SzN (l k : Nat) (d : PyData) : Prop := Sz l k d ∧ noL d = true
def SzNL (m l k : Nat) (ds : List PyData) : Prop := SzL m l k ds ∧ noLL ds = true
theorem DE.exN {t : TE} {d : PyData} {l k : Nat} (h : DE st c H0 σ t (fun e => e = d)) (hs : Sz l k d) (hn : noL d = true) : DE st c H0 σ t (SzN l k) := h.imp fun e z => by rw [z]; exact ⟨hs, hn⟩
theorem DE.exS {t : TE} {d : PyData} {l k : Nat} (h : DE st c H0 σ t (fun e => e = d)) (hs : Sz l k d) : DE st c H0 σ t (Sz l k) := h.imp fun e z => by rw [z]; exact hs
theorem DEs.nilN : DEs st c H0 σ tNil (SzNL 0 0 0) := fun H Q k s q => q [] [] H ⟨SzL.nil, by simp [noLL]⟩ .nil .refl s
theorem DEs.consN {t : TE} {ts : TA} {l k m l' k' : Nat} (h : DE st c H0 σ t (SzN l k)) (r : DEs st c H0 σ ts (SzNL m l' k')) : DEs st c H0 σ (tCons t ts) (SzNL (m + 1) (l + l') (max k k')) := DEs.cons' h r fun d ds a b => ⟨SzL.cons a.1 b.1, by simp [noLL, a.2, b.2]⟩
theorem DE.tupN {t : TA} {m l k : Nat} (h : DEs st c H0 σ t (SzNL m l k)) (hm : m ≤ 900) : DE st c H0 σ (tTup t) (SzN l (k + 1)) := (DE.tup' h fun ds s => Nat.le_trans s.1.len hm).imp fun d ⟨ds, e, s⟩ => by rw [e]; exact ⟨s.1.tup hm, by simp [noL, s.2]⟩
theorem DE.intN (i : Int) : DE st c H0 σ (tC (.int i)) (SzN 1 0) := (DE.lit fun H => .int i).exN (Sz.int i) (by simp [noL])
theorem DE.nonN : DE st c H0 σ (tC .non) (SzN 0 0) := (DE.lit fun H => .non).exN Sz.non (by simp [noL])
theorem DE.strN {s : Str} (h : PyData.strOk s = true) : DE st c H0 σ (tC (.str s)) (SzN 0 0) := (DE.lit fun H => .str s).exN (Sz.str h) (by simp [noL])
theorem DE.ivarN {i : Nat} {n : Int} (hv : σ[i]? = some (some (.int n))) : DE st c H0 σ (tVar i) (SzN 1 0) := (DE.var hv (.int n)).exN (Sz.int n) (by simp [noL])
theorem DE.use {t : TE} {S : PyData → Prop} (h : DE st c H0 σ t S) {Q : VK} (s : StAt st c H0) (q : ∀ v d H', S d → At (MS st) H' v d → Kp (MS st) H0 H' → StAt st c H' → Q v H') : t σ H0 Q := h H0 Q .refl s q
end
end K1

set_option Elab.async false
set_option linter.all false
set_option maxRecDepth 100000
set_option maxHeartbeats 4000000
namespace K1
open PySem L2 GxR GA KD KR KM
abbrev sAt : Stmt := top 23
abbrev sChanged : Stmt := top 24
abbrev MA (M : Addr → Prop) (p : Addr) : Addr → Prop := fun b => M b ∨ b = p
mutual
theorem At.fresh {M : Addr → Prop} {H : Hp} {p : Addr} (hp : H p = none) : ∀ {d : PyData} {v : V}, At M H v d → At (MA M p) H v d
  | .none, _, h => by cases h; exact .non
  | .bool b, _, h => by cases h; exact .bl b
  | .int i, _, h => by cases h; exact .int i
  | .str x, _, h => by cases h; exact .str x
  | .list ds, _, h => by
    cases h with
    | lst e n r => exact .lst e (fun z => z.elim n (ne_of_none e hp)) (AtL.fresh hp r)
  | .tuple ds, _, h => by
    cases h with
    | tup e r => exact .tup e (AtL.fresh hp r)
  | .dict _, _, h => by cases h
theorem AtL.fresh {M : Addr → Prop} {H : Hp} {p : Addr} (hp : H p = none) : ∀ {ds : List PyData} {vs : List V}, AtL M H vs ds → AtL (MA M p) H vs ds
  | [], _, h => by cases h; exact .nil
  | d :: ds, _, h => by
    cases h with
    | cons a r => exact .cons (At.fresh hp a) (AtL.fresh hp r)
end
theorem formed_cases {d : PyData} {o : Str} {l : List Int} (h : formed d o = some l) : (∃ i, d = .int i ∧ l = [i]) ∨ ∃ w ps, d = .tuple [.str w, .tuple ps] ∧ wd w = true ∧ w ≠ o ∧ 2 ≤ ps.length ∧ formedL ps w = some l := by
  by_cases ci : isI d = true
  · cases d with
    | int i =>
      rw [formed_int] at h
      cases h
      exact .inl ⟨i, rfl, rfl⟩
    | _ => cases ci
  by_cases ct : isTup d = true
  · cases d with
    | tuple ds =>
      by_cases h2 : ds.length = 2
      · obtain ⟨a, b, rfl⟩ : ∃ a b, ds = [a, b] := by
          match ds, h2 with
          | [a, b], _ => exact ⟨a, b, rfl⟩
        by_cases ha : inW a = true
        · by_cases hb : isTup b = true
          · cases a with
            | str w =>
              cases b with
              | tuple ps =>
                rw [formed_parts] at h
                split at h
                · rename_i hc
                  simp only [Bool.and_eq_true, Bool.not_eq_true', decide_eq_false_iff_not, decide_eq_true_eq] at hc
                  exact .inr ⟨w, ps, rfl, hc.1.1, hc.1.2, hc.2, h⟩
                · cases h
              | _ => cases hb
            | _ => cases ha
          · rw [formed_tail (Bool.eq_false_iff.mpr hb)] at h
            cases h
        · rw [formed_head (Bool.eq_false_iff.mpr ha)] at h
          cases h
      · rw [formed_len h2] at h
        cases h
    | _ => cases ct
  · rw [formed_noTup (Bool.eq_false_iff.mpr ci) (Bool.eq_false_iff.mpr ct)] at h
    cases h
theorem formedL_get {w : Str} : ∀ {ds : List PyData} {l : List Int} {i : Nat} {p : PyData}, formedL ds w = some l → ds[i]? = some p → ∃ a b, formedL (ds.take i) w = some a ∧ formed p w = some b
  | d :: r, l, i, p, h, hp => by
    rw [formedL_cons] at h
    cases e1 : formed d w with
    | none => rw [e1] at h; cases h
    | some a =>
      cases e2 : formedL r w with
      | none => rw [e1, e2] at h; cases h
      | some b =>
        cases i with
        | zero =>
          simp at hp
          rw [← hp]
          exact ⟨[], a, by rw [List.take_zero, formedL_nil], e1⟩
        | succ i =>
          obtain ⟨x, y, hx, hy⟩ := formedL_get (i := i) e2 (by simpa using hp)
          exact ⟨a ++ x, y, by rw [List.take_succ_cons, formedL_cons, e1, hx], hy⟩
theorem SzL.snoc {d : PyData} {ds : List PyData} {m l k l' : Nat} (r : SzL m l k ds) (h : Sz l' k d) : SzL (m + 1) (l + l') k (ds ++ [d]) := by
  have := r.app (SzL.cons h SzL.nil)
  refine this.mono (by omega) (by omega) (by omega)
def spAt (n : Nat) : Sp := fun vs H Q _ => ∃ (M : Addr → Prop) (v u : V) (d e : PyData) (t : Int) (o : Str) (l : List Int) (a : Nat), vs = [v, .int t, u] ∧ At M H v d ∧ At M H u e ∧ formed d o = some l ∧ slim d = true ∧ d.depth < n ∧ Sz a 4 e ∧ 1 ≤ a ∧
  ∀ v' d' H', Sz (l.length * a) (d.depth + 4) d' → At M H' v' d' → Kp MN H H' → Q v' H'
section
variable {P : Program} {w : World} {K : PySem.W.Frag} {mg : Str → Option Value} {base : Heap}
theorem scAt : FnScope ["plan", "task", "value", "part"] ["plan", "task", "value"] (defScope sAt) := ⟨rfl, rfl, rfl, by decide +kernel, rfl, by decide +kernel, by decide +kernel⟩
theorem ok_at {n : Nat} {f : Addr} {fd : FuncData} (F : Fun K "_law_at" "_law_at" sAt f fd) (B : Bl K mg)
    (R : FnOk P w K mg base CX0 (n + 1) f fd ["plan", "task", "value"] (spAt n)) (bF : Binds K fd ["plan", "task", "value"] []) (mF : mg "_law_at" = some (.ref f)) :
    FnOk P w K mg base CX0 (n + 2) f fd ["plan", "task", "value"] (spAt (n + 1)) := by
  refine F.ok scAt (fun vs H Q E h => ?_) (fun cdv A outer s H vs Q E hr h => ?_)
  · obtain ⟨M, v, u, d, e, t, o, l, a, rfl, _⟩ := h
    rfl
  obtain ⟨M, v, u, d, e, t, o, l, a, rfl, hV, hU, hf, hsl, hd, he, ha, q⟩ := h
  refine ⟨_, pss_cons (ps_if (pt_val (pe_callB call_isi rfl B.isinstance (by decide +kernel) (pa_cons (pv 0) (pa_cons (pe_bltn rfl B.int (by decide +kernel) (v := .ty "int") rfl) pa_nil))))
      (pss_one (ps_ret (pe_ifExp (pt_cmpR op_eq (pv 0) (pv 1) (nomark _)) (pv 2) (pv 0)))) pss_nil)
    (pss_one (ps_ret (pe_tup (pa_cons (pe_ix ix_tup (pv 0) pe_int (fun _ _ => rfl)) (pa_cons (pe_callTy call_tuple_of rfl B.tuple (by decide +kernel) (pa_cons
      (pe_lc (own := [("part", 3)]) (g := gName 3) (tt := tYes) (te := tCall (spAt n) [] E0 (tCons (tVar 3) (tCons (tVar 1) (tCons (tVar 2) tNil)))) rfl scAt.nd (pi_tup (pe_ix ix_tup (pv 0) pe_int (fun _ _ => rfl))) (blkOk_by (own := [("part", 3)]) (N := ["plan", "task", "value", "part"]) (sc := defScope sAt) (by decide +kernel))
        (fun _ _ _ _ _ => pg_name (i := 3) scAt.nd rfl (Or.inl rfl)) (fun _ _ _ _ _ => pts_nil) (fun _ _ _ _ _ => pe_call R hr rfl mF F.kp bF .nil pass0 (pa_cons (pv 3) (pa_cons (pv 1) (pa_cons (pv 2) pa_nil))))) pa_nil)) pa_nil))))), ?_⟩
  refine ⟨_, rfl, _, _, _, _, _, rfl, .ty _, hV.ty, kit_int d, _, rfl, ?_⟩
  rcases formed_cases hf with ⟨i, rfl, rfl⟩ | ⟨wo, ps, rfl, hwd, hwo, h2, hfl⟩
  · cases hV.int_of
    refine iteT ?_
    refine ⟨_, rfl, _, rfl, rfl, _, rfl, ?_⟩
    refine ite2 (fun c => ?_) (fun c => ?_)
    · exact ⟨_, rfl, q u e H (he.mono (by simp) (Nat.le_add_left _ _)) hU .refl⟩
    · exact ⟨_, rfl, q _ (.int i) H ((Sz.int i).mono (by simpa using ha) (Nat.zero_le _)) (.int i) .refl⟩
  obtain ⟨p0, xs, rfl, hx, hall⟩ := hV.tup_of
  obtain ⟨vw, vp, rfl⟩ : ∃ vw vp, xs = [vw, vp] := by
    match xs, hall.length with
    | [vw, vp], _ => exact ⟨vw, vp, rfl⟩
  have aw0 : At M H vw (.str wo) := by cases hall with | cons a r => exact a
  have ap0 : At M H vp (.tuple ps) := by cases hall with | cons a r => cases r with | cons b _ => exact b
  cases aw0.str_of
  obtain ⟨a2, xs2, rfl, hx2, hall2⟩ := ap0.tup_of
  have hl2 := hall2.length
  have hps : ps.length ≤ 900 ∧ slimL ps = true := by
    simp only [slim, slimL, Bool.and_eq_true, decide_eq_true_eq] at hsl
    exact hsl.2.2.1
  have hdep : PyData.depthAll ps + 2 ≤ PyData.depth (.tuple [.str wo, .tuple ps]) := by
    simp only [PyData.depth, PyData.depthAll]
    omega
  refine iteF ?_
  refine ⟨_, rfl, _, _, _, _, rfl, rfl, SqT.of hx, atI_nat (j := 0) rfl, ?_⟩
  refine ⟨_, rfl, _, _, _, _, rfl, rfl, SqT.of hx, atI_nat (j := 1) rfl, a2, rfl, ⟨_, SqT.of hx2⟩, fun D hD => ?_⟩
  refine lc_tup (K := K) (a := a2) (xs := xs2) (fun i H' => ∃ vs ds L, Kp MN H H' ∧ H' D = some (.lst vs) ∧ AtL (MA M D) H' vs ds ∧ formedL (ps.take i) wo = some L ∧ SzL i (L.length * a) (PyData.depthAll ps + 4) ds)
    ⟨[], [], [], Kp.new hD, upd_same, .nil, formedL_nil wo, SzL.nil.mono (Nat.zero_le _) (Nat.zero_le _) (Nat.zero_le _)⟩ (fun i H' _ p => SqT.of (by
      obtain ⟨_, _, _, k, _⟩ := p
      exact k.tup _ _ hx2)) (fun i x H' hi p => ?_) (fun H' p => ?_)
  · obtain ⟨vs, ds, L, k3, e3, r3, f3, s3⟩ := p
    obtain ⟨d', hd', ha'⟩ := hall2.get hi
    have hm := List.mem_of_getElem? hd'
    obtain ⟨_, b, _, hb⟩ := formedL_get hfl hd'
    have hlen := s3.len
    have hil := (List.getElem?_eq_some_iff.mp hd').1
    refine ⟨rfl, ?_⟩
    dsimp only [tYes]
    rw [if_pos rfl]
    refine ⟨_, rfl, _, rfl, _, rfl, MA M D, x, u, d', e, t, wo, b, a, rfl, (At.fresh hD ha').kp k3.any, (At.fresh hD hU).kp k3.any, hb, slimL_mem hps.2 hm, ?_, he, ha, fun v' dd H5 sz a5 k5 => ?_⟩
    · have := depth_mem hm
      omega
    · have e5 := k5.lst D _ (fun z => z) e3
      have hvs := r3.length
      have kp : Kp (MA M D) H5 (upd H5 D (.lst (vs ++ [v']))) := Kp.put (Or.inr rfl) e5
      refine ⟨vs, e5, small1000 (by omega), vs ++ [v'], ds ++ [dd], L ++ b, (k3.trans k5).putNew hD e5, upd_same, ((r3.kp k5.any).kp kp).append (AtL.one (a5.kp kp)), formedL_succ f3 hd' hb, ?_⟩
      rw [List.length_append, Nat.add_mul]
      exact s3.snoc (sz.mono (Nat.le_refl _) (by have := depth_mem hm; omega))
  · obtain ⟨vs, ds, L, k3, e3, r3, f3, s3⟩ := p
    rw [hl2, List.take_length] at f3
    have : L = l := by
      rw [f3] at hfl
      exact Option.some.inj hfl
    subst this
    have hvs := r3.length
    have hlen := s3.len
    refine ⟨D, vs, rfl, .inl ⟨SqL.of e3, fun p1 hp1 => ?_⟩⟩
    refine ⟨(by show 2 ≤ sizeLine; decide), fun p2 hp2 => ?_⟩
    have kk : Kp MN H' (upd (upd H' p1 (.tup vs)) p2 (.tup [.str wo, .ref p1])) := (Kp.new hp1).trans (Kp.new hp2)
    have hstr : PyData.strOk wo = true := by
      rcases wd_or hwd with z | z <;> rw [z]
      · exact strOk_words.1
      · exact strOk_words.2
    refine q _ (.tuple [.str wo, .tuple ds]) _ ?_ (.tup upd_same (.cons (.str wo) (.cons (.tup ?_ ((r3.weak fun b z => Or.inl z).kp kk.any)) .nil))) (k3.trans kk)
    · have h1 : Sz (0 + (L.length * a + 0)) (max 0 (max (PyData.depthAll ps + 4 + 1) 0) + 1) (.tuple [.str wo, .tuple ds]) := ((SzL.cons (Sz.str hstr) (SzL.cons (s3.tup (by omega)) SzL.nil)).tup (by decide))
      exact h1.mono (by omega) (by omega)
    · rw [upd_ne (ne_of_none upd_same hp2), upd_same]
theorem oks_at {f : Addr} {fd : FuncData} (F : Fun K "_law_at" "_law_at" sAt f fd) (B : Bl K mg) (bF : Binds K fd ["plan", "task", "value"] []) (mF : mg "_law_at" = some (.ref f)) :
    ∀ n : Nat, FnOk P w K mg base CX0 (n + 1) f fd ["plan", "task", "value"] (spAt n)
  | 0 => never_ok fun vs H Q E h => by
    obtain ⟨_, _, _, _, _, _, _, _, _, _, _, _, _, _, h, _⟩ := h
    exact absurd h (Nat.not_lt_zero _)
  | n + 1 => ok_at F B (oks_at F B bF mF n) bF mF
theorem scChanged : FnScope ["stream", "plan", "size", "task", "inner"] ["stream", "plan", "size"] (defScope sChanged) := ⟨rfl, rfl, rfl, by decide +kernel, rfl, by decide +kernel, by decide +kernel⟩
end
end K1

set_option Elab.async false
set_option linter.all false
set_option maxRecDepth 100000
set_option maxHeartbeats 4000000
namespace K1
open PySem L2 GxR GA KD KR KM
def spChanged : Sp := fun vs H Q _ => ∃ (st c : Addr) (v : V) (d : PyData) (n : Nat) (l : List Int), vs = [.ref st, v, .int n] ∧ StAt st c H ∧ At (MS st) H v d ∧ formed d "" = some l ∧ Sz 7 12 d ∧ 1 ≤ n ∧ n ≤ 7 ∧
  ∀ v' d' H', Sz 60 60 d' → At (MS st) H' v' d' → Kp (MS st) H H' → StAt st c H' → Q v' H'
section
variable {st c : Addr} {H0 : Hp} {σ : L2.St}
theorem DEs.aconsZ {t : TE} {ts : TA} {n l k L M : Nat} (h : DE st c H0 σ t (Sz l k)) (r : DEs st c H0 σ ts (AllS n (Sz L M))) (hl : l ≤ L := by decide) (hk : k ≤ M := by decide) : DEs st c H0 σ (tCons t ts) (AllS (n + 1) (Sz L M)) := DEs.acons h (fun d s => s.mono hl hk) r
theorem DEs.aconsZN {t : TE} {ts : TA} {n l k L M : Nat} (h : DE st c H0 σ t (SzN l k)) (r : DEs st c H0 σ ts (AllS n (SzN L M))) (hl : l ≤ L := by decide) (hk : k ≤ M := by decide) : DEs st c H0 σ (tCons t ts) (AllS (n + 1) (SzN L M)) := DEs.acons h (fun d s => ⟨s.1.mono hl hk, s.2⟩) r
theorem DE.neg (i : Int) : DE st c H0 σ (tUn (rU fun i => .int (-i)) (tC (.int i))) (fun e => e = .int (-i)) := fun H Q k s q => ⟨i, rfl, q _ (.int (-i)) H rfl (.int _) .refl s⟩
theorem DE.text {i : Nat} {t : Int} (hv : σ[i]? = some (some (.int t))) (h0 : 0 ≤ t) (h7 : t < 8) : DE st c H0 σ (tCB (fun xs H Q => ∃ i, xs = [.int i] ∧ i.natAbs.log2 < 1920 ∧ Q (.str (toString i)) H) (tCons (tVar i) tNil)) (fun e => Sz 0 0 e ∧ ∃ x, e = .str x) := fun H Q k s q => by
  refine ⟨_, hv, t, rfl, ?_, q _ (.str (toString t)) H ⟨Sz.str ?_, _, rfl⟩ (.str _) .refl s⟩
  all_goals
    have : t = 0 ∨ t = 1 ∨ t = 2 ∨ t = 3 ∨ t = 4 ∨ t = 5 ∨ t = 6 ∨ t = 7 := by omega
    rcases this with z | z | z | z | z | z | z | z <;> rw [z] <;> decide +kernel
end

/-! ### the values that stand in a task's place -/
def tV2 (w : Str) : TE := tTup (tCons (tC (.str w)) (tCons (tTup (tCons (tVar 3) tNil)) tNil))
def tV3 (w : Str) : TE := tTup (tCons (tC (.str w)) (tCons (tTup (tCons (tVar 3) (tCons (tVar 2) tNil))) tNil))
def tPlus : TE := tOp (rI0 fun i j => .int (i + j)) (tVar 2) (tC (.int 1))
def tText : TE := tCB (fun xs H Q => ∃ i, xs = [.int i] ∧ i.natAbs.log2 < 1920 ∧ Q (.str (toString i)) H) (tCons (tVar 3) tNil)
def tElts : TA := tCons (tVar 2) (tCons tPlus (tCons (tC (.int 7)) (tCons (tUn (rU fun i => .int (-i)) (tC (.int 1))) (tCons (tC (.bl true)) (tCons (tC (.bl false)) (tCons (tC .non) (tCons tText
  (tCons (tTup (tCons (tVar 3) tNil)) (tCons (tLst (tCons (tVar 3) tNil)) (tCons (tCall spNext [] E0 (tCons (tVar 0) (tCons (tVar 2) tNil))) (tCons (tV2 "then") (tCons (tV2 "beside") (tCons (tV3 "then") (tCons (tV3 "beside")
  (tCons (tTup (tCons (tC (.str "beside")) (tCons (tLst (tCons (tVar 3) (tCons (tVar 2) tNil))) tNil))) (tCons (tV3 "all") (tCons (tLst (tCons (tC (.str "then")) (tCons (tTup (tCons (tVar 3) (tCons (tVar 2) tNil))) tNil))) tNil)))))))))))))))))
def tMore : TA := tCons (tTup (tCons (tC (.str "then")) (tCons (tTup (tCons (tVar 3) (tCons (tVar 2) tNil))) (tCons (tC (.int 0)) tNil))))
  (tCons (tTup (tCons (tC (.str "beside")) (tCons (tTup tNil) tNil))) (tCons (tTup (tCons (tC .non) (tCons (tTup (tCons (tVar 3) (tCons (tVar 2) tNil))) tNil)))
  (tCons (tTup (tCons (tC (.str "beside")) (tCons (tTup (tCons (tVar 3) (tCons (tTup (tCons (tC (.str "then")) (tCons (tTup (tCons (tVar 2) (tCons tPlus tNil))) tNil))) tNil))) tNil))) tNil)))
section
variable {st c : Addr} {H0 : Hp} {σ : L2.St} {n t : Int}
theorem de_v2 {w : Str} (hw : PyData.strOk w = true) (h3 : σ[3]? = some (some (.int t))) : DE st c H0 σ (tV2 w) (Sz 1 2) := DE.tup (DEs.cons (DE.str hw) (DEs.cons (DE.tup (DEs.cons (DE.ivar h3) DEs.nil) (by decide)) DEs.nil)) (by decide)
theorem de_v3 {w : Str} (hw : PyData.strOk w = true) (h2 : σ[2]? = some (some (.int n))) (h3 : σ[3]? = some (some (.int t))) : DE st c H0 σ (tV3 w) (Sz 2 2) := DE.tup (DEs.cons (DE.str hw) (DEs.cons (DE.tup (DEs.cons (DE.ivar h3) (DEs.cons (DE.ivar h2) DEs.nil)) (by decide)) DEs.nil)) (by decide)
theorem de_plus (h2 : σ[2]? = some (some (.int n))) : DE st c H0 σ tPlus (fun e => e = .int (n + 1)) := DE.addI (a := n) (b := 1) (fun H Q q => ⟨_, h2, q⟩) (fun H Q q => q)
theorem de_elts (h0 : σ[0]? = some (some (.ref st))) (h2 : σ[2]? = some (some (.int n))) (h3 : σ[3]? = some (some (.int t))) (n0 : 0 < n) (n1 : n < 1000) (t0 : 0 ≤ t) (t7 : t < 7) : DEs st c H0 σ tElts (AllS 18 (Sz 3 4)) :=
  DEs.aconsZ (DE.ivar h2) (DEs.aconsZ ((de_plus h2).exS (Sz.int _)) (DEs.aconsZ (DE.int 7) (DEs.aconsZ ((DE.neg 1).exS (Sz.int _)) (DEs.aconsZ (DE.bool true) (DEs.aconsZ (DE.bool false) (DEs.aconsZ DE.non (DEs.aconsZ ((DE.text h3 t0 (by omega)).imp fun d z => z.1)
    (DEs.aconsZ (DE.tup (DEs.cons (DE.ivar h3) DEs.nil) (by decide)) (DEs.aconsZ (DE.lst (DEs.cons (DE.ivar h3) DEs.nil) (by decide)) (DEs.aconsZ (DE.next h0 h2 n0 n1)
    (DEs.aconsZ (de_v2 strOk_words.1 h3) (DEs.aconsZ (de_v2 strOk_words.2 h3) (DEs.aconsZ (de_v3 strOk_words.1 h2 h3) (DEs.aconsZ (de_v3 strOk_words.2 h2 h3)
    (DEs.aconsZ (DE.tup (DEs.cons (DE.str strOk_words.2) (DEs.cons (DE.lst (DEs.cons (DE.ivar h3) (DEs.cons (DE.ivar h2) DEs.nil)) (by decide)) DEs.nil)) (by decide))
    (DEs.aconsZ (de_v3 (by decide +kernel) h2 h3) (DEs.aconsZ (DE.lst (DEs.cons (DE.str strOk_words.1) (DEs.cons (DE.tup (DEs.cons (DE.ivar h3) (DEs.cons (DE.ivar h2) DEs.nil)) (by decide)) DEs.nil)) (by decide)) DEs.anil)))))))))))))))))
theorem de_more (h2 : σ[2]? = some (some (.int n))) (h3 : σ[3]? = some (some (.int t))) : DEs st c H0 σ tMore (AllS 4 (SzN 3 4)) :=
  DEs.aconsZN (DE.tupN (DEs.consN (DE.strN strOk_words.1) (DEs.consN (DE.tupN (DEs.consN (DE.ivarN h3) (DEs.consN (DE.ivarN h2) DEs.nilN)) (by decide)) (DEs.consN (DE.intN 0) DEs.nilN))) (by decide))
  (DEs.aconsZN (DE.tupN (DEs.consN (DE.strN strOk_words.2) (DEs.consN (DE.tupN DEs.nilN (by decide)) DEs.nilN)) (by decide))
  (DEs.aconsZN (DE.tupN (DEs.consN DE.nonN (DEs.consN (DE.tupN (DEs.consN (DE.ivarN h3) (DEs.consN (DE.ivarN h2) DEs.nilN)) (by decide)) DEs.nilN)) (by decide))
  (DEs.aconsZN (DE.tupN (DEs.consN (DE.strN strOk_words.2) (DEs.consN (DE.tupN (DEs.consN (DE.ivarN h3) (DEs.consN (DE.tupN (DEs.consN (DE.strN strOk_words.1) (DEs.consN (DE.tupN (DEs.consN (DE.ivarN h2) (DEs.consN ((de_plus h2).exN (Sz.int _) (by simp [noL])) DEs.nilN)) (by decide)) DEs.nilN)) (by decide)) DEs.nilN)) (by decide)) DEs.nilN)) (by decide)) DEs.anil)))
end
/-! ### the whole plan changed -/
def tP (K : PySem.W.Frag) (j : Int) : TE := tOp (rIxT K) (tVar 1) (tC (.int j))
def tToL (K : PySem.W.Frag) (t : TE) : TE := tCB (fun xs H Q => ∃ p ys, xs = [.ref p] ∧ (SqL K H p ys ∨ SqT K H p ys) ∧ ∀ l, H l = none → Q (.ref l) (upd H l (.lst ys))) (tCons t tNil)
def tCut (K : PySem.W.Frag) (t : TE) (tl th : TO) : TE := fun σ H Q => t σ H fun x H1 => tl σ H1 fun l H2 => th σ H2 fun u H3 => rSlA K x l u H3 Q
def tUp (t : TE) : TE := tM0 (fun x xs H Q => ∃ a, x = .str a ∧ xs = [] ∧ a.length ≤ 5592405 ∧ Q (.str (Txt.upper a)) H) t
def tW (K : PySem.W.Frag) (t : TE) : TE := tTup (tCons (tP K 0) (tCons t tNil))
def tAlts (K : PySem.W.Frag) : TA := tCons (tToL K (tVar 1)) (tCons (tW K (tToL K (tP K 1))) (tCons (tW K (tCut K (tP K 1) (tPart (tC (.int 1))) tNoPart)) (tCons (tW K (tCut K (tP K 1) tNoPart (tPart (tC (.int 1)))))
  (tCons (tOp (rCatA K) (tVar 1) (tTup (tCons (tC (.int 0)) tNil))) (tCons (tW K (tOp (rCatA K) (tP K 1) (tCut K (tP K 1) tNoPart (tPart (tC (.int 1)))))) (tCons (tTup (tCons (tP K 1) (tCons (tP K 0) tNil)))
  (tCons (tW K (tRevT K (tP K 1))) (tCons (tTup (tCons (tUp (tP K 0)) (tCons (tP K 1) tNil))) tNil))))))))
theorem upper_ok {w : Str} (h : wd w = true) : PyData.strOk (Txt.upper w) = true ∧ w.length ≤ 5592405 := by
  rcases wd_or h with z | z <;> rw [z] <;> constructor <;> decide +kernel
theorem wd_ok {w : Str} (h : wd w = true) : PyData.strOk w = true := by
  rcases wd_or h with z | z <;> rw [z]
  · exact strOk_words.1
  · exact strOk_words.2
section
variable {st c : Addr} {H0 : Hp} {σ : L2.St} {K : PySem.W.Frag} {v : V} {w : Str} {ps : List PyData}
theorem de_p0 (h1 : σ[1]? = some (some v)) (ha : At (MS st) H0 v (.tuple [.str w, .tuple ps])) : DE st c H0 σ (tP K 0) (fun e => e = .str w) := DE.ix (j := 0) (DE.var h1 ha) rfl
theorem de_p1 (h1 : σ[1]? = some (some v)) (ha : At (MS st) H0 v (.tuple [.str w, .tuple ps])) : DE st c H0 σ (tP K 1) (fun e => e = .tuple ps) := DE.ix (j := 1) (DE.var h1 ha) rfl
theorem de_w {t : TE} {l k : Nat} (hw : wd w = true) (h1 : σ[1]? = some (some v)) (ha : At (MS st) H0 v (.tuple [.str w, .tuple ps])) (h : DE st c H0 σ t (Sz l k)) : DE st c H0 σ (tW K t) (Sz (0 + (l + 0)) (max 0 (max k 0) + 1)) :=
  DE.tup (DEs.cons ((de_p0 h1 ha).exS (Sz.str (wd_ok hw))) (DEs.cons h DEs.nil)) (by decide)
theorem de_cut {lo hi : Option Int} {tl th : TO} {l k : Nat} (h1 : σ[1]? = some (some v)) (ha : At (MS st) H0 v (.tuple [.str w, .tuple ps])) (hs : SzL 400 l k ps) (hl : ∀ (H : Hp) (Q : Option Int → Hp → Prop), Q lo H → tl σ H Q) (hh : ∀ (H : Hp) (Q : Option Int → Hp → Prop), Q hi H → th σ H Q) :
    DE st c H0 σ (tCut K (tP K 1) tl th) (fun e => ∃ es, e = .tuple es ∧ SzL 400 l k es) := (DE.cut (de_p1 h1 ha) hl hh).imp fun d ⟨es, e, s⟩ => ⟨es, e, hs.sub s⟩
theorem de_up (hw : wd w = true) (h1 : σ[1]? = some (some v)) (ha : At (MS st) H0 v (.tuple [.str w, .tuple ps])) : DE st c H0 σ (tUp (tP K 0)) (Sz 0 0) := fun H Q k s q =>
  de_p0 h1 ha H _ k s fun v d H1 hd a k1 s1 => by
    rw [hd] at a
    cases a.str_of
    exact ⟨⟨w, rfl⟩, w, rfl, rfl, (upper_ok hw).2, q _ (.str (Txt.upper w)) H1 (Sz.str (upper_ok hw).1) (.str _) k1 s1⟩
theorem de_alts (hw : wd w = true) (h1 : σ[1]? = some (some v)) (ha : At (MS st) H0 v (.tuple [.str w, .tuple ps])) (hs : SzL 400 7 12 ps) : DEs st c H0 σ (tAlts K) (AllS 9 (Sz 60 60)) :=
  DEs.aconsZ ((DE.toLst (DE.var h1 ha)).exS ((SzL.cons (Sz.str (wd_ok hw)) (SzL.cons (hs.tup (by decide)) SzL.nil)).lst (by decide)))
  (DEs.aconsZ (de_w hw h1 ha ((DE.toLst (de_p1 h1 ha)).exS (hs.lst (by decide))))
  (DEs.aconsZ (de_w hw h1 ha ((de_cut (lo := some 1) (hi := none) h1 ha hs (fun H Q q => ⟨1, rfl, q⟩) (fun H Q q => q)).imp fun d ⟨es, e, s⟩ => by rw [e]; exact s.tup (by decide)))
  (DEs.aconsZ (de_w hw h1 ha ((de_cut (lo := none) (hi := some 1) h1 ha hs (fun H Q q => q) (fun H Q q => ⟨1, rfl, q⟩)).imp fun d ⟨es, e, s⟩ => by rw [e]; exact s.tup (by decide)))
  (DEs.aconsZ ((DE.cat (Sa := SzL 2 7 13) (Sb := SzL 1 1 0) ((DE.var h1 ha).imp fun d e => ⟨_, e, (SzL.cons (Sz.str (wd_ok hw)) (SzL.cons (hs.tup (by decide)) SzL.nil)).mono (by decide) (by decide) (by decide)⟩) (DE.tup' (DEs.cons (DE.int 0) DEs.nil) fun ds s => Nat.le_trans s.len (by decide)) (fun ds s => Nat.le_trans s.len (by decide)) (fun ds s => Nat.le_trans s.len (by decide))).imp fun d ⟨a, b, e, sa, sb⟩ => by rw [e]; exact (sa.app sb).tup (by decide))
  (DEs.aconsZ (de_w hw h1 ha ((DE.cat (Sa := SzL 400 7 12) (Sb := SzL 400 7 12) ((de_p1 h1 ha).imp fun d e => ⟨_, e, hs⟩) (de_cut (lo := none) (hi := some 1) h1 ha hs (fun H Q q => q) (fun H Q q => ⟨1, rfl, q⟩)) (fun ds s => s.len) (fun ds s => s.len)).imp fun d ⟨a, b, e, sa, sb⟩ => by rw [e]; exact (sa.app sb).tup (by decide)))
  (DEs.aconsZ (DE.tup (DEs.cons ((de_p1 h1 ha).exS (hs.tup (by decide))) (DEs.cons ((de_p0 h1 ha).exS (Sz.str (wd_ok hw))) DEs.nil)) (by decide))
  (DEs.aconsZ (de_w hw h1 ha ((DE.rev (de_p1 h1 ha)).exS (hs.rev.tup (by decide))))
  (DEs.aconsZ (DE.tup (DEs.cons (de_up hw h1 ha) (DEs.cons ((de_p1 h1 ha).exS (hs.tup (by decide))) DEs.nil)) (by decide)) DEs.anil))))))))
end
end K1

set_option Elab.async false
set_option linter.all false
set_option maxRecDepth 100000
set_option maxHeartbeats 1000000
namespace K1
open PySem L2 GxR GA KD KR KM
theorem AtL.put' {M M' : Addr → Prop} {H H' : Hp} (k : ∀ b xs, H b = some (.tup xs) → H' b = some (.tup xs)) : ∀ {ds : List PyData} {vs : List V}, AtL M H vs ds → (∀ d ∈ ds, noL d = true) → AtL M' H' vs ds
  | [], _, h, _ => by cases h; exact .nil
  | d :: ds, _, h, n => by
    cases h with
    | cons a r => exact .cons (At.put k a (n d List.mem_cons_self)) (AtL.put' k r fun x hx => n x (List.mem_cons_of_mem _ hx))
theorem use_asg {t : TE} {g : TG} {u : TS} {D : Ends} {σ : L2.St} {H : Hp} (h : t σ H fun v H1 => g v σ H1 (u D)) : tSeq (tAsg t g) u D σ H := h
theorem use_lst {t : TA} {σ : L2.St} {H : Hp} {Q : VK} (h : t σ H fun xs H1 => xs.length ≤ sizeLine ∧ ∀ p, H1 p = none → Q (.ref p) (upd H1 p (.lst xs))) : tLst t σ H Q := h
theorem use_ret {t : TE} {D : Ends} {σ : L2.St} {H : Hp} (h : t σ H D.rt) : tRet t D σ H := h
theorem use_one {t : TE} {σ : L2.St} {H : Hp} {Q : List V → Hp → Prop} (h : t σ H fun v H1 => Q [v] H1) : tCons t tNil σ H Q := h
section
variable {P : Program} {w : World} {K : PySem.W.Frag} {mg : Str → Option Value} {base : Heap}
theorem ok_changed {f g o p : Addr} {fd gd od pd : FuncData} (F : Fun K "_law_changed" "_law_changed" sChanged f fd) (B : Bl K mg)
    (G : FnOk P w K mg base CX0 1 g gd ["stream", "many"] spNext) (bG : Binds K gd ["stream", "many"] []) (kG : PySem.W.keepIn K (.ref g) = true) (mG : mg "_law_next" = some (.ref g))
    (O : FnOk P w K mg base CX0 14 o od ["plan", "task", "value"] (spAt 13)) (bO : Binds K od ["plan", "task", "value"] []) (kO : PySem.W.keepIn K (.ref o) = true) (mO : mg "_law_at" = some (.ref o))
    (C : FnOk P w K mg base CX0 2 p pd ["stream", "rows"] spPick) (bC : Binds K pd ["stream", "rows"] []) (kC : PySem.W.keepIn K (.ref p) = true) (mC : mg "_law_pick" = some (.ref p)) :
    FnOk P w K mg base CX0 15 f fd ["stream", "plan", "size"] spChanged := by
  refine F.ok scChanged (fun vs H Q E h => ?_) (fun cdv A outer s H vs Q E hr h => ?_)
  · obtain ⟨st, c, v, d, n, l, rfl, _⟩ := h
    rfl
  obtain ⟨st, c, v, d, n, l, rfl, hst, hA, hf, hsz, h1, h7, q⟩ := h
  have hr1 : Room 1 _ := hr.mono (by decide)
  have hr2 : Room 2 _ := hr.mono (by decide)
  refine ⟨_, pss_cons (ps_set (i := 3) scChanged.nd rfl (Or.inl rfl) (pe_call G hr1 rfl mG kG bG .nil pass0 (pa_cons (pv 0) (pa_cons (pv 2) pa_nil))))
    (pss_cons (ps_set (i := 4) scChanged.nd rfl (Or.inl rfl) (pe_lst (t := tElts) (pa_cons (pv 2) (pa_cons (pe_op op_add (pv 2) pe_int) (pa_cons pe_int (pa_cons (pe_un un_neg pe_int) (pa_cons pe_bl (pa_cons pe_bl (pa_cons pe_non
        (pa_cons (pe_callTy call_str_int rfl B.str (by decide +kernel) (pa_cons (pv 3) pa_nil))
        (pa_cons (pe_tup (pa_cons (pv 3) pa_nil)) (pa_cons (pe_lst (pa_cons (pv 3) pa_nil)) (pa_cons (pe_call G hr1 rfl mG kG bG .nil pass0 (pa_cons (pv 0) (pa_cons (pv 2) pa_nil)))
        (pa_cons (pe_tup (pa_cons pe_str (pa_cons (pe_tup (pa_cons (pv 3) pa_nil)) pa_nil)))
        (pa_cons (pe_tup (pa_cons pe_str (pa_cons (pe_tup (pa_cons (pv 3) pa_nil)) pa_nil)))
        (pa_cons (pe_tup (pa_cons pe_str (pa_cons (pe_tup (pa_cons (pv 3) (pa_cons (pv 2) pa_nil))) pa_nil)))
        (pa_cons (pe_tup (pa_cons pe_str (pa_cons (pe_tup (pa_cons (pv 3) (pa_cons (pv 2) pa_nil))) pa_nil)))
        (pa_cons (pe_tup (pa_cons pe_str (pa_cons (pe_lst (pa_cons (pv 3) (pa_cons (pv 2) pa_nil))) pa_nil)))
        (pa_cons (pe_tup (pa_cons pe_str (pa_cons (pe_tup (pa_cons (pv 3) (pa_cons (pv 2) pa_nil))) pa_nil)))
        (pa_cons (pe_lst (pa_cons pe_str (pa_cons (pe_tup (pa_cons (pv 3) (pa_cons (pv 2) pa_nil))) pa_nil))) pa_nil))))))))))))))))))))
    (pss_cons (ps_expr (pe_bm PySem.F.plainAttrs_list PySem.F.slot_list_extend PySem.F.type_list_extend mt_extend (pv 4) (pa_cons (pe_lst (t := tMore)
        (pa_cons (pe_tup (pa_cons pe_str (pa_cons (pe_tup (pa_cons (pv 3) (pa_cons (pv 2) pa_nil))) (pa_cons pe_int pa_nil))))
        (pa_cons (pe_tup (pa_cons pe_str (pa_cons (pe_tup pa_nil) pa_nil)))
        (pa_cons (pe_tup (pa_cons pe_non (pa_cons (pe_tup (pa_cons (pv 3) (pa_cons (pv 2) pa_nil))) pa_nil)))
        (pa_cons (pe_tup (pa_cons pe_str (pa_cons (pe_tup (pa_cons (pv 3) (pa_cons (pe_tup (pa_cons pe_str (pa_cons (pe_tup (pa_cons (pv 2) (pa_cons (pe_op op_add (pv 2) pe_int) pa_nil))) pa_nil))) pa_nil))) pa_nil))) pa_nil))))) pa_nil)))
    (pss_cons (ps_if (PW.pt (pw_or (pt_val (pe_callB call_isi rfl B.isinstance (by decide +kernel) (pa_cons (pv 1) (pa_cons (pe_bltn rfl B.int (by decide +kernel) (v := .ty "int") rfl) pa_nil))))
        (pw_or1 (pt_cmpR op_gt (pe_call G hr1 rfl mG kG bG .nil pass0 (pa_cons (pv 0) (pa_cons pe_int pa_nil))) pe_int (nomark _)))))
      (pss_one (ps_ret (pe_call O hr rfl mO kO bO .nil pass0 (pa_cons (pv 1) (pa_cons (pv 3) (pa_cons (pe_call C hr2 rfl mC kC bC .nil pass0 (pa_cons (pv 0) (pa_cons (pv 4) pa_nil))) pa_nil)))))) pss_nil)
    (pss_one (ps_ret (pe_call C hr2 rfl mC kC bC .nil pass0 (pa_cons (pv 0) (pa_cons (pe_lst (t := tAlts K)
      (pa_cons (pe_callTy call_list_of rfl B.list (by decide +kernel) (pa_cons (pv 1) pa_nil))
      (pa_cons (pe_tup (pa_cons (pe_ix ix_tup (pv 1) pe_int (fun _ _ => rfl)) (pa_cons (pe_callTy call_list_of rfl B.list (by decide +kernel) (pa_cons (pe_ix ix_tup (pv 1) pe_int (fun _ _ => rfl)) pa_nil)) pa_nil)))
      (pa_cons (pe_tup (pa_cons (pe_ix ix_tup (pv 1) pe_int (fun _ _ => rfl)) (pa_cons (pe_slice sl_tupA (pe_ix ix_tup (pv 1) pe_int (fun _ _ => rfl)) (po_some pe_int) po_none) pa_nil)))
      (pa_cons (pe_tup (pa_cons (pe_ix ix_tup (pv 1) pe_int (fun _ _ => rfl)) (pa_cons (pe_slice sl_tupA (pe_ix ix_tup (pv 1) pe_int (fun _ _ => rfl)) po_none (po_some pe_int)) pa_nil)))
      (pa_cons (pe_op op_catA (pv 1) (pe_tup (pa_cons pe_int pa_nil)))
      (pa_cons (pe_tup (pa_cons (pe_ix ix_tup (pv 1) pe_int (fun _ _ => rfl)) (pa_cons (pe_op op_catA (pe_ix ix_tup (pv 1) pe_int (fun _ _ => rfl)) (pe_slice sl_tupA (pe_ix ix_tup (pv 1) pe_int (fun _ _ => rfl)) po_none (po_some pe_int))) pa_nil)))
      (pa_cons (pe_tup (pa_cons (pe_ix ix_tup (pv 1) pe_int (fun _ _ => rfl)) (pa_cons (pe_ix ix_tup (pv 1) pe_int (fun _ _ => rfl)) pa_nil)))
      (pa_cons (pe_tup (pa_cons (pe_ix ix_tup (pv 1) pe_int (fun _ _ => rfl)) (pa_cons (pe_revT (pe_ix ix_tup (pv 1) pe_int (fun _ _ => rfl))) pa_nil)))
      (pa_cons (pe_tup (pa_cons (pe_upper (pe_ix ix_tup (pv 1) pe_int (fun _ _ => rfl))) (pa_cons (pe_ix ix_tup (pv 1) pe_int (fun _ _ => rfl)) pa_nil))) pa_nil)))))))))) pa_nil)))))))), ?_⟩
  refine ⟨_, rfl, _, rfl, st, c, n, rfl, hst, by omega, by omega, fun t H1 t0 t1 k1 s1 => ?_⟩
  have hA1 := hA.kp k1
  have ht7 : t < 7 := by omega
  have hA1 := hA.kp k1
  refine use_asg (use_lst (de_elts (n := n) (t := t) rfl rfl rfl (by omega) (by omega) t0 (by omega) H1 _ .refl s1 fun vs ds H2 hds as k2 s2 => ⟨?_, fun I hI => ?_⟩))
  · rw [as.length, hds.1]
    exact Nat.le_of_lt (small1000 (by decide))
  have nI := s2.ne hI
  have s3 : StAt st c (upd H2 I (.lst vs)) := s2.new hI
  have lvs : vs.length = 18 := by rw [as.length, hds.1]
  refine ⟨_, rfl, .inl ⟨rfl, _, .inl (.inl upd_same)⟩, ?_⟩
  refine use_one (use_lst (de_more (n := n) (t := t) rfl rfl _ _ .refl s3 fun vs2 ds2 H4 hds2 as2 k4 s4 => ⟨?_, fun J hJ => ?_⟩))
  · rw [as2.length, hds2.1]
    exact Nat.le_of_lt (small1000 (by decide))
  have lvs2 : vs2.length = 4 := by rw [as2.length, hds2.1]
  have e4 := k4.lst I vs nI.1 upd_same
  have nIJ : I ≠ J := ne_of_none e4 hJ
  have e5 : upd H4 J (.lst vs2) I = some (.lst vs) := by rw [upd_ne nIJ]; exact e4
  refine ⟨I, J, vs, vs2, rfl, rfl, e5, upd_same, by rw [lvs, lvs2]; exact Nat.le_of_lt (small1000 (by decide)), ?_⟩
  have kJ : Kp (MS st) H4 (upd H4 J (.lst vs2)) := Kp.new hJ
  have k6 : Kp (MS st) H1 (upd (upd H4 J (.lst vs2)) I (.lst (vs ++ vs2))) := k2.trans ((((Kp.new hI).trans k4).trans kJ).putNew hI e5)
  have s6 : StAt st c (upd (upd H4 J (.lst vs2)) I (.lst (vs ++ vs2))) := (s4.new hJ).put nI
  have aI : At (MS st) (upd (upd H4 J (.lst vs2)) I (.lst (vs ++ vs2))) (.ref I) (.list (ds ++ ds2)) := by
    refine .lst upd_same nI.1 (AtL.append ?_ ?_)
    · have a3 : AtL (MA (MS st) I) (upd H2 I (.lst vs)) vs ds := (AtL.fresh hI as).kp (Kp.new hI)
      have a5 := a3.kp ((k4.trans kJ).mono fun b z => Or.inl z)
      exact (a5.kp (Kp.put (M := MA (MS st) I) (Or.inr rfl) e5)).weak fun b z => Or.inl z
    · refine AtL.put' (fun b xs e => ?_) (as2.kp kJ) (fun d hd => (hds2.2 d hd).2)
      rw [upd_ne]
      · exact e
      · intro z
        rw [z, e5] at e
        cases e
  have hgood : ∀ e ∈ ds ++ ds2, Sz 3 4 e := fun e he => by
    rcases List.mem_append.mp he with z | z
    · exact hds.2 e z
    · exact (hds2.2 e z).1
  have hlen : (ds ++ ds2).length = 22 := by rw [List.length_append, hds.1, hds2.1]
  have hA6 := hA1.kp k6
  have hll : l.length ≤ 7 := by
    rw [formed_lv d "" l hf]
    exact hsz.lvs
  have fin1 : ∀ H7, Kp (MS st) (upd (upd H4 J (.lst vs2)) I (.lst (vs ++ vs2))) H7 → StAt st c H7 → tCall (spAt 13) [] E0 (tCons (tVar 1) (tCons (tVar 3) (tCons (tCall spPick [] E0 (tCons (tVar 0) (tCons (tVar 4) tNil))) tNil))) [some (.ref st), some v, some (.int n), some (.int t), some (.ref I)] H7 Q := fun H7 k7 s7 => by
    refine ⟨v, rfl, _, rfl, _, rfl, _, rfl, st, c, _, ds ++ ds2, rfl, s7, aI.kp k7, (fun z => by rw [z] at hlen; cases hlen), (by rw [hlen]; decide), fun x e H8 he ae k8 s8 => ?_⟩
    refine ⟨MS st, v, x, d, e, t, "", l, 3, rfl, hA6.kp (k7.trans k8), ae, hf, hsz.slm, Nat.lt_succ_of_le hsz.dep, hgood e he, by decide, fun v' d' H9 sz a9 k9 => q v' d' H9 (sz.mono (by omega) (by have := hsz.dep; omega)) a9 (k1.trans (k6.trans (k7.trans (k8.trans k9.any)))) (s8.kp k9)⟩
  refine ⟨_, rfl, _, _, _, _, _, rfl, .ty _, hA6.ty, kit_int d, _, rfl, ?_⟩
  rcases formed_cases hf with ⟨i, rfl, rfl⟩ | ⟨wo, ps, rfl, hwd, hwo, h2, hfl⟩
  · refine iteT ?_
    refine iteT ?_
    exact fin1 _ .refl s6
  refine iteF ?_
  refine ⟨_, rfl, st, c, 3, rfl, s6, by decide, by decide, fun x H7 x0 x1 k7 s7 => ⟨x, 0, rfl, rfl, _, rfl, ?_⟩⟩
  refine ite2 (fun c1 => fin1 _ k7 s7) (fun c1 => ?_)
  have hps : SzL 400 7 12 ps := by
    have h1 := hsz.tupL.mem (.tuple ps) (by simp)
    have h2 := h1.tupL
    have h3 := formedL_len _ _ _ hfl
    exact ⟨by omega, h2.lay, h2.slm, h2.lvs, Nat.le_trans h2.dep (by decide)⟩
  exact DE.pick (i := 0) (n := 9) rfl (DE.lst' (de_alts (K := K) hwd rfl (hA6.kp k7) hps) (fun ds h => by rw [h.1]; decide)) (by decide) (by decide) H7 _ .refl s7 fun v' d' H8 sz a8 k8 s8 => q v' d' H8 sz a8 (k1.trans (k6.trans (k7.trans k8))) s8
end
end K1

set_option Elab.async false
set_option linter.all false
set_option maxRecDepth 100000
set_option maxHeartbeats 1000000
namespace K1
open PySem L2 GxR GA KD KR KM
abbrev sLaw : Stmt := top 25
def spLaw (K : PySem.W.Frag) (PT : Addr) : Sp := fun vs H Q _ => ∃ (a : Addr) (ns : List Int), vs = [.ref a] ∧ SqL K H a (ns.map V.int) ∧ ns.length ≤ 63 ∧ TabG H PT ∧ ∀ H', Q (.bl true) H'
def tSub1 : TE := tOp (rI0 fun i j => .int (i - j)) (tVar 2) (tC (.int 1))
def tIsP (PT : Addr) (ta tb : TE) : TE := tCall (spIsPlan PT) [] E0 (tCons ta (tCons tb tNil))
def tEqu (ta tb : TE) : TE := tCall (spEq 2) [] E0 (tCons ta (tCons tb tNil))
def tPick (t : TE) : TE := tCall spPick [] E0 (tCons (tVar 1) (tCons t tNil))
def tEq1 (PT : Addr) : TE := tEqu (tLst (tCons (tIsP PT (tVar 3) (tVar 2)) (tCons (tIsP PT (tVar 3) tSub1) (tCons (tIsP PT (tVar 3) tPlus) tNil)))) (tLst (tCons (tC (.bl true)) (tCons (tC (.bl false)) (tCons (tC (.bl false)) tNil))))
def tBoth : TE := tAndV (tOp (rI0 fun i j => .bl (decide (i < j))) (tVar 6) (tC (.int 8))) (tCall spLIsPlan [] E0 (tCons (tVar 5) (tCons (tVar 6) tNil)))
def tEq3 (PT : Addr) : TE := tEqu (tIsP PT (tVar 5) (tVar 6)) tBoth
def tSizes : TA := tCons (tC (.int 0)) (tCons (tC (.int 8)) (tCons (tC .non) (tCons (tC (.bl true)) (tCons (tCB (fun xs H Q => ∃ i, xs = [.int i] ∧ i.natAbs.log2 < 1920 ∧ Q (.str (toString i)) H) (tCons (tVar 2) tNil)) (tCons (tUn (rU fun i => .int (-i)) (tC (.int 1))) tNil)))))
def tNones : TA := tCons (tC .non) (tCons (tC (.str "")) (tCons (tTup tNil) (tCons (tC (.str "then")) (tCons (tLst tNil) tNil))))
def tEq2 (PT : Addr) : TE := tEqu (tLst (tCons (tIsP PT (tVar 3) (tPick (tLst tSizes))) (tCons (tIsP PT (tPick (tLst tNones)) (tVar 2)) tNil))) (tLst (tCons (tC (.bl false)) (tCons (tC (.bl false)) tNil)))
theorem use_if1 {t : TE} {A B : TS} {D : Ends} {σ : L2.St} {H : Hp} (h : t σ H fun v H1 => ∃ b, v = .bl b ∧ (if (!b) = true then A D σ H1 else B D σ H1)) : tIfS (tNot (tB t)) A B D σ H := h
theorem use_if2 {t : TE} {A B u : TS} {D : Ends} {σ : L2.St} {H : Hp} (h : t σ H fun v H1 => ∃ b, v = .bl b ∧ (if (!b) = true then A { D with nx := u D } σ H1 else B { D with nx := u D } σ H1)) : tSeq (tIfS (tNot (tB t)) A B) u D σ H := h
theorem leq_bool (a b : Bool) : leq (.bool a) (.bool b) = decide (a = b) := by simp only [leq]
section
variable {st c : Addr} {H0 : Hp} {σ : L2.St} {PT : Addr} {n : Nat} {v : V} {d : PyData}
theorem DE.isPlan {ta tb : TE} {Sa Sb S : PyData → Prop} (hT : TabG H0 PT) (ha : DE st c H0 σ ta Sa) (hb : DE st c H0 σ tb Sb) (hs : ∀ d, Sa d → SeqAt.shaped d = true) (h : ∀ d e, Sa d → Sb e → S (.bool (isPl d e))) : DE st c H0 σ (tIsP PT ta tb) S := fun H Q k s q =>
  ha H _ k s fun v d H1 hd a k1 s1 => hb H1 _ (k.trans k1) s1 fun u e H2 he b k2 s2 => ⟨v, u, d, e, rfl, (a.kp k2).mn, b.mn, hs d hd, (k.trans (k1.trans k2)).tbl _ hT, fun H3 k3 => q _ (.bool (isPl d e)) H3 (h d e hd he) (.bl _) (k1.trans (k2.trans k3.any)) (s2.kp k3)⟩
theorem DE.equal {ta tb : TE} {Sa Sb S : PyData → Prop} (ha : DE st c H0 σ ta Sa) (hb : DE st c H0 σ tb Sb) (hs : ∀ d, Sb d → d.depth < 2 ∧ slim d = true) (h : ∀ d e, Sa d → Sb e → S (.bool (leq d e))) : DE st c H0 σ (tEqu ta tb) S := fun H Q k s q =>
  ha H _ k s fun v d H1 hd a k1 s1 => hb H1 _ (k.trans k1) s1 fun u e H2 he b k2 s2 => ⟨v, u, d, e, rfl, (a.kp k2).mn, b.mn, (hs e he).1, (hs e he).2, fun H3 k3 => q _ (.bool (leq d e)) H3 (h d e hd he) (.bl _) (k1.trans (k2.trans k3.any)) (s2.kp k3)⟩
theorem DEs.nilE : DEs st c H0 σ tNil (fun ds => ds = []) := fun H Q k s q => q [] [] H rfl .nil .refl s
theorem DEs.consE {t : TE} {ts : TA} {d : PyData} {ds : List PyData} (h : DE st c H0 σ t (fun e => e = d)) (r : DEs st c H0 σ ts (fun es => es = ds)) : DEs st c H0 σ (tCons t ts) (fun es => es = d :: ds) := DEs.cons' h r fun a b x y => by rw [x, y]
theorem DE.lstE {t : TA} {ds : List PyData} (h : DEs st c H0 σ t (fun es => es = ds)) (hn : ds.length ≤ 900) : DE st c H0 σ (tLst t) (fun e => e = .list ds) := (DE.lst' h fun es e => by rw [e]; exact hn).imp fun e ⟨es, a, b⟩ => by rw [a, b]
theorem DE.boolE (b : Bool) : DE st c H0 σ (tC (.bl b)) (fun e => e = .bool b) := DE.lit fun H => .bl b
theorem isPl_int (m : Int) (h : vdt d = n) (hn : 1 ≤ n) (h7 : n ≤ 7) : isPl d (.int m) = decide (m = n) := by
  show (decide (1 ≤ m ∧ m ≤ 7) && decide ((vdt d : Int) = m)) = decide (m = n)
  rw [h, ← Bool.decide_and, decide_eq_decide]
  omega
theorem de_eq1 (hT : TabG H0 PT) (h2 : σ[2]? = some (some (.int n))) (h3 : σ[3]? = some (some v)) (ha : At (MS st) H0 v d) (hs : SeqAt.shaped d = true) (hv : vdt d = n) (n1 : 1 ≤ n) (n7 : n ≤ 7) : DE st c H0 σ (tEq1 PT) (fun e => e = .bool true) := by
  have sh : ∀ e, e = d → SeqAt.shaped e = true := fun e z => by rw [z]; exact hs
  refine DE.equal (DE.lstE (ds := [.bool true, .bool false, .bool false]) (DEs.consE (DE.isPlan (Sb := fun e => e = .int n) hT (DE.var h3 ha) (DE.var h2 (.int _)) sh ?_) (DEs.consE (DE.isPlan (Sb := fun e => e = .int ((n : Int) - 1)) hT (DE.var h3 ha) ?_ sh ?_) (DEs.consE (DE.isPlan hT (DE.var h3 ha) (de_plus h2) sh ?_) DEs.nilE))) (by decide))
    (DE.lstE (ds := [.bool true, .bool false, .bool false]) (DEs.consE (DE.boolE _) (DEs.consE (DE.boolE _) (DEs.consE (DE.boolE _) DEs.nilE))) (by decide)) ?_ ?_
  · rintro d e rfl rfl
    rw [isPl_int _ hv n1 n7, decide_eq_true rfl]
  · exact fun H Q k s q => ⟨_, h2, _, _, rfl, rfl, q _ (.int ((n : Int) - 1)) H rfl (.int _) .refl s⟩
  · rintro d e rfl rfl
    rw [isPl_int _ hv n1 n7, decide_eq_false (by omega)]
  · rintro d e rfl rfl
    rw [isPl_int _ hv n1 n7, decide_eq_false (by omega)]
  · rintro d rfl
    exact ⟨by decide +kernel, by decide +kernel⟩
  · rintro d e rfl rfl
    rw [leq_refl _ (by decide +kernel)]
theorem de_both {m : Nat} (h5 : σ[5]? = some (some v)) (h6 : σ[6]? = some (some (.int m))) (ha : At (MS st) H0 v d) (hz : Sz 60 60 d) (m9 : m < 60) : DE st c H0 σ tBoth (fun e => e = .bool (decide ((m : Int) < 8) && lawPl d m)) := fun H Q k s q => by
  refine ⟨_, h6, _, _, rfl, rfl, _, rfl, ?_⟩
  refine ite2 (fun cc => ?_) (fun cc => ?_)
  · refine ⟨_, h5, _, h6, v, d, m, rfl, (ha.kp k).mn, m9, hz.shaped (by decide), hz.slm, hz.lvs, fun H' k' => ?_⟩
    exact q _ (.bool (lawPl d m)) H' (by rw [show decide ((m : Int) < 8) = true from cc, Bool.true_and]) (.bl _) k'.any (s.kp k')
  · exact q _ (.bool false) H (by rw [show decide ((m : Int) < 8) = false from Bool.eq_false_iff.mpr cc, Bool.false_and]) (.bl _) .refl s
theorem de_eq3 {m : Nat} (hT : TabG H0 PT) (h5 : σ[5]? = some (some v)) (h6 : σ[6]? = some (some (.int m))) (ha : At (MS st) H0 v d) (hz : Sz 60 60 d) (m1 : 1 ≤ m) (m9 : m < 60) : DE st c H0 σ (tEq3 PT) (fun e => e = .bool true) := by
  refine DE.equal (Sa := fun e => e = .bool (isPl d (.int m))) (DE.isPlan hT (DE.var h5 ha) (DE.var h6 (.int _)) (fun e z => by rw [z]; exact hz.shaped (by decide)) (fun a b x y => by rw [x, y])) (de_both h5 h6 ha hz m9) ?_ ?_
  · rintro d rfl
    refine ⟨?_, ?_⟩
    · simp [PyData.depth]
    · simp [slim]
  · rintro d e rfl rfl
    rw [leq_bool, isPl_law _ _ (by omega), decide_eq_true rfl]
def noSize (e : PyData) : Prop := ∀ d, isPl d e = false
def noPlan (e : PyData) : Prop := vdt e = 0 ∧ SeqAt.shaped e = true
theorem noPlan_of {e : PyData} (h : formed e "" = none) (hs : SeqAt.shaped e = true) : noPlan e := ⟨by rw [vdt_eq, h], hs⟩
theorem de_sizes (h2 : σ[2]? = some (some (.int n))) (n7 : n ≤ 7) : DEs st c H0 σ tSizes (AllS 6 noSize) := by
  refine DEs.acons (DE.lit (d := .int 0) fun H => .int 0) ?_ (DEs.acons (DE.lit (d := .int 8) fun H => .int 8) ?_ (DEs.acons (DE.lit (d := .none) fun H => .non) ?_ (DEs.acons (DE.boolE true) ?_ (DEs.acons (DE.text h2 (by omega) (by omega)) ?_ (DEs.acons (DE.neg 1) ?_ DEs.anil)))))
  · rintro _ rfl d; rfl
  · rintro _ rfl d; rfl
  · rintro _ rfl d; rfl
  · rintro _ rfl d; rfl
  · rintro _ ⟨_, x, rfl⟩ d; rfl
  · rintro _ rfl d; rfl
theorem de_nones : DEs st c H0 σ tNones (AllS 5 noPlan) := by
  refine DEs.acons (DE.lit (d := .none) fun H => .non) ?_ (DEs.acons (DE.lit (d := .str "") fun H => .str "") ?_ (DEs.acons (DE.tup' (S := fun ds => ds = []) DEs.nilE (fun ds z => by rw [z]; exact Nat.zero_le _)) ?_ (DEs.acons (DE.lit (d := .str "then") fun H => .str "then") ?_ (DEs.acons (DE.lstE DEs.nilE (by decide)) ?_ DEs.anil))))
  · rintro _ rfl
    exact noPlan_of (by simp [formed]) (by decide +kernel)
  · rintro _ rfl
    exact noPlan_of (by simp [formed]) (by decide +kernel)
  · rintro _ ⟨_, rfl, rfl⟩
    exact noPlan_of (by simp [formed]) (by decide +kernel)
  · rintro _ rfl
    exact noPlan_of (by simp [formed]) (by decide +kernel)
  · rintro _ rfl
    exact noPlan_of (by simp [formed]) (by decide +kernel)
theorem de_eq2 (hT : TabG H0 PT) (h1 : σ[1]? = some (some (.ref st))) (h2 : σ[2]? = some (some (.int n))) (h3 : σ[3]? = some (some v)) (ha : At (MS st) H0 v d) (hs : SeqAt.shaped d = true) (n1 : 1 ≤ n) (n7 : n ≤ 7) : DE st c H0 σ (tEq2 PT) (fun e => e = .bool true) := by
  refine DE.equal (DE.lstE (ds := [.bool false, .bool false]) (DEs.consE (DE.isPlan (Sb := noSize) hT (DE.var h3 ha) ?_ (fun e z => by rw [z]; exact hs) ?_) (DEs.consE (DE.isPlan (Sa := noPlan) hT ?_ (DE.var h2 (.int _)) (fun e z => z.2) ?_) DEs.nilE)) (by decide))
    (DE.lstE (ds := [.bool false, .bool false]) (DEs.consE (DE.boolE _) (DEs.consE (DE.boolE _) DEs.nilE)) (by decide)) ?_ ?_
  · exact DE.pick h1 (DE.lst' (de_sizes h2 n7) fun ds z => by rw [z.1]; decide) (by decide) (by decide)
  · exact fun d e _ z => by rw [z d]
  · exact DE.pick h1 (DE.lst' de_nones fun ds z => by rw [z.1]; decide) (by decide) (by decide)
  · rintro d e ⟨z, _⟩ rfl
    show PyData.bool (decide (1 ≤ (n : Int) ∧ (n : Int) ≤ 7) && decide ((vdt d : Int) = (n : Int))) = .bool false
    rw [z, decide_eq_false (show ¬ ((0 : Nat) : Int) = (n : Int) by omega), Bool.and_false]
  · rintro d rfl
    exact ⟨by decide +kernel, by decide +kernel⟩
  · rintro d e rfl rfl
    rw [leq_refl _ (by decide +kernel)]
end
section
variable {P : Program} {w : World} {K : PySem.W.Frag} {mg : Str → Option Value} {base : Heap}
theorem scLaw : FnScope ["script", "stream", "size", "plan", "turn", "value", "many"] ["script"] (defScope sLaw) := ⟨rfl, rfl, rfl, by decide +kernel, rfl, by decide +kernel, by decide +kernel⟩
theorem ok_law {f PT a1 a2 a3 a4 a5 a6 a7 a8 : Addr} {fd d1 d2 d3 d4 d5 d6 d7 d8 : FuncData} (F : Fun K "law" "law" sLaw f fd) (B : Bl K mg)
    (G1 : FnOk P w K mg base CX0 1 a1 d1 ["script"] (spStream K)) (b1 : Binds K d1 ["script"] []) (k1 : PySem.W.keepIn K (.ref a1) = true) (m1 : mg "_law_stream" = some (.ref a1))
    (G2 : FnOk P w K mg base CX0 1 a2 d2 ["stream", "many"] spNext) (b2 : Binds K d2 ["stream", "many"] []) (k2 : PySem.W.keepIn K (.ref a2) = true) (m2 : mg "_law_next" = some (.ref a2))
    (G3 : FnOk P w K mg base CX0 10 a3 d3 ["stream", "size"] spPlan) (b3 : Binds K d3 ["stream", "size"] []) (k3 : PySem.W.keepIn K (.ref a3) = true) (m3 : mg "_law_plan" = some (.ref a3))
    (G4 : FnOk P w K mg base CX0 3 a4 d4 ["actual", "due"] (spEq 2)) (b4 : Binds K d4 ["actual", "due"] []) (k4 : PySem.W.keepIn K (.ref a4) = true) (m4 : mg "_law_equal" = some (.ref a4))
    (G5 : FnOk P w K mg base CX0 7 a5 d5 ["value", "size"] (spIsPlan PT)) (b5 : Binds K d5 ["value", "size"] []) (k5 : PySem.W.keepIn K (.ref a5) = true) (m5 : mg "is_plan" = some (.ref a5))
    (G6 : FnOk P w K mg base CX0 15 a6 d6 ["stream", "plan", "size"] spChanged) (b6 : Binds K d6 ["stream", "plan", "size"] []) (k6 : PySem.W.keepIn K (.ref a6) = true) (m6 : mg "_law_changed" = some (.ref a6))
    (G7 : FnOk P w K mg base CX0 67 a7 d7 ["value", "size"] spLIsPlan) (b7 : Binds K d7 ["value", "size"] []) (k7 : PySem.W.keepIn K (.ref a7) = true) (m7 : mg "_law_is_plan" = some (.ref a7))
    (G8 : FnOk P w K mg base CX0 2 a8 d8 ["stream", "rows"] spPick) (b8 : Binds K d8 ["stream", "rows"] []) (k8 : PySem.W.keepIn K (.ref a8) = true) (m8 : mg "_law_pick" = some (.ref a8)) :
    FnOk P w K mg base CX0 68 f fd ["script"] (spLaw K PT) := by
  refine F.ok scLaw (fun vs H Q E h => ?_) (fun cdv A outer s H vs Q E hr h => ?_)
  · obtain ⟨a, ns, rfl, _⟩ := h
    rfl
  obtain ⟨a, ns, rfl, hS, h63, hT, q⟩ := h
  have r1 : Room 1 _ := hr.mono (by decide)
  have r2 : Room 2 _ := hr.mono (by decide)
  have r3 : Room 3 _ := hr.mono (by decide)
  have r7 : Room 7 _ := hr.mono (by decide)
  have r10 : Room 10 _ := hr.mono (by decide)
  have r15 : Room 15 _ := hr.mono (by decide)
  refine ⟨_, pss_cons (ps_set (i := 1) scLaw.nd rfl (Or.inl rfl) (pe_call G1 r1 rfl m1 k1 b1 .nil pass0 (pa_cons (pv 0) pa_nil)))
    (pss_cons (ps_set (i := 2) scLaw.nd rfl (Or.inl rfl) (pe_op op_add pe_int (pe_call G2 r1 rfl m2 k2 b2 .nil pass0 (pa_cons (pv 1) (pa_cons pe_int pa_nil)))))
    (pss_cons (ps_set (i := 3) scLaw.nd rfl (Or.inl rfl) (pe_call G3 r10 rfl m3 k3 b3 .nil pass0 (pa_cons (pv 1) (pa_cons (pv 2) pa_nil))))
    (pss_cons (ps_if (pt_not (pt_val (t := tEq1 PT) (pe_call G4 r3 rfl m4 k4 b4 .nil pass0 (pa_cons (pe_lst (pa_cons (pe_call G5 r7 rfl m5 k5 b5 .nil pass0 (pa_cons (pv 3) (pa_cons (pv 2) pa_nil)))
        (pa_cons (pe_call G5 r7 rfl m5 k5 b5 .nil pass0 (pa_cons (pv 3) (pa_cons (pe_op op_sub (pv 2) pe_int) pa_nil))) (pa_cons (pe_call G5 r7 rfl m5 k5 b5 .nil pass0 (pa_cons (pv 3) (pa_cons (pe_op op_add (pv 2) pe_int) pa_nil))) pa_nil))))
        (pa_cons (pe_lst (pa_cons pe_bl (pa_cons pe_bl (pa_cons pe_bl pa_nil)))) pa_nil))))) (pss_one (ps_ret pe_bl)) pss_nil)
    (pss_cons (ps_for PassesOwn.never rfl (pi_range1 rfl B.range (pa_cons pe_int pa_nil)) (pg_name (i := 4) scLaw.nd rfl (Or.inl rfl))
      (pss_cons (ps_set (i := 5) scLaw.nd rfl (Or.inl rfl) (pe_call G6 r15 rfl m6 k6 b6 .nil pass0 (pa_cons (pv 1) (pa_cons (pv 3) (pa_cons (pv 2) pa_nil)))))
      (pss_cons (ps_set (i := 6) scLaw.nd rfl (Or.inl rfl) (pe_op op_add (pv 2) (pe_call G2 r1 rfl m2 k2 b2 .nil pass0 (pa_cons (pv 1) (pa_cons pe_int pa_nil)))))
      (pss_one (ps_if (pt_not (pt_val (t := tEq3 PT) (pe_call G4 r3 rfl m4 k4 b4 .nil pass0 (pa_cons (pe_call G5 r7 rfl m5 k5 b5 .nil pass0 (pa_cons (pv 5) (pa_cons (pv 6) pa_nil)))
        (pa_cons (pe_and (pe_cmpR op_lt (pv 6) pe_int (nomark _)) (pe_one (pe_call G7 hr rfl m7 k7 b7 .nil pass0 (pa_cons (pv 5) (pa_cons (pv 6) pa_nil))))) pa_nil))))) (pss_one (ps_ret pe_bl)) pss_nil)))))
    (pss_one (ps_ret (te := tEq2 PT) (pe_call G4 r3 rfl m4 k4 b4 .nil pass0 (pa_cons (pe_lst (pa_cons (pe_call G5 r7 rfl m5 k5 b5 .nil pass0 (pa_cons (pv 3) (pa_cons (pe_call G8 r2 rfl m8 k8 b8 .nil pass0 (pa_cons (pv 1) (pa_cons
          (pe_lst (t := tSizes) (pa_cons pe_int (pa_cons pe_int (pa_cons pe_non (pa_cons pe_bl (pa_cons (pe_callTy call_str_int rfl B.str (by decide +kernel) (pa_cons (pv 2) pa_nil)) (pa_cons (pe_un un_neg pe_int) pa_nil))))))) pa_nil))) pa_nil)))
        (pa_cons (pe_call G5 r7 rfl m5 k5 b5 .nil pass0 (pa_cons (pe_call G8 r2 rfl m8 k8 b8 .nil pass0 (pa_cons (pv 1) (pa_cons
          (pe_lst (t := tNones) (pa_cons pe_non (pa_cons pe_str (pa_cons (pe_tup pa_nil) (pa_cons pe_str (pa_cons (pe_lst pa_nil) pa_nil)))))) pa_nil))) (pa_cons (pv 2) pa_nil))) pa_nil)))
        (pa_cons (pe_lst (pa_cons pe_bl (pa_cons pe_bl pa_nil))) pa_nil))))))))), ?_⟩
  refine ⟨_, rfl, a, ns, rfl, hS, h63, fun st c H1 hst k1' s1 => ?_⟩
  refine ⟨_, rfl, st, c, 7, rfl, s1, by decide, by decide, fun d0 H2 d00 d01 k2' s2 => ?_⟩
  refine ⟨1, d0, rfl, rfl, ?_⟩
  obtain ⟨n, en⟩ : ∃ n : Nat, (1 : Int) + d0 = (n : Int) := ⟨(1 + d0).toNat, by omega⟩
  have n1 : 1 ≤ n := by omega
  have n7 : n ≤ 7 := by omega
  dsimp only
  rw [en]
  refine ⟨_, rfl, _, rfl, st, c, n, rfl, s2, n1, n7, fun v d wo ts H3 a3 p3 hwd perm k3' s3 => ?_⟩
  have hlen := perm.length_eq
  rw [rng_length] at hlen
  have hwo : ("" : Str) ≠ wo := fun z => by rw [← z] at hwd; exact absurd hwd (by decide +kernel)
  obtain ⟨l, hf, hp⟩ := p3.form "" hwo
  have hl : l.length = n := by rw [hp.length_eq, hlen]
  have hlv := formed_lv d "" l hf
  have hv : vdt d = n := vdt_plan hf (hp.trans perm) n7
  have hsz : Sz 7 12 d := ⟨p3.lay, p3.slm, by omega, by have := p3.dep; omega⟩
  have hsh := hsz.shaped (by decide)
  have hT3 : TabG H3 PT := ((k1'.any.trans k2').trans k3').tbl _ hT
  refine use_if2 (de_eq1 (n := n) hT3 rfl rfl a3 hsh hv n1 n7 H3 _ .refl s3 fun vb e H4 he ab k4' s4 => ?_)
  subst he
  cases ab
  refine ⟨true, rfl, ?_⟩
  refine iteF ?_
  refine ⟨_, rfl, by decide, by decide, ?_⟩
  refine for_range (lo := 0) (n := ((4 : Int)).toNat) (fun i σ H' => ∃ x4 x5 x6, σ = [some (.ref a), some (.ref st), some (.int n), some v, x4, x5, x6] ∧ Kp (MS st) H3 H' ∧ StAt st c H')
    ⟨none, none, none, rfl, k4', s4⟩ (fun i σ H' _ p => ?_) (fun σ H' p => ?_)
  · obtain ⟨x4, x5, x6, rfl, k5', s5⟩ := p
    refine ⟨_, rfl, _, rfl, _, rfl, st, c, v, d, n, l, rfl, s5, a3.kp k5', hf, hsz, n1, n7, fun v' d' H6 sz a6 k6' s6 => ?_⟩
    refine ⟨_, rfl, _, rfl, st, c, 3, rfl, s6, by decide, by decide, fun e0 H7 e00 e01 k7' s7 => ?_⟩
    refine ⟨n, e0, rfl, rfl, ?_⟩
    obtain ⟨m, em⟩ : ∃ m : Nat, (n : Int) + e0 = (m : Int) := ⟨((n : Int) + e0).toNat, by omega⟩
    dsimp only
    rw [em]
    have hT7 : TabG H7 PT := (k5'.trans (k6'.trans k7')).tbl _ hT3
    refine use_if1 (de_eq3 (m := m) hT7 rfl rfl (a6.kp k7') sz (by omega) (by omega) H7 _ .refl s7 fun vb e H8 he ab k8' s8 => ?_)
    subst he
    cases ab
    refine ⟨true, rfl, ?_⟩
    refine iteF ?_
    exact ⟨_, _, _, rfl, k5'.trans (k6'.trans (k7'.trans k8')), s8⟩
  · obtain ⟨x4, x5, x6, rfl, k5', s5⟩ := p
    have hT5 : TabG H' PT := k5'.tbl _ hT3
    refine use_ret (de_eq2 (n := n) hT5 rfl rfl rfl (a3.kp k5') hsh n1 n7 H' _ .refl s5 fun vb e H8 he ab k8' s8 => ?_)
    subst he
    cases ab
    exact q H8
end
end K1

set_option Elab.async false
set_option linter.all false
set_option maxRecDepth 100000
set_option maxHeartbeats 2000000
/-! ### the program's top -/
namespace K1
open PySem L2 GxR GA KD KR KM PyProof.Rows
/-- the def x stands at f, its code at cd -/
structure Stands (K : PySem.W.Frag) (x : Str) (st : Stmt) (f : Addr) (cd : Value) : Prop where
  ns : PySem.W.nsIn K mainGlobals x = some (some (.ref f))
  ex : ∃ (oc : Value) (od : Option Addr) (kV doc pm : Value) (an : Option Addr) (ct : Value) (osl : Array (Option Value)), K.lookup f = some ⟨oc, od, .func (PySem.W.fnOf x x (defArgs st) (defBody st) (defScope st) .none kV doc pm an cd ct), osl⟩
  cd : PySem.W.codeIn K cd x = true
  kp : PySem.W.keepIn K (.ref f) = true
theorem stands_mk {K : PySem.W.Frag} {x : Str} {st : Stmt} {f : Addr} {cd oc kV doc pm ct : Value} {od an : Option Addr} {osl : Array (Option Value)} (a : PySem.W.nsIn K mainGlobals x = some (some (.ref f)))
    (l : K.lookup f = some ⟨oc, od, .func (PySem.W.fnOf x x (defArgs st) (defBody st) (defScope st) .none kV doc pm an cd ct), osl⟩) (c : PySem.W.codeIn K cd x = true) (k : PySem.W.keepIn K (.ref f) = true) : Stands K x st f cd := ⟨a, ⟨oc, od, kV, doc, pm, an, ct, osl, l⟩, c, k⟩
theorem code_mk {K : PySem.W.Frag} {c PT : Addr} {e : Value} {dd : Option Addr} {vs : Array Value} {sl : Array (Option Value)} (l : K.lookup c = some ⟨e, dd, .fields vs, sl⟩) (p : vs[11]? = some (.ref PT)) :
    ∃ (e : Value) (dd : Option Addr) (vs : Array Value) (sl : Array (Option Value)), K.lookup c = some ⟨e, dd, .fields vs, sl⟩ ∧ vs[11]? = some (.ref PT) := ⟨e, dd, vs, sl, l, p⟩
theorem words_mk {K : PySem.W.Frag} {aw : Addr} {cl : Value} {dd : Option Addr} {n : Nat} {u1 u2 : Tok} {sl : Array (Option Value)} (l : K.lookup aw = some ⟨cl, dd, .seq #[.str "then" u1, .str "beside" u2] n, sl⟩) (p : cl = .type "tuple") :
    ∃ (cl : Value) (dd : Option Addr) (n : Nat) (u1 u2 : Tok) (sl : Array (Option Value)), K.lookup aw = some ⟨cl, dd, .seq #[.str "then" u1, .str "beside" u2] n, sl⟩ ∧ cl = .type "tuple" := ⟨cl, dd, n, u1, u2, sl, l, p⟩
theorem Stands.out {K : PySem.W.Frag} {x : Str} {st : Stmt} {f : Addr} {cd : Value} (S : Stands K x st f cd) {ps : List Str}
    (h : ∀ (kV doc pm : Value) (an : Option Addr) (cdv ct : Value) (us : List Value), us.length = ps.length → bindArgs (PySem.W.fnOf x x (defArgs st) (defBody st) (defScope st) .none kV doc pm an cdv ct) ⟨us, []⟩ = pure (ps.zip us)) :
    ∃ fd : FuncData, Fun K x x st f fd ∧ Binds K fd ps [] ∧ ∀ c, cd = .ref c → FunT K x x st f fd c := by
  obtain ⟨oc, od, kV, doc, pm, an, ct, osl, e⟩ := S.ex
  have F := fun_mk e S.cd S.kp
  refine ⟨_, F, F.binds h, fun c ec => ?_⟩
  subst ec
  exact funT_mk e S.cd S.kp
theorem Stands.mg {K : PySem.W.Frag} {x : Str} {st : Stmt} {f : Addr} {cd : Value} {h : Heap} {mg : Str → Option Value} (S : Stands K x st f cd) (X : K.In h) (G : h.Ns mainGlobals mg) : mg x = some (.ref f) := PySem.W.mg_of X G S.ns
/-- the table of the def nm is empty at the head's end -/
def TabOf (nm : Str) (mg : Str → Option Value) (h : Heap) : Prop := ∃ (a : Addr) (o : Obj) (fd : FuncData) (c P : Addr), mg nm = some (.ref a) ∧ h.get? a = some o ∧ o.data = .func fd ∧ fd.code = .ref c ∧ h.IsCode c P #[] ∧ h.TableAt c P #[]
/-- that table, by what is known of the code object -/
theorem TabOf.at_ {K : PySem.W.Frag} {x : Str} {st : Stmt} {f c PT : Addr} {h : Heap} {mg : Str → Option Value} (T : TabOf x mg h) (X : K.In h) (G : h.Ns mainGlobals mg) (S : Stands K x st f (.ref c))
    (hc : ∃ (e : Value) (dd : Option Addr) (vs : Array Value) (sl : Array (Option Value)), K.lookup c = some ⟨e, dd, .fields vs, sl⟩ ∧ vs[11]? = some (.ref PT)) : h.get? PT = some { cls := .none, data := .fields #[] } ∧ PySem.W.CodeHd h c PT := by
  obtain ⟨a, o, fd, c', P', h1, h2, h3, h4, h5, h6⟩ := T
  obtain ⟨oc, od, kV, doc, pm, an, ct, osl, e⟩ := S.ex
  rw [S.mg X G] at h1
  cases h1
  rw [X _ _ e] at h2
  cases h2
  cases h3
  cases h4
  obtain ⟨e1, dd, vs, sl, k1, k2⟩ := hc
  have hh := h6
  obtain ⟨⟨o2, v2, g1, g2, g3, g4⟩, hP⟩ := h6
  rw [X _ _ k1] at g1
  cases g1
  cases g3
  rw [k2] at g4
  cases g4
  exact ⟨hP, PySem.W.CodeHd.of h5 hh⟩
theorem walk_tab {l : PySem.W.OpenLaw} {q : Program} {loose : List Str} {XP : (Str → Option Value) → Heap → Prop} {YP : World → Heap → Prop} {d : DefRec} {K : Params → PySem.W.Frag} (nm : Str)
    (hn : l.most = some 63) (hdf : d.params.defaults = []) (hrec : ((recsOf q).any fun e => e.name == nm) = true) (hY : ∀ (w : World) (h : Heap), YP w h → (K w.params).In h)
    (F : ∀ (w : World) (mg : Str → Option Value) (fa : Addr) (h : Heap), (K w.params).In h → h.Ns mainGlobals mg → mg d.name = some (.ref fa) → TabOf nm mg h → LamX.LawAtS l w (K w.params) CX0 68 63 "script" mg fa h) :
    PySem.W.WalkO q loose XP YP l.row.toRowW d [] (fun f vs => PySem.call f vs) := by
  refine Att.attach_callB hn hdf fun w s₀ s₁ mg mb fa o pm cd doc a vs ns G Y _ _ _ hmg hobj hints hlen hbits hg => ?_
  have tab : TabOf nm mg s₁.heap := by
    obtain ⟨r, hm, hr⟩ := List.any_eq_true.mp hrec
    have er : r.name = nm := beq_iff_eq.mp hr
    have t := G.T.tab r hm
    rw [er] at t
    exact t
  obtain ⟨fd, cs, sp, t1, t2, t3, hb, hsp, hF⟩ := F w mg fa _ (hY w _ Y) G.T.g hmg tab
  exact LamX.law_callTs (hY w _ Y) G.T.g G.T.b G.T.builtins G.T.nolimit hg t1 t2 t3 G.T.bmain hobj hints (Nat.le_trans hlen (by decide)) ⟨rfl, by decide, by decide⟩ hF hb
    (fun H hH hS => hsp H a ns hlen hbits hH hS) fun _ _ _ z => z
theorem all_mk {l : PySem.W.OpenLaw} {w : World} {K : PySem.W.Frag} {h : Heap} {mg : Str → Option Value} {fa PT c4 : Addr} {f1 f2 f3 f4 f5 f6 f7 f8 g1 g2 g3 g4 g5 g6 g7 g8 g9 g10 g11 g12 g13 aw : Addr} {cd1 cd2 cd3 cd5 cd6 cd7 cd8 e1 e2 e3 e4 e5 e6 e7 e8 e9 e10 e11 e12 e13 : Value} {t7 : Tok}
    (X : K.In h) (G : h.Ns mainGlobals mg) (hfa : mg "law" = some (.ref fa)) (T : TabOf "are_indexes" mg h)
    (s1 : Stands K "is_integer" sIsInt f1 cd1) (s2 : Stands K "is_size" sIsSize f2 cd2) (s3 : Stands K "is_index" sIsTask f3 cd3) (s4 : Stands K "are_indexes" sAreTasks f4 (.ref c4)) (s5 : Stands K "is_order" sIsOrder f5 cd5)
    (s6 : Stands K "is_plan" sIsPlan f6 cd6) (s7 : Stands K "size_of" sSizeOf f7 cd7) (s8 : Stands K "has_parts" sHasParts f8 cd8)
    (r1 : Stands K "_law_stream" sStream g1 e1) (r2 : Stands K "_law_next" sNext g2 e2) (r3 : Stands K "_law_is_integer" sLIsInt g3 e3) (r4 : Stands K "_law_equal" sEqual g4 e4) (r5 : Stands K "_law_pick" sPick g5 e5)
    (r6 : Stands K "_law_order" sOrder g6 e6) (r7 : Stands K "_law_grown" sGrown g7 e7) (r8 : Stands K "_law_plan" sPlan g8 e8) (r9 : Stands K "_law_is_plan" sLIsPlan g9 e9) (r10 : Stands K "_law_formed" sFormed g10 e10)
    (r11 : Stands K "_law_at" sAt g11 e11) (r12 : Stands K "_law_changed" sChanged g12 e12) (r13 : Stands K "law" sLaw g13 e13)
    (hc : ∃ (e : Value) (dd : Option Addr) (vs : Array Value) (sl : Array (Option Value)), K.lookup c4 = some ⟨e, dd, .fields vs, sl⟩ ∧ vs[11]? = some (.ref PT)) (hPT : K.lookup PT = none)
    (nM : PySem.W.nsIn K mainGlobals "MOST_TASKS" = some (some (.int 7 t7))) (nW : PySem.W.nsIn K mainGlobals "WORDS" = some (some (.ref aw)))
    (lW : ∃ (cl : Value) (dd : Option Addr) (n : Nat) (u1 u2 : Tok) (sl : Array (Option Value)), K.lookup aw = some ⟨cl, dd, .seq #[.str "then" u1, .str "beside" u2] n, sl⟩ ∧ cl = .type "tuple")
    (z1 : PySem.W.nsIn K mainGlobals "isinstance" = some none) (z2 : PySem.W.nsIn K mainGlobals "int" = some none) (z3 : PySem.W.nsIn K mainGlobals "bool" = some none) (z4 : PySem.W.nsIn K mainGlobals "tuple" = some none)
    (z5 : PySem.W.nsIn K mainGlobals "list" = some none) (z6 : PySem.W.nsIn K mainGlobals "str" = some none) (z7 : PySem.W.nsIn K mainGlobals "len" = some none) (z8 : PySem.W.nsIn K mainGlobals "sorted" = some none)
    (z9 : PySem.W.nsIn K mainGlobals "range" = some none) (z10 : PySem.W.nsIn K mainGlobals "all" = some none) (z11 : PySem.W.nsIn K mainGlobals "any" = some none) (z12 : PySem.W.nsIn K mainGlobals "abs" = some none) :
    LamX.LawAtS l w K CX0 68 63 "script" mg fa h := by
  have eq := hfa.symm.trans (r13.mg X G)
  cases eq
  obtain ⟨d1, F1, b1, _⟩ := s1.out (ps := ["value"]) fun _ _ _ _ _ _ us hl => match us, hl with | [_], _ => rfl
  obtain ⟨d2, F2, b2, _⟩ := s2.out (ps := ["value"]) fun _ _ _ _ _ _ us hl => match us, hl with | [_], _ => rfl
  obtain ⟨d3, F3, b3, _⟩ := s3.out (ps := ["value", "many"]) fun _ _ _ _ _ _ us hl => match us, hl with | [_, _], _ => rfl
  obtain ⟨d4, F4, b4, F4'⟩ := s4.out (ps := ["value", "many"]) fun _ _ _ _ _ _ us hl => match us, hl with | [_, _], _ => rfl
  obtain ⟨d5, F5, b5, _⟩ := s5.out (ps := ["value", "many"]) fun _ _ _ _ _ _ us hl => match us, hl with | [_, _], _ => rfl
  obtain ⟨d6, F6, b6, _⟩ := s6.out (ps := ["value", "size"]) fun _ _ _ _ _ _ us hl => match us, hl with | [_, _], _ => rfl
  obtain ⟨d7, F7, b7, _⟩ := s7.out (ps := ["value"]) fun _ _ _ _ _ _ us hl => match us, hl with | [_], _ => rfl
  obtain ⟨d8, F8, b8, _⟩ := s8.out (ps := ["value"]) fun _ _ _ _ _ _ us hl => match us, hl with | [_], _ => rfl
  obtain ⟨x1, R1, p1, _⟩ := r1.out (ps := ["script"]) fun _ _ _ _ _ _ us hl => match us, hl with | [_], _ => rfl
  obtain ⟨x2, R2, p2, _⟩ := r2.out (ps := ["stream", "many"]) fun _ _ _ _ _ _ us hl => match us, hl with | [_, _], _ => rfl
  obtain ⟨x3, R3, p3, _⟩ := r3.out (ps := ["actual"]) fun _ _ _ _ _ _ us hl => match us, hl with | [_], _ => rfl
  obtain ⟨x4, R4, p4, _⟩ := r4.out (ps := ["actual", "due"]) fun _ _ _ _ _ _ us hl => match us, hl with | [_, _], _ => rfl
  obtain ⟨x5, R5, p5, _⟩ := r5.out (ps := ["stream", "rows"]) fun _ _ _ _ _ _ us hl => match us, hl with | [_, _], _ => rfl
  obtain ⟨x6, R6, p6, _⟩ := r6.out (ps := ["stream", "many"]) fun _ _ _ _ _ _ us hl => match us, hl with | [_, _], _ => rfl
  obtain ⟨x7, R7, p7, _⟩ := r7.out (ps := ["stream", "tasks", "word"]) fun _ _ _ _ _ _ us hl => match us, hl with | [_, _, _], _ => rfl
  obtain ⟨x8, R8, p8, _⟩ := r8.out (ps := ["stream", "size"]) fun _ _ _ _ _ _ us hl => match us, hl with | [_, _], _ => rfl
  obtain ⟨x9, R9, p9, _⟩ := r9.out (ps := ["value", "size"]) fun _ _ _ _ _ _ us hl => match us, hl with | [_, _], _ => rfl
  obtain ⟨x10, R10, p10, _⟩ := r10.out (ps := ["value", "outer"]) fun _ _ _ _ _ _ us hl => match us, hl with | [_, _], _ => rfl
  obtain ⟨x11, R11, p11, _⟩ := r11.out (ps := ["plan", "task", "value"]) fun _ _ _ _ _ _ us hl => match us, hl with | [_, _, _], _ => rfl
  obtain ⟨x12, R12, p12, _⟩ := r12.out (ps := ["stream", "plan", "size"]) fun _ _ _ _ _ _ us hl => match us, hl with | [_, _, _], _ => rfl
  obtain ⟨oc, od, kV, doc, pm, an, ct, osl, eL⟩ := r13.ex
  have RL := fun_mk eL r13.cd r13.kp
  have no : ∀ {x : Str}, PySem.W.nsIn K mainGlobals x = some none → mg x = none := fun e => PySem.W.mg_none_of X G e
  have B : Bl K mg := ⟨no z1, no z2, no z3, no z4, no z5, no z6, no z7, no z8, no z9, no z10, no z11, no z12, ⟨t7, PySem.W.mg_of X G nM⟩, aw, PySem.W.mg_of X G nW, fun H => by
    obtain ⟨cl, dd, n, u1, u2, sl, k1, k2⟩ := lW
    subst k2
    exact .inr ⟨_, _, n, k1, rfl, rfl, (by show 2 ≤ sizeLine; decide), .cons ⟨_, rfl⟩ (.cons ⟨_, rfl⟩ .nil)⟩⟩
  obtain ⟨hP, hC⟩ := T.at_ X G s4 hc
  refine ⟨PySem.W.fnOf "law" "law" (defArgs sLaw) (defBody sLaw) (defScope sLaw) .none kV doc pm an e13 ct, [(c4, PT)], spLaw K PT, fun p hp => ?_, fun p hp => ?_, fun p hp => ?_, fun s v => .of_eq rfl, fun H a ns hl _ hH hS => ⟨a, ns, rfl, hS, hl, ⟨#[], hH _ (List.mem_singleton.mpr rfl), ?_⟩, fun _ => rfl⟩, fun base _ _ hTB => ?_⟩
  · rw [List.mem_singleton.mp hp]; exact hP
  · rw [List.mem_singleton.mp hp]; exact hPT
  · rw [List.mem_singleton.mp hp]; exact hC
  · exact trivial
  have TB := hTB _ (List.mem_singleton.mpr rfl)
  have A1 := ok_isInt (P := l.prog) (w := w) (base := base) F1 B
  have A2 := ok_isSize F2 B A1 b1 s1.kp (s1.mg X G)
  have A3 := ok_isTask F3 B A1 b1 s1.kp (s1.mg X G)
  have A4 := ok_areTasks (F4' _ rfl) ⟨TB.code, TB.bm, TB.gP⟩ B A3 b3 s3.kp (s3.mg X G)
  have A5 := ok_isOrder F5 B A4 b4 s4.kp (s4.mg X G)
  have A8 := ok_hasParts (P := l.prog) (w := w) (base := base) F8 B
  have A7 := ok_sizeOf F7 B A3 b3 s3.kp (s3.mg X G) A8 b8 s8.kp (s8.mg X G) A5 b5 s5.kp (s5.mg X G)
  have A6 := ok_isPlan F6 B A2 b2 s2.kp (s2.mg X G) A7 b7 s7.kp (s7.mg X G)
  have C1 := ok_stream (P := l.prog) (w := w) (base := base) R1 B
  have C2 := ok_next (P := l.prog) (w := w) (base := base) R2 B
  have C3 := ok_lIsInt (P := l.prog) (w := w) (base := base) R3 B
  have C4 := oks_equal R4 B C3 p3 r3.kp (r3.mg X G) p4 (r4.mg X G) 2
  have C5 := ok_pick R5 B C2 p2 r2.kp (r2.mg X G)
  have C6 := ok_order R6 B C2 p2 r2.kp (r2.mg X G)
  have C7 := oks_grown R7 B C2 p2 r2.kp (r2.mg X G) p7 (r7.mg X G) 7
  have C8 := ok_plan R8 B C7 p7 r7.kp (r7.mg X G) C6 p6 r6.kp (r6.mg X G) C5 p5 r5.kp (r5.mg X G)
  have C10 := oks_formed R10 B C3 p3 r3.kp (r3.mg X G) p10 (r10.mg X G) 65
  have C9 := ok_lIsPlan R9 B C10 p10 r10.kp (r10.mg X G)
  have C11 := oks_at (P := l.prog) (w := w) (base := base) R11 B p11 (r11.mg X G) 13
  have C12 := ok_changed R12 B C2 p2 r2.kp (r2.mg X G) C11 p11 r11.kp (r11.mg X G) C5 p5 r5.kp (r5.mg X G)
  exact ok_law RL B C1 p1 r1.kp (r1.mg X G) C2 p2 r2.kp (r2.mg X G) C8 p8 r8.kp (r8.mg X G) C4 p4 r4.kp (r4.mg X G) A6 b6 s6.kp (s6.mg X G) C12 p12 r12.kp (r12.mg X G) C9 p9 r9.kp (r9.mg X G) C5 p5 r5.kp (r5.mg X G)
end K1

set_option Elab.async false
set_option linter.all false
open PySem PySem.W PyProof.Rows
set_option maxRecDepth 100000 in
set_option maxHeartbeats 0 in
theorem PySem.Challenge.cw_thenbeside_k01_forms_of_plans_holds : PySem.Challenge.rw_thenbeside_k01_forms_of_plans.Holds := by
  w_on; o_law; k_head; (case hw => w_witness2)
  k_fill
  refine K1.walk_tab (l := PySem.Challenge.rw_thenbeside_k01_forms_of_plans) "are_indexes" rfl rfl (by rfl) (fun w h Y => PySem.W.kIn_of Y) ?F
  case F =>
    intro w mg fa h KX G hmg T
    refine' K1.all_mk KX G hmg T ?s1 ?s2 ?s3 ?s4 ?s5 ?s6 ?s7 ?s8 ?r1 ?r2 ?r3 ?r4 ?r5 ?r6 ?r7 ?r8 ?r9 ?r10 ?r11 ?r12 ?r13 ?hcc ?hPT ?nM ?nW ?lW ?z1 ?z2 ?z3 ?z4 ?z5 ?z6 ?z7 ?z8 ?z9 ?z10 ?z11 ?z12
    (case s1 => (refine' K1.stands_mk ?a ?l ?c ?k; (case a => k_is); (case l => k_is); (case c => k_is); (case k => k_is)))
    (case s2 => (refine' K1.stands_mk ?a ?l ?c ?k; (case a => k_is); (case l => k_is); (case c => k_is); (case k => k_is)))
    (case s3 => (refine' K1.stands_mk ?a ?l ?c ?k; (case a => k_is); (case l => k_is); (case c => k_is); (case k => k_is)))
    (case s4 => (refine' K1.stands_mk ?a ?l ?c ?k; (case a => k_is); (case l => k_is); (case c => k_is); (case k => k_is)))
    (case s5 => (refine' K1.stands_mk ?a ?l ?c ?k; (case a => k_is); (case l => k_is); (case c => k_is); (case k => k_is)))
    (case s6 => (refine' K1.stands_mk ?a ?l ?c ?k; (case a => k_is); (case l => k_is); (case c => k_is); (case k => k_is)))
    (case s7 => (refine' K1.stands_mk ?a ?l ?c ?k; (case a => k_is); (case l => k_is); (case c => k_is); (case k => k_is)))
    (case s8 => (refine' K1.stands_mk ?a ?l ?c ?k; (case a => k_is); (case l => k_is); (case c => k_is); (case k => k_is)))
    (case r1 => (refine' K1.stands_mk ?a ?l ?c ?k; (case a => k_is); (case l => k_is); (case c => k_is); (case k => k_is)))
    (case r2 => (refine' K1.stands_mk ?a ?l ?c ?k; (case a => k_is); (case l => k_is); (case c => k_is); (case k => k_is)))
    (case r3 => (refine' K1.stands_mk ?a ?l ?c ?k; (case a => k_is); (case l => k_is); (case c => k_is); (case k => k_is)))
    (case r4 => (refine' K1.stands_mk ?a ?l ?c ?k; (case a => k_is); (case l => k_is); (case c => k_is); (case k => k_is)))
    (case r5 => (refine' K1.stands_mk ?a ?l ?c ?k; (case a => k_is); (case l => k_is); (case c => k_is); (case k => k_is)))
    (case r6 => (refine' K1.stands_mk ?a ?l ?c ?k; (case a => k_is); (case l => k_is); (case c => k_is); (case k => k_is)))
    (case r7 => (refine' K1.stands_mk ?a ?l ?c ?k; (case a => k_is); (case l => k_is); (case c => k_is); (case k => k_is)))
    (case r8 => (refine' K1.stands_mk ?a ?l ?c ?k; (case a => k_is); (case l => k_is); (case c => k_is); (case k => k_is)))
    (case r9 => (refine' K1.stands_mk ?a ?l ?c ?k; (case a => k_is); (case l => k_is); (case c => k_is); (case k => k_is)))
    (case r10 => (refine' K1.stands_mk ?a ?l ?c ?k; (case a => k_is); (case l => k_is); (case c => k_is); (case k => k_is)))
    (case r11 => (refine' K1.stands_mk ?a ?l ?c ?k; (case a => k_is); (case l => k_is); (case c => k_is); (case k => k_is)))
    (case r12 => (refine' K1.stands_mk ?a ?l ?c ?k; (case a => k_is); (case l => k_is); (case c => k_is); (case k => k_is)))
    (case r13 => (refine' K1.stands_mk ?a ?l ?c ?k; (case a => k_is); (case l => k_is); (case c => k_is); (case k => k_is)))
    (case hcc => (refine' K1.code_mk ?lc1 ?pc1; (case lc1 => k_is); (case pc1 => rfl)))
    (case hPT => kernel_rfl)
    (case nM => k_is); (case nW => k_is)
    (case lW => (refine' K1.words_mk ?lw1 ?pw1; (case lw1 => k_is); (case pw1 => rfl)))
    (case z1 => k_is)
    (case z2 => k_is)
    (case z3 => k_is)
    (case z4 => k_is)
    (case z5 => k_is)
    (case z6 => k_is)
    (case z7 => k_is)
    (case z8 => k_is)
    (case z9 => k_is)
    (case z10 => k_is)
    (case z11 => k_is)
    (case z12 => k_is)
