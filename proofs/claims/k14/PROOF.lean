import PyProof.Rows.All
import Wide.All
import OpenK.AllK
import Wide.FinOn
import HandS.ForMost
import HandS.IsInst
import HandS.EndTab
import HandS.Wide
import HandS.TupAny
import HandS.Conv
import HandS.Deep
import HandS.Style
import HandS.SortInts
import HandS.RaiseMore
import HandS.GenList
import HandS.AnyAll
import KE.KRevSl
import HandS.Codes
import PySem.Challenge.RW_thenbeside_k14_bundles
import KE.DataMinMax
import PyProof.Rows.RowBridgeK
import KE.DataCmp
import HandS.More
import HandS.Strs
import HandS.SetFor
set_option Elab.async false
set_option linter.all false
set_option maxRecDepth 100000
set_option maxHeartbeats 4000000
/-! any, all of a generator expression over anything that PI serves, its element any expression that raises nothing. -/
namespace GA
open PySem PySem.Spec PyProof.Rows L2 GenW GxR

/-- the context of a generator expression's frame -/
abbrev gcx (X : Cx) (A' : Around) (s : Shared) (H : Hp) (cenv : Env) (fp : List Addr) : Cx :=
  { X with A := A', s_0 := s, H_0 := H, env := cenv, outer := X.stack, stack := cenv :: X.stack, ex := fp, fn := fun _ => false, calm := true, pn := [], xe := fun _ _ => False }
/-- its scope: its own names with their places, captured ones -/
structure GOk (N : List Str) (sc scope : Scope) (own : List (Str × Nat)) : Prop where
  kind : scope.kind = .function
  co : scope.isCoroutine = false
  cell : ∀ y ∈ scope.names, y.2 ≠ .cell
  dot : scope.names.lookup (".0" : Str) = some NameKind.local
  uniq : ∀ y ∈ scope.names, scope.names.lookup y.1 = some y.2
  ix : ∀ p ∈ own, N[p.2]? = some p.1
  free : ∀ y ∈ scope.names, y.2 = .free → sc.names.lookup y.1 = some .cell ∨ sc.names.lookup y.1 = some .free
  own : ∀ y ∈ scope.names, y.2 = .local → y.1 ∈ own.map (·.1) ∨ y.1 ∉ N
def gokC (N : List Str) (sc scope : Scope) (own : List (Str × Nat)) : Bool :=
  (match scope.kind with | .function => true | _ => false) && !scope.isCoroutine && decide (scope.names.lookup (".0" : Str) = some NameKind.local) && (scope.names.all fun y => decide (scope.names.lookup y.1 = some y.2)) && (own.all fun p => decide (N[p.2]? = some p.1)) &&
    (scope.names.all fun y => match y.2 with
      | .free => (match sc.names.lookup y.1 with | some .cell => true | some .free => true | _ => false)
      | .local => decide (y.1 ∈ own.map (·.1)) || decide (y.1 ∉ N)
      | .cell => false
      | _ => true)
theorem gok_by {N : List Str} {sc scope : Scope} {own : List (Str × Nat)} (h : gokC N sc scope own = true) : GOk N sc scope own := by
  unfold gokC at h
  simp only [Bool.and_eq_true, List.all_eq_true, decide_eq_true_eq] at h
  obtain ⟨⟨⟨⟨⟨h1, h1b⟩, h1c⟩, h2⟩, h3⟩, h4⟩ := h
  refine ⟨?_, by simpa using h1b, fun y hy e => ?_, h1c, h2, h3, fun y hy e => ?_, fun y hy e => ?_⟩
  · split at h1
    · assumption
    · cases h1
  · have q := h4 y hy
    rw [e] at q
    cases q
  · have q := h4 y hy
    rw [e] at q
    simp only at q
    split at q
    · rename_i k; exact .inl k
    · rename_i k; exact .inr k
    · cases q
  · have q := h4 y hy
    rw [e] at q
    simp only [Bool.or_eq_true, decide_eq_true_eq] at q
    exact q

section
variable {X : Cx} {pins : List (Addr × Obj)} {σ : L2.St} {H : Hp} {s : Shared}
/-- other generators, other tokens: the same heap -/
theorem inv_gens {s' : Shared} (I : Inv X pins σ H s) (hh : s'.heap = s.heap) (ho : s'.os = s.os) (hb : AllBare s'.gens) : Inv X pins σ H s' := by
  obtain ⟨h', g', d', t', o'⟩ := s'
  simp only at hh ho
  subst hh ho
  exact ⟨I.ok, I.os, hb, I.base, I.loc, I.cell, I.free, I.freeC, I.pin, I.hok, I.len⟩
theorem cl_mem {scope : Scope} (I : Inv X pins σ H s) (hfree : ∀ y ∈ scope.names, y.2 = .free → ∃ c, X.env.cells.lookup y.1 = some c) {y : Str} {c : Addr} (h : (cloFrom X.env.cells scope.names []).lookup y = some c) : X.env.cells.lookup y = some c := by
  rcases cloFrom_mem (PySem.mem_of_lookup h) with hm | ⟨h1, rfl⟩
  · cases hm
  · obtain ⟨c, hc⟩ := hfree _ h1 rfl
    rw [hc]
    rfl
/-- the generator is made: its frame and its object are laid -/
theorem gen_start {A' : Around} {scope : Scope} {own : List (Str × Nat)} {fp : List Addr} {code : Value} {h5 : Heap} {m0 : Str → Option Value} {go : Obj} {G5 : Array GenState} {t5 : Nat}
    (I : Inv X pins σ H s) (ok : GOk X.N X.env.scope scope own) (hN : X.N.Nodup) (hfp : ∀ b ∈ fp, FpOk X pins H b ∧ b < s.heap.objs.size)
    (hA : A'.handled = none) (hfr : A'.frames = some (genEnv scope (cloFrom X.env.cells scope.names []) s.heap.objs.size code builtinsNs X.env :: X.stack))
    (hk : ∀ b o, s.heap.get? b = some o → h5.get? b = some o) (hn : h5.Ns s.heap.objs.size m0) (hgo : h5.get? (s.heap.objs.size + 1) = some go) (hgd : ∀ v, go.data ≠ .cell v) (hb : AllBare G5) :
    Inv (gcx X A' s H (genEnv scope (cloFrom X.env.cells scope.names []) s.heap.objs.size code builtinsNs X.env) fp) [(s.heap.objs.size + 1, go)] (wipe σ (own.map (·.2))) H { s with heap := h5, gens := G5, toks := t5 } := by
  have hfree : ∀ y ∈ scope.names, y.2 = .free → ∃ c, X.env.cells.lookup y.1 = some c := fun y hy e => by
    rcases ok.free y hy e with k | k
    · exact I.ok.has _ (.inl k)
    · exact I.ok.has _ (.inr k)
  have cm : ∀ {y c}, (cloFrom X.env.cells scope.names []).lookup y = some c → X.env.cells.lookup y = some c := fun {y c} h => cl_mem I hfree h
  have clt : ∀ {y c}, X.env.cells.lookup y = some c → c < s.heap.objs.size := fun {y c} h => by
    obtain ⟨v, z⟩ := I.cell y c h
    exact z.lt
  have look : ∀ {y}, scope.names.lookup y = some .free → ∃ c, (cloFrom X.env.cells scope.names []).lookup y = some c ∧ X.env.cells.lookup y = some c := fun {y} hl => by
    have hy : (y, NameKind.free) ∈ scope.names := PySem.mem_of_lookup hl
    obtain ⟨c', e'⟩ := mem_lookup (cloFrom_has (cells := X.env.cells) (acc := []) hy)
    exact ⟨c', e', cm e'⟩
  have stk_lt : ∀ b ∈ frs X.stack, b < s.heap.objs.size := fun b hb => by
    obtain ⟨_, o, ho, _⟩ := I.stack.mem hb
    exact Heap.lt_size ho
  have okG : (gcx X A' s H (genEnv scope (cloFrom X.env.cells scope.names []) s.heap.objs.size code builtinsNs X.env) fp).Ok := by
    refine ⟨I.ok.mod, ok.kind, I.ok.glob, rfl, Nat.le_refl _, fun y z c e1 e2 => I.ok.inj y z c (cm e1) (cm e2), fun y hy => ?_, fun y c z e => (Bool.noConfusion z), fun _ => hA, hfr, .inr ⟨rfl, rfl⟩,
      fun b hb => ⟨Nat.ne_of_lt (hfp b hb).2, fun y c e z => (hfp b hb).1.2.2.2.2.1 y c (cm e) z⟩, I.bs, Nat.le_trans I.ok.bsz I.sz, fun b o e hb => ?_, fun b hb z => ?_, I.stack, I.stkFree⟩
    · rcases hy with hy | hy
      · exact absurd rfl (ok.cell _ (PySem.mem_of_lookup (show scope.names.lookup y = some .cell from hy)))
      · obtain ⟨c, h1, _⟩ := look (show scope.names.lookup y = some .free from hy)
        exact ⟨c, h1⟩
    · rcases (hfp b hb).1.2.2.2.1 with z | z
      · exact I.ok.noex b o e z
      · exact absurd (Nat.lt_of_lt_of_le (Heap.lt_size e) (Nat.le_trans I.ok.bsz z)) (Nat.lt_irrefl _)
    · rcases List.mem_cons.mp (I.stkSub b z) with z | z
      · exact (hfp b hb).1.2.1 z
      · exact (hfp b hb).1.2.2.1 z
  refine ⟨okG, rfl, hb, Un.kept hk, ⟨m0, hn, fun i y av e1 e2 e3 => ?_⟩, fun y c e => ?_, I.hok.fresh (Nat.le_refl _), fun y c e => I.freeC y c (cm e), fun p hp => ?_, I.hok.kept hk, by rw [wipe_length]; exact I.len⟩
  · obtain ⟨e2, hne⟩ := wipe_some e2
    have hfr : scope.names.lookup y = some .free := by
      rcases e3 with e | e | e
      · have e : scope.names.lookup y = some .local := e
        rcases ok.own _ (PySem.mem_of_lookup e) rfl with e' | e'
        · obtain ⟨p, hp, hpy⟩ := List.mem_map.mp e'
          have e3 := ok.ix p hp
          have : p.1 = y := hpy
          rw [this] at e3
          exact absurd (List.mem_map.mpr ⟨p, hp, nodup_ix hN e3 e1⟩) hne
        · exact absurd (List.mem_of_getElem? e1) e'
      · exact absurd rfl (ok.cell _ (PySem.mem_of_lookup (show scope.names.lookup y = some .cell from e)))
      · exact e
    obtain ⟨m, hn', hl⟩ := I.loc
    have hvis : Vis X.env.scope y := (ok.free _ (PySem.mem_of_lookup hfr) rfl).elim (fun k => .inr (.inl k)) (fun k => .inr (.inr k))
    obtain ⟨w, r, q⟩ := hl i y av e1 e2 hvis
    obtain ⟨c, h1, h2⟩ := look hfr
    refine ⟨w, r, .inr ⟨.inr hfr, c, h1, ?_⟩⟩
    rcases q with ⟨k, _⟩ | ⟨_, c', e', z⟩
    · have k : X.env.scope.names.lookup y = some .local := k
      rcases ok.free _ (PySem.mem_of_lookup hfr) rfl with k' | k' <;> rw [show X.env.scope.names.lookup y = _ from k'] at k <;> cases k
    · rw [h2] at e'; cases e'
      exact z.keeps hk
  · obtain ⟨v, z⟩ := I.cell y c (cm e)
    exact ⟨v, z.keeps hk⟩
  · have hp' : p = (s.heap.objs.size + 1, go) := by simpa using hp
    subst hp'
    refine ⟨hgo, I.hok.fresh (Nat.le_succ _), Nat.succ_ne_self _, fun z => ?_, hgd⟩
    exact absurd (stk_lt _ z) (Nat.not_lt.mpr (Nat.le_succ _))
end

/-! ### the generator's turns -/
/-- awake again: nothing of the heap has changed -/
def Woke (s s' : Shared) : Prop := s'.heap = s.heap ∧ s'.os = s.os ∧ AllBare s'.gens
def YA (X' : Cx) (pn : List (Addr × Obj)) (σw : L2.St) (stop : Bool) (Qf : Hp → Prop) : Protocol := fun _ _ v s kap =>
  ∃ (b : Bool) (H : Hp), v = .bool b ∧ Inv X' pn σw H s ∧ ((b = stop ∧ Qf H) ∨ (b = !stop ∧ ∀ s'', Woke s s'' → kap (.send .none) s''))
def PA' (X' : Cx) (pn : List (Addr × Obj)) (σw : L2.St) (Qe : Hp → Prop) : Nat → Shared → Shared → Prop := fun _ _ s => ∃ H, Inv X' pn σw H s ∧ Qe H

/-- what a turn asks -/
def TurnG (J : It) (g : TG) (te : TE) (σw : L2.St) (vs : List Nat) (stop : Bool) (Qf Qe : Hp → Prop) (W : Nat → Nat → Hp → Prop) : Prop := ∀ i m H, W i m H →
  (J.stop i H ∧ Qe H) ∨ (J.go i H ∧ ∃ Nx : Hp → Prop, (∀ H', Nx H' → ∃ m', m' < m ∧ W (i + 1) m' H') ∧ ∀ x H', J.yld i H x H' → g x σw H' fun σ2 H2 => wipe σ2 vs = σw ∧ te σ2 H2 fun y H3 => ∃ b, y = .bl b ∧ (b = stop → Qf H3) ∧ (b = !stop → Nx H3))

section
variable {X' : Cx} {A : Around} {elt tg iter : Expr} {scope : Scope} {pos : Pos} {it : Addr} {fp : List Addr} {tn : Nat → Heap → Prop} {J : It} {g : TG} {te : TE} {σw : L2.St} {vs : List Nat} {stop : Bool} {Qf Qe : Hp → Prop} {W : Nat → Nat → Hp → Prop} {pn : List (Addr × Obj)}
theorem seg_turns (hA : A.over (.compLoop (.GeneratorExp elt [⟨tg, iter, [], 0⟩] scope pos) 0 (.ref it) .none X'.env) [] = X'.A) (hex : X'.ex = fp) (hpn0 : X'.pn = []) (hxe : X'.xe = fun _ _ => False) (hcalm : X'.calm = true)
    (hco : X'.env.scope.isCoroutine = false) (T : Turn X'.prog X'.w X'.K tg J fp it tn) (hpf : ∀ p ∈ pn, p.1 ∉ fp) (pg : PG X' tg g) (pe : PE X' elt te) (turn : TurnG J g te σw vs stop Qf Qe W) :
    ∀ (n : Nat) (s₀ s : Shared) (i m : Nat) (H : Hp), m < n → Inv X' pn σw H s → tn i s.heap → (∀ b ∈ fp, H b = none) → W i m H →
      Seg (model X'.prog X'.w) A (fun n s₀ r s₁ => r = .ok .next ∧ PA' X' pn σw Qe n s₀ s₁) (YA X' pn σw stop Qf) n s₀
        (.compLoop (.GeneratorExp elt [⟨tg, iter, [], 0⟩] scope pos) 0 (.ref it) .none X'.env)
        ((model X'.prog X'.w).den (.compLoop (.GeneratorExp elt [⟨tg, iter, [], 0⟩] scope pos) 0 (.ref it) .none X'.env)) [] s := by
  have stat : ∀ {σ' : L2.St} {H' : Hp} {s' : Shared}, Inv X' pn σ' H' s' → (∀ b ∈ fp, H' b = none) → ∀ b ∈ fp, FpOk X' pn H' b := fun {σ' H' s'} I' hn b hb =>
    ⟨hn b hb, (I'.ok.exf b (by rw [hex]; exact hb)).1, I'.ok.exfs b (by rw [hex]; exact hb), .inl (by rw [hex]; exact hb), fun x c e => (I'.ok.exf b (by rw [hex]; exact hb)).2 x c e, fun p hp => by
      rw [hpn0] at hp
      intro z
      exact hpf p (by simpa using hp) (by rw [z]; exact hb)⟩
  intro n
  induction n with
  | zero => intro s₀ s i m H hm; exact absurd hm (Nat.not_lt_zero _)
  | succ n ih =>
    intro s₀ s i m H hm I st nn w
    show Seg _ A _ _ _ s₀ _ ((compTurn (.GeneratorExp elt [⟨tg, iter, [], 0⟩] scope pos) 0 (.ref it) .none X'.env).onRaise (leaving X'.env)) [] s
    rw [compTurn_gen, Sem.onRaise_eq_wrap]
    refine seg_bind_wrap (wpAny_standAt ?_)
    rcases turn i m H w with ⟨hstop, qe⟩ | ⟨hgo, Nx, hNx, step⟩
    · refine seg_bind_wrap ?_
      rw [hA]
      refine thnF (T.done X' rfl rfl rfl hcalm i pn s σw H (fun _ _ => False) I (stat I nn) st hstop) fun r s1 ⟨hr, I1⟩ => ?_
      subst hr
      exact seg_end (.ok .next) ⟨rfl, H, I1, qe⟩
    · refine seg_bind_wrap ?_
      rw [hA]
      refine thnF (T.item X' rfl rfl rfl hcalm i pn s σw H (fun _ _ => False) I (stat I nn) st hgo) fun r s1 ⟨u, hr, h1⟩ => ?_
      subst hr
      refine seg_bind_wrap ?_
      rw [hA]
      refine thnF h1 fun _ s2 ⟨x, H2, I2, r2, y2, st2, n2⟩ => ?_
      have I2' := I2.pinned (stat I2 n2) (T.obj _ _ st2)
      refine seg_bind_wrap ?_
      rw [hA]
      have pgr := pg.run _ s2 _ H2 x u _ I2' r2 (step x H2 y2)
      rw [hxe] at pgr
      refine thnF pgr fun _ s3 ⟨σ3, H3, I3, hw3, q3⟩ => ?_
      simp only [List.forIn_nil]
      refine seg_bind_wrap (wpAny_pure ?_)
      simp only [if_true]
      have hy : ∀ v, yieldOut X'.env v = yieldValue v := fun v => by simp only [yieldOut, hco, Bool.false_eq_true, if_false]
      simp only [hy]
      rw [Sem.bind_eq_wrap', Sem.bind_eq_wrap', Sem.wrap_wrap, Sem.wrap_wrap]
      refine seg_wrap ?_
      rw [hA]
      have per := pe.run _ s3 σ3 H3 _ I3 q3
      rw [hxe] at per
      refine thnF per fun yv s4 ⟨yV, H4, I4, r4, b, hyb, q4⟩ => ?_
      subst hyb
      have r4' : yv = Value.bool b := r4
      subst r4'
      have pin' : ∀ b ∈ fp, ∀ o, s2.heap.get? b = some o → s4.heap.get? b = some o ∧ H4 b = none := fun b hb o e =>
        let z := I4.pin (b, o) (List.mem_append_right _ (List.mem_append_right _ (mem_pinsAt hb e)))
        ⟨z.1, z.2.1⟩
      have hl : σw.length = σ3.length := by rw [← hw3, wipe_length]
      have I5 : Inv X' pn σw H4 s4 := (I4.unpinned (pins := pn)).weak hl fun j v e => by
        rw [← hw3] at e
        exact (wipe_some e).1
      have st5 : tn (i + 1) s4.heap := T.keep _ _ _ st2 fun b hb o e => (pin' b hb o e).1
      have n5 : ∀ b ∈ fp, H4 b = none := fun b hb => by
        obtain ⟨o, e, _⟩ := T.obj _ _ st2 b hb
        exact (pin' b hb o e).2
      refine seg_at (seg_yield rfl rfl rfl ⟨b, H4, rfl, I5, ?_⟩)
      by_cases hb : b = stop
      · exact .inl ⟨hb, q4.1 hb⟩
      · have hb' : b = !stop := by
          cases b <;> cases stop <;> first | rfl | exact absurd rfl hb
        obtain ⟨m', hm', w'⟩ := hNx _ (q4.2 hb')
        refine .inr ⟨hb', fun s'' ⟨z1, z2, z3⟩ => ?_⟩
        refine seg_again rfl (ih s'' s'' (i + 1) m' H4 (by omega) (inv_gens I5 z1 z2 z3) (by rw [z1]; exact st5) n5 w')
theorem seg_first (hA : A.over (.compLoop (.GeneratorExp elt [⟨tg, iter, [], 0⟩] scope pos) 0 (.ref it) .none X'.env) [] = X'.A) (hex : X'.ex = fp) (hpn0 : X'.pn = []) (hxe : X'.xe = fun _ _ => False) (hcalm : X'.calm = true)
    (hco : X'.env.scope.isCoroutine = false) (T : Turn X'.prog X'.w X'.K tg J fp it tn) (hpf : ∀ p ∈ pn, p.1 ∉ fp) (pg : PG X' tg g) (pe : PE X' elt te) (turn : TurnG J g te σw vs stop Qf Qe W)
    (n : Nat) (s₀ s : Shared) (m : Nat) (H : Hp) (hm : m < n) (I : Inv X' pn σw H s) (st : tn 0 s.heap) (nn : ∀ b ∈ fp, H b = none) (w : W 0 m H) :
      Seg (model X'.prog X'.w) A (fun n s₀ r s₁ => r = .ok .next ∧ PA' X' pn σw Qe n s₀ s₁) (YA X' pn σw stop Qf) n s₀
        (.compStart (.GeneratorExp elt [⟨tg, iter, [], 0⟩] scope pos) 0 (.ref it) .none X'.env)
        ((model X'.prog X'.w).den (.compStart (.GeneratorExp elt [⟨tg, iter, [], 0⟩] scope pos) 0 (.ref it) .none X'.env)) [] s := by
  have loop := seg_turns hA hex hpn0 hxe hcalm hco T hpf pg pe turn n s₀ s 0 m H hm I st nn w
  show Seg _ A _ _ _ s₀ _ ((compStart (.GeneratorExp elt [⟨tg, iter, [], 0⟩] scope pos) 0 (.ref it) .none X'.env).onRaise (leaving X'.env)) [] s
  unfold compStart
  rw [Sem.onRaise_eq_wrap]
  show Seg _ A _ _ _ s₀ _ ((ask >>= _).wrap _ _ _ _) [] s
  refine seg_bind_wrap (wpAny_askSetting ?_)
  split
  · exact seg_again rfl loop
  · first
      | exact seg_bind_wrap (wpAny_rule (seg_bind_wrap (wpAny_standAt (seg_bind_wrap (T.self _ 0 s _ _ st (seg_again rfl loop))))))
      | (refine seg_bind_wrap (wpAny_rule ?_); show Seg _ A _ _ _ s₀ _ ((standAt iter.pos >>= _).wrap _ _ _ _) [] s; exact seg_bind_wrap (wpAny_standAt (seg_bind_wrap (T.self _ 0 s _ _ st (seg_again rfl loop)))))
end
end GA

set_option Elab.async false
set_option linter.all false
set_option maxRecDepth 100000
set_option maxHeartbeats 4000000
namespace GA
open PySem PySem.Spec PyProof.Rows L2 GenW GxR

theorem room_gen {k : Nat} {A : Around} {e : Expr} {gs : List Comprehension} {sc : Scope} {p : Pos} {it acc : Value} {env : Env} (r : Room (k + 1) A) :
    Room k (A.in1.in1.over (.compLoop (.GeneratorExp e gs sc p) 0 it acc env) []) := by
  have h1 := r.dp
  have h2 := r.un
  have e1 : (A.in1.in1.over (.compLoop (.GeneratorExp e gs sc p) 0 it acc env) []).depth = A.depth + 1 := rfl
  have e2 : (A.in1.in1.over (.compLoop (.GeneratorExp e gs sc p) 0 it acc env) []).units = A.units + 5 := rfl
  exact ⟨r.hd, by rw [e1]; omega, by rw [e2]; omega⟩
theorem frames_gen {A : Around} {l : List Env} {e : Expr} {gs : List Comprehension} {sc : Scope} {p : Pos} {it acc : Value} {env : Env} (h : A.frames = some l) :
    (A.in1.in1.over (.compLoop (.GeneratorExp e gs sc p) 0 it acc env) []).frames = some (env :: l) := by
  have e1 : (A.in1.in1.over (.compLoop (.GeneratorExp e gs sc p) 0 it acc env) []).frames = A.frames.map ([env] ++ ·) := rfl
  rw [e1, h]
  rfl

section
variable {X' : Cx} {A : Around} {σw : L2.St} {Qf Qe : Hp → Prop} {pn : List (Addr × Obj)} {a : Addr} {g : Nat} {go : Obj} {R' : Result → Shared → Prop}
theorem all_loop (hh : A.handled = none) (hd : A.depth < recursionLimit) (hpn : (a, go) ∈ pn) (hgen : ∀ h : Heap, h.get? a = some go → h.IsGen a g)
    (hR : ∀ (b : Bool) (H : Hp) (s' : Shared), Inv X' pn σw H s' → (b = true → Qe H) → (b = false → Qf H) → R' (.ok (.ret (.bool b))) s') :
    ∀ (n : Nat) (s : Shared) (gs : GenState), s.heap.IsGen a g → s.heap.NoLimit → s.gens[g]? = some gs →
      gs.Goes (model X'.prog X'.w) A.in1.in1 (fun n s₀ r s₁ => r = .ok .next ∧ PA' X' pn σw Qe n s₀ s₁) (YA X' pn σw false Qf) n (.send .none) (s.setGen g .running) →
      codeAny (model X'.prog X'.w) A (.builtin "all.loop" ⟨[.ref a], []⟩) R' s := by
  intro n
  induction n using Nat.strongRecOn with
  | ind n ih =>
    intro s gs hg hl hgs hgo
    have hgl : g < s.gens.size := (Array.getElem?_eq_some_iff.mp hgs).1
    refine codeAny_builtin F.entry_all_loop ?_
    rw [Around.under_plainId F.plain_all_loop _]
    show wpAny _ A.in1 (pyNext (.ref a) >>= _) _ _ s
    refine wpAny_bind (wpAny_gsz (n := g + 1) hgl (wpAny_pyNext_genexpQ (A := A.in1) hh hl hd hg hgs hgo (fun v s₁ gs' hbare hv => ?_) (fun s₁ hp h' hk => ?_)))
    · intro hsz
      obtain ⟨b, H1, rfl, I1, q⟩ := hv
      have I2 : Inv X' pn σw H1 (s₁.setGen g gs') := inv_gens I1 rfl rfl (allBare_setGen I1.bare hbare)
      have hsz1 : g < s₁.gens.size := by
        have q : (s₁.setGen g gs').gens.size = s₁.gens.size := setGen_size _ _ _
        have hsz' : g + 1 ≤ (s₁.setGen g gs').gens.size := hsz
        omega
      have hg2 : (s₁.setGen g gs').heap.IsGen a g := hgen _ (I2.pin (a, go) (List.mem_append_right _ hpn)).1
      refine wpAny_bind (wpAny_holding (wpAny_truthy_bool ?_))
      refine wpAny_bind (wpAny_letGo ?_)
      cases b with
      | true =>
        simp only [if_true]
        rcases q with ⟨hb, _⟩ | ⟨_, hk⟩
        · cases hb
        cases n with
        | zero => exact False.elim (hk _ ⟨rfl, rfl, I1.bare⟩)
        | succ m =>
          refine wpAny_pure ⟨plainId_quiet F.plain_all_loop _, ih m (Nat.lt_succ_self m) _ gs' hg2 I2.nolimit (setGen_at hsz1) ?_⟩
          exact hk _ ⟨rfl, rfl, allBare_setGen (s := s₁.setGen g gs') I2.bare rfl⟩
      | false =>
        simp only [Bool.false_eq_true, if_false]
        rcases q with ⟨_, qf⟩ | ⟨hb, _⟩
        · exact wpAny_bind (wpAny_rule (wpAny_pure (hR false H1 _ I2 (fun z => by cases z) fun _ => qf)))
        · cases hb
    · intro _
      obtain ⟨H1, I1, qe⟩ := hp
      have I2 : Inv X' pn σw H1 { s₁.setGen g .finished with heap := h' } := inv_gens (s := { s₁ with heap := h' }) (I1.kept (t' := s₁.toks) hk) rfl rfl (allBare_setGen I1.bare rfl)
      exact wpAny_bind (wpAny_rule (wpAny_pure (hR true H1 _ I2 (fun _ => qe) fun z => by cases z)))
theorem any_loop (hh : A.handled = none) (hd : A.depth < recursionLimit) (hpn : (a, go) ∈ pn) (hgen : ∀ h : Heap, h.get? a = some go → h.IsGen a g)
    (hR : ∀ (b : Bool) (H : Hp) (s' : Shared), Inv X' pn σw H s' → (b = false → Qe H) → (b = true → Qf H) → R' (.ok (.ret (.bool b))) s') :
    ∀ (n : Nat) (s : Shared) (gs : GenState), s.heap.IsGen a g → s.heap.NoLimit → s.gens[g]? = some gs →
      gs.Goes (model X'.prog X'.w) A.in1.in1 (fun n s₀ r s₁ => r = .ok .next ∧ PA' X' pn σw Qe n s₀ s₁) (YA X' pn σw true Qf) n (.send .none) (s.setGen g .running) →
      codeAny (model X'.prog X'.w) A (.builtin "any.loop" ⟨[.ref a], []⟩) R' s := by
  intro n
  induction n using Nat.strongRecOn with
  | ind n ih =>
    intro s gs hg hl hgs hgo
    have hgl : g < s.gens.size := (Array.getElem?_eq_some_iff.mp hgs).1
    refine codeAny_builtin F.entry_any_loop ?_
    rw [Around.under_plainId F.plain_any_loop _]
    show wpAny _ A.in1 (pyNext (.ref a) >>= _) _ _ s
    refine wpAny_bind (wpAny_gsz (n := g + 1) hgl (wpAny_pyNext_genexpQ (A := A.in1) hh hl hd hg hgs hgo (fun v s₁ gs' hbare hv => ?_) (fun s₁ hp h' hk => ?_)))
    · intro hsz
      obtain ⟨b, H1, rfl, I1, q⟩ := hv
      have I2 : Inv X' pn σw H1 (s₁.setGen g gs') := inv_gens I1 rfl rfl (allBare_setGen I1.bare hbare)
      have hsz1 : g < s₁.gens.size := by
        have q : (s₁.setGen g gs').gens.size = s₁.gens.size := setGen_size _ _ _
        have hsz' : g + 1 ≤ (s₁.setGen g gs').gens.size := hsz
        omega
      have hg2 : (s₁.setGen g gs').heap.IsGen a g := hgen _ (I2.pin (a, go) (List.mem_append_right _ hpn)).1
      refine wpAny_bind (wpAny_holding (wpAny_truthy_bool ?_))
      refine wpAny_bind (wpAny_letGo ?_)
      cases b with
      | false =>
        simp only [Bool.false_eq_true, if_false]
        rcases q with ⟨hb, _⟩ | ⟨_, hk⟩
        · cases hb
        cases n with
        | zero => exact False.elim (hk _ ⟨rfl, rfl, I1.bare⟩)
        | succ m =>
          refine wpAny_pure ⟨plainId_quiet F.plain_any_loop _, ih m (Nat.lt_succ_self m) _ gs' hg2 I2.nolimit (setGen_at hsz1) ?_⟩
          exact hk _ ⟨rfl, rfl, allBare_setGen (s := s₁.setGen g gs') I2.bare rfl⟩
      | true =>
        simp only [if_true]
        rcases q with ⟨_, qf⟩ | ⟨hb, _⟩
        · exact wpAny_bind (wpAny_rule (wpAny_pure (hR true H1 _ I2 (fun z => by cases z) fun _ => qf)))
        · cases hb
    · intro _
      obtain ⟨H1, I1, qe⟩ := hp
      have I2 : Inv X' pn σw H1 { s₁.setGen g .finished with heap := h' } := inv_gens (s := { s₁ with heap := h' }) (I1.kept (t' := s₁.toks) hk) rfl rfl (allBare_setGen I1.bare rfl)
      exact wpAny_bind (wpAny_rule (wpAny_pure (hR false H1 _ I2 (fun _ => qe) fun z => by cases z)))
end

/-- the generator has been made; stop: what ends its consumer ahead of the end -/
def MadeG (X : Cx) (pins : List (Addr × Obj)) (σ : L2.St) (stop : Bool) (Qf Qe : Hp → Prop) (u : Value) (s5 : Shared) : Prop :=
  ∃ (a : Addr) (g n : Nat) (gs : GenState) (go : Obj) (X' : Cx) (pn : List (Addr × Obj)) (σw : L2.St), u = .ref a ∧ X'.prog = X.prog ∧ X'.w = X.w ∧ (a, go) ∈ pn ∧ (∀ h : Heap, h.get? a = some go → h.IsGen a g) ∧ s5.heap.IsGen a g ∧ s5.heap.NoLimit ∧ s5.gens[g]? = some gs ∧
    gs.Goes (model X.prog X.w) X.A.in1.in1 (fun n s₀ r s₁ => r = .ok .next ∧ PA' X' pn σw Qe n s₀ s₁) (YA X' pn σw stop Qf) n (.send .none) (s5.setGen g .running) ∧
    ∀ H' s', Inv X' pn σw H' s' → Inv X pins σ H' s'

section
variable {X : Cx} {pins : List (Addr × Obj)} {σ : L2.St} {H : Hp} {s : Shared}
theorem gen_make {c P : Addr} {elt tg iter : Expr} {gpos : Pos} {scope : Scope} {own : List (Str × Nat)} {wi : TI} {g : TG} {te : TE} {k : Nat} {stop : Bool} {Qf Qe : Hp → Prop} {Q' : Value → Shared → Prop}
    (hr : Room (k + 1) X.A) (TB : TabB X.base X.mg c P) (hcode : X.env.code = .ref c) (hN : X.N.Nodup) (ok : GOk X.N X.env.scope scope own) (hi : PI X tg iter wi)
    (hg : ∀ (A' : Around) (s : Shared) (H : Hp) (C : Addr) (code : Value) (fp : List Addr), PG (gcx X A' s H (genEnv scope (cloFrom X.env.cells scope.names []) C code builtinsNs X.env) fp) tg g)
    (he : ∀ (A' : Around) (s : Shared) (H : Hp) (C : Addr) (code : Value) (fp : List Addr), Room k A' → PE (gcx X A' s H (genEnv scope (cloFrom X.env.cells scope.names []) C code builtinsNs X.env) fp) elt te)
    (hs : ∀ v, genFold iter X.env v = pure v) (I : Inv X pins σ H s)
    (h : wi σ H fun J H1 => TabG H1 P ∧ ∀ H2, Tabbed P H1 H2 → ∃ W : Nat → Nat → Hp → Prop, (∃ m, W 0 m H2) ∧ TurnG J g te (wipe σ (own.map (·.2))) (own.map (·.2)) stop Qf Qe W)
    (hQ : ∀ u s5, MadeG X pins σ stop Qf Qe u s5 → Q' u s5) :
    wpAny (model X.prog X.w) X.A (eval (.GeneratorExp elt [⟨tg, iter, [], 0⟩] scope gpos) X.env) Q' X.xe s := by
  have hfree : ∀ y ∈ scope.names, y.2 = .free → ∃ c, X.env.cells.lookup y.1 = some c := fun y hy e => by
    rcases ok.free y hy e with k | k
    · exact I.ok.has _ (.inl k)
    · exact I.ok.has _ (.inr k)
  refine wpAny_GeneratorExp_make ok.co (closure_ok hfree) ok.cell ok.dot ok.kind (by have := hr.dp; omega) ?_ hs
  refine thn (hi.run pins s σ H _ I h) fun xv s1 hx => thn hx fun itv s2 h2 => ?_
  obtain ⟨it, fp, tn, J, H2, e, I2, T, st2, f2, ⟨ps, hP, ht⟩, q⟩ := h2
  subst e
  refine ⟨I2.nolimit, ?_⟩
  have hPs : s2.heap.get? P = some { cls := .none, data := .fields ps } := I2.hok P _ hP
  have cd : PySem.W.CodeHd s2.heap c P := TB.code.keeps I2.bk
  have fpP : ∀ b ∈ fp, b ≠ P := fun b hb z => by
    have := (f2 b hb).1
    rw [z, hP] at this
    cases this
  have cont : ∀ (code : Value) (h3 : Heap) (tk : Nat) (ps' : Array Value), Heap.ExtBut P s2.heap h3 → h3.get? P = some { cls := .none, data := .fields ps' } → (∃ more, ps' = ps ++ more) → TriplesOk ps'.toList →
      wpAny (model X.prog X.w) X.A (builtinsFor X.env.globals X.env.builtins) (fun bi s₄ =>
        ∀ h', h'.Ns s₄.heap.objs.size (fun y => if y = ".0" then some (Value.ref it) else none) → Heap.SameBut s₄.heap.objs.size (s₄.heap.push { cls := .type "frame", data := .dict #[] }) h' →
          Q' (.ref h'.objs.size) { s₄ with
            gens := s₄.gens.push (.fresh (.compStart (.GeneratorExp elt [⟨tg, iter, [], 0⟩] scope gpos) 0 (.ref it) .none (genEnv scope (cloFrom X.env.cells scope.names []) s₄.heap.objs.size code bi X.env))),
            toks := s₄.toks + 1 + 1 + 1,
            heap := h'.push { cls := .type "generator", data := .fields #[.int s₄.gens.size 0, .str "<genexpr>" (s₄.toks + 1), .str (X.env.qual ++ "<genexpr>") (s₄.toks + 1 + 1)] } }) X.xe { s2 with heap := h3, toks := tk } := by
    intro code h3 tk ps' hx hP3 hmore ht3
    obtain ⟨bm, ob, e1, e2, e3, e4, e5, e6, e7, e8⟩ := TB.bm
    have keep3 : ∀ b u, b ≠ P → s2.heap.get? b = some u → h3.get? b = some u := fun b u hb e => hx b u hb e
    refine wpAny_builtinsFor (m := X.mg) (by rw [I2.ok.glob]; exact (I2.mod.glob.keeps I2.bk).extBut hx TB.gP) e1 e2 (keep3 _ _ e4 (I2.bk _ _ e5)) e6 e7 e8 ?_
    obtain ⟨more, em⟩ := hmore
    have J3 := inv_tab (more := more) (h' := h3) (g' := s2.gens) (d' := s2.drawn) (t' := tk) I2 hP (fun b u hb e => keep3 b u hb e) (by rw [← em]; exact hP3) I2.bare
    obtain ⟨W, ⟨m, w⟩, turn⟩ := q (upd H2 P (.tbl (ps ++ more))) ⟨⟨ps ++ more, upd_same, by rw [← em]; exact ht3⟩, fun b hb => upd_ne hb⟩
    intro h' hn' hs'
    generalize hs4 : ({ s2 with heap := h3, gens := s2.gens, drawn := s2.drawn, toks := tk } : Shared) = s4 at J3
    have hs4' : ({ s2 with heap := h3, toks := tk } : Shared) = s4 := hs4
    try rw [hs4'] at hn'
    try rw [hs4'] at hs'
    try rw [hs4']
    have eh : s4.heap = h3 := by rw [← hs4]
    have szh : h'.objs.size = s4.heap.objs.size + 1 := by rw [hs'.1, Heap.size_push]
    have keep' : ∀ b o, s4.heap.get? b = some o → h'.get? b = some o := fun b o e => hs'.extBut b o (Nat.ne_of_lt (Heap.lt_size e)) (Heap.get?_push_of_some _ e)
    have st4 : tn 0 s4.heap := T.keep _ _ _ st2 fun b hb o e => by rw [eh]; exact keep3 b o (fpP b hb) e
    have f4 : ∀ b ∈ fp, FpOk X pins (upd H2 P (.tbl (ps ++ more))) b ∧ b < s4.heap.objs.size := fun b hb => by
      obtain ⟨o, e, _⟩ := T.obj _ _ st4 b hb
      exact ⟨⟨by rw [upd_ne (fpP b hb)]; exact (f2 b hb).1, (f2 b hb).2⟩, Heap.lt_size e⟩
    have keep5 : ∀ b o, s4.heap.get? b = some o → (h'.push { cls := .type "generator", data := .fields #[.int s4.gens.size 0, .str "<genexpr>" (s4.toks + 1), .str (X.env.qual ++ "<genexpr>") (s4.toks + 1 + 1)] }).get? b = some o :=
      fun b o e => Heap.get?_push_of_some _ (keep' b o e)
    have hgo : (h'.push { cls := .type "generator", data := .fields #[.int s4.gens.size 0, .str "<genexpr>" (s4.toks + 1), .str (X.env.qual ++ "<genexpr>") (s4.toks + 1 + 1)] }).get? (s4.heap.objs.size + 1) =
        some { cls := .type "generator", data := .fields #[.int s4.gens.size 0, .str "<genexpr>" (s4.toks + 1), .str (X.env.qual ++ "<genexpr>") (s4.toks + 1 + 1)] } := by
      rw [← szh]
      exact Heap.get?_push_size _ rfl
    generalize hA' : X.A.in1.in1.over (.compLoop (.GeneratorExp elt [⟨tg, iter, [], 0⟩] scope gpos) 0 (.ref it) .none (genEnv scope (cloFrom X.env.cells scope.names []) s4.heap.objs.size code builtinsNs X.env)) [] = A'
    have rA : Room k A' := by rw [← hA']; exact room_gen hr
    have fA : A'.frames = some (genEnv scope (cloFrom X.env.cells scope.names []) s4.heap.objs.size code builtinsNs X.env :: X.stack) := by rw [← hA']; exact frames_gen I2.ok.frames
    have I5 := gen_start (A' := A') (code := code) (go := { cls := .type "generator", data := .fields #[.int s4.gens.size 0, .str "<genexpr>" (s4.toks + 1), .str (X.env.qual ++ "<genexpr>") (s4.toks + 1 + 1)] })
      (G5 := s4.gens.push (.fresh (.compStart (.GeneratorExp elt [⟨tg, iter, [], 0⟩] scope gpos) 0 (.ref it) .none (genEnv scope (cloFrom X.env.cells scope.names []) s4.heap.objs.size code builtinsNs X.env)))) (t5 := s4.toks + 1 + 1 + 1)
      J3 ok hN f4 rA.hd fA keep5 (hn'.push _) hgo (fun v z => by cases z) (J3.bare.push rfl)
    have nfp : ∀ b ∈ fp, (upd H2 P (.tbl (ps ++ more))) b = none := fun b hb => (f4 b hb).1.1
    refine hQ _ _ ⟨h'.objs.size, s4.gens.size, m + 1, _, { cls := .type "generator", data := .fields #[.int s4.gens.size 0, .str "<genexpr>" (s4.toks + 1), .str (X.env.qual ++ "<genexpr>") (s4.toks + 1 + 1)] },
      gcx X A' s4 (upd H2 P (.tbl (ps ++ more))) (genEnv scope (cloFrom X.env.cells scope.names []) s4.heap.objs.size code builtinsNs X.env) fp,
      [(s4.heap.objs.size + 1, { cls := .type "generator", data := .fields #[.int s4.gens.size 0, .str "<genexpr>" (s4.toks + 1), .str (X.env.qual ++ "<genexpr>") (s4.toks + 1 + 1)] })], wipe σ (own.map (·.2)), rfl, rfl, rfl, ?_, ?_, ?_, I5.nolimit, Array.getElem?_push_size .., ?_, ?_⟩
    · rw [szh]; exact List.mem_singleton.mpr rfl
    · exact fun h hh => ⟨_, _, _, hh, rfl, rfl, rfl⟩
    · rw [szh]; exact ⟨_, _, _, hgo, rfl, rfl, rfl⟩
    · refine ⟨rfl, ?_⟩
      have I6 := inv_gens (s' := ({ s4 with
            gens := s4.gens.push (.fresh (.compStart (.GeneratorExp elt [⟨tg, iter, [], 0⟩] scope gpos) 0 (.ref it) .none (genEnv scope (cloFrom X.env.cells scope.names []) s4.heap.objs.size code builtinsNs X.env))),
            toks := s4.toks + 1 + 1 + 1,
            heap := h'.push { cls := .type "generator", data := .fields #[.int s4.gens.size 0, .str "<genexpr>" (s4.toks + 1), .str (X.env.qual ++ "<genexpr>") (s4.toks + 1 + 1)] } } : Shared).setGen s4.gens.size .running) I5 rfl rfl (allBare_setGen I5.bare rfl)
      exact seg_first (X' := gcx X A' s4 (upd H2 P (.tbl (ps ++ more))) (genEnv scope (cloFrom X.env.cells scope.names []) s4.heap.objs.size code builtinsNs X.env) fp) (A := X.A.in1.in1) hA' rfl rfl rfl rfl ok.co T
        (fun p hp z => by
          have e : p = _ := List.mem_singleton.mp hp
          rw [e] at z
          exact absurd (f4 _ z).2 (Nat.not_lt.mpr (Nat.le_succ _))) (hg A' s4 _ _ code fp) (he A' s4 _ _ code fp rA) turn (m + 1) _ _ m _ (Nat.lt_succ_self m) I6
        (T.keep _ _ _ st4 fun b _ o e => keep5 b o e) nfp w
    · intro H' s' J
      exact J3.call' (ch := fp) J.os J.base J.hok J.bare fun b hb => ⟨(f4 b hb).1.2.2.2.1, (f4 b hb).1.2.1, (f4 b hb).1.2.2.2.2.1, (f4 b hb).1.2.2.2.2.2⟩
  cases hf : codeAmong gpos ps.toList with
  | none =>
    refine wpAny_genexprCodeX hcode (cd.code hPs ht) (cd.tab hPs) hf fun c' h' tk hx hge hlt hco' _ htab' _ => ?_
    obtain ⟨o1, vs, f1, tf, fl, tg, inF, tx, tt, op, _, _, _, _, _, _, _, _, _, htr, _⟩ := hco'
    exact cont _ h' tk _ hx htab'.2 ⟨_, rfl⟩ htr
  | some cv =>
    refine wpAny_genexprCode_hit hcode (cd.code hPs ht) hf ?_
    exact cont cv s2.heap s2.toks ps (Heap.ExtBut.refl _ _) hPs ⟨#[], by simp⟩ ht
end

/-! ### any, all -/
/-- the reading: the walked thing, then the table may have grown; W by the turn and a measure -/
def tGen (stop : Bool) (P : Addr) (wi : TI) (g : TG) (te : TE) (vs : List Nat) : TE := fun σ H Q => wi σ H fun J H1 => TabG H1 P ∧ ∀ H2, Tabbed P H1 H2 → ∃ W : Nat → Nat → Hp → Prop, (∃ m, W 0 m H2) ∧
  TurnG J g te (wipe σ vs) vs stop (fun H' => Q (.bl stop) H') (fun H' => Q (.bl (!stop)) H') W
section
variable {X : Cx} {c P : Addr} {elt tg iter : Expr} {p pos gpos : Pos} {scope : Scope} {own : List (Str × Nat)} {wi : TI} {g : TG} {te : TE} {k : Nat}
theorem pe_all (hr : Room (k + 1) X.A) (hgl : Gl X "all") (hm : X.mg "all" = none) (TB : TabB X.base X.mg c P) (hcode : X.env.code = .ref c) (hN : X.N.Nodup) (ok : GOk X.N X.env.scope scope own) (hi : PI X tg iter wi)
    (hg : ∀ (A' : Around) (s : Shared) (H : Hp) (C : Addr) (code : Value) (fp : List Addr), PG (gcx X A' s H (genEnv scope (cloFrom X.env.cells scope.names []) C code builtinsNs X.env) fp) tg g)
    (he : ∀ (A' : Around) (s : Shared) (H : Hp) (C : Addr) (code : Value) (fp : List Addr), Room k A' → PE (gcx X A' s H (genEnv scope (cloFrom X.env.cells scope.names []) C code builtinsNs X.env) fp) elt te)
    (hs : ∀ v, genFold iter X.env v = pure v := by intro _; rfl)
    (hst : starEach [.GeneratorExp elt [⟨tg, iter, [], 0⟩] scope gpos] X.env = (false, eval (.GeneratorExp elt [⟨tg, iter, [], 0⟩] scope gpos) X.env) :: starEach [] X.env := by rfl) :
    PE X (.Call (.Name "all" p) [.GeneratorExp elt [⟨tg, iter, [], 0⟩] scope gpos] [] pos) (tGen false P wi g te (own.map (·.2))) := by
  refine ⟨fun pins s σ H Q I h => ?_⟩
  refine wpAny_Call_Name_kw (ld_blt I hgl hm (show bootBuiltins "all" = some (.builtin "all") by decide +kernel) ?_)
  refine PyProof.Rows.callWith_builtin1 ?_ hst (by rfl)
  rw [hst]
  show wpAny _ _ (spliced ((false, eval (.GeneratorExp elt [⟨tg, iter, [], 0⟩] scope gpos) X.env) :: backTo pos (starEach [] X.env))) _ _ s
  refine Calls.spliced_cons (gen_make hr TB hcode hN ok hi hg he hs I h fun u s5 hG => ?_)
  obtain ⟨a, gn, n, gs, go, X', pn, σw, rfl, e1, e2, hpn, hgen, hig, hl, hgs, hgo, back⟩ := hG
  refine Calls.spliced_nil ?_
  refine call_function_tree F.kind_all F.plain_all F.entry_all (F.args_all1 _) ?_
  unfold Builtin.«all»
  refine wpAny_bind (m := oneArg "all" _) (wpAny_pure ?_)
  refine wpAny_bind (wpAny_pyIter_gen hig ?_)
  refine wpAny_pure ⟨plainId_quiet F.plain_all_loop _, ?_⟩
  rw [← e1, ← e2] at hgo ⊢
  refine all_loop (X' := X') (A := X.A) hr.hd (by have := hr.dp; omega) hpn hgen (fun b H' s' J q1 q2 => ?_) n s5 gs hig hl hgs hgo
  refine ⟨.bl b, H', back H' s' J, rfl, ?_⟩
  cases b with
  | true => exact q1 rfl
  | false => exact q2 rfl
theorem pe_any (hr : Room (k + 1) X.A) (hgl : Gl X "any") (hm : X.mg "any" = none) (TB : TabB X.base X.mg c P) (hcode : X.env.code = .ref c) (hN : X.N.Nodup) (ok : GOk X.N X.env.scope scope own) (hi : PI X tg iter wi)
    (hg : ∀ (A' : Around) (s : Shared) (H : Hp) (C : Addr) (code : Value) (fp : List Addr), PG (gcx X A' s H (genEnv scope (cloFrom X.env.cells scope.names []) C code builtinsNs X.env) fp) tg g)
    (he : ∀ (A' : Around) (s : Shared) (H : Hp) (C : Addr) (code : Value) (fp : List Addr), Room k A' → PE (gcx X A' s H (genEnv scope (cloFrom X.env.cells scope.names []) C code builtinsNs X.env) fp) elt te)
    (hs : ∀ v, genFold iter X.env v = pure v := by intro _; rfl)
    (hst : starEach [.GeneratorExp elt [⟨tg, iter, [], 0⟩] scope gpos] X.env = (false, eval (.GeneratorExp elt [⟨tg, iter, [], 0⟩] scope gpos) X.env) :: starEach [] X.env := by rfl) :
    PE X (.Call (.Name "any" p) [.GeneratorExp elt [⟨tg, iter, [], 0⟩] scope gpos] [] pos) (tGen true P wi g te (own.map (·.2))) := by
  refine ⟨fun pins s σ H Q I h => ?_⟩
  refine wpAny_Call_Name_kw (ld_blt I hgl hm boot_any ?_)
  refine PyProof.Rows.callWith_builtin1 ?_ hst (by rfl)
  rw [hst]
  show wpAny _ _ (spliced ((false, eval (.GeneratorExp elt [⟨tg, iter, [], 0⟩] scope gpos) X.env) :: backTo pos (starEach [] X.env))) _ _ s
  refine Calls.spliced_cons (gen_make hr TB hcode hN ok hi hg he hs I h fun u s5 hG => ?_)
  obtain ⟨a, gn, n, gs, go, X', pn, σw, rfl, e1, e2, hpn, hgen, hig, hl, hgs, hgo, back⟩ := hG
  refine Calls.spliced_nil ?_
  refine call_function_tree F.kind_any F.plain_any F.entry_any (F.args_any1 _) ?_
  unfold Builtin.«any»
  refine wpAny_bind (m := oneArg "any" _) (wpAny_pure ?_)
  refine wpAny_bind (wpAny_pyIter_gen hig ?_)
  refine wpAny_pure ⟨plainId_quiet F.plain_any_loop _, ?_⟩
  rw [← e1, ← e2] at hgo ⊢
  refine any_loop (X' := X') (A := X.A) hr.hd (by have := hr.dp; omega) hpn hgen (fun b H' s' J q1 q2 => ?_) n s5 gs hig hl hgs hgo
  refine ⟨.bl b, H', back H' s' J, rfl, ?_⟩
  cases b with
  | false => exact q1 rfl
  | true => exact q2 rfl
end

/-! ### the forms one uses: over a tuple, a list, a range -/
section
variable {K : PySem.W.Frag} {g : TG} {te : TE} {σw : L2.St} {vs : List Nat} {stop : Bool} {Qf Qe : Hp → Prop}
theorem gen_tup {a : Addr} {xs : List V} {H2 : Hp} (Pv : Nat → Hp → Prop) (h0 : Pv 0 H2) (hl : ∀ i H, i ≤ xs.length → Pv i H → SqT K H a xs)
    (hs : ∀ i x H, xs[i]? = some x → Pv i H → g x σw H fun σ2 H2 => wipe σ2 vs = σw ∧ te σ2 H2 fun y H3 => ∃ b, y = .bl b ∧ (b = stop → Qf H3) ∧ (b = !stop → Pv (i + 1) H3))
    (hd : ∀ H, Pv xs.length H → Qe H) : ∃ W : Nat → Nat → Hp → Prop, (∃ m, W 0 m H2) ∧ TurnG (Itt K a) g te σw vs stop Qf Qe W := by
  refine ⟨fun i m H => m = xs.length - i ∧ i ≤ xs.length ∧ Pv i H, ⟨xs.length, by simp, Nat.zero_le _, h0⟩, ?_⟩
  rintro i m H ⟨rfl, hi, p⟩
  have q := hl i H hi p
  by_cases hlt : i < xs.length
  · refine .inr ⟨⟨xs, xs[i], q, by simp [hlt]⟩, Pv (i + 1), fun H' p' => ⟨xs.length - (i + 1), by omega, rfl, hlt, p'⟩, fun x H' y => ?_⟩
    obtain ⟨e, y⟩ := y
    subst e
    exact hs i x _ (y xs q) p
  · have e : i = xs.length := by omega
    subst e
    exact .inl ⟨⟨xs, q, Nat.le_refl _⟩, hd H p⟩
theorem gen_list {a : Addr} {xs : List V} {H2 : Hp} (Pv : Nat → Hp → Prop) (h0 : Pv 0 H2) (hl : ∀ i H, i ≤ xs.length → Pv i H → SqL K H a xs)
    (hs : ∀ i x H, xs[i]? = some x → Pv i H → g x σw H fun σ2 H2 => wipe σ2 vs = σw ∧ te σ2 H2 fun y H3 => ∃ b, y = .bl b ∧ (b = stop → Qf H3) ∧ (b = !stop → Pv (i + 1) H3))
    (hd : ∀ H, Pv xs.length H → Qe H) : ∃ W : Nat → Nat → Hp → Prop, (∃ m, W 0 m H2) ∧ TurnG (Itl K a) g te σw vs stop Qf Qe W := by
  refine ⟨fun i m H => m = xs.length - i ∧ i ≤ xs.length ∧ Pv i H, ⟨xs.length, by simp, Nat.zero_le _, h0⟩, ?_⟩
  rintro i m H ⟨rfl, hi, p⟩
  have q := hl i H hi p
  by_cases hlt : i < xs.length
  · refine .inr ⟨⟨xs, xs[i], q, by simp [hlt]⟩, Pv (i + 1), fun H' p' => ⟨xs.length - (i + 1), by omega, rfl, hlt, p'⟩, fun x H' y => ?_⟩
    obtain ⟨e, y⟩ := y
    subst e
    exact hs i x _ (y xs q) p
  · have e : i = xs.length := by omega
    subst e
    exact .inl ⟨⟨xs, q, Nat.le_refl _⟩, hd H p⟩
theorem gen_range {lo : Int} {n : Nat} {H2 : Hp} (Pv : Nat → Hp → Prop) (h0 : Pv 0 H2)
    (hs : ∀ i H, i < n → Pv i H → g (.int (lo + i)) σw H fun σ2 H2 => wipe σ2 vs = σw ∧ te σ2 H2 fun y H3 => ∃ b, y = .bl b ∧ (b = stop → Qf H3) ∧ (b = !stop → Pv (i + 1) H3))
    (hd : ∀ H, Pv n H → Qe H) : ∃ W : Nat → Nat → Hp → Prop, (∃ m, W 0 m H2) ∧ TurnG (Itr lo n) g te σw vs stop Qf Qe W := by
  refine ⟨fun i m H => m = n - i ∧ i ≤ n ∧ Pv i H, ⟨n, by simp, Nat.zero_le _, h0⟩, ?_⟩
  rintro i m H ⟨rfl, hi, p⟩
  by_cases hlt : i < n
  · refine .inr ⟨hlt, Pv (i + 1), fun H' p' => ⟨n - (i + 1), by omega, rfl, hlt, p'⟩, fun x H' y => ?_⟩
    obtain ⟨e, y⟩ := y
    subst e y
    exact hs i _ hlt p
  · have e : i = n := by omega
    subst e
    exact .inl ⟨Nat.le_refl _, hd H p⟩
end

/-! ### a def whose code's table is known -/
structure FunT (K : PySem.W.Frag) (x qual : Str) (st : Stmt) (f : Addr) (fd : FuncData) (c : Addr) : Prop where
  ex : ∃ (oc : Value) (od : Option Addr) (kV doc pm : Value) (an : Option Addr) (ct : Value) (osl : Array (Option Value)),
    fd = PySem.W.fnOf x qual (defArgs st) (defBody st) (defScope st) .none kV doc pm an (.ref c) ct ∧ K.lookup f = some ⟨oc, od, .func fd, osl⟩ ∧ PySem.W.codeIn K (.ref c) qual = true
  kp : PySem.W.keepIn K (.ref f) = true
section
variable {P : Program} {w : World} {K : PySem.W.Frag} {mg : Str → Option Value} {base : Heap}
theorem FunT.toFun {x qual : Str} {st : Stmt} {f : Addr} {fd : FuncData} {c : Addr} (F : FunT K x qual st f fd c) : Fun K x qual st f fd := by
  obtain ⟨oc, od, kV, doc, pm, an, ct, osl, rfl, lk, hcd⟩ := F.ex
  exact ⟨⟨oc, od, kV, doc, pm, an, _, ct, osl, rfl, lk, hcd⟩, F.kp⟩
theorem FunT.ok {x qual : Str} {st : Stmt} {f : Addr} {fd : FuncData} {c : Addr} {N ps : List Str} {k : Nat} {sp : Sp} (F : FunT K x qual st f fd c) (S : FnScope N ps (defScope st)) (len : ∀ vs H Q E, sp vs H Q E → vs.length = ps.length)
    (hbody : ∀ (A : Around) (outer : List Env) (s : Shared) (H : Hp) (vs : List V) (Q : VK) (E : XK), Room k (A.deeper (envOfC qual (defScope st) s.heap.objs.size f (.ref c))) → sp vs H Q E →
      ∃ t, PSs (cxOf CX0 P w K mg base N qual (defScope st) f (.ref c) A outer s H E).nox (defBody st) t ∧ t { nx := fun _ H' => Q .non H', rt := Q } (start N vs) H) : FnOk P w K mg base CX0 (k + 1) f fd ps sp := by
  obtain ⟨oc, od, kV, doc, pm, an, ct, osl, rfl, lk, hcd⟩ := F.ex
  refine fn_of lk hcd S len fun A outer s H vs Q E hr hsp => ?_
  obtain ⟨t, h, q⟩ := hbody A outer s H vs Q E hr hsp
  exact ⟨t, h.nox, q⟩
theorem funT_mk {x qual : Str} {st : Stmt} {f : Addr} {oc : Value} {od an : Option Addr} {osl : Array (Option Value)} {kV doc pm ct : Value} {c : Addr} (l : K.lookup f = some ⟨oc, od, .func (PySem.W.fnOf x qual (defArgs st) (defBody st) (defScope st) .none kV doc pm an (.ref c) ct), osl⟩)
    (hc : PySem.W.codeIn K (.ref c) qual = true) (k : PySem.W.keepIn K (.ref f) = true) : FunT K x qual st f (PySem.W.fnOf x qual (defArgs st) (defBody st) (defScope st) .none kV doc pm an (.ref c) ct) c := ⟨⟨oc, od, kV, doc, pm, an, ct, osl, rfl, l, hc⟩, k⟩
end
end GA

set_option Elab.async false
set_option linter.all false
set_option maxRecDepth 100000
set_option maxHeartbeats 4000000
/-! Data of any depth in the abstract heap; what a call keeps; the law's stream. -/
namespace KD
open PySem PySem.Spec PyProof.Rows L2 GxR GA

/-! ### data in the heap: lists that stand at M may change, so no datum is at one -/
mutual
inductive At (M : Addr → Prop) (H : Hp) : V → PyData → Prop
  | non : At M H .non .none
  | bl (b : Bool) : At M H (.bl b) (.bool b)
  | int (i : Int) : At M H (.int i) (.int i)
  | str (x : Str) : At M H (.str x) (.str x)
  | lst {a : Addr} {xs : List V} {ds : List PyData} : H a = some (.lst xs) → ¬ M a → AtL M H xs ds → At M H (.ref a) (.list ds)
  | tup {a : Addr} {xs : List V} {ds : List PyData} : H a = some (.tup xs) → AtL M H xs ds → At M H (.ref a) (.tuple ds)
inductive AtL (M : Addr → Prop) (H : Hp) : List V → List PyData → Prop
  | nil : AtL M H [] []
  | cons {v : V} {vs : List V} {d : PyData} {ds : List PyData} : At M H v d → AtL M H vs ds → AtL M H (v :: vs) (d :: ds)
end
/-- what a call keeps -/
structure Kp (M : Addr → Prop) (H H' : Hp) : Prop where
  tup : ∀ b xs, H b = some (.tup xs) → H' b = some (.tup xs)
  lst : ∀ b xs, ¬ M b → H b = some (.lst xs) → H' b = some (.lst xs)
  frz : ∀ b o u, H b = some (.frz o u) → H' b = some (.frz o u)
  tbl : ∀ P, TabG H P → TabG H' P
abbrev MN : Addr → Prop := fun _ => False
section
variable {M M' : Addr → Prop} {H H' H2 : Hp}
theorem Kp.refl : Kp M H H := ⟨fun _ _ h => h, fun _ _ _ h => h, fun _ _ _ h => h, fun _ h => h⟩
theorem Kp.trans (a : Kp M H H') (b : Kp M H' H2) : Kp M H H2 := ⟨fun c xs h => b.tup c xs (a.tup c xs h), fun c xs n h => b.lst c xs n (a.lst c xs n h), fun c o u h => b.frz c o u (a.frz c o u h), fun P h => b.tbl P (a.tbl P h)⟩
theorem Kp.mono (a : Kp M H H') (h : ∀ b, M b → M' b) : Kp M' H H' := ⟨a.tup, fun b xs n => a.lst b xs fun z => n (h b z), a.frz, a.tbl⟩
theorem Kp.any (a : Kp MN H H') : Kp M H H' := a.mono fun _ z => z.elim
theorem Kp.new {p : Addr} {o : HO} (h : H p = none) : Kp M H (upd H p o) := by
  have n : ∀ b u, H b = some u → b ≠ p := fun b u e => ne_of_none e h
  refine ⟨fun b xs e => by rw [upd_ne (n b _ e)]; exact e, fun b xs _ e => by rw [upd_ne (n b _ e)]; exact e, fun b o u e => by rw [upd_ne (n b _ e)]; exact e, fun P ⟨ps, e, t⟩ => ⟨ps, by rw [upd_ne (n P _ e)]; exact e, t⟩⟩
theorem Kp.put {a : Addr} {xs ys : List V} (hm : M a) (h : H a = some (.lst xs)) : Kp M H (upd H a (.lst ys)) := by
  refine ⟨fun b zs e => by rw [upd_ne (ne_of e h (by intro z; cases z))]; exact e, fun b zs n e => ?_, fun b o u e => by rw [upd_ne (ne_of e h (by intro z; cases z))]; exact e, fun P ⟨ps, e, t⟩ => ⟨ps, by rw [upd_ne (ne_of e h (by intro z; cases z))]; exact e, t⟩⟩
  rw [upd_ne (fun z => n (by rw [z]; exact hm))]
  exact e
theorem Kp.tabbed {P : Addr} (hP : TabG H P) (h : Tabbed P H H') : Kp M H H' := by
  obtain ⟨ps, e, t⟩ := hP
  have n : ∀ b u, H b = some u → (∀ q, u ≠ .tbl q) → b ≠ P := fun b u z q y => by
    rw [y, e] at z
    exact q ps (Option.some.inj z).symm
  refine ⟨fun b xs z => by rw [h.2 b (n b _ z (by intro q y; cases y))]; exact z, fun b xs _ z => by rw [h.2 b (n b _ z (by intro q y; cases y))]; exact z, fun b o u z => by rw [h.2 b (n b _ z (by intro q y; cases y))]; exact z, fun P' ⟨ps', e', t'⟩ => ?_⟩
  by_cases hb : P' = P
  · rw [hb]; exact h.1
  · exact ⟨ps', by rw [h.2 P' hb]; exact e', t'⟩
/-- a write to a list that stood nowhere at the beginning -/
theorem Kp.putNew {a : Addr} {xs ys : List V} (k : Kp M H H') (hn : H a = none) (h : H' a = some (.lst xs)) : Kp M H (upd H' a (.lst ys)) := by
  have n : ∀ b u, H b = some u → b ≠ a := fun b u e => ne_of_none e hn
  refine ⟨fun b zs e => by rw [upd_ne (n b _ e)]; exact k.tup b zs e, fun b zs m e => by rw [upd_ne (n b _ e)]; exact k.lst b zs m e, fun b o u e => by rw [upd_ne (n b _ e)]; exact k.frz b o u e, fun P hP => ?_⟩
  obtain ⟨ps, e, t⟩ := k.tbl P hP
  exact ⟨ps, by rw [upd_ne (ne_of e h (by intro z; cases z))]; exact e, t⟩
theorem Kp.putFresh {a : Addr} {xs ys : List V} (k : Kp M H H') (hn : ∀ zs, H a ≠ some (.lst zs)) (h : H' a = some (.lst xs)) : Kp M H (upd H' a (.lst ys)) := by
  refine ⟨fun b zs e => ?_, fun b zs m e => ?_, fun b o u e => ?_, fun P hP => ?_⟩
  · have e' := k.tup b zs e
    rw [upd_ne (ne_of e' h (by intro z; cases z))]; exact e'
  · rw [upd_ne (fun z => hn zs (by rw [← z]; exact e))]; exact k.lst b zs m e
  · have e' := k.frz b o u e
    rw [upd_ne (ne_of e' h (by intro z; cases z))]; exact e'
  · obtain ⟨ps, e, t⟩ := k.tbl P hP
    exact ⟨ps, by rw [upd_ne (ne_of e h (by intro z; cases z))]; exact e, t⟩
theorem Kp.noLst {a : Addr} (k : Kp M H H') (hm : ¬ M a) (h : H' a = none) : ∀ zs, H a ≠ some (.lst zs) := fun zs e => by
  rw [k.lst a zs hm e] at h
  cases h
theorem Kp.seqL {K : PySem.W.Frag} {a : Addr} {xs : List V} (k : Kp M H H') (hm : ¬ M a) (h : SqL K H a xs) : SqL K H' a xs := by
  rcases h with (h | ⟨o, h⟩) | h
  · exact .inl (.inl (k.lst _ _ hm h))
  · exact .inl (.inr ⟨o, k.frz _ _ _ h⟩)
  · exact .inr h
theorem Kp.seqT {K : PySem.W.Frag} {a : Addr} {xs : List V} (k : Kp M H H') (h : SqT K H a xs) : SqT K H' a xs := by
  rcases h with (h | ⟨o, h⟩) | h
  · exact .inl (.inl (k.tup _ _ h))
  · exact .inl (.inr ⟨o, k.frz _ _ _ h⟩)
  · exact .inr h
mutual
theorem At.kp (k : Kp M H H') : ∀ {d : PyData} {v : V}, At M H v d → At M H' v d
  | .none, _, h => by cases h; exact .non
  | .bool b, _, h => by cases h; exact .bl b
  | .int i, _, h => by cases h; exact .int i
  | .str x, _, h => by cases h; exact .str x
  | .list ds, _, h => by
    cases h with
    | lst e n r => exact .lst (k.lst _ _ n e) n (AtL.kp k r)
  | .tuple ds, _, h => by
    cases h with
    | tup e r => exact .tup (k.tup _ _ e) (AtL.kp k r)
  | .dict _, _, h => by cases h
theorem AtL.kp (k : Kp M H H') : ∀ {ds : List PyData} {vs : List V}, AtL M H vs ds → AtL M H' vs ds
  | [], _, h => by cases h; exact .nil
  | d :: ds, _, h => by
    cases h with
    | cons a r => exact .cons (At.kp k a) (AtL.kp k r)
end
mutual
theorem At.weak (w : ∀ a, M' a → M a) : ∀ {d : PyData} {v : V}, At M H v d → At M' H v d
  | .none, _, h => by cases h; exact .non
  | .bool b, _, h => by cases h; exact .bl b
  | .int i, _, h => by cases h; exact .int i
  | .str x, _, h => by cases h; exact .str x
  | .list ds, _, h => by
    cases h with
    | lst e n r => exact .lst e (fun z => n (w _ z)) (AtL.weak w r)
  | .tuple ds, _, h => by
    cases h with
    | tup e r => exact .tup e (AtL.weak w r)
  | .dict _, _, h => by cases h
theorem AtL.weak (w : ∀ a, M' a → M a) : ∀ {ds : List PyData} {vs : List V}, AtL M H vs ds → AtL M' H vs ds
  | [], _, h => by cases h; exact .nil
  | d :: ds, _, h => by
    cases h with
    | cons a r => exact .cons (At.weak w a) (AtL.weak w r)
end
theorem At.mn {d : PyData} {v : V} (h : At M H v d) : At MN H v d := h.weak fun _ z => z.elim
theorem AtL.mn {d : List PyData} {v : List V} (h : AtL M H v d) : AtL MN H v d := h.weak fun _ z => z.elim
mutual
theorem At.dp {K : PySem.W.Frag} : ∀ {d : PyData} {v : V}, At M H v d → Dp K H v d
  | .none, _, h => by cases h; exact .non
  | .bool b, _, h => by cases h; exact .bl b
  | .int i, _, h => by cases h; exact .int i
  | .str x, _, h => by cases h; exact .str x
  | .list ds, _, h => by
    cases h with
    | lst e n r => exact .lst (SqL.of e) (AtL.dp r)
  | .tuple ds, _, h => by
    cases h with
    | tup e r => exact .tup (SqT.of e) (AtL.dp r)
  | .dict _, _, h => by cases h
theorem AtL.dp {K : PySem.W.Frag} : ∀ {ds : List PyData} {vs : List V}, AtL M H vs ds → DpAll K H vs ds
  | [], _, h => by cases h; exact .nil
  | d :: ds, _, h => by
    cases h with
    | cons a r => exact .cons (At.dp a) (AtL.dp r)
end
theorem AtL.length : ∀ {ds : List PyData} {vs : List V}, AtL M H vs ds → vs.length = ds.length
  | [], _, h => by cases h; rfl
  | d :: ds, _, h => by
    cases h with
    | cons a r => exact congrArg (· + 1) (AtL.length r)
theorem AtL.get : ∀ {ds : List PyData} {vs : List V} {i : Nat} {v : V}, AtL M H vs ds → vs[i]? = some v → ∃ d, ds[i]? = some d ∧ At M H v d
  | [], _, i, v, h, e => by cases h; simp at e
  | d :: ds, _, 0, v, h, e => by
    cases h with
    | cons a r => simp at e; subst e; exact ⟨d, rfl, a⟩
  | d :: ds, _, i + 1, v, h, e => by
    cases h with
    | cons a r =>
      obtain ⟨d', h1, h2⟩ := AtL.get (i := i) r (by simpa using e)
      exact ⟨d', by simpa using h1, h2⟩
theorem AtL.get' {ds : List PyData} {vs : List V} {i : Nat} {d : PyData} (h : AtL M H vs ds) (e : ds[i]? = some d) : ∃ v, vs[i]? = some v ∧ At M H v d := by
  have hl := h.length
  obtain ⟨h1, _⟩ := List.getElem?_eq_some_iff.mp e
  have hv : vs[i]? = some (vs[i]'(by omega)) := List.getElem?_eq_getElem (by omega)
  obtain ⟨d', h2, h3⟩ := h.get hv
  rw [e] at h2; cases h2
  exact ⟨_, hv, h3⟩
theorem AtL.append : ∀ {ds es : List PyData} {vs us : List V}, AtL M H vs ds → AtL M H us es → AtL M H (vs ++ us) (ds ++ es)
  | [], _, _, _, h, g => by cases h; exact g
  | d :: ds, _, _, _, h, g => by
    cases h with
    | cons a r => exact .cons a (AtL.append r g)
theorem AtL.one {d : PyData} {v : V} (h : At M H v d) : AtL M H [v] [d] := .cons h .nil
theorem AtL.drop : ∀ {ds : List PyData} {vs : List V} (n : Nat), AtL M H vs ds → AtL M H (vs.drop n) (ds.drop n)
  | _, _, 0, h => h
  | [], _, n + 1, h => by cases h; exact .nil
  | d :: ds, _, n + 1, h => by
    cases h with
    | cons a r => exact AtL.drop n r
theorem AtL.take : ∀ {ds : List PyData} {vs : List V} (n : Nat), AtL M H vs ds → AtL M H (vs.take n) (ds.take n)
  | _, _, 0, h => .nil
  | [], _, n + 1, h => by cases h; exact .nil
  | d :: ds, _, n + 1, h => by
    cases h with
    | cons a r => exact .cons a (AtL.take n r)
theorem AtL.rev : ∀ {ds : List PyData} {vs : List V}, AtL M H vs ds → AtL M H vs.reverse ds.reverse
  | [], _, h => by cases h; exact .nil
  | d :: ds, _, h => by
    cases h with
    | cons a r => rw [List.reverse_cons, List.reverse_cons]; exact (AtL.rev r).append (.one a)
theorem AtL.ints : ∀ ns : List Int, AtL M H (ns.map V.int) (ns.map PyData.int)
  | [] => .nil
  | n :: r => .cons (.int n) (AtL.ints r)
theorem AtL.bls : ∀ ns : List Bool, AtL M H (ns.map V.bl) (ns.map PyData.bool)
  | [] => .nil
  | n :: r => .cons (.bl n) (AtL.bls r)
/-- a datum's value tells its scalar -/
theorem At.int_of {v : V} {i : Int} (h : At M H v (.int i)) : v = .int i := by cases h; rfl
theorem At.str_of {v : V} {i : Str} (h : At M H v (.str i)) : v = .str i := by cases h; rfl
theorem At.tup_of {v : V} {ds : List PyData} (h : At M H v (.tuple ds)) : ∃ a xs, v = .ref a ∧ H a = some (.tup xs) ∧ AtL M H xs ds := by
  cases h with
  | tup e r => exact ⟨_, _, rfl, e, r⟩
theorem At.lst_of {v : V} {ds : List PyData} (h : At M H v (.list ds)) : ∃ a xs, v = .ref a ∧ H a = some (.lst xs) ∧ ¬ M a ∧ AtL M H xs ds := by
  cases h with
  | lst e n r => exact ⟨_, _, rfl, e, n, r⟩
end

/-! ### the kind of a value -/
def isI : PyData → Bool
  | .int _ => true
  | _ => false
def isTup : PyData → Bool
  | .tuple _ => true
  | _ => false
def isLst : PyData → Bool
  | .list _ => true
  | _ => false
def isB : PyData → Bool
  | .bool _ => true
  | _ => false
def isS : PyData → Bool
  | .str _ => true
  | _ => false
def tyD : PyData → String
  | .none => "NoneType"
  | .bool _ => "bool"
  | .int _ => "int"
  | .str _ => "str"
  | .list _ => "list"
  | .tuple _ => "tuple"
  | .dict _ => "dict"
theorem At.ty {K : PySem.W.Frag} {M : Addr → Prop} {H : Hp} {v : V} {d : PyData} (h : At M H v d) : TyX K H v (.type (tyD d)) := by
  cases h with
  | non => exact .base .non
  | bl b => exact .base (.bl b)
  | int i => exact .base (.int i)
  | str x => exact .base (.str x)
  | lst e n r => exact .base (.lst e)
  | tup e r => exact .base (.tup e)
/-- isinstance(v, int) and the like -/
theorem kit_int {K : PySem.W.Frag} (d : PyData) : PySem.W.kitOne K (.type (tyD d)) (.type "int") = some (isI d || isB d) := by
  cases d <;> (refine kit_ty ?_; simp only [tyD, isI, isB, isS, isTup, isLst]; decide +kernel)
theorem kit_bool {K : PySem.W.Frag} (d : PyData) : PySem.W.kitOne K (.type (tyD d)) (.type "bool") = some (isB d) := by
  cases d <;> (refine kit_ty ?_; simp only [tyD, isI, isB, isS, isTup, isLst]; decide +kernel)
theorem kit_tup {K : PySem.W.Frag} (d : PyData) : PySem.W.kitOne K (.type (tyD d)) (.type "tuple") = some (isTup d) := by
  cases d <;> (refine kit_ty ?_; simp only [tyD, isI, isB, isS, isTup, isLst]; decide +kernel)
theorem kit_lst {K : PySem.W.Frag} (d : PyData) : PySem.W.kitOne K (.type (tyD d)) (.type "list") = some (isLst d) := by
  cases d <;> (refine kit_ty ?_; simp only [tyD, isI, isB, isS, isTup, isLst]; decide +kernel)
theorem kit_str {K : PySem.W.Frag} (d : PyData) : PySem.W.kitOne K (.type (tyD d)) (.type "str") = some (isS d) := by
  cases d <;> (refine kit_ty ?_; simp only [tyD, isI, isB, isS, isTup, isLst]; decide +kernel)
end KD

set_option Elab.async false
set_option linter.all false
set_option maxRecDepth 100000
set_option maxHeartbeats 4000000
/-! Rules that the hand layer lacks: sorted(tuple of ints), x in tuple of data, t[::-1]. -/
namespace KR
open PySem PySem.Spec PyProof.Rows L2 GxR GA KD
section
variable {prog : Program} {w : World} {A : Around} {E : Value → Shared → Prop} {s : Shared}
theorem sorted_tup {t : Addr} {vs : List Value} {ns : List Int} {Q : Value → Shared → Prop} (ht : IsTup s.heap t vs.toArray) (hI : IntsAre vs ns) (h64 : vs.length < 64)
    (h : ∀ (out : List Value) (ns' : List Int) (h1 h' : Heap) (a : Addr) (e : Nat), IntsAre out ns' → ns'.Perm ns → ns'.Pairwise (· ≤ ·) → (∀ b o, s.heap.get? b = some o → h1.get? b = some o) → (∀ b o, h1.get? b = some o → h'.get? b = some o) → h1.objs.size ≤ a → h'.get? a = some (seqObj "list" out.toArray e) → Q (.ref a) { s with heap := h' }) :
    wpAny (model prog w) A (call (.builtin "sorted") [.ref t]) Q E s := by
  obtain ⟨o, ho, hc, n, hd⟩ := id ht
  refine Calls.call_function_entry kind_sorted plain_sorted entry_sorted (args_sorted1 _) ?_
  unfold Builtin.«sorted»
  refine wpAny_bind (m := checkCount "sorted" 1 1 _) (wpAny_pure ?_)
  refine wpAny_bind (wpAny_collect_seq t (.inr rfl) ho hc hd (fun h1 k1 => ?_) (by rw [List.size_toArray]; exact small64 h64))
  refine wpAny_bind (wpAny_newList ?_ (by show _ ≤ _; exact small64 h64))
  have hoL : (h1.push (seqObj "list" vs.toArray 0)).get? h1.objs.size = some (seqObj "list" vs.toArray 0) := Heap.get?_push_size _ rfl
  have k2 : ∀ b o, h1.get? b = some o → b < h1.objs.size ∧ (h1.push (seqObj "list" vs.toArray 0)).get? b = some o := fun b o e => ⟨Heap.lt_size e, Heap.get?_push_of_some _ e⟩
  refine wpAny_bind (wpAny_holding (wpAny_call_entry slot_list_sort ⟨_, hoL, rfl⟩ entry_list_sort (list_sort_tree hoL hI h64 fun out ns' a1 a2 a3 => ⟨_, rfl, ?_⟩) (args_list_sort _)))
  refine wpAny_pure ⟨_, rfl, ?_⟩
  obtain ⟨e, he⟩ := sortedHeap_at (out := out) hoL
  refine h out.toList ns' h1 _ _ e a1 a2 a3 k1 (fun b o q => ?_) (Nat.le_refl _) (by simpa using he)
  obtain ⟨q1, q2⟩ := k2 b o q
  rw [sortedHeap_old (Nat.ne_of_lt q1) (by rw [size_push']; exact Nat.lt_succ_of_lt q1)]
  exact q2
end
section
variable {X : Cx}
def rSortedTp (K : PySem.W.Frag) : List V → Hp → VK → Prop := fun vs H Q => ∃ (a : Addr) (ns : List Int), vs = [V.ref a] ∧ SqT K H a (ns.map V.int) ∧ ns.length < 64 ∧ ∀ (ns' : List Int) (p : Addr), ns'.Perm ns → ns'.Pairwise (· ≤ ·) → H p = none → Q (.ref p) (upd H p (.lst (ns'.map V.int)))
theorem cr_sortedTp : CallR X (.builtin "sorted") (rSortedTp X.K) := by
  intro pins s σ H vs us Q I r h
  obtain ⟨a, ns, rfl, hs, h64, q⟩ := h
  obtain ⟨its, rv, hl, _⟩ := I.tuple hs
  rw [Vals.ref1 r]
  have hi := rv.ints
  refine sorted_tup hl hi (by rw [hi.length]; exact h64) fun out ns' hh h' p e h1 h2 h3 hk0 hk hp he => ?_
  have I1 := I.kept (t' := s.toks) hk0
  have hlen : (ns'.map V.int).length ≤ sizeLine := by rw [List.length_map, h2.length_eq]; exact small64 h64
  exact ⟨.ref _, upd H p (.lst (ns'.map V.int)), I1.laid (t' := s.toks) hk hp ⟨hlen, out, e, vals_of_ints h1, he⟩, rfl, q ns' _ h2 h3 (I1.hok.fresh hp)⟩
def rInT (K : PySem.W.Frag) (neg : Bool) : R2 := fun x y H Q => ∃ d ds, Dp K H x d ∧ Dp K H y (.tuple ds) ∧ SeqAt.shaped d = true ∧ SeqAt.shaped (.tuple ds) = true ∧ Q (.bl (if neg then !(ds.any fun z => PyData.eqv z d) else ds.any fun z => PyData.eqv z d)) H
theorem op_inT (hu : X.A.units + 65 < cLine) : OpR X (compareOp .In) (rInT X.K false) := by
  intro pins s σ H x y v u Q I rx ry h
  obtain ⟨d, ds, hd, he, sd, se, q⟩ := h
  obtain ⟨as, r1⟩ := Dp.reads I d x v hd rx
  obtain ⟨bs, r2⟩ := Dp.reads I (.tuple ds) y u he ry
  exact SeqAt.in_tuple_reads r2 r1 (SeqAt.canLay_of_shaped se) (SeqAt.canLay_of_shaped sd) (room_in_shaped sd hu) ⟨.bl _, H, I, rfl, q⟩
theorem op_notInT (hu : X.A.units + 65 < cLine) : OpR X (compareOp .NotIn) (rInT X.K true) := by
  intro pins s σ H x y v u Q I rx ry h
  obtain ⟨d, ds, hd, he, sd, se, q⟩ := h
  obtain ⟨as, r1⟩ := Dp.reads I d x v hd rx
  obtain ⟨bs, r2⟩ := Dp.reads I (.tuple ds) y u he ry
  exact SeqAt.notIn_tuple_reads r2 r1 (SeqAt.canLay_of_shaped se) (SeqAt.canLay_of_shaped sd) (room_in_shaped sd hu) ⟨.bl _, H, I, rfl, q⟩
end

/-! ### t[::-1] -/
section
variable {prog : Program} {w : World} {A : Around} {E : Value → Shared → Prop} {s : Shared}
theorem getItem_tuple_rev {t sl : Addr} {items : Array Value} {vs : Value} {Q : Value → Shared → Prop} (ht : IsTup s.heap t items) (hs : s.heap.IsSliceOf sl .none .none vs) (ps : IsPart vs (some (-1)))
    (h : Q (.ref s.heap.objs.size) { s with heap := s.heap.push { cls := .type "tuple", data := .seq items.toList.reverse.toArray } })
    (hsz : items.size ≤ sizeLine) : wpAny (model prog w) A (getItem (.ref t) (.ref sl)) Q E s := by
  have htake : sizeOk (.seq items.toList.reverse.toArray) := by
    show items.toList.reverse.toArray.size ≤ sizeLine
    rw [List.size_toArray, List.length_reverse, Array.length_toList]
    omega
  obtain ⟨os, hos, hcs, hds⟩ := id hs
  have hTs : s.TypeIs (.ref sl) "slice" := ⟨os, hos, hcs⟩
  unfold getItem
  try with_reducible refine wpAny_holding ?_
  first | refine wpAny_bind (wpAny_pure ?_) | skip
  refine wpAny_bind (wpAny_sequenceKey ht.typeIs (by decide) ?_)
  refine wpAny_bind (wpAny_callSpecial?_slot (name := Str.ofString "__getitem__") ht.typeIs PyProof.Rows.slot_tuple_getitem
    (wpAny_call_entry PyProof.Rows.slot_tuple_getitem ht.typeIs entry_tuple_getitem ?_ (args_tuple_getitem _ _)))
  show wpAny _ _ (Builtin.Tuple.tupleItemsOf (.ref t) >>= _) _ _ s
  refine wpAny_bind (tupleItemsOf_ ht ?_)
  refine wpAny_bind (wpAny_typeOf hTs ?_)
  rw [if_pos (by decide)]
  have adj : Builtin.Slice.sliceAdjust none none (-1) (items.size : Int) = ((items.size : Int) - 1, -1) := by
    unfold Builtin.Slice.sliceAdjust
    simp
  have plc : Builtin.Slice.slicePlaces ((items.size : Int) - 1) (-1) (-1) = items.size := by
    unfold Builtin.Slice.slicePlaces
    simp
    try omega
  refine wpAny_bind ?_
  unfold Builtin.Slice.sliceApplied Builtin.Slice.sliceFields
  refine wpAny_bind (wpAny_bind (wpAny_field hos hds (x := .none) rfl (wpAny_bind (wpAny_field hos hds (x := .none) rfl (wpAny_bind (wpAny_field hos hds (x := vs) rfl (wpAny_pure ?_)))))))
  refine wpAny_bind (HT.slicePart_ ps ?_)
  show wpAny _ _ (if ((-1 : Int) == 0) = true then _ else _) _ _ s
  rw [if_neg (by decide)]
  refine wpAny_bind (HT.slicePart_ .none (wpAny_bind (HT.slicePart_ .none (wpAny_bind (wpAny_pure ?_)))))
  show wpAny _ _ (match Builtin.Slice.sliceAdjust none none (-1) (items.size : Int) with | (lo, hi) => pure (lo, (-1 : Int), Builtin.Slice.slicePlaces lo hi (-1))) _ _ s
  rw [adj]
  show wpAny _ _ (pure ((items.size : Int) - 1, (-1 : Int), Builtin.Slice.slicePlaces ((items.size : Int) - 1) (-1) (-1))) _ _ s
  rw [plc]
  refine wpAny_pure ?_
  show wpAny _ _ (if (((items.size : Int) - 1) == 0 && (-1 : Int) == 1 && items.size == items.size) = true then _ else _) _ _ s
  rw [if_neg (by
    intro q
    rw [Bool.and_eq_true, Bool.and_eq_true] at q
    exact absurd q.1.2 (by decide))]
  have pick : ((List.range items.size).filterMap fun (m : Nat) => items[((items.size : Int) - 1 + (m : Int) * (-1)).toNat]?).toArray = items.toList.reverse.toArray := by
    have e : (List.range items.size).filterMap (fun (m : Nat) => items[((items.size : Int) - 1 + (m : Int) * (-1)).toNat]?) = ((List.range items.size).map fun k => items.size - 1 - k).filterMap (items[·]?) := by
      rw [List.filterMap_map]
      have ef : (fun (m : Nat) => items[((items.size : Int) - 1 + (m : Int) * (-1)).toNat]?) = ((fun x => items[x]?) ∘ fun k => items.size - 1 - k) := by
        funext m
        have : ((items.size : Int) - 1 + (m : Int) * (-1)).toNat = items.size - 1 - m := by omega
        show items[((items.size : Int) - 1 + (m : Int) * (-1)).toNat]? = items[items.size - 1 - m]?
        rw [this]
      rw [ef]
    rw [e, PySem.W.krv_range, List.filterMap_reverse, PySem.W.krv_all]
  rw [pick]
  first
    | exact wpAny_bind (m := Builtin.Tuple.tupleExact _) (wpAny_newObj_type (wpAny_pure ⟨_, rfl, wpAny_pure h⟩) htake)
    | exact wpAny_bind (m := Builtin.Tuple.tupleExact _) (wpAny_newObj_type (wpAny_bind (wpAny_pure (wpAny_pure ⟨_, rfl, wpAny_pure h⟩))) htake)
    | exact wpAny_bind (wpAny_bind (m := Builtin.Tuple.tupleExact _) (wpAny_newObj_type (wpAny_pure (wpAny_pure ⟨_, rfl, wpAny_pure h⟩)) htake))
    | exact wpAny_bind (wpAny_bind (m := Builtin.Tuple.tupleExact _) (wpAny_newObj_type (wpAny_pure ⟨_, rfl, wpAny_pure h⟩) htake))
end
section
variable {X : Cx}
def tRevT (K : PySem.W.Frag) (te : TE) : TE := fun σ H Q => te σ H fun x H1 => ∃ a xs, x = .ref a ∧ SqT K H1 a xs ∧ ∀ p, H1 p = none → Q (.ref p) (upd H1 p (.tup xs.reverse))
theorem pe_revT {e : Expr} {te : TE} {k : Nat} {p1 p2 p3 pos : Pos} (he : PE X e te) : PE X (.Subscript e (.Slice none none (some (.UnaryOp .USub (.Constant (.int 1) k p1) p2)) p3) pos) (tRevT X.K te) := by
  refine ⟨fun pins s σ H Q I h => ?_⟩
  refine Subscript_ (thn (he.run pins s σ H _ I h) fun v s1 ⟨x, H1, I1, r1, q1⟩ => ?_)
  obtain ⟨a, xs, ex, hx, q⟩ := q1
  subst ex
  cases r1
  have hst : PO X (some (.UnaryOp .USub (.Constant (.int 1) k p1) p2)) (tPart (tUn (rU fun i => .int (-i)) (tC (.int 1)))) := po_some (pe_un un_neg pe_int)
  refine wpAny_Slice (thn (po_none.run pins s1 σ H1 (fun o H2 => o = none ∧ H2 = H1) I1 ⟨rfl, rfl⟩) fun vl s2 ⟨l, H2, I2, pl, el, e2⟩ => ?_)
  subst el e2
  refine thn (po_none.run pins s2 σ H2 (fun o H3 => o = none ∧ H3 = H2) I2 ⟨rfl, rfl⟩) fun vu s3 ⟨u, H3, I3, pu, eu, e3⟩ => ?_
  subst eu e3
  refine thn (hst.run pins s3 σ H3 (fun o H4 => o = some (-1) ∧ H4 = H3) I3 ⟨1, rfl, -1, rfl, rfl, rfl⟩) fun vs s4 ⟨o, H4, I4, ps, eo, e4⟩ => ?_
  subst eo e4
  cases pl
  cases pu
  have I5 : Inv X pins σ H4 { s4 with heap := s4.heap.push { cls := .type "slice", data := .fields #[.none, .none, vs] } } := I4.kept (t' := s4.toks) fun b ob q => Heap.get?_push_of_some _ q
  obtain ⟨its, r, ht, hz⟩ := I5.tuple hx
  have hlen := r.length
  show wpAny (model X.prog X.w) X.A (subscriptTail e (.Slice none none (some (.UnaryOp .USub (.Constant (.int 1) k p1) p2)) p3) (.ref a) (.ref s4.heap.objs.size)) (EP X pins σ Q) X.xe { s4 with heap := s4.heap.push { cls := .type "slice", data := .fields #[.none, .none, vs] } }
  refine tail_any (ops := [.ref a, .ref s4.heap.objs.size]) ht.typeIs PyProof.Rows.slot_tuple_getitem.lookup ?_ (by with_unfolding_all rfl)
  refine getItem_tuple_rev ht (Heap.IsSliceOf.new _ .none .none vs) ps ?_ (by rw [List.size_toArray]; omega)
  refine ⟨.ref _, _, I5.laid (t' := s4.toks) (o := .tup xs.reverse) (fun b ob q => Heap.get?_push_of_some _ q) (Nat.le_refl _) ?_, rfl, q _ (I5.hok.fresh (Nat.le_refl _))⟩
  exact ⟨by rw [List.length_reverse]; exact hz, _, r.reverse, IsTup.new _ _⟩
end
end KR

set_option Elab.async false
set_option linter.all false
set_option maxRecDepth 100000
set_option maxHeartbeats 4000000
/-! any, all of a generator expression of two clauses. -/
namespace GA
open PySem PySem.Spec PyProof.Rows L2 GenW GxR
abbrev ge2 (elt tg iter tg1 iter1 : Expr) (scope : Scope) (pos : Pos) : Expr := .GeneratorExp elt [⟨tg, iter, [], 0⟩, ⟨tg1, iter1, [], 0⟩] scope pos
theorem turn_outer (elt tg iter tg1 iter1 : Expr) (scope : Scope) (pos : Pos) (src acc : Value) (env : Env) : compTurn (ge2 elt tg iter tg1 iter1 scope pos) 0 src acc env = (do
    standAt iter.pos
    match ← pyNext src with
    | none => pure (.done .next)
    | some u =>
      letOwnedTupleGo tg src u
      assign tg env u
      let mut go := true
      for q in ([] : List Expr) do
        if go then go ← isTrue q env (eval q env)
      if go then
        let y ← eval iter1 env
        standAt iter1.pos
        let y ← foldedSetIterable iter1 env y
        let _ ← runOwn (.compStart (ge2 elt tg iter tg1 iter1 scope pos) 1 (← holding [y] (pyIter y)) acc env) env
      again (.compLoop (ge2 elt tg iter tg1 iter1 scope pos) 0 src acc env)) := by rfl
theorem turn_inner (elt tg iter tg1 iter1 : Expr) (scope : Scope) (pos : Pos) (src acc : Value) (env : Env) : compTurn (ge2 elt tg iter tg1 iter1 scope pos) 1 src acc env = (do
    standAt iter1.pos
    match ← pyNext src with
    | none => pure (.done .next)
    | some u =>
      letOwnedTupleGo tg1 src u
      assign tg1 env u
      let mut go := true
      for q in ([] : List Expr) do
        if go then go ← isTrue q env (eval q env)
      if go then
        (do let y ← eval elt env; standAt elt.pos; let _ ← yieldOut env y)
      again (.compLoop (ge2 elt tg iter tg1 iter1 scope pos) 1 src acc env)) := by rfl
theorem inv_around {X : Cx} {pins : List (Addr × Obj)} {σ : L2.St} {H : Hp} {s : Shared} {A1 : Around} (h1 : A1.handled = X.A.handled) (h2 : A1.frames = X.A.frames) (I : Inv X pins σ H s) : Inv { X with A := A1 } pins σ H s := by
  have o := I.ok
  exact ⟨⟨o.mod, o.kind, o.glob, o.blt, o.above, o.inj, o.has, o.cab, fun z => h1.trans (o.hd z), h2.trans o.frames, o.stk, o.exf, o.bs, o.bsz, o.noex, o.exfs, o.funs, o.frf⟩, I.os, I.bare, I.base, I.loc, I.cell, I.free, I.freeC, I.pin, I.hok, I.len⟩
theorem inv_home {X : Cx} {pins : List (Addr × Obj)} {σ : L2.St} {H : Hp} {s : Shared} {A1 : Around} (h1 : A1.handled = X.A.handled) (h2 : A1.frames = X.A.frames) (I : Inv { X with A := A1 } pins σ H s) : Inv X pins σ H s :=
  inv_around (X := { X with A := A1 }) (A1 := X.A) h1.symm h2.symm I
/-- what the turns of the two clauses ask; the measure runs through both -/
def Turn2 (J : It) (g : TG) (wi1 : TI) (g1 : TG) (te : TE) (σw : L2.St) (vs vs1 : List Nat) (stop : Bool) (Qf Qe : Hp → Prop) (W : Nat → Nat → Hp → Prop) : Prop := ∀ i m H, W i m H →
  (J.stop i H ∧ Qe H) ∨ (J.go i H ∧ ∀ x H', J.yld i H x H' → g x σw H' fun σ2 H2 => wipe σ2 vs = σw ∧ wi1 σ2 H2 fun J1 H3 => ∃ W1 : Nat → Nat → Hp → Prop, (∃ k, W1 0 k H3) ∧ (∀ j k H, W1 j k H → k < m) ∧ ∀ j k H, W1 j k H →
    (J1.stop j H ∧ ∃ m', m' ≤ k ∧ W (i + 1) m' H) ∨ (J1.go j H ∧ ∀ y H', J1.yld j H y H' → g1 y (wipe σ2 vs1) H' fun σ3 H4 => wipe σ3 vs1 = wipe σ2 vs1 ∧ te σ3 H4 fun z H5 => ∃ b, z = .bl b ∧ (b = stop → Qf H5) ∧ (b = !stop → ∃ k', k' < k ∧ W1 (j + 1) k' H5)))
section
variable {X' : Cx} {A : Around} {elt tg iter tg1 iter1 : Expr} {scope : Scope} {pos : Pos} {it it1 : Addr} {fp fp1 : List Addr} {tn tn1 : Nat → Heap → Prop} {K0 : PySem.W.Frag} {J J1 : It} {g g1 : TG} {wi1 : TI} {te : TE} {σw σ2 : L2.St} {vs vs1 : List Nat} {stop : Bool} {Qf Qe : Hp → Prop} {W W1 : Nat → Nat → Hp → Prop} {pn pn1 : List (Addr × Obj)}
/-- the inner loop, over the outer one's frame -/
theorem seg_in {fr : Frame} {A1 : Around} {R : GenEnd} {NxI : Nat → Hp → Prop} (hA : A.over (.compLoop (ge2 elt tg iter tg1 iter1 scope pos) 1 (.ref it1) .none X'.env) [fr] = A1) (h1 : A1.handled = X'.A.handled) (h2 : A1.frames = X'.A.frames)
    (hsp : splitAtGen [fr] = none) (hgd : [fr].any Frame.guarded = false) (hxe : X'.xe = fun _ _ => False) (hcalm : X'.calm = true) (hco : X'.env.scope.isCoroutine = false)
    (T1 : Turn X'.prog X'.w X'.K tg1 J1 fp1 it1 tn1) (pg1 : PG { X' with A := A1 } tg1 g1) (pe : PE { X' with A := A1 } elt te)
    (hst : ∀ H', (∀ b ∈ fp1, H' b = none) → ∀ b ∈ fp1, FpOk { X' with A := A1 } pn1 H' b)
    (hout : ∀ H s, Inv X' pn1 (wipe σ2 vs1) H s → Inv X' pn σw H s)
    (hend : ∀ n s₀ s k H, k < n → Inv X' pn1 (wipe σ2 vs1) H s → NxI k H → Seg (model X'.prog X'.w) A R (YA X' pn σw stop Qf) n s₀ (.compLoop (ge2 elt tg iter tg1 iter1 scope pos) 1 (.ref it1) .none X'.env) (.pure (.done .next)) [fr] s)
    (turn : ∀ j k H, W1 j k H → (J1.stop j H ∧ NxI k H) ∨ (J1.go j H ∧ ∀ y H', J1.yld j H y H' → g1 y (wipe σ2 vs1) H' fun σ3 H4 => wipe σ3 vs1 = wipe σ2 vs1 ∧ te σ3 H4 fun z H5 => ∃ b, z = .bl b ∧ (b = stop → Qf H5) ∧ (b = !stop → ∃ k', k' < k ∧ W1 (j + 1) k' H5))) :
    ∀ (n : Nat) (s₀ s : Shared) (j k : Nat) (H : Hp), k < n → Inv { X' with A := A1 } pn1 (wipe σ2 vs1) H s → tn1 j s.heap → (∀ b ∈ fp1, H b = none) → W1 j k H →
      Seg (model X'.prog X'.w) A R (YA X' pn σw stop Qf) n s₀ (.compLoop (ge2 elt tg iter tg1 iter1 scope pos) 1 (.ref it1) .none X'.env)
        ((model X'.prog X'.w).den (.compLoop (ge2 elt tg iter tg1 iter1 scope pos) 1 (.ref it1) .none X'.env)) [fr] s := by
  intro n
  induction n with
  | zero => intro s₀ s j k H hk; exact absurd hk (Nat.not_lt_zero _)
  | succ n ih =>
    intro s₀ s j k H hk I st nn w
    have hxe1 : ({ X' with A := A1 } : Cx).xe = fun _ _ => False := hxe
    show Seg _ A _ _ _ s₀ _ ((compTurn (ge2 elt tg iter tg1 iter1 scope pos) 1 (.ref it1) .none X'.env).onRaise (fun x => do noteFrame x X'.env; theTreesLotGoes x)) [fr] s
    rw [turn_inner, Sem.onRaise_eq_wrap]
    refine seg_bind_wrap (wpAny_standAt ?_)
    rcases turn j k H w with ⟨hstop, qe⟩ | ⟨hgo, step⟩
    · refine seg_bind_wrap ?_
      rw [hA]
      refine thnF (T1.done { X' with A := A1 } rfl rfl rfl hcalm j pn1 s _ H (fun _ _ => False) I (hst H nn) st hstop) fun r s1 ⟨hr, I1⟩ => ?_
      subst hr
      exact hend _ _ _ k H hk (inv_home h1 h2 I1) qe
    · refine seg_bind_wrap ?_
      rw [hA]
      refine thnF (T1.item { X' with A := A1 } rfl rfl rfl hcalm j pn1 s _ H (fun _ _ => False) I (hst H nn) st hgo) fun r s1 ⟨u, hr, h1'⟩ => ?_
      subst hr
      refine seg_bind_wrap ?_
      rw [hA]
      refine thnF h1' fun _ s2 ⟨x, H2, I2, r2, y2, st2, n2⟩ => ?_
      have I2' := I2.pinned (hst H2 n2) (T1.obj _ _ st2)
      refine seg_bind_wrap ?_
      rw [hA]
      have pgr := pg1.run _ s2 _ H2 x u _ I2' r2 (step x H2 y2)
      refine thnF (wpAny_mono pgr (fun _ _ q => q) fun e s' z => (by have z' : X'.xe e s' := z; rw [hxe] at z'; exact z')) fun _ s3 ⟨σ3, H3, I3, hw3, q3⟩ => ?_
      simp only [List.forIn_nil]
      refine seg_bind_wrap (wpAny_pure ?_)
      simp only [if_true]
      have hy : ∀ v, yieldOut X'.env v = yieldValue v := fun v => by simp only [yieldOut, hco, Bool.false_eq_true, if_false]
      simp only [hy]
      rw [Sem.bind_eq_wrap', Sem.bind_eq_wrap', Sem.wrap_wrap, Sem.wrap_wrap]
      refine seg_wrap ?_
      rw [hA]
      have per := pe.run _ s3 σ3 H3 _ I3 q3
      refine thnF (wpAny_mono per (fun _ _ q => q) fun e s' z => (by have z' : X'.xe e s' := z; rw [hxe] at z'; exact z')) fun yv s4 ⟨yV, H4, I4, r4, b, hyb, q4⟩ => ?_
      subst hyb
      have r4' : yv = Value.bool b := r4
      subst r4'
      have pin' : ∀ b ∈ fp1, ∀ o, s2.heap.get? b = some o → s4.heap.get? b = some o ∧ H4 b = none := fun b hb o e =>
        let z := I4.pin (b, o) (List.mem_append_right _ (List.mem_append_right _ (mem_pinsAt hb e)))
        ⟨z.1, z.2.1⟩
      have hl : (wipe σ2 vs1).length = σ3.length := by rw [← hw3, wipe_length]
      have I5 : Inv { X' with A := A1 } pn1 (wipe σ2 vs1) H4 s4 := (I4.unpinned (pins := pn1)).weak hl fun j v e => by
        rw [← hw3] at e
        exact (wipe_some e).1
      have st5 : tn1 (j + 1) s4.heap := T1.keep _ _ _ st2 fun b hb o e => (pin' b hb o e).1
      have n5 : ∀ b ∈ fp1, H4 b = none := fun b hb => by
        obtain ⟨o, e, _⟩ := T1.obj _ _ st2 b hb
        exact (pin' b hb o e).2
      refine seg_at (seg_yield hsp rfl hgd ⟨b, H4, rfl, hout H4 s4 (inv_home h1 h2 I5), ?_⟩)
      by_cases hb : b = stop
      · exact .inl ⟨hb, q4.1 hb⟩
      · have hb' : b = !stop := by
          cases b <;> cases stop <;> first | rfl | exact absurd rfl hb
        obtain ⟨k', hk', w'⟩ := q4.2 hb'
        refine .inr ⟨hb', fun s'' ⟨z1, z2, z3⟩ => ?_⟩
        refine seg_again rfl (ih s'' s'' (j + 1) k' H4 (by omega) (inv_gens I5 z1 z2 z3) (by rw [z1]; exact st5) n5 w')

theorem seg_start1 {fr : Frame} {src : Addr} {env : Env} {R : GenEnd} {Y : Protocol} {n : Nat} {s₀ s : Shared} {prog : Program} {w : World} {j : Nat} (T1 : Turn prog w K0 tg1 J1 fp1 src tn1) (st : tn1 j s.heap)
    (h : Seg (model prog w) A R Y n s₀ (.compLoop (ge2 elt tg iter tg1 iter1 scope pos) 1 (.ref src) .none env) ((model prog w).den (.compLoop (ge2 elt tg iter tg1 iter1 scope pos) 1 (.ref src) .none env)) [fr] s) :
    Seg (model prog w) A R Y n s₀ (.compStart (ge2 elt tg iter tg1 iter1 scope pos) 1 (.ref src) .none env) ((model prog w).den (.compStart (ge2 elt tg iter tg1 iter1 scope pos) 1 (.ref src) .none env)) [fr] s := by
  show Seg _ A _ _ _ s₀ _ ((compStart (ge2 elt tg iter tg1 iter1 scope pos) 1 (.ref src) .none env).onRaise (fun x => do noteFrame x env; standAt theWindowsPlace)) [fr] s
  unfold compStart
  rw [Sem.onRaise_eq_wrap]
  show Seg _ A _ _ _ s₀ _ ((ask >>= _).wrap _ _ _ _) [fr] s
  refine seg_bind_wrap (wpAny_askSetting ?_)
  split
  · exact seg_again rfl h
  · first
      | exact seg_bind_wrap (wpAny_rule (seg_bind_wrap (wpAny_standAt (seg_bind_wrap (T1.self _ j s _ _ st (seg_again rfl h))))))
      | (refine seg_bind_wrap (wpAny_rule ?_); show Seg _ A _ _ _ s₀ _ ((standAt iter1.pos >>= _).wrap _ _ _ _) [fr] s; exact seg_bind_wrap (wpAny_standAt (seg_bind_wrap (T1.self _ j s _ _ st (seg_again rfl h)))))
/-- the outer loop -/
theorem seg_out (hA : A.over (.compLoop (ge2 elt tg iter tg1 iter1 scope pos) 0 (.ref it) .none X'.env) [] = X'.A) (hhd : X'.A.handled = none) (hex : X'.ex = fp) (hpn0 : X'.pn = []) (hxe : X'.xe = fun _ _ => False) (hcalm : X'.calm = true)
    (hco : X'.env.scope.isCoroutine = false) (T : Turn X'.prog X'.w X'.K tg J fp it tn) (hpf : ∀ p ∈ pn, p.1 ∉ fp) (pg : PG X' tg g) (pi1 : PI X' tg1 iter1 wi1)
    (hin : ∀ A1 : Around, A1.handled = X'.A.handled → A1.depth = X'.A.depth → A1.units = X'.A.units → PG { X' with A := A1 } tg1 g1 ∧ PE { X' with A := A1 } elt te)
    (hs1 : ∀ x, foldedSetIterable iter1 X'.env x = pure x) (hv : ∀ i ∈ vs1, i ∈ vs) (turn : Turn2 J g wi1 g1 te σw vs vs1 stop Qf Qe W) :
    ∀ (m n : Nat) (s₀ s : Shared) (i : Nat) (H : Hp), m < n → Inv X' pn σw H s → tn i s.heap → (∀ b ∈ fp, H b = none) → W i m H →
      Seg (model X'.prog X'.w) A (fun n s₀ r s₁ => r = .ok .next ∧ PA' X' pn σw Qe n s₀ s₁) (YA X' pn σw stop Qf) n s₀
        (.compLoop (ge2 elt tg iter tg1 iter1 scope pos) 0 (.ref it) .none X'.env)
        ((model X'.prog X'.w).den (.compLoop (ge2 elt tg iter tg1 iter1 scope pos) 0 (.ref it) .none X'.env)) [] s := by
  have stat : ∀ {σ' : L2.St} {H' : Hp} {s' : Shared}, Inv X' pn σ' H' s' → (∀ b ∈ fp, H' b = none) → ∀ b ∈ fp, FpOk X' pn H' b := fun {σ' H' s'} I' hn b hb =>
    ⟨hn b hb, (I'.ok.exf b (by rw [hex]; exact hb)).1, I'.ok.exfs b (by rw [hex]; exact hb), .inl (by rw [hex]; exact hb), fun x c e => (I'.ok.exf b (by rw [hex]; exact hb)).2 x c e, fun p hp => by
      rw [hpn0] at hp
      intro z
      exact hpf p (by simpa using hp) (by rw [z]; exact hb)⟩
  intro m
  induction m using Nat.strongRecOn with
  | ind m ih =>
    intro n s₀ s i H hm I st nn w
    show Seg _ A _ _ _ s₀ _ ((compTurn (ge2 elt tg iter tg1 iter1 scope pos) 0 (.ref it) .none X'.env).onRaise (leaving X'.env)) [] s
    rw [turn_outer, Sem.onRaise_eq_wrap]
    refine seg_bind_wrap (wpAny_standAt ?_)
    rcases turn i m H w with ⟨hstop, qe⟩ | ⟨hgo, step⟩
    · refine seg_bind_wrap ?_
      rw [hA]
      refine thnF (T.done X' rfl rfl rfl hcalm i pn s σw H (fun _ _ => False) I (stat I nn) st hstop) fun r s1 ⟨hr, I1⟩ => ?_
      subst hr
      exact seg_end (.ok .next) ⟨rfl, H, I1, qe⟩
    · refine seg_bind_wrap ?_
      rw [hA]
      refine thnF (T.item X' rfl rfl rfl hcalm i pn s σw H (fun _ _ => False) I (stat I nn) st hgo) fun r s1 ⟨u, hr, h1⟩ => ?_
      subst hr
      refine seg_bind_wrap ?_
      rw [hA]
      refine thnF h1 fun _ s2 ⟨x, H2, I2, r2, y2, st2, n2⟩ => ?_
      have I2' := I2.pinned (stat I2 n2) (T.obj _ _ st2)
      refine seg_bind_wrap ?_
      rw [hA]
      have pgr := pg.run _ s2 _ H2 x u _ I2' r2 (step x H2 y2)
      rw [hxe] at pgr
      refine thnF pgr fun _ s3 ⟨σ3, H3, I3, hw3, q3⟩ => ?_
      simp only [List.forIn_nil]
      refine seg_bind_wrap (wpAny_pure ?_)
      simp only [if_true]
      have pir := pi1.run _ s3 σ3 H3 _ I3 q3
      rw [hxe] at pir
      refine seg_bind_wrap ?_
      rw [hA]
      refine thnF pir fun xv s4 hx => ?_
      refine seg_bind_wrap (wpAny_standAt (seg_bind_wrap (wpAny_of_eq (hs1 xv) (seg_bind_wrap (wpAny_holding ?_)))))
      rw [hA]
      refine thnF hx fun itv s5 h5 => ?_
      obtain ⟨it1, fp1, tn1, J1, H5, e5, I5, T1, st5, f5, W1, ⟨k1, w1⟩, hkm, turn1⟩ := h5
      have hk1 := hkm _ _ _ w1
      subst e5
      rw [Sem.bind_eq_wrap', Sem.wrap_wrap]
      refine seg_call fun p => ?_
      have k0 : X'.A.handled = A.handled := by rw [← hA]; rfl
      have k1' : X'.A.frames = A.frames.map ([X'.env] ++ ·) := by rw [← hA]; rfl
      have k2' : X'.A.depth = A.depth + 1 := by rw [← hA]; rfl
      have k3' : X'.A.units = A.units + 3 := by rw [← hA]; rfl
      refine seg_start1 T1 st5 ?_
      generalize hfr : (Frame.ret _ _ _ _ _ p _) = fr
      generalize hA1 : A.over (.compLoop (ge2 elt tg iter tg1 iter1 scope pos) 1 (.ref it1) .none X'.env) [fr] = A1
      have e0 : A1.handled = X'.A.handled := by rw [k0, ← hA1, ← hfr]; rfl
      have e1 : A1.frames = X'.A.frames := by rw [k1', ← hA1, ← hfr]; rfl
      have e2 : A1.depth = X'.A.depth := by rw [k2', ← hA1, ← hfr]; rfl
      have e3 : A1.units = X'.A.units := by rw [k3', ← hA1, ← hfr]; rfl
      obtain ⟨pg1, pe1⟩ := hin A1 e0 e2 e3
      have ew : ∀ (j : Nat) v, σw[j]? = some (some v) → (wipe σ3 vs1)[j]? = some (some v) := fun j v e => by
        rw [← hw3] at e
        obtain ⟨q1, q2⟩ := wipe_some e
        rw [L2.wipe_out fun z => q2 (hv j z)]
        exact q1
      have el : σw.length = (wipe σ3 vs1).length := by rw [← hw3, wipe_length, wipe_length]
      refine seg_in (NxI := fun k H => ∃ m', m' < m ∧ m' ≤ k ∧ W (i + 1) m' H) (W1 := W1) hA1 e0 e1 (by rw [← hfr]; rfl) (by rw [← hfr]; rfl) hxe hcalm hco T1 pg1 pe1 (fun H' hn b hb => ⟨hn b hb, (f5 b hb).2⟩) (fun H' s' I' => (I'.unpinned (pins := pn)).weak el ew)
        (fun n' s0' s' k' H' hkn I' nx => ?_) (fun j k H w => (turn1 j k H w).imp (fun z => ⟨z.1, by obtain ⟨m', h1, h2⟩ := z.2; have := hkm _ _ _ w; exact ⟨m', by omega, h1, h2⟩⟩) id) n s₀ s5 0 k1 H5 (by omega) (inv_around e0 e1 (I5.weak (by rw [wipe_length]) fun j v e => (wipe_some e).1)) st5 (fun b hb => (f5 b hb).1) w1
      obtain ⟨m', hk', hm', w'⟩ := nx
      have pin' : ∀ b ∈ fp, ∀ o, s2.heap.get? b = some o → s'.heap.get? b = some o ∧ H' b = none := fun b hb o e =>
        let z := I'.pin (b, o) (List.mem_append_right _ (List.mem_append_right _ (mem_pinsAt hb e)))
        ⟨z.1, z.2.1⟩
      have st6 : tn (i + 1) s'.heap := T.keep _ _ _ st2 fun b hb o e => (pin' b hb o e).1
      have n6 : ∀ b ∈ fp, H' b = none := fun b hb => by
        obtain ⟨o, e, _⟩ := T.obj _ _ st2 b hb
        exact (pin' b hb o e).2
      rw [← hfr]
      refine seg_leaf (.ok .next) ?_
      exact seg_again rfl (ih m' (by omega) n' s0' s' (i + 1) H' (by omega) ((I'.unpinned (pins := pn)).weak el ew) st6 n6 w')

theorem seg_first2 (hA : A.over (.compLoop (ge2 elt tg iter tg1 iter1 scope pos) 0 (.ref it) .none X'.env) [] = X'.A) (hhd : X'.A.handled = none) (hex : X'.ex = fp) (hpn0 : X'.pn = []) (hxe : X'.xe = fun _ _ => False) (hcalm : X'.calm = true)
    (hco : X'.env.scope.isCoroutine = false) (T : Turn X'.prog X'.w X'.K tg J fp it tn) (hpf : ∀ p ∈ pn, p.1 ∉ fp) (pg : PG X' tg g) (pi1 : PI X' tg1 iter1 wi1)
    (hin : ∀ A1 : Around, A1.handled = X'.A.handled → A1.depth = X'.A.depth → A1.units = X'.A.units → PG { X' with A := A1 } tg1 g1 ∧ PE { X' with A := A1 } elt te)
    (hs1 : ∀ x, foldedSetIterable iter1 X'.env x = pure x) (hv : ∀ i ∈ vs1, i ∈ vs) (turn : Turn2 J g wi1 g1 te σw vs vs1 stop Qf Qe W)
    (n : Nat) (s₀ s : Shared) (m : Nat) (H : Hp) (hm : m < n) (I : Inv X' pn σw H s) (st : tn 0 s.heap) (nn : ∀ b ∈ fp, H b = none) (w : W 0 m H) :
      Seg (model X'.prog X'.w) A (fun n s₀ r s₁ => r = .ok .next ∧ PA' X' pn σw Qe n s₀ s₁) (YA X' pn σw stop Qf) n s₀
        (.compStart (ge2 elt tg iter tg1 iter1 scope pos) 0 (.ref it) .none X'.env)
        ((model X'.prog X'.w).den (.compStart (ge2 elt tg iter tg1 iter1 scope pos) 0 (.ref it) .none X'.env)) [] s := by
  have loop := seg_out hA hhd hex hpn0 hxe hcalm hco T hpf pg pi1 hin hs1 hv turn m n s₀ s 0 H hm I st nn w
  show Seg _ A _ _ _ s₀ _ ((compStart (ge2 elt tg iter tg1 iter1 scope pos) 0 (.ref it) .none X'.env).onRaise (leaving X'.env)) [] s
  unfold compStart
  rw [Sem.onRaise_eq_wrap]
  show Seg _ A _ _ _ s₀ _ ((ask >>= _).wrap _ _ _ _) [] s
  refine seg_bind_wrap (wpAny_askSetting ?_)
  split
  · exact seg_again rfl loop
  · first
      | exact seg_bind_wrap (wpAny_rule (seg_bind_wrap (wpAny_standAt (seg_bind_wrap (T.self _ 0 s _ _ st (seg_again rfl loop))))))
      | (refine seg_bind_wrap (wpAny_rule ?_); show Seg _ A _ _ _ s₀ _ ((standAt iter.pos >>= _).wrap _ _ _ _) [] s; exact seg_bind_wrap (wpAny_standAt (seg_bind_wrap (T.self _ 0 s _ _ st (seg_again rfl loop)))))
end
section
variable {M : Model} {A : Around} {E : Value → Shared → Prop} {s : Shared}
theorem eval_ge2 (elt tg iter tg1 iter1 : Expr) (scope : Scope) (pos : Pos) (env : Env) (hco : scope.isCoroutine = false) : eval (ge2 elt tg iter tg1 iter1 scope pos) env = (do
      let y ← eval iter env
      standAt iter.pos
      let y ← genFold iter env y
      let src ← holding [y] (pyIter y)
      enterFrame
      let held ← closureFor scope env
      let cd ← genexprCode env pos (env.qual ++ "<genexpr>") scope
      let blt ← builtinsFor env.globals env.builtins
      let own ← newFunctionEnv scope env.globals held [(".0", src)] (env.qual ++ "<genexpr>.") none cd none blt
      newGenerator (.compStart (ge2 elt tg iter tg1 iter1 scope pos) 0 src .none own) "<genexpr>" (env.qual ++ "<genexpr>")) := by
  show eval (.GeneratorExp _ _ _ _) env = _
  rw [arm_eval_GeneratorExp]
  simp only [hco, Bool.false_eq_true, if_false]
  cases iter <;> rfl
theorem make_ge2 {env : Env} {elt tg iter tg1 iter1 : Expr} {scope : Scope} {held : List (Str × Addr)} {pos : Pos} {Q : Value → Shared → Prop}
    (hco : scope.isCoroutine = false) (hclos : closureFor scope env = pure held) (hcell : ∀ y ∈ scope.names, y.2 ≠ .cell) (h0 : scope.names.lookup (".0" : Str) = some NameKind.local) (hkind : scope.kind = .function)
    (hroom : A.depth < recursionLimit)
    (h : wpAny M A (eval iter env) (fun xv s1 => wpAny M A (pyIter xv) (fun src s2 => s2.heap.NoLimit ∧
      wpAny M A (genexprCode env pos (env.qual ++ "<genexpr>") scope) (fun cd s3 => wpAny M A (builtinsFor env.globals env.builtins) (fun bi s4 =>
        ∀ h9, h9.Ns s4.heap.objs.size (fun y => if y = ".0" then some src else none) → Heap.SameBut s4.heap.objs.size (s4.heap.push { cls := .type "frame", data := .dict #[] }) h9 →
          Q (.ref h9.objs.size) { s4 with
            gens := s4.gens.push (.fresh (.compStart (ge2 elt tg iter tg1 iter1 scope pos) 0 src .none (genEnv scope held s4.heap.objs.size cd bi env))),
            toks := s4.toks + 1 + 1 + 1,
            heap := h9.push { cls := .type "generator", data := .fields #[.int s4.gens.size 0, .str "<genexpr>" (s4.toks + 1), .str (env.qual ++ "<genexpr>") (s4.toks + 1 + 1)] } }) E s3) E s2) E s1) E s)
    (hs : ∀ x, genFold iter env x = pure x) : wpAny M A (eval (ge2 elt tg iter tg1 iter1 scope pos) env) Q E s := by
  rw [eval_ge2 _ _ _ _ _ _ _ _ hco, hclos]
  refine wpAny_bind (wpAny_mono h (fun xv s1 h1 => ?_) fun _ _ e => e)
  refine wpAny_bind (wpAny_standAt ?_)
  refine wpAny_bind (wpAny_of_eq (hs xv) ?_)
  refine wpAny_bind (wpAny_holding (wpAny_mono h1 (fun src s2 h2 => ?_) fun _ _ e => e))
  refine wpAny_bind (wpAny_enterFrame h2.1 hroom ?_)
  refine wpAny_bind (wpAny_pure ?_)
  refine wpAny_bind (wpAny_mono h2.2 (fun cd s3 h3 => ?_) fun _ _ e => e)
  refine wpAny_bind (wpAny_mono h3 (fun bi s4 h4 => ?_) fun _ _ e => e)
  have hbinds : ∀ y ∈ ([((".0" : Str), src)] : List (Str × Value)), scope.names.lookup y.1 = some NameKind.local := fun y hy => by
    rw [List.mem_singleton.mp hy]
    exact h0
  refine wpAny_bind (wpAny_newFunctionEnv hcell hbinds (fun h9 hn9 hs9 => ?_) hkind)
  have e : (fun y : Str => ([((".0" : Str), src)] : List (Str × Value)).reverse.lookup y) = fun y : Str => if y = (".0" : Str) then some src else none := by
    funext y
    by_cases hy : y = ".0"
    · subst hy; simp
    · have : (y == (".0" : Str)) = false := by simpa using hy
      simp [List.lookup, this, hy]
  rw [e] at hn9
  simp only [newGenerator, newFields]
  refine wpAny_bind (wpAny_newGen (wpAny_bind (wpAny_mkText (wpAny_bind (wpAny_mkText (wpAny_newObj_type ?_ (by size_fits)))))))
  exact h4 h9 hn9 hs9
end
section
variable {X : Cx} {pins : List (Addr × Obj)} {σ : L2.St} {H : Hp} {s : Shared}
theorem gen_make2 {c P : Addr} {elt tg iter tg1 iter1 : Expr} {gpos : Pos} {scope : Scope} {own : List (Str × Nat)} {wi : TI} {g g1 : TG} {wi1 : TI} {te : TE} {vs1 : List Nat} {k : Nat} {stop : Bool} {Qf Qe : Hp → Prop} {Q' : Value → Shared → Prop}
    (hr : Room (k + 1) X.A) (TB : TabB X.base X.mg c P) (hcode : X.env.code = .ref c) (hN : X.N.Nodup) (ok : GOk X.N X.env.scope scope own) (hi : PI X tg iter wi) (hv : ∀ i ∈ vs1, i ∈ own.map (·.2))
    (hi1 : ∀ (A' : Around) (s : Shared) (H : Hp) (C : Addr) (code : Value) (fp : List Addr), Room k A' → PI (gcx X A' s H (genEnv scope (cloFrom X.env.cells scope.names []) C code builtinsNs X.env) fp) tg1 iter1 wi1)
    (hg1 : ∀ (A' : Around) (s : Shared) (H : Hp) (C : Addr) (code : Value) (fp : List Addr), PG (gcx X A' s H (genEnv scope (cloFrom X.env.cells scope.names []) C code builtinsNs X.env) fp) tg1 g1)
    (hs1 : ∀ env x, foldedSetIterable iter1 env x = pure x)
    (hg : ∀ (A' : Around) (s : Shared) (H : Hp) (C : Addr) (code : Value) (fp : List Addr), PG (gcx X A' s H (genEnv scope (cloFrom X.env.cells scope.names []) C code builtinsNs X.env) fp) tg g)
    (he : ∀ (A' : Around) (s : Shared) (H : Hp) (C : Addr) (code : Value) (fp : List Addr), Room k A' → PE (gcx X A' s H (genEnv scope (cloFrom X.env.cells scope.names []) C code builtinsNs X.env) fp) elt te)
    (hs : ∀ v, genFold iter X.env v = pure v) (I : Inv X pins σ H s)
    (h : wi σ H fun J H1 => TabG H1 P ∧ ∀ H2, Tabbed P H1 H2 → ∃ W : Nat → Nat → Hp → Prop, (∃ m, W 0 m H2) ∧ Turn2 J g wi1 g1 te (wipe σ (own.map (·.2))) (own.map (·.2)) vs1 stop Qf Qe W)
    (hQ : ∀ u s5, MadeG X pins σ stop Qf Qe u s5 → Q' u s5) :
    wpAny (model X.prog X.w) X.A (eval (ge2 elt tg iter tg1 iter1 scope gpos) X.env) Q' X.xe s := by
  have hfree : ∀ y ∈ scope.names, y.2 = .free → ∃ c, X.env.cells.lookup y.1 = some c := fun y hy e => by
    rcases ok.free y hy e with k | k
    · exact I.ok.has _ (.inl k)
    · exact I.ok.has _ (.inr k)
  refine make_ge2 ok.co (closure_ok hfree) ok.cell ok.dot ok.kind (by have := hr.dp; omega) ?_ hs
  refine thn (hi.run pins s σ H _ I h) fun xv s1 hx => thn hx fun itv s2 h2 => ?_
  obtain ⟨it, fp, tn, J, H2, e, I2, T, st2, f2, ⟨ps, hP, ht⟩, q⟩ := h2
  subst e
  refine ⟨I2.nolimit, ?_⟩
  have hPs : s2.heap.get? P = some { cls := .none, data := .fields ps } := I2.hok P _ hP
  have cd : PySem.W.CodeHd s2.heap c P := TB.code.keeps I2.bk
  have fpP : ∀ b ∈ fp, b ≠ P := fun b hb z => by
    have := (f2 b hb).1
    rw [z, hP] at this
    cases this
  have cont : ∀ (code : Value) (h3 : Heap) (tk : Nat) (ps' : Array Value), Heap.ExtBut P s2.heap h3 → h3.get? P = some { cls := .none, data := .fields ps' } → (∃ more, ps' = ps ++ more) → TriplesOk ps'.toList →
      wpAny (model X.prog X.w) X.A (builtinsFor X.env.globals X.env.builtins) (fun bi s₄ =>
        ∀ h', h'.Ns s₄.heap.objs.size (fun y => if y = ".0" then some (Value.ref it) else none) → Heap.SameBut s₄.heap.objs.size (s₄.heap.push { cls := .type "frame", data := .dict #[] }) h' →
          Q' (.ref h'.objs.size) { s₄ with
            gens := s₄.gens.push (.fresh (.compStart (ge2 elt tg iter tg1 iter1 scope gpos) 0 (.ref it) .none (genEnv scope (cloFrom X.env.cells scope.names []) s₄.heap.objs.size code bi X.env))),
            toks := s₄.toks + 1 + 1 + 1,
            heap := h'.push { cls := .type "generator", data := .fields #[.int s₄.gens.size 0, .str "<genexpr>" (s₄.toks + 1), .str (X.env.qual ++ "<genexpr>") (s₄.toks + 1 + 1)] } }) X.xe { s2 with heap := h3, toks := tk } := by
    intro code h3 tk ps' hx hP3 hmore ht3
    obtain ⟨bm, ob, e1, e2, e3, e4, e5, e6, e7, e8⟩ := TB.bm
    have keep3 : ∀ b u, b ≠ P → s2.heap.get? b = some u → h3.get? b = some u := fun b u hb e => hx b u hb e
    refine wpAny_builtinsFor (m := X.mg) (by rw [I2.ok.glob]; exact (I2.mod.glob.keeps I2.bk).extBut hx TB.gP) e1 e2 (keep3 _ _ e4 (I2.bk _ _ e5)) e6 e7 e8 ?_
    obtain ⟨more, em⟩ := hmore
    have J3 := inv_tab (more := more) (h' := h3) (g' := s2.gens) (d' := s2.drawn) (t' := tk) I2 hP (fun b u hb e => keep3 b u hb e) (by rw [← em]; exact hP3) I2.bare
    obtain ⟨W, ⟨m, w⟩, turn⟩ := q (upd H2 P (.tbl (ps ++ more))) ⟨⟨ps ++ more, upd_same, by rw [← em]; exact ht3⟩, fun b hb => upd_ne hb⟩
    intro h' hn' hs'
    generalize hs4 : ({ s2 with heap := h3, gens := s2.gens, drawn := s2.drawn, toks := tk } : Shared) = s4 at J3
    have hs4' : ({ s2 with heap := h3, toks := tk } : Shared) = s4 := hs4
    try rw [hs4'] at hn'
    try rw [hs4'] at hs'
    try rw [hs4']
    have eh : s4.heap = h3 := by rw [← hs4]
    have szh : h'.objs.size = s4.heap.objs.size + 1 := by rw [hs'.1, Heap.size_push]
    have keep' : ∀ b o, s4.heap.get? b = some o → h'.get? b = some o := fun b o e => hs'.extBut b o (Nat.ne_of_lt (Heap.lt_size e)) (Heap.get?_push_of_some _ e)
    have st4 : tn 0 s4.heap := T.keep _ _ _ st2 fun b hb o e => by rw [eh]; exact keep3 b o (fpP b hb) e
    have f4 : ∀ b ∈ fp, FpOk X pins (upd H2 P (.tbl (ps ++ more))) b ∧ b < s4.heap.objs.size := fun b hb => by
      obtain ⟨o, e, _⟩ := T.obj _ _ st4 b hb
      exact ⟨⟨by rw [upd_ne (fpP b hb)]; exact (f2 b hb).1, (f2 b hb).2⟩, Heap.lt_size e⟩
    have keep5 : ∀ b o, s4.heap.get? b = some o → (h'.push { cls := .type "generator", data := .fields #[.int s4.gens.size 0, .str "<genexpr>" (s4.toks + 1), .str (X.env.qual ++ "<genexpr>") (s4.toks + 1 + 1)] }).get? b = some o :=
      fun b o e => Heap.get?_push_of_some _ (keep' b o e)
    have hgo : (h'.push { cls := .type "generator", data := .fields #[.int s4.gens.size 0, .str "<genexpr>" (s4.toks + 1), .str (X.env.qual ++ "<genexpr>") (s4.toks + 1 + 1)] }).get? (s4.heap.objs.size + 1) =
        some { cls := .type "generator", data := .fields #[.int s4.gens.size 0, .str "<genexpr>" (s4.toks + 1), .str (X.env.qual ++ "<genexpr>") (s4.toks + 1 + 1)] } := by
      rw [← szh]
      exact Heap.get?_push_size _ rfl
    generalize hA' : X.A.in1.in1.over (.compLoop (ge2 elt tg iter tg1 iter1 scope gpos) 0 (.ref it) .none (genEnv scope (cloFrom X.env.cells scope.names []) s4.heap.objs.size code builtinsNs X.env)) [] = A'
    have rA : Room k A' := by rw [← hA']; exact room_gen hr
    have fA : A'.frames = some (genEnv scope (cloFrom X.env.cells scope.names []) s4.heap.objs.size code builtinsNs X.env :: X.stack) := by rw [← hA']; exact frames_gen I2.ok.frames
    have I5 := gen_start (A' := A') (code := code) (go := { cls := .type "generator", data := .fields #[.int s4.gens.size 0, .str "<genexpr>" (s4.toks + 1), .str (X.env.qual ++ "<genexpr>") (s4.toks + 1 + 1)] })
      (G5 := s4.gens.push (.fresh (.compStart (ge2 elt tg iter tg1 iter1 scope gpos) 0 (.ref it) .none (genEnv scope (cloFrom X.env.cells scope.names []) s4.heap.objs.size code builtinsNs X.env)))) (t5 := s4.toks + 1 + 1 + 1)
      J3 ok hN f4 rA.hd fA keep5 (hn'.push _) hgo (fun v z => by cases z) (J3.bare.push rfl)
    have nfp : ∀ b ∈ fp, (upd H2 P (.tbl (ps ++ more))) b = none := fun b hb => (f4 b hb).1.1
    refine hQ _ _ ⟨h'.objs.size, s4.gens.size, m + 1, _, { cls := .type "generator", data := .fields #[.int s4.gens.size 0, .str "<genexpr>" (s4.toks + 1), .str (X.env.qual ++ "<genexpr>") (s4.toks + 1 + 1)] },
      gcx X A' s4 (upd H2 P (.tbl (ps ++ more))) (genEnv scope (cloFrom X.env.cells scope.names []) s4.heap.objs.size code builtinsNs X.env) fp,
      [(s4.heap.objs.size + 1, { cls := .type "generator", data := .fields #[.int s4.gens.size 0, .str "<genexpr>" (s4.toks + 1), .str (X.env.qual ++ "<genexpr>") (s4.toks + 1 + 1)] })], wipe σ (own.map (·.2)), rfl, rfl, rfl, ?_, ?_, ?_, I5.nolimit, Array.getElem?_push_size .., ?_, ?_⟩
    · rw [szh]; exact List.mem_singleton.mpr rfl
    · exact fun h hh => ⟨_, _, _, hh, rfl, rfl, rfl⟩
    · rw [szh]; exact ⟨_, _, _, hgo, rfl, rfl, rfl⟩
    · refine ⟨rfl, ?_⟩
      have I6 := inv_gens (s' := ({ s4 with
            gens := s4.gens.push (.fresh (.compStart (ge2 elt tg iter tg1 iter1 scope gpos) 0 (.ref it) .none (genEnv scope (cloFrom X.env.cells scope.names []) s4.heap.objs.size code builtinsNs X.env))),
            toks := s4.toks + 1 + 1 + 1,
            heap := h'.push { cls := .type "generator", data := .fields #[.int s4.gens.size 0, .str "<genexpr>" (s4.toks + 1), .str (X.env.qual ++ "<genexpr>") (s4.toks + 1 + 1)] } } : Shared).setGen s4.gens.size .running) I5 rfl rfl (allBare_setGen I5.bare rfl)
      exact seg_first2 (X' := gcx X A' s4 (upd H2 P (.tbl (ps ++ more))) (genEnv scope (cloFrom X.env.cells scope.names []) s4.heap.objs.size code builtinsNs X.env) fp) (A := X.A.in1.in1) hA' rA.hd rfl rfl rfl rfl ok.co T
        (fun p hp z => by
          have e : p = _ := List.mem_singleton.mp hp
          rw [e] at z
          exact absurd (f4 _ z).2 (Nat.not_lt.mpr (Nat.le_succ _))) (hg A' s4 _ _ code fp) (hi1 A' s4 _ _ code fp rA) (fun A1 a1 a2 a3 => ⟨hg1 A1 s4 _ _ code fp, he A1 s4 _ _ code fp ⟨by rw [a1]; exact rA.hd, by rw [a2]; exact rA.dp, by rw [a3]; exact rA.un⟩⟩) (hs1 _) hv turn (m + 1) _ _ m _ (Nat.lt_succ_self m) I6
        (T.keep _ _ _ st4 fun b _ o e => keep5 b o e) nfp w
    · intro H' s' J
      exact J3.call' (ch := fp) J.os J.base J.hok J.bare fun b hb => ⟨(f4 b hb).1.2.2.2.1, (f4 b hb).1.2.1, (f4 b hb).1.2.2.2.2.1, (f4 b hb).1.2.2.2.2.2⟩
  cases hf : codeAmong gpos ps.toList with
  | none =>
    refine wpAny_genexprCodeX hcode (cd.code hPs ht) (cd.tab hPs) hf fun c' h' tk hx hge hlt hco' _ htab' _ => ?_
    obtain ⟨o1, vs, f1, tf, fl, tg, inF, tx, tt, op, _, _, _, _, _, _, _, _, _, htr, _⟩ := hco'
    exact cont _ h' tk _ hx htab'.2 ⟨_, rfl⟩ htr
  | some cv =>
    refine wpAny_genexprCode_hit hcode (cd.code hPs ht) hf ?_
    exact cont cv s2.heap s2.toks ps (Heap.ExtBut.refl _ _) hPs ⟨#[], by simp⟩ ht
end


/-- the reading of any and all, two clauses -/
def tGen2 (stop : Bool) (P : Addr) (wi : TI) (g : TG) (wi1 : TI) (g1 : TG) (te : TE) (vs vs1 : List Nat) : TE := fun σ H Q => wi σ H fun J H1 => TabG H1 P ∧ ∀ H2, Tabbed P H1 H2 → ∃ W : Nat → Nat → Hp → Prop, (∃ m, W 0 m H2) ∧
  Turn2 J g wi1 g1 te (wipe σ vs) vs vs1 stop (fun H' => Q (.bl stop) H') (fun H' => Q (.bl (!stop)) H') W
section
variable {X : Cx} {c P : Addr} {elt tg iter tg1 iter1 : Expr} {p pos gpos : Pos} {scope : Scope} {own : List (Str × Nat)} {wi : TI} {g g1 : TG} {wi1 : TI} {te : TE} {vs1 : List Nat} {k : Nat}
theorem pe_all2 (hr : Room (k + 1) X.A) (hgl : Gl X "all") (hm : X.mg "all" = none) (TB : TabB X.base X.mg c P) (hcode : X.env.code = .ref c) (hN : X.N.Nodup) (ok : GOk X.N X.env.scope scope own) (hi : PI X tg iter wi) (hv : ∀ i ∈ vs1, i ∈ own.map (·.2))
    (hi1 : ∀ (A' : Around) (s : Shared) (H : Hp) (C : Addr) (code : Value) (fp : List Addr), Room k A' → PI (gcx X A' s H (genEnv scope (cloFrom X.env.cells scope.names []) C code builtinsNs X.env) fp) tg1 iter1 wi1)
    (hg1 : ∀ (A' : Around) (s : Shared) (H : Hp) (C : Addr) (code : Value) (fp : List Addr), PG (gcx X A' s H (genEnv scope (cloFrom X.env.cells scope.names []) C code builtinsNs X.env) fp) tg1 g1)
    (hs1 : ∀ env x, foldedSetIterable iter1 env x = pure x)
    (hg : ∀ (A' : Around) (s : Shared) (H : Hp) (C : Addr) (code : Value) (fp : List Addr), PG (gcx X A' s H (genEnv scope (cloFrom X.env.cells scope.names []) C code builtinsNs X.env) fp) tg g)
    (he : ∀ (A' : Around) (s : Shared) (H : Hp) (C : Addr) (code : Value) (fp : List Addr), Room k A' → PE (gcx X A' s H (genEnv scope (cloFrom X.env.cells scope.names []) C code builtinsNs X.env) fp) elt te)
    (hs : ∀ v, genFold iter X.env v = pure v := by intro _; rfl)
    (hst : starEach [ge2 elt tg iter tg1 iter1 scope gpos] X.env = (false, eval (ge2 elt tg iter tg1 iter1 scope gpos) X.env) :: starEach [] X.env := by rfl) :
    PE X (.Call (.Name "all" p) [ge2 elt tg iter tg1 iter1 scope gpos] [] pos) (tGen2 false P wi g wi1 g1 te (own.map (·.2)) vs1) := by
  refine ⟨fun pins s σ H Q I h => ?_⟩
  refine wpAny_Call_Name_kw (ld_blt I hgl hm (show bootBuiltins "all" = some (.builtin "all") by decide +kernel) ?_)
  refine PyProof.Rows.callWith_builtin1 ?_ hst (by rfl)
  rw [hst]
  show wpAny _ _ (spliced ((false, eval (ge2 elt tg iter tg1 iter1 scope gpos) X.env) :: backTo pos (starEach [] X.env))) _ _ s
  refine Calls.spliced_cons (gen_make2 hr TB hcode hN ok hi hv hi1 hg1 hs1 hg he hs I h fun u s5 hG => ?_)
  obtain ⟨a, gn, n, gs, go, X', pn, σw, rfl, e1, e2, hpn, hgen, hig, hl, hgs, hgo, back⟩ := hG
  refine Calls.spliced_nil ?_
  refine call_function_tree F.kind_all F.plain_all F.entry_all (F.args_all1 _) ?_
  unfold Builtin.«all»
  refine wpAny_bind (m := oneArg "all" _) (wpAny_pure ?_)
  refine wpAny_bind (wpAny_pyIter_gen hig ?_)
  refine wpAny_pure ⟨plainId_quiet F.plain_all_loop _, ?_⟩
  rw [← e1, ← e2] at hgo ⊢
  refine all_loop (X' := X') (A := X.A) hr.hd (by have := hr.dp; omega) hpn hgen (fun b H' s' J q1 q2 => ?_) n s5 gs hig hl hgs hgo
  refine ⟨.bl b, H', back H' s' J, rfl, ?_⟩
  cases b with
  | true => exact q1 rfl
  | false => exact q2 rfl
theorem pe_any2 (hr : Room (k + 1) X.A) (hgl : Gl X "any") (hm : X.mg "any" = none) (TB : TabB X.base X.mg c P) (hcode : X.env.code = .ref c) (hN : X.N.Nodup) (ok : GOk X.N X.env.scope scope own) (hi : PI X tg iter wi) (hv : ∀ i ∈ vs1, i ∈ own.map (·.2))
    (hi1 : ∀ (A' : Around) (s : Shared) (H : Hp) (C : Addr) (code : Value) (fp : List Addr), Room k A' → PI (gcx X A' s H (genEnv scope (cloFrom X.env.cells scope.names []) C code builtinsNs X.env) fp) tg1 iter1 wi1)
    (hg1 : ∀ (A' : Around) (s : Shared) (H : Hp) (C : Addr) (code : Value) (fp : List Addr), PG (gcx X A' s H (genEnv scope (cloFrom X.env.cells scope.names []) C code builtinsNs X.env) fp) tg1 g1)
    (hs1 : ∀ env x, foldedSetIterable iter1 env x = pure x)
    (hg : ∀ (A' : Around) (s : Shared) (H : Hp) (C : Addr) (code : Value) (fp : List Addr), PG (gcx X A' s H (genEnv scope (cloFrom X.env.cells scope.names []) C code builtinsNs X.env) fp) tg g)
    (he : ∀ (A' : Around) (s : Shared) (H : Hp) (C : Addr) (code : Value) (fp : List Addr), Room k A' → PE (gcx X A' s H (genEnv scope (cloFrom X.env.cells scope.names []) C code builtinsNs X.env) fp) elt te)
    (hs : ∀ v, genFold iter X.env v = pure v := by intro _; rfl)
    (hst : starEach [ge2 elt tg iter tg1 iter1 scope gpos] X.env = (false, eval (ge2 elt tg iter tg1 iter1 scope gpos) X.env) :: starEach [] X.env := by rfl) :
    PE X (.Call (.Name "any" p) [ge2 elt tg iter tg1 iter1 scope gpos] [] pos) (tGen2 true P wi g wi1 g1 te (own.map (·.2)) vs1) := by
  refine ⟨fun pins s σ H Q I h => ?_⟩
  refine wpAny_Call_Name_kw (ld_blt I hgl hm boot_any ?_)
  refine PyProof.Rows.callWith_builtin1 ?_ hst (by rfl)
  rw [hst]
  show wpAny _ _ (spliced ((false, eval (ge2 elt tg iter tg1 iter1 scope gpos) X.env) :: backTo pos (starEach [] X.env))) _ _ s
  refine Calls.spliced_cons (gen_make2 hr TB hcode hN ok hi hv hi1 hg1 hs1 hg he hs I h fun u s5 hG => ?_)
  obtain ⟨a, gn, n, gs, go, X', pn, σw, rfl, e1, e2, hpn, hgen, hig, hl, hgs, hgo, back⟩ := hG
  refine Calls.spliced_nil ?_
  refine call_function_tree F.kind_any F.plain_any F.entry_any (F.args_any1 _) ?_
  unfold Builtin.«any»
  refine wpAny_bind (m := oneArg "any" _) (wpAny_pure ?_)
  refine wpAny_bind (wpAny_pyIter_gen hig ?_)
  refine wpAny_pure ⟨plainId_quiet F.plain_any_loop _, ?_⟩
  rw [← e1, ← e2] at hgo ⊢
  refine any_loop (X' := X') (A := X.A) hr.hd (by have := hr.dp; omega) hpn hgen (fun b H' s' J q1 q2 => ?_) n s5 gs hig hl hgs hgo
  refine ⟨.bl b, H', back H' s' J, rfl, ?_⟩
  cases b with
  | false => exact q1 rfl
  | true => exact q2 rfl
end

end GA

set_option Elab.async false
set_option linter.all false
set_option maxRecDepth 100000
set_option maxHeartbeats 4000000
/-! What is a plan, as functions over data. -/
namespace KM
open PySem KD

def wd (w : Str) : Bool := decide (w = "then") || decide (w = "beside")
mutual
def formed : PyData → Str → Option (List Int)
  | .int i, _ => some [i]
  | .tuple [.str w, .tuple ps], o => if (wd w && !decide (w = o) && decide (2 ≤ ps.length)) = true then formedL ps w else none
  | _, _ => none
termination_by d => sizeOf d
def formedL : List PyData → Str → Option (List Int)
  | [], _ => some []
  | p :: r, w => match formed p w, formedL r w with
    | some a, some b => some (a ++ b)
    | _, _ => none
termination_by ds => sizeOf ds
end
theorem formed_int (i : Int) (o : Str) : formed (.int i) o = some [i] := by rw [formed]
theorem formed_parts (w o : Str) (ps : List PyData) : formed (.tuple [.str w, .tuple ps]) o = if (wd w && !decide (w = o) && decide (2 ≤ ps.length)) = true then formedL ps w else none := by rw [formed]
theorem formedL_nil (w : Str) : formedL [] w = some [] := by rw [formedL]
theorem formedL_cons (p : PyData) (r : List PyData) (w : Str) : formedL (p :: r) w = (match formed p w, formedL r w with
    | some a, some b => some (a ++ b)
    | _, _ => none) := by rw [formedL]
mutual
theorem formed_ne : ∀ (d : PyData) (o : Str) (l : List Int), formed d o = some l → l ≠ []
  | .int i, o, l, h => by rw [formed_int] at h; cases h; simp
  | .tuple [.str w, .tuple ps], o, l, h => by
    rw [formed_parts] at h
    split at h
    · rename_i c
      simp only [Bool.and_eq_true, decide_eq_true_eq] at c
      have q := formedL_len ps w l h
      intro e
      rw [e] at q
      have : ps.length ≤ 0 := q
      omega
    · cases h
  | .none, o, l, h => by rw [formed] at h <;> first | cases h | (intros; simp_all)
  | .bool _, o, l, h => by rw [formed] at h <;> first | cases h | (intros; simp_all)
  | .str _, o, l, h => by rw [formed] at h <;> first | cases h | (intros; simp_all)
  | .list _, o, l, h => by rw [formed] at h <;> first | cases h | (intros; simp_all)
  | .dict _, o, l, h => by rw [formed] at h <;> first | cases h | (intros; simp_all)
  | .tuple xs, o, l, h => by
    unfold formed at h
    split at h
    · rename_i e; cases e
    · rename_i w ps heq
      injection heq with heq
      subst heq
      split at h
      · rename_i c
        simp only [Bool.and_eq_true, decide_eq_true_eq] at c
        have q := formedL_len ps w l h
        intro e
        rw [e] at q
        have : ps.length ≤ 0 := q
        omega
      · cases h
    · cases h
termination_by d => sizeOf d
theorem formedL_len : ∀ (ds : List PyData) (w : Str) (l : List Int), formedL ds w = some l → ds.length ≤ l.length
  | [], w, l, h => Nat.zero_le _
  | p :: r, w, l, h => by
    rw [formedL_cons] at h
    split at h
    · rename_i a b e1 e2
      cases h
      have h1 := formed_ne p w a e1
      have h2 := formedL_len r w b e2
      have h3 : 0 < a.length := List.length_pos_iff.mpr h1
      rw [List.length_append, List.length_cons]
      omega
    · cases h
termination_by ds => sizeOf ds
end

/-! ### a permutation of 0, 1, .. -/
def full (l : List Int) : Prop := ∀ k : Nat, k < l.length → (k : Int) ∈ l
instance (l : List Int) : Decidable (full l) := by unfold full; exact inferInstance
def okL (l : List Int) : Bool := decide (l.length ≤ 7 ∧ full l)
def rng (n : Nat) : List Int := (List.range n).map Int.ofNat
theorem rng_length (n : Nat) : (rng n).length = n := by simp [rng]
theorem mem_rng {n : Nat} {x : Int} : x ∈ rng n ↔ 0 ≤ x ∧ x < n := by
  unfold rng
  rw [List.mem_map]
  constructor
  · rintro ⟨k, hk, rfl⟩
    have := List.mem_range.mp hk
    simp only [Int.ofNat_eq_natCast]
    omega
  · intro ⟨h1, h2⟩
    exact ⟨x.toNat, List.mem_range.mpr (by omega), by simp only [Int.ofNat_eq_natCast]; omega⟩
theorem rng_sorted (n : Nat) : (rng n).Pairwise (· ≤ ·) := by
  unfold rng
  rw [List.pairwise_map]
  refine List.Pairwise.imp ?_ (List.pairwise_lt_range (n := n))
  intro a b h
  simp only [Int.ofNat_eq_natCast]
  omega
theorem full_perm : ∀ (n : Nat) (l : List Int), l.length = n → full l → l.Perm (rng n)
  | 0, l, h, _ => by
    have : l = [] := List.length_eq_zero_iff.mp h
    subst this
    exact List.Perm.refl _
  | n + 1, l, h, f => by
    have hm : (n : Int) ∈ l := f n (by omega)
    have h1 := List.perm_cons_erase hm
    have hl : (l.erase (n : Int)).length = n := by rw [List.length_erase_of_mem hm]; omega
    have ih := full_perm n (l.erase (n : Int)) hl fun k hk => by
      rw [hl] at hk
      have := f k (by omega)
      exact (List.mem_erase_of_ne (by omega)).mpr this
    refine h1.trans ((List.Perm.cons _ ih).trans ?_)
    have e : rng (n + 1) = rng n ++ [(n : Int)] := by
      unfold rng
      rw [List.range_succ, List.map_append]
      rfl
    rw [e]
    exact (List.perm_append_singleton _ _).symm
theorem full_of_perm {l l' : List Int} (p : l.Perm l') (f : full l) : full l' := fun k hk => p.mem_iff.mp (f k (by rw [p.length_eq]; exact hk))
theorem okL_perm {l l' : List Int} (p : l.Perm l') : okL l = okL l' := by
  unfold okL
  rw [decide_eq_decide]
  constructor
  · exact fun ⟨a, b⟩ => ⟨by rw [← p.length_eq]; exact a, full_of_perm p b⟩
  · exact fun ⟨a, b⟩ => ⟨by rw [p.length_eq]; exact a, full_of_perm p.symm b⟩
theorem sorted_rng {l l' : List Int} {n : Nat} (p : l'.Perm l) (s : l'.Pairwise (· ≤ ·)) : l' = rng n ↔ l.length = n ∧ full l := by
  constructor
  · intro e
    subst e
    have hl : l.length = n := by rw [← p.length_eq, rng_length]
    exact ⟨hl, fun k hk => p.mem_iff.mp (mem_rng.mpr ⟨by omega, by omega⟩)⟩
  · intro ⟨h1, h2⟩
    have q := full_perm n l h1 h2
    exact List.Perm.eq_of_pairwise (fun _ _ _ _ a b => Int.le_antisymm a b) s (rng_sorted n) (p.trans q)
theorem okL_mem {l : List Int} (h : okL l = true) {x : Int} (hx : x ∈ l) : 0 ≤ x ∧ x < l.length ∧ x < 7 := by
  have q := of_decide_eq_true h
  have := (full_perm _ l rfl q.2).mem_iff.mp hx
  have := mem_rng.mp this
  omega

/-! ### the verdict -/
def allF : List (Str × PyData) → Option (List Int)
  | [] => some []
  | (o, d) :: r => match formed d o, allF r with
    | some a, some b => some (a ++ b)
    | _, _ => none
def verd (found : List Int) (ws : List (Str × PyData)) : Nat := match allF ws with
  | some l => if okL (found ++ l) = true then (found ++ l).length else 0
  | none => 0
theorem allF_app : ∀ (ws us : List (Str × PyData)), allF (ws ++ us) = (match allF ws, allF us with
    | some a, some b => some (a ++ b)
    | _, _ => none)
  | [], us => by
    show allF us = _
    cases allF us <;> rfl
  | (o, d) :: r, us => by
    show (match formed d o, allF (r ++ us) with | some a, some b => some (a ++ b) | _, _ => none) = (match (match formed d o, allF r with | some a, some b => some (a ++ b) | _, _ => none), allF us with | some a, some b => some (a ++ b) | _, _ => none)
    rw [allF_app r us]
    cases formed d o <;> cases allF r <;> cases allF us <;> simp
theorem allF_map (w : Str) : ∀ ps : List PyData, allF (ps.map fun p => (w, p)) = formedL ps w
  | [] => by rw [formedL_nil]; rfl
  | p :: r => by
    rw [formedL_cons, ← allF_map w r]
    rfl
theorem allF_one (o : Str) (d : PyData) : allF [(o, d)] = formed d o := by
  show (match formed d o, some ([] : List Int) with | some a, some b => some (a ++ b) | _, _ => none) = formed d o
  cases formed d o <;> simp
theorem allF_len : ∀ (ws : List (Str × PyData)) (l : List Int), allF ws = some l → ws.length ≤ l.length
  | [], l, h => Nat.zero_le _
  | (o, d) :: r, l, h => by
    have h : (match formed d o, allF r with | some a, some b => some (a ++ b) | _, _ => none) = some l := h
    split at h
    · rename_i a b e1 e2
      cases h
      have h1 := formed_ne d o a e1
      have h2 := allF_len r b e2
      have h3 : 0 < a.length := List.length_pos_iff.mpr h1
      rw [List.length_append, List.length_cons]
      omega
    · cases h
theorem verd_task {found : List Int} {ws : List (Str × PyData)} {o : Str} {i : Int} : verd found (ws ++ [(o, .int i)]) = verd (found ++ [i]) ws := by
  unfold verd
  rw [allF_app, allF_one, formed_int]
  cases h : allF ws with
  | none => rfl
  | some l =>
    show (if okL (found ++ (l ++ [i])) = true then (found ++ (l ++ [i])).length else 0) = if okL (found ++ [i] ++ l) = true then (found ++ [i] ++ l).length else 0
    have p : (found ++ (l ++ [i])).Perm (found ++ [i] ++ l) := by
      rw [List.append_assoc]
      exact List.Perm.append_left _ List.perm_append_comm
    rw [okL_perm p, p.length_eq]
theorem verd_noTask {found : List Int} {ws : List (Str × PyData)} {o : Str} {i : Int} (h : ¬ (0 ≤ i ∧ i < 7)) : verd found (ws ++ [(o, .int i)]) = 0 := by
  rw [verd_task]
  unfold verd
  cases allF ws with
  | none => rfl
  | some l =>
    show (if okL (found ++ [i] ++ l) = true then _ else 0) = 0
    rw [if_neg fun q => h ?_]
    have := okL_mem q (x := i) (by simp)
    omega
theorem verd_parts {found : List Int} {ws : List (Str × PyData)} {o w : Str} {ps : List PyData} (h1 : wd w = true) (h2 : w ≠ o) (h3 : 2 ≤ ps.length) :
    verd found (ws ++ [(o, .tuple [.str w, .tuple ps])]) = verd found (ws ++ ps.map fun p => (w, p)) := by
  unfold verd
  rw [allF_app, allF_one, formed_parts, allF_app, allF_map, if_pos (by simp [h1, h2, h3])]
theorem verd_none {found : List Int} {ws : List (Str × PyData)} {o : Str} {d : PyData} (h : formed d o = none) : verd found (ws ++ [(o, d)]) = 0 := by
  unfold verd
  rw [allF_app, allF_one, h]
  cases allF ws <;> rfl
theorem verd_many {found : List Int} {ws : List (Str × PyData)} (h : 7 < found.length + ws.length) : verd found ws = 0 := by
  unfold verd
  cases e : allF ws with
  | none => rfl
  | some l =>
    have := allF_len ws l e
    show (if okL (found ++ l) = true then _ else 0) = 0
    rw [if_neg fun q => ?_]
    have := (of_decide_eq_true q).1
    rw [List.length_append] at this
    omega
theorem verd_long {found : List Int} {ws : List (Str × PyData)} {o w : Str} {ps : List PyData} (h : 7 < ps.length) :
    verd found (ws ++ [(o, .tuple [.str w, .tuple ps])]) = 0 := by
  unfold verd
  rw [allF_app, allF_one, formed_parts]
  split
  · rename_i l e
    split at e
    · rename_i a b e1 e2
      cases e
      split at e2
      · have := formedL_len ps w b e2
        rw [if_neg fun q => ?_]
        have := (of_decide_eq_true q).1
        rw [List.length_append, List.length_append] at this
        omega
      · cases e2
    · cases e
  · rfl
def vdt (d : PyData) : Nat := verd [] [(("" : Str), d)]
theorem vdt_eq (d : PyData) : vdt d = (match formed d "" with | some l => if okL l = true then l.length else 0 | none => 0) := by
  unfold vdt verd
  rw [allF_one]
  rfl
theorem vdt_plan {d : PyData} {l : List Int} {n : Nat} (h : formed d "" = some l) (p : l.Perm (rng n)) (h7 : n ≤ 7) : vdt d = n := by
  rw [vdt_eq, h]
  have hl : l.length = n := by rw [p.length_eq, rng_length]
  have : okL l = true := decide_eq_true ⟨by omega, fun k hk => p.mem_iff.mpr (mem_rng.mpr ⟨by omega, by omega⟩)⟩
  show (if okL l = true then l.length else 0) = n
  rw [if_pos this, hl]
/-- what is_plan says of a datum and a size -/
def isSz : PyData → Bool
  | .int n => decide (1 ≤ n ∧ n ≤ 7)
  | _ => false
def isTk (n : Int) : PyData → Bool
  | .int i => decide (0 ≤ i ∧ i < n)
  | _ => false
def isPl (d : PyData) : PyData → Bool
  | .int n => decide (1 ≤ n ∧ n ≤ 7) && decide ((vdt d : Int) = n)
  | _ => false
/-- what the law says -/
def lawPl (d : PyData) (n : Int) : Bool := match formed d "" with
  | some l => decide ((l.length : Int) = n ∧ full l)
  | none => false
theorem isPl_law (d : PyData) (n : Int) (h : 1 ≤ n) : isPl d (.int n) = (decide (n < 8) && lawPl d n) := by
  unfold isPl lawPl
  rw [vdt_eq]
  cases formed d "" with
  | none =>
    have : ¬ (((0 : Nat) : Int) = n) := by omega
    simp only [decide_eq_false this, Bool.and_false]
  | some l =>
    show (decide (1 ≤ n ∧ n ≤ 7) && decide (((if okL l = true then l.length else 0 : Nat) : Int) = n)) = (decide (n < 8) && decide ((l.length : Int) = n ∧ full l))
    by_cases h8 : n < 8
    · have h7 : 1 ≤ n ∧ n ≤ 7 := by omega
      rw [decide_eq_true h7, decide_eq_true h8, Bool.true_and, Bool.true_and, decide_eq_decide]
      by_cases ho : okL l = true
      · rw [if_pos ho]
        exact ⟨fun e => ⟨e, (of_decide_eq_true ho).2⟩, fun e => e.1⟩
      · rw [if_neg ho]
        refine ⟨fun e => ?_, fun e => ?_⟩
        · have : ((0 : Nat) : Int) = n := e
          omega
        · exact absurd (decide_eq_true ⟨by omega, e.2⟩) ho
    · have h7 : ¬ (1 ≤ n ∧ n ≤ 7) := by omega
      rw [decide_eq_false h7, decide_eq_false h8, Bool.false_and, Bool.false_and]
/-- == of two lists of ints -/
theorem eqv_ints : ∀ a b : List Int, PyData.eqv (.list (a.map PyData.int)) (.list (b.map PyData.int)) = decide (a = b) := by
  have key : ∀ a b : List Int, PyData.eqvAll (a.map PyData.int) (b.map PyData.int) = decide (a = b) := by
    intro a
    induction a with
    | nil => intro b; cases b <;> simp [PyData.eqvAll]
    | cons x r ih =>
      intro b
      cases b with
      | nil => simp [PyData.eqvAll]
      | cons y t =>
        simp only [List.map_cons, PyData.eqvAll, PyData.eqv, ih t]
        rw [Bool.eq_iff_iff]
        simp
  intro a b
  simp only [PyData.eqv]
  exact key a b
end KM

set_option Elab.async false
set_option linter.all false
set_option maxRecDepth 100000
set_option maxHeartbeats 4000000
namespace K14
open PySem L2 GxR GA KD KR KM
def top (i : Nat) : Stmt := PySem.Challenge.pw_thenbeside_k14_bundles.main.body.getD i (.Pass ⟨0, 0, 0, 0⟩)
abbrev sIsInt : Stmt := top 8
abbrev sIsSize : Stmt := top 9
/-- the built-ins that no name of the module hides, the module's constants -/
structure Bl (K : PySem.W.Frag) (mg : Str → Option Value) : Prop where
  isinstance : mg "isinstance" = none
  int : mg "int" = none
  bool : mg "bool" = none
  tuple : mg "tuple" = none
  list : mg "list" = none
  str : mg "str" = none
  len : mg "len" = none
  sorted : mg "sorted" = none
  range : mg "range" = none
  all : mg "all" = none
  any : mg "any" = none
  abs : mg "abs" = none
  most : ∃ t, mg "MOST_TASKS" = some (.int 7 t)
/-! ### promises -/
def spIsInt : Sp := fun vs H Q _ => ∃ (v : V) (d : PyData), vs = [v] ∧ At MN H v d ∧ Q (.bl (isI d)) H
def spIsSize : Sp := fun vs H Q _ => ∃ (v : V) (d : PyData), vs = [v] ∧ At MN H v d ∧ Q (.bl (isSz d)) H
def spIsTask : Sp := fun vs H Q _ => ∃ (v : V) (d : PyData) (n : Int), vs = [v, .int n] ∧ At MN H v d ∧ Q (.bl (isTk n d)) H
def areTk (n : Int) : PyData → Bool
  | .tuple ds => ds.all (isTk n)
  | _ => false
def spAreTasks (PT : Addr) : Sp := fun vs H Q _ => ∃ (v : V) (d : PyData) (n : Int), vs = [v, .int n] ∧ At MN H v d ∧ TabG H PT ∧ ∀ H', Kp MN H H' → Q (.bl (areTk n d)) H'

section
variable {P : Program} {w : World} {K : PySem.W.Frag} {mg : Str → Option Value} {base : Heap}
theorem scIsInt : FnScope ["value"] ["value"] (defScope sIsInt) := ⟨rfl, rfl, rfl, by decide +kernel, rfl, by decide +kernel, by decide +kernel⟩
theorem ok_isInt {f : Addr} {fd : FuncData} (F : Fun K "is_integer" "is_integer" sIsInt f fd) (B : Bl K mg) : FnOk P w K mg base CX0 1 f fd ["value"] spIsInt := by
  refine F.ok scIsInt (fun vs H Q E h => ?_) (fun cdv A outer s H vs Q E hr h => ?_)
  · obtain ⟨v, d, rfl, _⟩ := h
    rfl
  obtain ⟨v, d, rfl, hA, q⟩ := h
  refine ⟨_, pss_one (ps_ret (pe_and (pe_callB call_isi rfl B.isinstance (by decide +kernel) (pa_cons (pv 0) (pa_cons (pe_bltn rfl B.int (by decide +kernel) (v := .ty "int") rfl) pa_nil)))
    (pe_one (pe_not (pe_callB call_isi rfl B.isinstance (by decide +kernel) (pa_cons (pv 0) (pa_cons (pe_bltn rfl B.bool (by decide +kernel) (v := .ty "bool") rfl) pa_nil))))))), ?_⟩
  refine ⟨_, rfl, _, _, _, _, _, rfl, .ty _, hA.ty, kit_int d, _, rfl, ?_⟩
  refine ite2 (fun c => ?_) (fun c => ?_)
  · refine ⟨_, rfl, _, _, _, _, _, rfl, .ty _, hA.ty, kit_bool d, _, rfl, ?_⟩
    have e : (!isB d) = isI d := by cases d <;> simp_all [isI, isB]
    rw [← e] at q
    exact q
  · have e : false = isI d := by cases d <;> simp_all [isI, isB]
    rw [← e] at q
    exact q

theorem scIsSize : FnScope ["value"] ["value"] (defScope sIsSize) := ⟨rfl, rfl, rfl, by decide +kernel, rfl, by decide +kernel, by decide +kernel⟩
theorem ok_isSize {f g : Addr} {fd gd : FuncData} (F : Fun K "is_size" "is_size" sIsSize f fd) (B : Bl K mg) (G : FnOk P w K mg base CX0 1 g gd ["value"] spIsInt) (bG : Binds K gd ["value"] []) (kG : PySem.W.keepIn K (.ref g) = true) (mG : mg "is_integer" = some (.ref g)) :
    FnOk P w K mg base CX0 2 f fd ["value"] spIsSize := by
  refine F.ok scIsSize (fun vs H Q E h => ?_) (fun cdv A outer s H vs Q E hr h => ?_)
  · obtain ⟨v, d, rfl, _⟩ := h
    rfl
  obtain ⟨v, d, rfl, hA, q⟩ := h
  obtain ⟨t, hm⟩ := B.most
  refine ⟨_, pss_one (ps_ret (pe_and (pe_call G hr rfl mG kG bG .nil pass0 (pa_cons (pv 0) pa_nil))
    (pe_one (pe_chain op_le op_le pe_int (pv 0) (pe_glob rfl hm (v := .int 7) ⟨_, rfl⟩))))), ?_⟩
  refine ⟨_, rfl, v, d, rfl, hA, _, rfl, ?_⟩
  cases d with
  | int i =>
    cases hA.int_of
    refine iteT ?_
    refine ⟨_, rfl, _, _, rfl, rfl, _, rfl, ?_⟩
    refine ite2 (fun c => ?_) (fun c => ?_)
    · refine ⟨_, _, rfl, rfl, ?_⟩
      have c' : 1 ≤ i := of_decide_eq_true c
      have e : decide (i ≤ 7) = isSz (.int i) := by show decide (i ≤ 7) = decide (1 ≤ i ∧ i ≤ 7); rw [decide_eq_decide]; omega
      rw [← e] at q
      exact q
    · have c' : ¬ 1 ≤ i := of_decide_eq_false (Bool.eq_false_iff.mpr c)
      have e : false = isSz (.int i) := by show false = decide (1 ≤ i ∧ i ≤ 7); rw [decide_eq_false]; omega
      rw [← e] at q
      exact q
  | _ => exact iteF q
theorem atl_ints {M : Addr → Prop} {H : Hp} : ∀ {l : List Int} {xs : List V}, AtL M H xs (l.map PyData.int) → xs = l.map V.int
  | [], _, h => by cases h; rfl
  | i :: r, _, h => by
    cases h with
    | cons a t => rw [a.int_of, atl_ints t]; rfl
theorem tk_ints {n : Int} : ∀ {ds : List PyData}, ds.all (isTk n) = true → ∃ l : List Int, ds = l.map PyData.int ∧ ∀ x ∈ l, 0 ≤ x ∧ x < n
  | [], _ => ⟨[], rfl, fun _ h => by cases h⟩
  | d :: r, h => by
    rw [List.all_cons, Bool.and_eq_true] at h
    obtain ⟨l, e, q⟩ := tk_ints h.2
    cases d with
    | int i =>
      refine ⟨i :: l, by rw [e]; rfl, fun x hx => ?_⟩
      rcases List.mem_cons.mp hx with z | z
      · rw [z]; exact of_decide_eq_true h.1
      · exact q x z
    | _ => cases h.1
theorem shaped_ints (l : List Int) : SeqAt.shaped (.list (l.map PyData.int)) = true := by
  have h1 : ∀ l : List Int, PyData.canLayAll0 (l.map PyData.int) = true := by
    intro l
    induction l with
    | nil => simp [PyData.canLayAll0]
    | cons x r ih => simp [PyData.canLayAll0, PyData.canLay0, ih]
  have h2 : ∀ l : List Int, PyData.depthAll (l.map PyData.int) ≤ 1 := by
    intro l
    induction l with
    | nil => simp [PyData.depthAll]
    | cons x r ih => simp only [List.map_cons, PyData.depthAll, PyData.depth]; omega
  have h3 := h2 l
  show (PyData.canLay0 (.list (l.map PyData.int)) && decide (PyData.depth (.list (l.map PyData.int)) ≤ 64)) = true
  rw [Bool.and_eq_true]
  refine ⟨by simp only [PyData.canLay0]; exact h1 l, decide_eq_true ?_⟩
  simp only [PyData.depth]
  omega
theorem rgV_rng (n : Nat) : rgV 0 (n : Int) = (rng n).map V.int := by
  unfold rgV rng
  rw [List.map_map]
  have e : ((n : Int) - 0).toNat = n := by omega
  rw [e]
  refine List.map_congr_left fun k _ => ?_
  show V.int (0 + (k : Int)) = V.int (Int.ofNat k)
  rw [Int.zero_add]
  rfl
/-- sorted(l) == list(range(n)) -/
def ordB (l : List Int) (n : Int) : Bool := decide ((l.length : Int) = n ∧ full l)
def intsOf : List PyData → Option (List Int)
  | [] => some []
  | .int i :: r => (intsOf r).map (i :: ·)
  | _ => none
theorem intsOf_map : ∀ l : List Int, intsOf (l.map PyData.int) = some l
  | [] => rfl
  | i :: r => by
    show (intsOf (r.map PyData.int)).map (i :: ·) = _
    rw [intsOf_map r]
    rfl
theorem intsOf_some : ∀ {ds : List PyData} {l : List Int}, intsOf ds = some l → ds = l.map PyData.int
  | [], l, h => by cases h; rfl
  | d :: r, l, h => by
    cases d with
    | int i =>
      have h : (intsOf r).map (i :: ·) = some l := h
      cases q : intsOf r with
      | none => rw [q] at h; cases h
      | some l' =>
        rw [q] at h
        cases h
        rw [intsOf_some q]
        rfl
    | _ => cases h
def isOrd (n : Int) : PyData → Bool
  | .tuple ds => match intsOf ds with
    | some l => ds.all (isTk n) && ordB l n
    | none => false
  | _ => false
theorem isOrd_ints (l : List Int) (n : Int) : isOrd n (.tuple (l.map PyData.int)) = ((l.map PyData.int).all (isTk n) && ordB l n) := by
  show (match intsOf (l.map PyData.int) with | some l' => (l.map PyData.int).all (isTk n) && ordB l' n | none => false) = _
  rw [intsOf_map]
theorem shaped_tup {ds : List PyData} {d : PyData} (h : SeqAt.shaped (.tuple ds) = true) (hd : d ∈ ds) : SeqAt.shaped d = true := by
  have key : ∀ ds : List PyData, PyData.canLayAll0 ds = true → PyData.depthAll ds ≤ 64 → ∀ d ∈ ds, SeqAt.shaped d = true := by
    intro ds
    induction ds with
    | nil => intro _ _ d hd; cases hd
    | cons x r ih =>
      intro h1 h2 d hd
      simp only [PyData.canLayAll0, Bool.and_eq_true] at h1
      simp only [PyData.depthAll] at h2
      rcases List.mem_cons.mp hd with z | z
      · rw [z]
        show (PyData.canLay0 x && decide (PyData.depth x ≤ 64)) = true
        rw [Bool.and_eq_true]
        exact ⟨h1.1, decide_eq_true (by omega)⟩
      · exact ih h1.2 (by omega) d z
  have h' : (PyData.canLay0 (.tuple ds) && decide (PyData.depth (.tuple ds) ≤ 64)) = true := h
  rw [Bool.and_eq_true] at h'
  have h2 := of_decide_eq_true h'.2
  simp only [PyData.canLay0] at h'
  simp only [PyData.depth] at h2
  exact key ds h'.1 (by omega) d hd
def inW : PyData → Bool
  | .str s => wd s
  | _ => false
theorem any_words (w : PyData) : ([PyData.str "then", PyData.str "beside"].any fun z => PyData.eqv z w) = inW w := by
  cases w with
  | str s =>
    have e : ∀ a : Str, PyData.eqv (.str a) (.str s) = decide (s = a) := fun a => by
      show (a == s) = decide (s = a)
      rw [Bool.eq_iff_iff, beq_iff_eq, decide_eq_true_eq]
      exact eq_comm
    show (PyData.eqv (.str "then") (.str s) || (PyData.eqv (.str "beside") (.str s) || false)) = _
    rw [e, e, Bool.or_false]
    rfl
  | _ => simp [PyData.eqv, inW]
theorem shaped_words : SeqAt.shaped (.tuple [PyData.str "then", PyData.str "beside"]) = true := by decide +kernel
def hasP : PyData → Bool
  | .tuple [w, .tuple ps] => inW w && decide (2 ≤ ps.length ∧ ps.length ≤ 7)
  | _ => false
theorem room65 {k : Nat} {A : Around} (r : Room k A) : A.units + 65 < cLine := by have := r.un; omega
end
end K14

set_option Elab.async false
set_option linter.all false
set_option maxRecDepth 100000
set_option maxHeartbeats 4000000
namespace K14
open PySem L2 GxR GA KD KR KM
abbrev sStream : Stmt := top 22
abbrev sNext : Stmt := top 23
abbrev sLIsInt : Stmt := top 24
abbrev sEqual : Stmt := top 25
/-- the law's stream at st -/
def StAt (st l : Addr) (H : Hp) : Prop := ∃ (b k : Int) (ns : List Int), H st = some (.lst [.ref l, .int b, .int k]) ∧ H l = some (.lst (ns.map V.int)) ∧ l ≠ st ∧ 0 ≤ b ∧ 0 ≤ k
abbrev MS (st : Addr) : Addr → Prop := fun a => a = st
theorem StAt.kp {st l : Addr} {H H' : Hp} (h : StAt st l H) (k : Kp MN H H') : StAt st l H' := by
  obtain ⟨b, c, ns, h1, h2, h3, h4, h5⟩ := h
  exact ⟨b, c, ns, k.lst _ _ (fun z => z) h1, k.lst _ _ (fun z => z) h2, h3, h4, h5⟩
theorem StAt.ex {st l : Addr} {H : Hp} (h : StAt st l H) : ∃ xs, H st = some (.lst xs) := by
  obtain ⟨b, c, ns, h1, _⟩ := h
  exact ⟨_, h1⟩
theorem StAt.ex2 {st l : Addr} {H : Hp} (h : StAt st l H) : ∃ xs, H l = some (.lst xs) := by
  obtain ⟨b, c, ns, _, h2, _⟩ := h
  exact ⟨_, h2⟩
def spStream (K : PySem.W.Frag) : Sp := fun vs H Q _ => ∃ (a : Addr) (ns : List Int), vs = [.ref a] ∧ SqL K H a (ns.map V.int) ∧ ns.length ≤ 63 ∧ ∀ st l H', H st = none → Kp MN H H' → StAt st l H' → Q (.ref st) H'
def spNext : Sp := fun vs H Q _ => ∃ (st l : Addr) (many : Int), vs = [.ref st, .int many] ∧ StAt st l H ∧ 0 < many ∧ many < 1000 ∧ ∀ d H', 0 ≤ d → d < many → Kp (MS st) H H' → StAt st l H' → Q (.int d) H'
section
variable {P : Program} {w : World} {K : PySem.W.Frag} {mg : Str → Option Value} {base : Heap}
theorem scStream : FnScope ["script"] ["script"] (defScope sStream) := ⟨rfl, rfl, rfl, by decide +kernel, rfl, by decide +kernel, by decide +kernel⟩
theorem ok_stream {f : Addr} {fd : FuncData} (F : Fun K "_law_stream" "_law_stream" sStream f fd) (B : Bl K mg) : FnOk P w K mg base CX0 1 f fd ["script"] (spStream K) := by
  refine F.ok scStream (fun vs H Q E h => ?_) (fun cdv A outer s H vs Q E hr h => ?_)
  · obtain ⟨a, ns, rfl, _⟩ := h
    rfl
  obtain ⟨a, ns, rfl, hS, hl, q⟩ := h
  refine ⟨_, pss_one (ps_ret (pe_lst (pa_cons (pe_callTy call_list_of rfl B.list (by decide +kernel) (pa_cons (pv 0) pa_nil)) (pa_cons pe_int (pa_cons pe_int pa_nil))))), ?_⟩
  refine ⟨_, rfl, a, _, rfl, .inl hS, fun l hl => ?_⟩
  refine ⟨by show 3 ≤ sizeLine; decide, fun st hst => ?_⟩
  have n : l ≠ st := fun z => by rw [← z, upd_same] at hst; cases hst
  have hst' : H st = none := by rw [upd_ne n.symm] at hst; exact hst
  exact q st l _ hst' ((Kp.new hl).trans (Kp.new hst)) ⟨0, 0, ns, upd_same, by rw [upd_ne n, upd_same], n, by decide, by decide⟩
theorem scNext : FnScope ["stream", "many", "k", "cell", "digit"] ["stream", "many"] (defScope sNext) := ⟨rfl, rfl, rfl, by decide +kernel, rfl, by decide +kernel, by decide +kernel⟩
theorem ok_next {f : Addr} {fd : FuncData} (F : Fun K "_law_next" "_law_next" sNext f fd) (B : Bl K mg) : FnOk P w K mg base CX0 1 f fd ["stream", "many"] spNext := by
  refine F.ok scNext (fun vs H Q E h => ?_) (fun cdv A outer s H vs Q E hr h => ?_)
  · obtain ⟨st, l, many, rfl, _⟩ := h
    rfl
  obtain ⟨st, l, many, rfl, ⟨b, k, ns, h1, h2, h3, h4, h5⟩, m1, m2, q⟩ := h
  refine ⟨_, C8.pss_cut (ps_if (pt_cmpR op_eq (pe_ix ix_list (pv 0) pe_int (fun _ _ => rfl)) pe_int (nomark _))
      (pss_cons (ps_set (i := 2) scNext.nd rfl (Or.inl rfl) (pe_ix ix_list (pv 0) pe_int (fun _ _ => rfl)))
      (pss_cons (ps_set (i := 3) scNext.nd rfl (Or.inl rfl) (pe_op op_add pe_int (pv 2)))
      (C8.pss_cut (ps_if (pt_cmpR op_lt (pv 2) (pe_callB call_len_seq rfl B.len PySem.boot_len (pa_cons (pe_ix ix_list (pv 0) pe_int (fun _ _ => rfl)) pa_nil)) (nomark _))
          (pss_one (ps_set (i := 3) scNext.nd rfl (Or.inl rfl) (pe_callB call_abs rfl B.abs (by decide +kernel) (pa_cons (pe_ix ix_list (pe_ix ix_list (pv 0) pe_int (fun _ _ => rfl)) (pv 2) (fun _ _ => rfl)) pa_nil)))) pss_nil)
      (C8.pss_cut (ps_if (pt_cmpR op_lt (pv 3) (pe_op op_pow pe_int pe_int) (nomark _))
          (pss_cons (ps_set (i := 3) scNext.nd rfl (Or.inl rfl) (pe_op op_mod (pe_callTy call_int1 rfl B.int (by decide +kernel) (pa_cons (pe_op op_add (pe_op op_add (pe_op op_mul (pv 3) pe_int) (pe_op op_mul (pv 2) pe_int)) pe_int) pa_nil)) pe_int))
          (pss_one (ps_set (i := 3) scNext.nd rfl (Or.inl rfl) (pe_op op_add (pe_op op_mul (pe_op op_mod (pe_callTy call_int1 rfl B.int (by decide +kernel) (pa_cons (pe_op op_add (pe_op op_mul (pv 3) pe_int) pe_int) pa_nil)) pe_int) pe_int) (pv 3))))) pss_nil)
      (pss_cons (ps_asg (pv 3) (pg_sub (pv 0) pe_int set_list))
      (pss_one (ps_asg (pe_op op_add (pv 2) pe_int) (pg_sub (pv 0) pe_int set_list)))))))) pss_nil)
    (pss_cons (ps_set (i := 4) scNext.nd rfl (Or.inl rfl) (pe_op op_mod (pe_callTy call_int1 rfl B.int (by decide +kernel) (pa_cons (pe_ix ix_list (pv 0) pe_int (fun _ _ => rfl)) pa_nil)) (pv 1)))
    (pss_cons (ps_asg (pe_op op_fdivW (pe_ix ix_list (pv 0) pe_int (fun _ _ => rfl)) (pv 1)) (pg_sub (pv 0) pe_int set_list))
    (pss_one (ps_ret (pv 4))))), ?_⟩
  -- behind the first if
  refine ⟨fun σ' H' => ∃ (b' k' : Int) (x2 x3 : Option V), σ' = [some (.ref st), some (.int many), x2, x3, none] ∧ Kp (MS st) H H' ∧ H' st = some (.lst [.ref l, .int b', .int k']) ∧ H' l = some (.lst (ns.map V.int)) ∧ 0 ≤ b' ∧ 0 ≤ k', ?_, ?_⟩
  · refine ⟨_, rfl, st, _, _, _, rfl, rfl, SqL.of h1, atI_nat (j := 1) rfl, rfl, _, rfl, ?_⟩
    refine ite2 (fun c => ?_) (fun c => ?_)
    · refine ⟨_, rfl, st, _, _, _, rfl, rfl, SqL.of h1, atI_nat (j := 2) rfl, _, rfl, 7, _, rfl, rfl, ?_⟩
      refine ⟨fun σ' H' => ∃ cell : Int, 0 ≤ cell ∧ σ' = [some (.ref st), some (.int many), some (.int k), some (.int cell), none] ∧ H = H', ?_, ?_⟩
      · refine ⟨_, rfl, _, rfl, st, _, _, _, rfl, rfl, SqL.of h1, atI_nat (j := 0) rfl, l, _, rfl, .inl (SqL.of h2), _, _, rfl, rfl, _, rfl, ?_⟩
        refine ite2 (fun c2 => ?_) (fun c2 => ⟨7 + k, by omega, rfl, rfl⟩)
        have c2' : k < ((ns.map V.int).length : Int) := of_decide_eq_true c2
        rw [List.length_map] at c2'
        have hk : k.toNat < ns.length := by omega
        have ek : k = ((k.toNat : Nat) : Int) := by omega
        have hat := atI_nat (xs := ns.map V.int) (j := k.toNat) (v := .int ns[k.toNat]) (by rw [List.getElem?_map, List.getElem?_eq_getElem hk]; rfl)
        rw [← ek] at hat
        refine ⟨_, rfl, st, _, _, _, rfl, rfl, SqL.of h1, atI_nat (j := 0) rfl, _, rfl, l, _, _, _, rfl, rfl, SqL.of h2, hat, _, rfl, ?_⟩
        refine ⟨_, ?_, rfl, rfl⟩
        split <;> omega
      · rintro σ' H' ⟨cell, hc, rfl, rfl⟩
        refine ⟨fun σ' H' => ∃ cell : Int, 0 ≤ cell ∧ σ' = [some (.ref st), some (.int many), some (.int k), some (.int cell), none] ∧ H = H', ?_, ?_⟩
        · refine ⟨_, rfl, 10, 18, rfl, rfl, ⟨by decide, by decide, by decide⟩, _, _, rfl, rfl, _, rfl, ?_⟩
          refine ite2 (fun c2 => ?_) (fun c2 => ⟨cell, hc, rfl, rfl⟩)
          refine ⟨_, rfl, _, 48271, rfl, rfl, .inr ⟨by decide, by decide⟩, _, rfl, _, 69621, rfl, rfl, .inr ⟨by decide, by decide⟩, _, _, rfl, rfl, _, 11, rfl, rfl, .inl ⟨_, rfl, _, 2147483647, rfl, rfl, (by show (0 : Int) < 2147483647; decide), ?_⟩⟩
          refine ⟨_, rfl, _, 16807, rfl, rfl, .inr ⟨by decide, by decide⟩, _, 13, rfl, rfl, .inl ⟨_, rfl, _, 2147483647, rfl, rfl, (by show (0 : Int) < 2147483647; decide), _, 65537, rfl, rfl, .inr ⟨by decide, by decide⟩, _, rfl, _, _, rfl, rfl, ?_⟩⟩
          refine ⟨_, ?_, rfl, rfl⟩
          have e1 := Int.emod_nonneg (cell * 48271 + k * 69621 + 11) (show (2147483647 : Int) ≠ 0 by decide)
          have e2 := Int.emod_nonneg ((cell * 48271 + k * 69621 + 11) % 2147483647 * 16807 + 13) (show (2147483647 : Int) ≠ 0 by decide)
          omega
        · rintro σ' H' ⟨cell, hc, rfl, rfl⟩
          refine ⟨_, rfl, _, rfl, st, _, 1, 1, rfl, rfl, h1, rfl, ?_⟩
          refine ⟨_, rfl, k, 1, rfl, rfl, _, rfl, st, _, 2, 2, rfl, rfl, upd_same, rfl, ?_⟩
          rw [upd_upd]
          exact ⟨cell, k + 1, _, _, rfl, Kp.put rfl h1, upd_same, by rw [upd_ne h3]; exact h2, hc, by omega⟩
    · exact ⟨b, k, none, none, rfl, .refl, h1, h2, h4, h5⟩
  · rintro σ' H' ⟨b', k', x2, x3, rfl, kp, g1, g2, g4, g5⟩
    refine ⟨_, rfl, st, _, _, _, rfl, rfl, SqL.of g1, atI_nat (j := 1) rfl, .inl ⟨_, rfl, _, rfl, _, _, rfl, rfl, m1, ?_⟩⟩
    refine ⟨_, rfl, st, _, _, _, rfl, rfl, SqL.of g1, atI_nat (j := 1) rfl, _, rfl, _, _, rfl, rfl, wide_div (b := 10) m1 (by omega) (by decide) (by decide), _, rfl, st, _, 1, 1, rfl, rfl, g1, rfl, _, rfl, ?_⟩
    refine q _ _ (Int.emod_nonneg _ (by omega)) (Int.emod_lt_of_pos _ m1) (kp.trans (Kp.put rfl g1)) ⟨b' / many, k', ns, upd_same, by rw [upd_ne h3]; exact g2, h3, Int.ediv_nonneg g4 (by omega), g5⟩
end
end K14

set_option Elab.async false
set_option linter.all false
set_option maxRecDepth 100000
set_option maxHeartbeats 4000000
namespace K14
open PySem L2 GxR GA KD KR KM
mutual
/-- what the law means by equal: (actual, due) -/
def leq : PyData → PyData → Bool
  | .none, .none => true
  | .bool a, .bool b => decide (a = b)
  | .int a, .int b => decide (a = b)
  | .str a, .str b => decide (a = b)
  | .list xs, .list ys => leqL xs ys
  | .tuple xs, .tuple ys => leqL xs ys
  | _, _ => false
def leqL : List PyData → List PyData → Bool
  | [], [] => true
  | x :: xs, y :: ys => leq x y && leqL xs ys
  | _, _ => false
end
theorem leqL_len : ∀ {xs ys : List PyData}, leqL xs ys = true → xs.length = ys.length
  | [], [], _ => rfl
  | x :: xs, y :: ys, h => by
    simp only [leqL, Bool.and_eq_true] at h
    exact congrArg (· + 1) (leqL_len h.2)
  | [], _ :: _, h => by simp [leqL] at h
  | _ :: _, [], h => by simp [leqL] at h
mutual
theorem leq_refl : ∀ d : PyData, d.canLay0 = true → leq d d = true
  | .none, _ => by simp [leq]
  | .bool b, _ => by simp [leq]
  | .int b, _ => by simp [leq]
  | .str b, _ => by simp [leq]
  | .list xs, h => by simp only [leq]; exact leqL_refl xs (by simpa [PyData.canLay0] using h)
  | .tuple xs, h => by simp only [leq]; exact leqL_refl xs (by simpa [PyData.canLay0] using h)
  | .dict _, h => by simp [PyData.canLay0] at h
theorem leqL_refl : ∀ d : List PyData, PyData.canLayAll0 d = true → leqL d d = true
  | [], _ => by simp [leqL]
  | x :: xs, h => by
    simp only [PyData.canLayAll0, Bool.and_eq_true] at h
    simp only [leqL, leq_refl x h.1, leqL_refl xs h.2, Bool.and_self]
end
/-- place by place -/
theorem leqL_at : ∀ (xs ys : List PyData), xs.length = ys.length → leqL xs ys = ((List.range ys.length).map fun i => leq (xs.getD i .none) (ys.getD i .none)).all id
  | [], [], _ => by simp [leqL]
  | x :: xs, y :: ys, h => by
    have ih := leqL_at xs ys (by simpa using h)
    simp only [leqL, ih, List.length_cons, List.range_succ_eq_map, List.map_cons, List.map_map, List.all_cons, id]
    rfl
  | [], _ :: _, h => by simp at h
  | _ :: _, [], h => by simp at h
theorem depth_mem : ∀ {ds : List PyData} {d : PyData}, d ∈ ds → d.depth ≤ PyData.depthAll ds
  | x :: r, d, h => by
    simp only [PyData.depthAll]
    rcases List.mem_cons.mp h with z | z
    · rw [z]; omega
    · have := depth_mem z
      omega
mutual
def slim : PyData → Bool
  | .list xs => decide (xs.length ≤ 900) && slimL xs
  | .tuple xs => decide (xs.length ≤ 900) && slimL xs
  | _ => true
def slimL : List PyData → Bool
  | [] => true
  | x :: r => slim x && slimL r
end
theorem slimL_mem : ∀ {ds : List PyData} {d : PyData}, slimL ds = true → d ∈ ds → slim d = true
  | x :: r, d, h, hd => by
    simp only [slimL, Bool.and_eq_true] at h
    rcases List.mem_cons.mp hd with z | z
    · rw [z]; exact h.1
    · exact slimL_mem h.2 z
def spEq (n : Nat) : Sp := fun vs H Q _ => ∃ (v u : V) (d e : PyData), vs = [v, u] ∧ At MN H v d ∧ At MN H u e ∧ e.depth < n ∧ slim e = true ∧ ∀ H', Kp MN H H' → Q (.bl (leq d e)) H'
def spPick : Sp := fun vs H Q _ => ∃ (st l : Addr) (r : V) (ds : List PyData), vs = [.ref st, r] ∧ StAt st l H ∧ At (MS st) H r (.list ds) ∧ ds ≠ [] ∧ ds.length < 1000 ∧ ∀ x d H', d ∈ ds → At (MS st) H' x d → Kp (MS st) H H' → StAt st l H' → Q x H'
def spOrder : Sp := fun vs H Q _ => ∃ (st c : Addr) (n : Nat), vs = [.ref st, .int n] ∧ StAt st c H ∧ n < 60 ∧ ∀ p (l : List Int) H', l.Perm (rng n) → H' p = some (.tup (l.map V.int)) → Kp (MS st) H H' → StAt st c H' → Q (.ref p) H'
section
variable {P : Program} {w : World} {K : PySem.W.Frag} {mg : Str → Option Value} {base : Heap}
theorem scLIsInt : FnScope ["actual"] ["actual"] (defScope sLIsInt) := ⟨rfl, rfl, rfl, by decide +kernel, rfl, by decide +kernel, by decide +kernel⟩
theorem ok_lIsInt {f : Addr} {fd : FuncData} (F : Fun K "_law_is_integer" "_law_is_integer" sLIsInt f fd) (B : Bl K mg) : FnOk P w K mg base CX0 1 f fd ["actual"] spIsInt := by
  refine F.ok scLIsInt (fun vs H Q E h => ?_) (fun cdv A outer s H vs Q E hr h => ?_)
  · obtain ⟨v, d, rfl, _⟩ := h
    rfl
  obtain ⟨v, d, rfl, hA, q⟩ := h
  refine ⟨_, pss_one (ps_ret (pe_and (pe_callB call_isi rfl B.isinstance (by decide +kernel) (pa_cons (pv 0) (pa_cons (pe_bltn rfl B.int (by decide +kernel) (v := .ty "int") rfl) pa_nil)))
    (pe_one (pe_not (pe_callB call_isi rfl B.isinstance (by decide +kernel) (pa_cons (pv 0) (pa_cons (pe_bltn rfl B.bool (by decide +kernel) (v := .ty "bool") rfl) pa_nil))))))), ?_⟩
  refine ⟨_, rfl, _, _, _, _, _, rfl, .ty _, hA.ty, kit_int d, _, rfl, ?_⟩
  refine ite2 (fun c => ?_) (fun c => ?_)
  · refine ⟨_, rfl, _, _, _, _, _, rfl, .ty _, hA.ty, kit_bool d, _, rfl, ?_⟩
    have e : (!isB d) = isI d := by cases d <;> simp_all [isI, isB]
    rw [← e] at q
    exact q
  · have e : false = isI d := by cases d <;> simp_all [isI, isB]
    rw [← e] at q
    exact q
theorem scEqual : FnScope ["actual", "due", "at"] ["actual", "due"] (defScope sEqual) := ⟨rfl, rfl, rfl, by decide +kernel, rfl, by decide +kernel, by decide +kernel⟩
theorem ok_equal {n : Nat} {f g : Addr} {fd gd : FuncData} (F : Fun K "_law_equal" "_law_equal" sEqual f fd) (B : Bl K mg)
    (G : FnOk P w K mg base CX0 1 g gd ["actual"] spIsInt) (bG : Binds K gd ["actual"] []) (kG : PySem.W.keepIn K (.ref g) = true) (mG : mg "_law_is_integer" = some (.ref g))
    (R : FnOk P w K mg base CX0 (n + 1) f fd ["actual", "due"] (spEq n)) (bF : Binds K fd ["actual", "due"] []) (mF : mg "_law_equal" = some (.ref f)) :
    FnOk P w K mg base CX0 (n + 2) f fd ["actual", "due"] (spEq (n + 1)) := by
  refine F.ok scEqual (fun vs H Q E h => ?_) (fun cdv A outer s H vs Q E hr h => ?_)
  · obtain ⟨v, u, d, e, rfl, _⟩ := h
    rfl
  obtain ⟨v, u, d, e, rfl, hV, hU, hd, hsl, q⟩ := h
  refine ⟨_, pss_cons (ps_if (pt_cmp (pc_isN (pv 1))) (pss_one (ps_ret (pe_cmp (pc_isN (pv 0))))) pss_nil)
    (pss_cons (ps_if (pt_val (pe_callB call_isi rfl B.isinstance (by decide +kernel) (pa_cons (pv 1) (pa_cons (pe_bltn rfl B.bool (by decide +kernel) (v := .ty "bool") rfl) pa_nil))))
      (pss_one (ps_ret (pe_and (pe_callB call_isi rfl B.isinstance (by decide +kernel) (pa_cons (pv 0) (pa_cons (pe_bltn rfl B.bool (by decide +kernel) (v := .ty "bool") rfl) pa_nil))) (pe_one (pe_cmpR op_eq (pv 0) (pv 1) (nomark _)))))) pss_nil)
    (pss_cons (ps_if (pt_val (pe_callB call_isi rfl B.isinstance (by decide +kernel) (pa_cons (pv 1) (pa_cons (pe_bltn rfl B.int (by decide +kernel) (v := .ty "int") rfl) pa_nil))))
      (pss_one (ps_ret (pe_and (pe_call G (hr.mono (Nat.le_add_left 1 n)) rfl mG kG bG .nil pass0 (pa_cons (pv 0) pa_nil)) (pe_one (pe_cmpR op_eq (pv 0) (pv 1) (nomark _)))))) pss_nil)
    (pss_cons (ps_if (pt_val (pe_callB call_isi rfl B.isinstance (by decide +kernel) (pa_cons (pv 1) (pa_cons (pe_bltn rfl B.str (by decide +kernel) (v := .ty "str") rfl) pa_nil))))
      (pss_one (ps_ret (pe_and (pe_callB call_isi rfl B.isinstance (by decide +kernel) (pa_cons (pv 0) (pa_cons (pe_bltn rfl B.str (by decide +kernel) (v := .ty "str") rfl) pa_nil))) (pe_one (pe_cmpR op_eq (pv 0) (pv 1) (nomark _)))))) pss_nil)
    (pss_cons (ps_if (PW.pt (pw_and (pt_val (pe_callB call_isi rfl B.isinstance (by decide +kernel) (pa_cons (pv 1) (pa_cons (pe_bltn rfl B.tuple (by decide +kernel) (v := .ty "tuple") rfl) pa_nil))))
        (pw_and1 (pt_not (pt_val (pe_callB call_isi rfl B.isinstance (by decide +kernel) (pa_cons (pv 0) (pa_cons (pe_bltn rfl B.tuple (by decide +kernel) (v := .ty "tuple") rfl) pa_nil))))))))
      (pss_one (ps_ret pe_bl)) pss_nil)
    (pss_cons (ps_if (PW.pt (pw_and (pt_val (pe_callB call_isi rfl B.isinstance (by decide +kernel) (pa_cons (pv 1) (pa_cons (pe_bltn rfl B.list (by decide +kernel) (v := .ty "list") rfl) pa_nil))))
        (pw_and1 (pt_not (pt_val (pe_callB call_isi rfl B.isinstance (by decide +kernel) (pa_cons (pv 0) (pa_cons (pe_bltn rfl B.list (by decide +kernel) (v := .ty "list") rfl) pa_nil))))))))
      (pss_one (ps_ret pe_bl)) pss_nil)
    (pss_cons (ps_if (pt_cmpR op_ne (pe_callB call_len_seq rfl B.len PySem.boot_len (pa_cons (pv 0) pa_nil)) (pe_callB call_len_seq rfl B.len PySem.boot_len (pa_cons (pv 1) pa_nil)) (nomark _)) (pss_one (ps_ret pe_bl)) pss_nil)
    (pss_one (ps_ret (pe_callB (cr_all rfl) rfl B.all (by decide +kernel) (pa_cons
      (pe_lc (own := [("at", 2)]) (g := gName 2) (tt := tYes) rfl scEqual.nd (pi_range1 rfl B.range (pa_cons (pe_callB call_len_seq rfl B.len PySem.boot_len (pa_cons (pv 1) pa_nil)) pa_nil)) (blkOk_by (own := [("at", 2)]) (N := ["actual", "due", "at"]) (sc := defScope sEqual) (by decide +kernel))
        (fun _ _ _ _ _ => pg_name (i := 2) scEqual.nd rfl (Or.inl rfl)) (fun _ _ _ _ _ => pts_nil)
        (fun _ _ _ _ _ => pe_call R hr rfl mF F.kp bF .nil pass0 (pa_cons (pe_ix (r := fun x y H Q => rIxL K x y H Q ∨ rIxT K x y H Q) (IxR.or ix_list ix_tup) (pv 0) (pv 2) (fun _ _ => rfl)) (pa_cons (pe_ix (r := fun x y H Q => rIxL K x y H Q ∨ rIxT K x y H Q) (IxR.or ix_list ix_tup) (pv 1) (pv 2) (fun _ _ => rfl)) pa_nil)))) pa_nil)))))))))), ?_⟩
  have hV' := hV
  have hU' := hU
  refine ⟨_, rfl, _, rfl, ?_⟩
  cases hU with
  | non =>
    refine iteT ?_
    refine ⟨_, rfl, ?_⟩
    cases hV <;> exact q H .refl
  | bl b =>
    refine iteF ?_
    refine ⟨_, rfl, _, _, _, _, _, rfl, .ty _, hU'.ty, kit_bool _, _, rfl, ?_⟩
    refine iteT ?_
    refine ⟨_, rfl, _, _, _, _, _, rfl, .ty _, hV'.ty, kit_bool _, _, rfl, ?_⟩
    cases hV with
    | bl a =>
      refine iteT ⟨_, rfl, _, rfl, rfl, ?_⟩
      have e : decide (V.bl a = V.bl b) = leq (.bool a) (.bool b) := by simp only [leq, decide_eq_decide]; exact ⟨fun z => by injection z, fun z => by rw [z]⟩
      rw [e]
      exact q H .refl
    | _ => exact iteF (q H .refl)
  | int b =>
    refine iteF ?_
    refine ⟨_, rfl, _, _, _, _, _, rfl, .ty _, hU'.ty, kit_bool _, _, rfl, ?_⟩
    refine iteF ?_
    refine ⟨_, rfl, _, _, _, _, _, rfl, .ty _, hU'.ty, kit_int _, _, rfl, ?_⟩
    refine iteT ?_
    refine ⟨_, rfl, v, d, rfl, hV', _, rfl, ?_⟩
    cases hV with
    | int a =>
      refine iteT ⟨_, rfl, _, rfl, rfl, ?_⟩
      have e : decide (V.int a = V.int b) = leq (.int a) (.int b) := by simp only [leq, decide_eq_decide]; exact ⟨fun z => by injection z, fun z => by rw [z]⟩
      rw [e]
      exact q H .refl
    | _ => exact iteF (q H .refl)
  | str b =>
    refine iteF ?_
    refine ⟨_, rfl, _, _, _, _, _, rfl, .ty _, hU'.ty, kit_bool _, _, rfl, ?_⟩
    refine iteF ?_
    refine ⟨_, rfl, _, _, _, _, _, rfl, .ty _, hU'.ty, kit_int _, _, rfl, ?_⟩
    refine iteF ?_
    refine ⟨_, rfl, _, _, _, _, _, rfl, .ty _, hU'.ty, kit_str _, _, rfl, ?_⟩
    refine iteT ?_
    refine ⟨_, rfl, _, _, _, _, _, rfl, .ty _, hV'.ty, kit_str _, _, rfl, ?_⟩
    cases hV with
    | str a =>
      refine iteT ⟨_, rfl, _, rfl, rfl, ?_⟩
      have e : decide (V.str a = V.str b) = leq (.str a) (.str b) := by simp only [leq, decide_eq_decide]; exact ⟨fun z => by injection z, fun z => by rw [z]⟩
      rw [e]
      exact q H .refl
    | _ => exact iteF (q H .refl)
  | @lst a2 ys es hy0 _ hay =>
    refine iteF ?_
    refine ⟨_, rfl, _, _, _, _, _, rfl, .ty _, hU'.ty, kit_bool _, _, rfl, ?_⟩
    refine iteF ?_
    refine ⟨_, rfl, _, _, _, _, _, rfl, .ty _, hU'.ty, kit_int _, _, rfl, ?_⟩
    refine iteF ?_
    refine ⟨_, rfl, _, _, _, _, _, rfl, .ty _, hU'.ty, kit_str _, _, rfl, ?_⟩
    refine iteF ?_
    refine ⟨_, rfl, _, _, _, _, _, rfl, .ty _, hU'.ty, kit_tup _, _, rfl, ?_⟩
    refine iteF ?_
    refine ⟨_, rfl, _, _, _, _, _, rfl, .ty _, hU'.ty, kit_lst _, _, rfl, ?_⟩
    refine iteT ?_
    refine ⟨_, rfl, _, _, _, _, _, rfl, .ty _, hV'.ty, kit_lst _, _, rfl, ?_⟩
    cases hV with
    | @lst a1 xs ds hx0 _ hax =>
      refine iteF ?_
      have hl1 := hax.length
      have hl2 := hay.length
      refine ⟨_, rfl, _, xs, rfl, .inl (SqL.of hx0), _, rfl, _, ys, rfl, .inl (SqL.of hy0), rfl, _, rfl, ?_⟩
      refine ite2 (fun c => ?_) (fun c => ?_)
      · have c' : ¬ xs.length = ys.length := fun z => by
          rw [z] at c
          exact absurd c (by simp)
        have e : leq (.list ds) (.list es) = false := by
          simp only [leq]
          exact Bool.eq_false_iff.mpr fun z => c' (by rw [hl1, hl2]; exact leqL_len z)
        have := q H .refl
        rw [e] at this
        exact this
      · have hlen : xs.length = ys.length := by
          have c' := Bool.eq_false_iff.mpr c
          have := of_decide_eq_true (show decide (V.int (xs.length : Int) = V.int (ys.length : Int)) = true by simpa using c')
          injection this with this
          omega
        simp only [slim, Bool.and_eq_true, decide_eq_true_eq] at hsl
        obtain ⟨hs1, hs2⟩ := hsl
        refine ⟨_, rfl, _, ys, rfl, .inl (SqL.of hy0), (ys.length : Int), rfl, by omega, by omega, fun D hD => ?_⟩
        refine lc_range (lo := 0) (n := ((ys.length : Int)).toNat) (fun i H' => Kp MN H H' ∧ H' D = some (.lst (((List.range i).map fun j => leq (ds.getD j .none) (es.getD j .none)).map V.bl))) ⟨Kp.new hD, upd_same⟩ (fun i H' hi p => ?_) (fun H' p => ?_)
        · obtain ⟨k1, hD1⟩ := p
          have hi' : i < ys.length := by omega
          have hx : xs[i]? = some (xs[i]'(by omega)) := List.getElem?_eq_getElem (by omega)
          have hy : ys[i]? = some (ys[i]'(by omega)) := List.getElem?_eq_getElem (by omega)
          obtain ⟨dx, hdx, ax⟩ := hax.get hx
          obtain ⟨dy, hdy, ay⟩ := hay.get hy
          refine ⟨rfl, ?_⟩
          dsimp only [tYes]
          rw [if_pos rfl]
          refine ⟨_, rfl, _, rfl, .inl ⟨_, _, _, _, rfl, rfl, (k1.seqL (fun z => z) (SqL.of hx0)), (by rw [Int.zero_add]; exact atI_nat hx), _, rfl, _, rfl, .inl ⟨_, _, _, _, rfl, rfl, (k1.seqL (fun z => z) (SqL.of hy0)), (by rw [Int.zero_add]; exact atI_nat hy), ?_⟩⟩⟩
          refine ⟨_, _, dx, dy, rfl, ax.kp k1, ay.kp k1, ?_, slimL_mem hs2 (List.mem_of_getElem? hdy), fun H2 k2 => ⟨_, k2.lst D _ (fun z => z) hD1, by rw [List.length_map, List.length_map, List.length_range]; exact small1000 (by omega), (k1.trans k2).putFresh (Kp.noLst (M := MN) .refl (fun z => z) hD) (k2.lst D _ (fun z => z) hD1), ?_⟩⟩
          · have := depth_mem (List.mem_of_getElem? hdy)
            simp only [PyData.depth] at hd
            omega
          · rw [upd_same, List.range_succ, List.map_append, List.map_append]
            have e1 : ds.getD i .none = dx := by rw [List.getD_eq_getElem?_getD, hdx]; rfl
            have e2 : es.getD i .none = dy := by rw [List.getD_eq_getElem?_getD, hdy]; rfl
            simp only [List.map_cons, List.map_nil, e1, e2]
        · obtain ⟨k1, hD1⟩ := p
          refine ⟨D, _, rfl, SqL.of hD1, ?_⟩
          have e : leq (.list ds) (.list es) = (List.map (fun j => leq (ds.getD j .none) (es.getD j .none)) (List.range ((ys.length : Int)).toNat)).all id := by
            simp only [leq]
            rw [leqL_at ds es (by omega)]
            rw [show ((ys.length : Int)).toNat = es.length by omega]
          have := q H' k1
          rw [e] at this
          exact this
    | _ => exact iteT (q H .refl)
  | @tup a2 ys es hy0 hay =>
    refine iteF ?_
    refine ⟨_, rfl, _, _, _, _, _, rfl, .ty _, hU'.ty, kit_bool _, _, rfl, ?_⟩
    refine iteF ?_
    refine ⟨_, rfl, _, _, _, _, _, rfl, .ty _, hU'.ty, kit_int _, _, rfl, ?_⟩
    refine iteF ?_
    refine ⟨_, rfl, _, _, _, _, _, rfl, .ty _, hU'.ty, kit_str _, _, rfl, ?_⟩
    refine iteF ?_
    refine ⟨_, rfl, _, _, _, _, _, rfl, .ty _, hU'.ty, kit_tup _, _, rfl, ?_⟩
    refine iteT ?_
    refine ⟨_, rfl, _, _, _, _, _, rfl, .ty _, hV'.ty, kit_tup _, _, rfl, ?_⟩
    cases hV with
    | @tup a1 xs ds hx0 hax =>
      refine iteF ?_
      refine ⟨_, rfl, _, _, _, _, _, rfl, .ty _, hU'.ty, kit_lst _, _, rfl, ?_⟩
      refine iteF ?_
      have hl1 := hax.length
      have hl2 := hay.length
      refine ⟨_, rfl, _, xs, rfl, .inr (SqT.of hx0), _, rfl, _, ys, rfl, .inr (SqT.of hy0), rfl, _, rfl, ?_⟩
      refine ite2 (fun c => ?_) (fun c => ?_)
      · have c' : ¬ xs.length = ys.length := fun z => by
          rw [z] at c
          exact absurd c (by simp)
        have e : leq (.tuple ds) (.tuple es) = false := by
          simp only [leq]
          exact Bool.eq_false_iff.mpr fun z => c' (by rw [hl1, hl2]; exact leqL_len z)
        have := q H .refl
        rw [e] at this
        exact this
      · have hlen : xs.length = ys.length := by
          have c' := Bool.eq_false_iff.mpr c
          have := of_decide_eq_true (show decide (V.int (xs.length : Int) = V.int (ys.length : Int)) = true by simpa using c')
          injection this with this
          omega
        simp only [slim, Bool.and_eq_true, decide_eq_true_eq] at hsl
        obtain ⟨hs1, hs2⟩ := hsl
        refine ⟨_, rfl, _, ys, rfl, .inr (SqT.of hy0), (ys.length : Int), rfl, by omega, by omega, fun D hD => ?_⟩
        refine lc_range (lo := 0) (n := ((ys.length : Int)).toNat) (fun i H' => Kp MN H H' ∧ H' D = some (.lst (((List.range i).map fun j => leq (ds.getD j .none) (es.getD j .none)).map V.bl))) ⟨Kp.new hD, upd_same⟩ (fun i H' hi p => ?_) (fun H' p => ?_)
        · obtain ⟨k1, hD1⟩ := p
          have hi' : i < ys.length := by omega
          have hx : xs[i]? = some (xs[i]'(by omega)) := List.getElem?_eq_getElem (by omega)
          have hy : ys[i]? = some (ys[i]'(by omega)) := List.getElem?_eq_getElem (by omega)
          obtain ⟨dx, hdx, ax⟩ := hax.get hx
          obtain ⟨dy, hdy, ay⟩ := hay.get hy
          refine ⟨rfl, ?_⟩
          dsimp only [tYes]
          rw [if_pos rfl]
          refine ⟨_, rfl, _, rfl, .inr ⟨_, _, _, _, rfl, rfl, (k1.seqT (SqT.of hx0)), (by rw [Int.zero_add]; exact atI_nat hx), _, rfl, _, rfl, .inr ⟨_, _, _, _, rfl, rfl, (k1.seqT (SqT.of hy0)), (by rw [Int.zero_add]; exact atI_nat hy), ?_⟩⟩⟩
          refine ⟨_, _, dx, dy, rfl, ax.kp k1, ay.kp k1, ?_, slimL_mem hs2 (List.mem_of_getElem? hdy), fun H2 k2 => ⟨_, k2.lst D _ (fun z => z) hD1, by rw [List.length_map, List.length_map, List.length_range]; exact small1000 (by omega), (k1.trans k2).putFresh (Kp.noLst (M := MN) .refl (fun z => z) hD) (k2.lst D _ (fun z => z) hD1), ?_⟩⟩
          · have := depth_mem (List.mem_of_getElem? hdy)
            simp only [PyData.depth] at hd
            omega
          · rw [upd_same, List.range_succ, List.map_append, List.map_append]
            have e1 : ds.getD i .none = dx := by rw [List.getD_eq_getElem?_getD, hdx]; rfl
            have e2 : es.getD i .none = dy := by rw [List.getD_eq_getElem?_getD, hdy]; rfl
            simp only [List.map_cons, List.map_nil, e1, e2]
        · obtain ⟨k1, hD1⟩ := p
          refine ⟨D, _, rfl, SqL.of hD1, ?_⟩
          have e : leq (.tuple ds) (.tuple es) = (List.map (fun j => leq (ds.getD j .none) (es.getD j .none)) (List.range ((ys.length : Int)).toNat)).all id := by
            simp only [leq]
            rw [leqL_at ds es (by omega)]
            rw [show ((ys.length : Int)).toNat = es.length by omega]
          have := q H' k1
          rw [e] at this
          exact this
    | _ => exact iteT (q H .refl)
end
end K14

set_option Elab.async false
set_option linter.all false
set_option maxRecDepth 100000
set_option maxHeartbeats 4000000
namespace K14
open PySem L2 GxR GA KD KR KM
theorem pop_perm : ∀ {l : List Int} {j : Nat} (h : j < l.length), (l[j] :: l.eraseIdx j).Perm l
  | x :: r, 0, h => List.Perm.refl _
  | x :: r, j + 1, h => by
    have hj : j < r.length := by simpa using h
    have ih := pop_perm (l := r) (j := j) hj
    show (r[j] :: x :: r.eraseIdx j).Perm (x :: r)
    exact (List.Perm.swap x r[j] _).trans (List.Perm.cons x ih)
theorem map_eraseIdx {α β : Type} (f : α → β) : ∀ (l : List α) (j : Nat), (l.eraseIdx j).map f = (l.map f).eraseIdx j
  | [], _ => rfl
  | x :: r, 0 => rfl
  | x :: r, j + 1 => congrArg (f x :: ·) (map_eraseIdx f r j)
theorem seq_ix {d : Int} {n : Nat} (h0 : 0 ≤ d) (h1 : d < n) : PySem.seqIndex? d n = some d.toNat := (ixN_seq (by unfold ixN; rw [if_pos h0, if_pos h1])).1
theorem StAt.new {st c p : Addr} {H : Hp} {o : HO} (s : StAt st c H) (h : H p = none) : StAt st c (upd H p o) := s.kp (Kp.new h)
theorem StAt.ne {st c p : Addr} {H : Hp} (s : StAt st c H) (h : H p = none) : p ≠ st ∧ p ≠ c := by
  obtain ⟨xs, e⟩ := s.ex
  obtain ⟨ys, e2⟩ := s.ex2
  exact ⟨(ne_of_none e h).symm, (ne_of_none e2 h).symm⟩
/-- a write to a list that is not the stream's -/
theorem StAt.put {st c a : Addr} {H : Hp} {xs : List V} (s : StAt st c H) (hn : a ≠ st ∧ a ≠ c) : StAt st c (upd H a (.lst xs)) := by
  obtain ⟨b, k, ns, h1, h2, h3, h4, h5⟩ := s
  exact ⟨b, k, ns, by rw [upd_ne hn.1.symm]; exact h1, by rw [upd_ne hn.2.symm]; exact h2, h3, h4, h5⟩
section
variable {P : Program} {w : World} {K : PySem.W.Frag} {mg : Str → Option Value} {base : Heap}
theorem never_ok {f : Addr} {fd : FuncData} {ps : List Str} {sp : Sp} {k : Nat} (no : ∀ vs H Q E, ¬ sp vs H Q E) : FnOk P w K mg base CX0 k f fd ps sp :=
  ⟨fun vs H Q E h => absurd h (no vs H Q E), fun A outer s H args us vs Q E _ _ _ _ h => absurd h (no vs H Q E)⟩
theorem oks_equal {f g : Addr} {fd gd : FuncData} (F : Fun K "_law_equal" "_law_equal" sEqual f fd) (B : Bl K mg)
    (G : FnOk P w K mg base CX0 1 g gd ["actual"] spIsInt) (bG : Binds K gd ["actual"] []) (kG : PySem.W.keepIn K (.ref g) = true) (mG : mg "_law_is_integer" = some (.ref g))
    (bF : Binds K fd ["actual", "due"] []) (mF : mg "_law_equal" = some (.ref f)) : ∀ n : Nat, FnOk P w K mg base CX0 (n + 1) f fd ["actual", "due"] (spEq n)
  | 0 => never_ok fun vs H Q E h => by
    obtain ⟨_, _, _, _, _, _, _, h, _⟩ := h
    exact absurd h (Nat.not_lt_zero _)
  | n + 1 => ok_equal F B G bG kG mG (oks_equal F B G bG kG mG bF mF n) bF mF
end
end K14

set_option Elab.async false
set_option linter.all false
set_option maxRecDepth 100000
set_option maxHeartbeats 4000000
namespace K14
open PySem L2 GxR GA KD KR KM
mutual
/-- no list within -/
def noL : PyData → Bool
  | .list _ => false
  | .tuple xs => noLL xs
  | _ => true
def noLL : List PyData → Bool
  | [] => true
  | x :: r => noL x && noLL r
end
theorem noLL_app : ∀ ds es : List PyData, noLL (ds ++ es) = (noLL ds && noLL es)
  | [], es => by simp [noLL]
  | d :: r, es => by
    show noLL (d :: (r ++ es)) = _
    simp only [noLL, noLL_app r es, Bool.and_assoc]
mutual
theorem At.put {M M' : Addr → Prop} {H H' : Hp} (k : ∀ b xs, H b = some (.tup xs) → H' b = some (.tup xs)) : ∀ {d : PyData} {v : V}, At M H v d → noL d = true → At M' H' v d
  | .none, _, h, _ => by cases h; exact .non
  | .bool b, _, h, _ => by cases h; exact .bl b
  | .int i, _, h, _ => by cases h; exact .int i
  | .str x, _, h, _ => by cases h; exact .str x
  | .list ds, _, h, n => by simp [noL] at n
  | .tuple ds, _, h, n => by
    cases h with
    | tup e r => exact .tup (k _ _ e) (AtL.put k r (by simpa [noL] using n))
  | .dict _, _, h, _ => by cases h
theorem AtL.put {M M' : Addr → Prop} {H H' : Hp} (k : ∀ b xs, H b = some (.tup xs) → H' b = some (.tup xs)) : ∀ {ds : List PyData} {vs : List V}, AtL M H vs ds → noLL ds = true → AtL M' H' vs ds
  | [], _, h, _ => by cases h; exact .nil
  | d :: ds, _, h, n => by
    simp only [noLL, Bool.and_eq_true] at n
    cases h with
    | cons a r => exact .cons (At.put k a n.1) (AtL.put k r n.2)
end
structure PlanD (d : PyData) (w : Str) (ts : List Int) : Prop where
  form : ∀ o, o ≠ w → ∃ l, formed d o = some l ∧ l.Perm ts
  lay : d.canLay0 = true
  dep : d.depth + 2 ≤ 2 * ts.length
  slm : slim d = true
  nol : noL d = true
structure PartsD (ds : List PyData) (w : Str) (ls : List (List Int)) (n : Nat) : Prop where
  form : ∃ l, formedL ds w = some l ∧ l.Perm ls.flatten
  lay : PyData.canLayAll0 ds = true
  dep : PyData.depthAll ds + 4 ≤ 2 * n
  slm : slimL ds = true
  nol : noLL ds = true
  len : ds.length = ls.length
theorem formedL_app (w : Str) : ∀ ds es : List PyData, formedL (ds ++ es) w = (match formedL ds w, formedL es w with | some a, some b => some (a ++ b) | _, _ => none)
  | [], es => by
    rw [formedL_nil]
    show formedL es w = _
    cases formedL es w <;> rfl
  | d :: r, es => by
    show formedL (d :: (r ++ es)) w = _
    rw [formedL_cons, formedL_cons, formedL_app w r es]
    cases formed d w <;> cases formedL r w <;> cases formedL es w <;> simp
theorem formedL_one (d : PyData) (w : Str) : formedL [d] w = formed d w := by
  rw [formedL_cons, formedL_nil]
  cases formed d w <;> simp
theorem depthAll_app : ∀ ds es : List PyData, PyData.depthAll (ds ++ es) = max (PyData.depthAll ds) (PyData.depthAll es)
  | [], es => by simp [PyData.depthAll]
  | d :: r, es => by
    show PyData.depthAll (d :: (r ++ es)) = _
    simp only [PyData.depthAll, depthAll_app r es]
    omega
theorem layAll_app : ∀ ds es : List PyData, PyData.canLayAll0 (ds ++ es) = (PyData.canLayAll0 ds && PyData.canLayAll0 es)
  | [], es => by simp [PyData.canLayAll0]
  | d :: r, es => by
    show PyData.canLayAll0 (d :: (r ++ es)) = _
    simp only [PyData.canLayAll0, layAll_app r es, Bool.and_assoc]
theorem slimL_app : ∀ ds es : List PyData, slimL (ds ++ es) = (slimL ds && slimL es)
  | [], es => by simp [slimL]
  | d :: r, es => by
    show slimL (d :: (r ++ es)) = _
    simp only [slimL, slimL_app r es, Bool.and_assoc]
theorem PartsD.nil {w : Str} {n : Nat} (h : 2 ≤ n) : PartsD [] w [] n := ⟨⟨[], by rw [formedL_nil], List.Perm.refl _⟩, by simp [PyData.canLayAll0], by simp [PyData.depthAll]; omega, by simp [slimL], by simp [noLL], rfl⟩
theorem PartsD.snoc {ds : List PyData} {w o : Str} {ls : List (List Int)} {n : Nat} {d : PyData} {l : List Int} (p : PartsD ds w ls n) (q : PlanD d o l) (hn : w ≠ o) (hl : l.length + 1 ≤ n) : PartsD (ds ++ [d]) w (ls ++ [l]) n := by
  obtain ⟨⟨a, a1, a2⟩, b, c, e, n0, f⟩ := p
  obtain ⟨x, x1, x2⟩ := q.form w hn
  refine ⟨⟨a ++ x, ?_, ?_⟩, ?_, ?_, ?_, ?_, ?_⟩
  · rw [formedL_app, formedL_one, a1, x1]
  · rw [List.flatten_append]
    simp only [List.flatten_cons, List.flatten_nil, List.append_nil]
    exact a2.append x2
  · rw [layAll_app, b]
    simp [PyData.canLayAll0, q.lay]
  · rw [depthAll_app]
    have := q.dep
    simp only [PyData.depthAll]
    omega
  · rw [slimL_app, e]
    simp [slimL, q.slm]
  · rw [noLL_app, n0]
    simp [noLL, q.nol]
  · rw [List.length_append, List.length_append, f]
    rfl
theorem wd_or {w : Str} (h : wd w = true) : w = "then" ∨ w = "beside" := by
  unfold wd at h
  simpa using h
theorem strOk_words : PyData.strOk "then" = true ∧ PyData.strOk "beside" = true := by constructor <;> decide +kernel
theorem PartsD.plan {ds : List PyData} {w : Str} {ls : List (List Int)} {ts : List Int} (p : PartsD ds w ls ts.length) (hw : wd w = true) (h2 : 2 ≤ ls.length) (hp : ls.flatten.Perm ts) (h9 : ls.length ≤ 900) : PlanD (.tuple [.str w, .tuple ds]) w ts := by
  obtain ⟨⟨a, a1, a2⟩, b, c, e, n0, f⟩ := p
  refine ⟨fun o ho => ⟨a, ?_, a2.trans hp⟩, ?_, ?_, ?_, ?_⟩
  · rw [formed_parts, if_pos, a1]
    simp [hw, ho.symm]
    omega
  · have hs : PyData.strOk w = true := by
      rcases wd_or hw with z | z <;> rw [z]
      · exact strOk_words.1
      · exact strOk_words.2
    simp [PyData.canLay0, PyData.canLayAll0, b, hs]
  · simp only [PyData.depth, PyData.depthAll]
    omega
  · simp [slim, slimL, e]
    omega
  · simp [noL, noLL, n0]
theorem PlanD.one (i : Int) (w : Str) : PlanD (.int i) w [i] := ⟨fun o _ => ⟨[i], formed_int i o, List.Perm.refl _⟩, by simp [PyData.canLay0], by simp [PyData.depth], by simp [slim], by simp [noL]⟩
theorem PlanD.shaped {d : PyData} {w : Str} {ts : List Int} (p : PlanD d w ts) (h : ts.length ≤ 30) : SeqAt.shaped d = true := by
  show (PyData.canLay0 d && decide (PyData.depth d ≤ 64)) = true
  rw [Bool.and_eq_true]
  have := p.dep
  exact ⟨p.lay, decide_eq_true (by omega)⟩
/-! ### rows: lists of ints in a list -/
structure RowsAt (H : Hp) (R : Addr) (rows : List (Addr × List Int)) : Prop where
  at_ : H R = some (.lst (rows.map fun r => V.ref r.1))
  nd : (rows.map (·.1)).Nodup
  row : ∀ r ∈ rows, H r.1 = some (.lst (r.2.map V.int))
  ne : ∀ r ∈ rows, r.1 ≠ R
theorem RowsAt.kp {st R : Addr} {H H' : Hp} {rows : List (Addr × List Int)} (h : RowsAt H R rows) (k : Kp (MS st) H H') (hR : R ≠ st) (hr : ∀ r ∈ rows, r.1 ≠ st) : RowsAt H' R rows :=
  ⟨k.lst _ _ hR h.at_, h.nd, fun r m => k.lst _ _ (hr r m) (h.row r m), h.ne⟩
theorem set_fst {rows : List (Addr × List Int)} {j : Nat} {a : Addr} {l x : List Int} (h : rows[j]? = some (a, l)) : (rows.set j (a, x)).map (·.1) = rows.map (·.1) := by
  rw [List.map_set]
  show (rows.map (·.1)).set j a = rows.map (·.1)
  refine List.ext_getElem? fun i => ?_
  by_cases e : i = j
  · subst e
    obtain ⟨hl, _⟩ := List.getElem?_eq_some_iff.mp h
    rw [List.getElem?_set_self (by rw [List.length_map]; exact hl), List.getElem?_map, h]
    rfl
  · rw [List.getElem?_set_ne (Ne.symm e)]
theorem set_flat : ∀ {rows : List (Addr × List Int)} {j : Nat} {a : Addr} {l : List Int} {t : Int}, rows[j]? = some (a, l) → (((rows.set j (a, l ++ [t])).map (·.2)).flatten).Perm ((rows.map (·.2)).flatten ++ [t])
  | r :: rs, 0, a, l, t, h => by
    simp at h
    subst h
    simp only [List.set_cons_zero, List.map_cons, List.flatten_cons]
    rw [List.append_assoc, List.append_assoc]
    exact List.Perm.append_left _ List.perm_append_comm
  | r :: rs, j + 1, a, l, t, h => by
    have ih := set_flat (rows := rs) (t := t) (by simpa using h)
    simp only [List.set_cons_succ, List.map_cons, List.flatten_cons]
    rw [List.append_assoc]
    exact List.Perm.append_left _ ih
theorem mem_set_cases {α : Type} {l : List α} {j : Nat} {x y : α} (h : y ∈ l.set j x) : y ∈ l ∨ y = x := List.mem_or_eq_of_mem_set h
theorem RowsAt.put {H : Hp} {R a : Addr} {rows : List (Addr × List Int)} {j : Nat} {l : List Int} {t : Int} (h : RowsAt H R rows) (hj : rows[j]? = some (a, l)) :
    RowsAt (upd H a (.lst (l.map V.int ++ [.int t]))) R (rows.set j (a, l ++ [t])) := by
  have ha : (a, l) ∈ rows := List.mem_of_getElem? hj
  have hRa : R ≠ a := (h.ne _ ha).symm
  have nd := h.nd
  obtain ⟨hjl, ej⟩ := List.getElem?_eq_some_iff.mp hj
  refine ⟨?_, by rw [set_fst hj]; exact nd, fun r hr => ?_, fun r hr => ?_⟩
  · rw [upd_ne hRa, h.at_]
    have e : (rows.set j (a, l ++ [t])).map (fun r => V.ref r.1) = rows.map (fun r => V.ref r.1) := by
      have := congrArg (List.map V.ref) (set_fst (x := l ++ [t]) hj)
      rw [List.map_map, List.map_map] at this
      exact this
    rw [e]
  · obtain ⟨i, hi, e⟩ := List.getElem_of_mem hr
    rw [List.length_set] at hi
    by_cases z : i = j
    · subst z
      rw [List.getElem_set_self] at e
      subst e
      rw [upd_same, List.map_append]
      rfl
    · rw [List.getElem_set_ne (Ne.symm z)] at e
      have hm : r ∈ rows := by rw [← e]; exact List.getElem_mem hi
      have hne : r.1 ≠ a := fun q => by
        have e1 : (rows.map (·.1))[i]'(by rw [List.length_map]; exact hi) = (rows.map (·.1))[j]'(by rw [List.length_map]; exact hjl) := by
          rw [List.getElem_map, List.getElem_map, e, ej]
          exact q
        exact z ((List.getElem_inj nd).mp e1)
      rw [upd_ne hne]
      exact h.row r hm
  · rcases mem_set_cases hr with z | z
    · exact h.ne r z
    · rw [z]; exact hRa.symm
theorem cut_to {ts : List Int} {m : Nat} (h : m ≤ ts.length) : cutV (ts.map V.int) none (some (m : Int)) = (ts.take m).map V.int := by
  unfold cutV
  rw [HT.sIx_none, HT.sIx_nat, List.length_map, List.drop_zero, Nat.sub_zero, Nat.min_eq_left h, List.map_take]
theorem cut_from {ts : List Int} {m : Nat} (h : m ≤ ts.length) : cutV (ts.map V.int) (some (m : Int)) none = (ts.drop m).map V.int := by
  unfold cutV
  rw [HT.sIx_none, HT.sIx_nat, List.length_map, Nat.min_eq_left h, List.map_drop, List.take_of_length_le (by rw [List.length_drop, List.length_map]; exact Nat.le_refl _)]
theorem RowsAt.snoc {H : Hp} {R p : Addr} {rows : List (Addr × List Int)} {l : List Int} (h : RowsAt H R rows) (hp : H p = none) :
    RowsAt (upd (upd H p (.lst (l.map V.int))) R (.lst (rows.map (fun r => V.ref r.1) ++ [.ref p]))) R (rows ++ [(p, l)]) := by
  have nR : p ≠ R := (ne_of_none h.at_ hp).symm
  have nr : ∀ r ∈ rows, r.1 ≠ p := fun r m => ne_of_none (h.row r m) hp
  refine ⟨by rw [upd_same, List.map_append]; rfl, ?_, fun r hr => ?_, fun r hr => ?_⟩
  · rw [List.map_append, List.nodup_append]
    refine ⟨h.nd, by simp, fun x hx y hy => ?_⟩
    obtain ⟨r, hr, rfl⟩ := List.mem_map.mp hx
    have : y = p := by simpa using hy
    rw [this]
    exact nr r hr
  · rcases List.mem_append.mp hr with z | z
    · rw [upd_ne (h.ne r z), upd_ne (nr r z)]
      exact h.row r z
    · have : r = (p, l) := by simpa using z
      subst this
      rw [upd_ne nR, upd_same]
  · rcases List.mem_append.mp hr with z | z
    · exact h.ne r z
    · have : r = (p, l) := by simpa using z
      subst this
      exact nR
theorem row_len {ls : List (List Int)} (h : ∀ l ∈ ls, l ≠ []) {l : List Int} (hl : l ∈ ls) : l.length + ls.length ≤ ls.flatten.length + 1 := by
  have key : ∀ ls : List (List Int), (∀ l ∈ ls, l ≠ []) → ls.length ≤ ls.flatten.length := by
    intro ls
    induction ls with
    | nil => intro _; simp
    | cons x r ih =>
      intro h
      have h1 := ih fun l m => h l (List.mem_cons_of_mem _ m)
      have h2 : 0 < x.length := List.length_pos_iff.mpr (h x List.mem_cons_self)
      simp only [List.length_cons, List.flatten_cons, List.length_append]
      omega
  induction ls with
  | nil => cases hl
  | cons x r ih =>
    have h2 : 0 < x.length := List.length_pos_iff.mpr (h x List.mem_cons_self)
    have h3 := key r fun l m => h l (List.mem_cons_of_mem _ m)
    simp only [List.length_cons, List.flatten_cons, List.length_append]
    rcases List.mem_cons.mp hl with z | z
    · subst z; omega
    · have := ih (fun l m => h l (List.mem_cons_of_mem _ m)) z
      omega
theorem flat_ones (ts : List Int) : (ts.map fun t => [t]).flatten = ts := by
  induction ts with
  | nil => rfl
  | cons t r ih => simp [ih]
end K14

set_option Elab.async false
set_option linter.all false
set_option maxRecDepth 100000
set_option maxHeartbeats 4000000
namespace K14
open PySem L2 GxR GA KD KR KM
mutual
/-- how many whole numbers stand in tuples -/
def lv : PyData → Nat
  | .int _ => 1
  | .tuple xs => lvL xs
  | _ => 0
def lvL : List PyData → Nat
  | [] => 0
  | x :: r => lv x + lvL r
end
theorem lvL_cons (x : PyData) (r : List PyData) : lvL (x :: r) = lv x + lvL r := by simp only [lvL]
theorem lv_tuple (r : List PyData) : lv (.tuple r) = lvL r := by simp only [lv]
theorem lv_str (s : Str) : lv (.str s) = 0 := by simp only [lv]
mutual
theorem formed_lv : ∀ (d : PyData) (o : Str) (l : List Int), formed d o = some l → l.length = lv d
  | .int i, o, l, h => by
    rw [formed_int] at h
    cases h
    simp only [lv]
    rfl
  | .tuple [.str w, .tuple ps], o, l, h => by
    rw [formed_parts] at h
    split at h
    · rw [formedL_lv ps w l h, lv_tuple, lvL_cons, lvL_cons, lv_str, lv_tuple]
      simp only [lvL]
      omega
    · cases h
  | .none, _, _, h => by simp [formed] at h
  | .bool _, _, _, h => by simp [formed] at h
  | .str _, _, _, h => by simp [formed] at h
  | .list _, _, _, h => by simp [formed] at h
  | .dict _, _, _, h => by simp [formed] at h
  | .tuple [], _, _, h => by simp [formed] at h
  | .tuple [_], _, _, h => by simp [formed] at h
  | .tuple (.str _ :: .none :: _), _, _, h => by simp [formed] at h
  | .tuple (.str _ :: .bool _ :: _), _, _, h => by simp [formed] at h
  | .tuple (.str _ :: .int _ :: _), _, _, h => by simp [formed] at h
  | .tuple (.str _ :: .str _ :: _), _, _, h => by simp [formed] at h
  | .tuple (.str _ :: .list _ :: _), _, _, h => by simp [formed] at h
  | .tuple (.str _ :: .dict _ :: _), _, _, h => by simp [formed] at h
  | .tuple (.none :: _ :: _), _, _, h => by simp [formed] at h
  | .tuple (.bool _ :: _ :: _), _, _, h => by simp [formed] at h
  | .tuple (.int _ :: _ :: _), _, _, h => by simp [formed] at h
  | .tuple (.tuple _ :: _ :: _), _, _, h => by simp [formed] at h
  | .tuple (.list _ :: _ :: _), _, _, h => by simp [formed] at h
  | .tuple (.dict _ :: _ :: _), _, _, h => by simp [formed] at h
  | .tuple (.str _ :: .tuple _ :: _ :: _), _, _, h => by simp [formed] at h
theorem formedL_lv : ∀ (ds : List PyData) (w : Str) (l : List Int), formedL ds w = some l → l.length = lvL ds
  | [], w, l, h => by
    rw [formedL_nil] at h
    cases h
    simp only [lvL]
    rfl
  | p :: r, w, l, h => by
    rw [formedL_cons] at h
    cases e1 : formed p w with
    | none => rw [e1] at h; cases h
    | some a =>
      cases e2 : formedL r w with
      | none => rw [e1, e2] at h; cases h
      | some b =>
        rw [e1, e2] at h
        cases h
        rw [List.length_append, formed_lv p w a e1, formedL_lv r w b e2, lvL_cons]
end
theorem lvL_take : ∀ (ds : List PyData) (i : Nat), lvL (ds.take i) ≤ lvL ds
  | [], i => by simp [lvL]
  | d :: r, 0 => by simp [lvL]
  | d :: r, i + 1 => by
    rw [List.take_succ_cons, lvL_cons, lvL_cons]
    have := lvL_take r i
    omega
theorem lvL_mem : ∀ {ds : List PyData} {d : PyData}, d ∈ ds → lv d ≤ lvL ds
  | x :: r, d, h => by
    rw [lvL_cons]
    rcases List.mem_cons.mp h with z | z
    · rw [z]; omega
    · have := lvL_mem z
      omega
theorem formedL_bad {w : Str} : ∀ {ds : List PyData} {d : PyData}, d ∈ ds → formed d w = none → formedL ds w = none
  | x :: r, d, h, e => by
    rw [formedL_cons]
    rcases List.mem_cons.mp h with z | z
    · rw [← z, e]
    · rw [formedL_bad z e]
      cases formed x w <;> rfl
theorem formedL_succ {w : Str} {ds : List PyData} {i : Nat} {p : PyData} {a b : List Int} (h : formedL (ds.take i) w = some a) (hp : ds[i]? = some p) (hb : formed p w = some b) : formedL (ds.take (i + 1)) w = some (a ++ b) := by
  rw [List.take_succ, hp]
  show formedL (ds.take i ++ [p]) w = _
  rw [formedL_app, formedL_one, h, hb]
/-- the parts' answers in a list -/
inductive FR (M : Addr → Prop) (H : Hp) (w : Str) : List V → List PyData → Prop
  | nil : FR M H w [] []
  | bad {p : PyData} {vs : List V} {ps : List PyData} : formed p w = none → FR M H w vs ps → FR M H w (.non :: vs) (p :: ps)
  | good {p : PyData} {l : List Int} {a : Addr} {vs : List V} {ps : List PyData} : formed p w = some l → H a = some (.lst (l.map V.int)) → ¬ M a → FR M H w vs ps → FR M H w (.ref a :: vs) (p :: ps)
theorem FR.kp {M : Addr → Prop} {H H' : Hp} {w : Str} (k : Kp M H H') : ∀ {vs : List V} {ps : List PyData}, FR M H w vs ps → FR M H' w vs ps
  | _, _, .nil => .nil
  | _, _, .bad e r => .bad e (FR.kp k r)
  | _, _, .good e h n r => .good e (k.lst _ _ n h) n (FR.kp k r)
theorem FR.len {M : Addr → Prop} {H : Hp} {w : Str} : ∀ {vs : List V} {ps : List PyData}, FR M H w vs ps → vs.length = ps.length
  | _, _, .nil => rfl
  | _, _, .bad _ r => congrArg (· + 1) (FR.len r)
  | _, _, .good _ _ _ r => congrArg (· + 1) (FR.len r)
theorem FR.snocB {M : Addr → Prop} {H : Hp} {w : Str} {p : PyData} (e : formed p w = none) : ∀ {vs : List V} {ps : List PyData}, FR M H w vs ps → FR M H w (vs ++ [.non]) (ps ++ [p])
  | _, _, .nil => .bad e .nil
  | _, _, .bad e' r => .bad e' (FR.snocB e r)
  | _, _, .good e' h n r => .good e' h n (FR.snocB e r)
theorem FR.snocG {M : Addr → Prop} {H : Hp} {w : Str} {p : PyData} {l : List Int} {a : Addr} (e : formed p w = some l) (ha : H a = some (.lst (l.map V.int))) (hm : ¬ M a) : ∀ {vs : List V} {ps : List PyData}, FR M H w vs ps → FR M H w (vs ++ [.ref a]) (ps ++ [p])
  | _, _, .nil => .good e ha hm .nil
  | _, _, .bad e' r => .bad e' (FR.snocG e ha hm r)
  | _, _, .good e' h n r => .good e' h n (FR.snocG e ha hm r)
theorem FR.get {M : Addr → Prop} {H : Hp} {w : Str} : ∀ {vs : List V} {ps : List PyData} {i : Nat} {v : V}, FR M H w vs ps → vs[i]? = some v →
    ∃ p, ps[i]? = some p ∧ ((formed p w = none ∧ v = .non) ∨ ∃ l a, formed p w = some l ∧ v = .ref a ∧ H a = some (.lst (l.map V.int)) ∧ ¬ M a)
  | _, _, 0, v, .bad (p := p) e r, h => by
    simp at h
    exact ⟨p, rfl, .inl ⟨e, h.symm⟩⟩
  | _, _, 0, v, .good (p := p) e h' n r, h => by
    simp at h
    exact ⟨p, rfl, .inr ⟨_, _, e, h.symm, h', n⟩⟩
  | _, _, i + 1, v, .bad e r, h => FR.get (i := i) r (by simpa using h)
  | _, _, i + 1, v, .good e _ _ r, h => FR.get (i := i) r (by simpa using h)
theorem FR.fresh {M : Addr → Prop} {H : Hp} {w : Str} {D : Addr} {o : HO} (hD : H D = none) : ∀ {vs : List V} {ps : List PyData}, FR M H w vs ps → FR (MS D) (upd H D o) w vs ps
  | _, _, .nil => .nil
  | _, _, .bad e r => .bad e (FR.fresh hD r)
  | _, _, .good e h n r => .good e (by rw [upd_ne (ne_of_none h hD)]; exact h) (fun z => ne_of_none h hD z) (FR.fresh hD r)
end K14

set_option Elab.async false
set_option linter.all false
set_option maxRecDepth 100000
set_option maxHeartbeats 4000000
namespace K14
open PySem L2 GxR GA KD KR KM
/-! ### sizes of data -/
structure Sz (l k : Nat) (d : PyData) : Prop where
  lay : d.canLay0 = true
  slm : slim d = true
  lvs : lv d ≤ l
  dep : d.depth ≤ k
structure SzL (m l k : Nat) (ds : List PyData) : Prop where
  len : ds.length ≤ m
  lay : PyData.canLayAll0 ds = true
  slm : slimL ds = true
  lvs : lvL ds ≤ l
  dep : PyData.depthAll ds ≤ k
theorem Sz.mono {l k l' k' : Nat} {d : PyData} (h : Sz l k d) (h1 : l ≤ l') (h2 : k ≤ k') : Sz l' k' d := ⟨h.lay, h.slm, Nat.le_trans h.lvs h1, Nat.le_trans h.dep h2⟩
theorem Sz.int (i : Int) : Sz 1 0 (.int i) := ⟨by simp [PyData.canLay0], by simp [slim], by simp [lv], by simp [PyData.depth]⟩
theorem Sz.bool (i : Bool) : Sz 0 0 (.bool i) := ⟨by simp [PyData.canLay0], by simp [slim], by simp [lv], by simp [PyData.depth]⟩
theorem Sz.non : Sz 0 0 .none := ⟨by simp [PyData.canLay0], by simp [slim], by simp [lv], by simp [PyData.depth]⟩
theorem Sz.str {s : Str} (h : PyData.strOk s = true) : Sz 0 0 (.str s) := ⟨by simp [PyData.canLay0, h], by simp [slim], by simp [lv], by simp [PyData.depth]⟩
theorem SzL.nil : SzL 0 0 0 [] := ⟨Nat.le_refl _, by simp [PyData.canLayAll0], by simp [slimL], by simp [lvL], by simp [PyData.depthAll]⟩
theorem SzL.cons {d : PyData} {ds : List PyData} {m l k l' k' : Nat} (h : Sz l k d) (r : SzL m l' k' ds) : SzL (m + 1) (l + l') (max k k') (d :: ds) := by
  refine ⟨Nat.succ_le_succ r.len, by simp [PyData.canLayAll0, h.lay, r.lay], by simp [slimL, h.slm, r.slm], ?_, ?_⟩
  · rw [lvL_cons]; exact Nat.add_le_add h.lvs r.lvs
  · have h1 := h.dep
    have h2 := r.dep
    simp only [PyData.depthAll]
    omega
theorem SzL.mono {m l k m' l' k' : Nat} {d : List PyData} (h : SzL m l k d) (h0 : m ≤ m') (h1 : l ≤ l') (h2 : k ≤ k') : SzL m' l' k' d := ⟨Nat.le_trans h.len h0, h.lay, h.slm, Nat.le_trans h.lvs h1, Nat.le_trans h.dep h2⟩
theorem SzL.tup {m l k : Nat} {ds : List PyData} (h : SzL m l k ds) (hm : m ≤ 900) : Sz l (k + 1) (.tuple ds) := by
  refine ⟨by simp only [PyData.canLay0]; exact h.lay, ?_, by rw [lv_tuple]; exact h.lvs, ?_⟩
  · have := h.len
    simp only [slim, Bool.and_eq_true]
    exact ⟨decide_eq_true (by omega), h.slm⟩
  · have := h.dep
    simp only [PyData.depth]
    omega
theorem SzL.lst {m l k : Nat} {ds : List PyData} (h : SzL m l k ds) (hm : m ≤ 900) : Sz 0 (k + 1) (.list ds) := by
  refine ⟨by simp only [PyData.canLay0]; exact h.lay, ?_, by simp [lv], ?_⟩
  · have := h.len
    simp only [slim, Bool.and_eq_true]
    exact ⟨decide_eq_true (by omega), h.slm⟩
  · have := h.dep
    simp only [PyData.depth]
    omega
theorem Sz.tupL {l k : Nat} {ds : List PyData} (h : Sz l k (.tuple ds)) : SzL 900 l (k - 1) ds := by
  obtain ⟨a, b, c, e⟩ := h
  simp only [PyData.canLay0] at a
  simp only [slim, Bool.and_eq_true, decide_eq_true_eq] at b
  rw [lv_tuple] at c
  simp only [PyData.depth] at e
  exact ⟨b.1, a, b.2, c, by omega⟩
theorem SzL.app : ∀ {ds es : List PyData} {m l k m' l' k' : Nat}, SzL m l k ds → SzL m' l' k' es → SzL (m + m') (l + l') (max k k') (ds ++ es) := by
  intro ds es m l k m' l' k' h h'
  obtain ⟨a1, a2, a3, a4, a5⟩ := h
  obtain ⟨b1, b2, b3, b4, b5⟩ := h'
  have key : ∀ ds es : List PyData, lvL (ds ++ es) = lvL ds + lvL es := by
    intro ds es
    induction ds with
    | nil => simp [lvL]
    | cons d r ih => rw [List.cons_append, lvL_cons, lvL_cons, ih]; omega
  exact ⟨by rw [List.length_append]; omega, by rw [layAll_app, a2, b2]; rfl, by rw [slimL_app, a3, b3]; rfl, by rw [key]; omega, by rw [depthAll_app]; omega⟩
theorem SzL.mem {m l k : Nat} : ∀ {ds : List PyData}, SzL m l k ds → ∀ d ∈ ds, Sz l k d := by
  intro ds h d hd
  obtain ⟨a1, a2, a3, a4, a5⟩ := h
  refine ⟨?_, slimL_mem a3 hd, Nat.le_trans (lvL_mem hd) a4, Nat.le_trans (depth_mem hd) a5⟩
  clear a1 a3 a4 a5
  induction ds with
  | nil => cases hd
  | cons x r ih =>
    simp only [PyData.canLayAll0, Bool.and_eq_true] at a2
    rcases List.mem_cons.mp hd with z | z
    · rw [z]; exact a2.1
    · exact ih z a2.2
theorem SzL.sub {m l k : Nat} {ds es : List PyData} (h : SzL m l k ds) (hs : es.Sublist ds) : SzL m l k es := by
  induction hs generalizing m l with
  | slnil => exact h
  | cons x s ih =>
    obtain ⟨a1, a2, a3, a4, a5⟩ := h
    simp only [PyData.canLayAll0, slimL, Bool.and_eq_true] at a2 a3
    simp only [List.length_cons] at a1
    rw [lvL_cons] at a4
    simp only [PyData.depthAll] at a5
    exact ih ⟨by omega, a2.2, a3.2, by omega, by omega⟩
  | @cons_cons es ds x s ih =>
    obtain ⟨a1, a2, a3, a4, a5⟩ := h
    simp only [PyData.canLayAll0, slimL, Bool.and_eq_true] at a2 a3
    simp only [List.length_cons] at a1
    rw [lvL_cons] at a4
    simp only [PyData.depthAll] at a5
    have hh : SzL (m - 1) (l - lv x) k ds := ⟨by omega, a2.2, a3.2, by omega, by omega⟩
    obtain ⟨b1, b2, b3, b4, b5⟩ := ih hh
    refine ⟨by simp only [List.length_cons]; omega, by simp [PyData.canLayAll0, a2.1, b2], by simp [slimL, a3.1, b3], by rw [lvL_cons]; omega, by simp only [PyData.depthAll]; omega⟩
theorem SzL.rev {m l k : Nat} : ∀ {ds : List PyData}, SzL m l k ds → SzL m l k ds.reverse := by
  have key : ∀ ds : List PyData, lvL ds.reverse = lvL ds ∧ PyData.depthAll ds.reverse = PyData.depthAll ds ∧ slimL ds.reverse = slimL ds ∧ PyData.canLayAll0 ds.reverse = PyData.canLayAll0 ds := by
    intro ds
    have ka : ∀ ds es : List PyData, lvL (ds ++ es) = lvL ds + lvL es := by
      intro ds es
      induction ds with
      | nil => simp [lvL]
      | cons d r ih => rw [List.cons_append, lvL_cons, lvL_cons, ih]; omega
    induction ds with
    | nil => simp
    | cons d r ih =>
      obtain ⟨i1, i2, i3, i4⟩ := ih
      rw [List.reverse_cons, ka, depthAll_app, slimL_app, layAll_app, i1, i2, i3, i4]
      simp [lvL, PyData.depthAll, slimL, PyData.canLayAll0, Nat.add_comm, Nat.max_comm, Bool.and_comm]
  intro ds h
  obtain ⟨k1, k2, k3, k4⟩ := key ds
  exact ⟨by rw [List.length_reverse]; exact h.len, by rw [k4]; exact h.lay, by rw [k3]; exact h.slm, by rw [k1]; exact h.lvs, by rw [k2]; exact h.dep⟩
theorem Sz.shaped {l k : Nat} {d : PyData} (h : Sz l k d) (hk : k ≤ 64) : SeqAt.shaped d = true := by
  show (PyData.canLay0 d && decide (PyData.depth d ≤ 64)) = true
  rw [Bool.and_eq_true]
  exact ⟨h.lay, decide_eq_true (Nat.le_trans h.dep hk)⟩
/-! ### expressions that make data -/
def DE (st c : Addr) (H0 : Hp) (σ : L2.St) (t : TE) (S : PyData → Prop) : Prop := ∀ (H : Hp) (Q : VK), Kp (MS st) H0 H → StAt st c H → (∀ v d H', S d → At (MS st) H' v d → Kp (MS st) H H' → StAt st c H' → Q v H') → t σ H Q
def DEs (st c : Addr) (H0 : Hp) (σ : L2.St) (t : TA) (S : List PyData → Prop) : Prop := ∀ (H : Hp) (Q : List V → Hp → Prop), Kp (MS st) H0 H → StAt st c H → (∀ vs ds H', S ds → AtL (MS st) H' vs ds → Kp (MS st) H H' → StAt st c H' → Q vs H') → t σ H Q
section
variable {st c : Addr} {H0 : Hp} {σ : L2.St}
theorem DE.imp {t : TE} {S S' : PyData → Prop} (h : DE st c H0 σ t S) (hs : ∀ d, S d → S' d) : DE st c H0 σ t S' := fun H Q k s q => h H Q k s fun v d H' z => q v d H' (hs d z)
theorem DEs.imp {t : TA} {S S' : List PyData → Prop} (h : DEs st c H0 σ t S) (hs : ∀ d, S d → S' d) : DEs st c H0 σ t S' := fun H Q k s q => h H Q k s fun v d H' z => q v d H' (hs d z)
theorem DE.var {i : Nat} {v : V} {d : PyData} (hv : σ[i]? = some (some v)) (ha : At (MS st) H0 v d) : DE st c H0 σ (tVar i) (fun e => e = d) := fun H Q k s q => ⟨v, hv, q v d H rfl (ha.kp k) .refl s⟩
theorem DE.lit {v : V} {d : PyData} (ha : ∀ H, At (MS st) H v d) : DE st c H0 σ (tC v) (fun e => e = d) := fun H Q k s q => q v d H rfl (ha H) .refl s
theorem DE.int (i : Int) : DE st c H0 σ (tC (.int i)) (Sz 1 0) := (DE.lit fun H => .int i).imp fun d e => by rw [e]; exact Sz.int i
theorem DE.bool (i : Bool) : DE st c H0 σ (tC (.bl i)) (Sz 0 0) := (DE.lit fun H => .bl i).imp fun d e => by rw [e]; exact Sz.bool i
theorem DE.non : DE st c H0 σ (tC .non) (Sz 0 0) := (DE.lit fun H => .non).imp fun d e => by rw [e]; exact Sz.non
theorem DE.str {s : Str} (h : PyData.strOk s = true) : DE st c H0 σ (tC (.str s)) (Sz 0 0) := (DE.lit fun H => .str s).imp fun d e => by rw [e]; exact Sz.str h
theorem DE.ivar {i : Nat} {n : Int} (hv : σ[i]? = some (some (.int n))) : DE st c H0 σ (tVar i) (Sz 1 0) := (DE.var hv (.int n)).imp fun d e => by rw [e]; exact Sz.int n
theorem DEs.nil : DEs st c H0 σ tNil (SzL 0 0 0) := fun H Q k s q => q [] [] H SzL.nil .nil .refl s
theorem DEs.cons' {t : TE} {ts : TA} {S : PyData → Prop} {Ss S' : List PyData → Prop} (h : DE st c H0 σ t S) (r : DEs st c H0 σ ts Ss) (hs : ∀ d ds, S d → Ss ds → S' (d :: ds)) : DEs st c H0 σ (tCons t ts) S' := fun H Q k s q =>
  h H _ k s fun v d H1 hd a k1 s1 => r H1 _ (k.trans k1) s1 fun vs ds H2 hds as k2 s2 => q (v :: vs) (d :: ds) H2 (hs d ds hd hds) (.cons (a.kp k2) as) (k1.trans k2) s2
theorem DEs.cons {t : TE} {ts : TA} {l k m l' k' : Nat} (h : DE st c H0 σ t (Sz l k)) (r : DEs st c H0 σ ts (SzL m l' k')) : DEs st c H0 σ (tCons t ts) (SzL (m + 1) (l + l') (max k k')) := DEs.cons' h r fun d ds a b => SzL.cons a b
/-- all of them so -/
def AllS (n : Nat) (G : PyData → Prop) (ds : List PyData) : Prop := ds.length = n ∧ ∀ d ∈ ds, G d
theorem DEs.anil {G : PyData → Prop} : DEs st c H0 σ tNil (AllS 0 G) := fun H Q k s q => q [] [] H ⟨rfl, fun _ h => by cases h⟩ .nil .refl s
theorem DEs.acons {t : TE} {ts : TA} {n : Nat} {S G : PyData → Prop} (h : DE st c H0 σ t S) (hs : ∀ d, S d → G d) (r : DEs st c H0 σ ts (AllS n G)) : DEs st c H0 σ (tCons t ts) (AllS (n + 1) G) := DEs.cons' h r fun d ds a b => ⟨congrArg (· + 1) b.1, fun x hx => by
  rcases List.mem_cons.mp hx with z | z
  · rw [z]; exact hs d a
  · exact b.2 x z⟩
theorem DE.tup' {t : TA} {S : List PyData → Prop} (h : DEs st c H0 σ t S) (hn : ∀ ds, S ds → ds.length ≤ 900) : DE st c H0 σ (tTup t) (fun d => ∃ ds, d = .tuple ds ∧ S ds) := fun H Q k s q =>
  h H _ k s fun vs ds H1 hds as k1 s1 => ⟨by
    have := hn ds hds
    have := as.length
    exact Nat.le_of_lt (small1000 (by omega)), fun p hp => q _ (.tuple ds) _ ⟨ds, rfl, hds⟩ (.tup upd_same (as.kp (Kp.new hp))) (k1.trans (Kp.new hp)) (s1.new hp)⟩
theorem DE.lst' {t : TA} {S : List PyData → Prop} (h : DEs st c H0 σ t S) (hn : ∀ ds, S ds → ds.length ≤ 900) : DE st c H0 σ (tLst t) (fun d => ∃ ds, d = .list ds ∧ S ds) := fun H Q k s q =>
  h H _ k s fun vs ds H1 hds as k1 s1 => ⟨by
    have := hn ds hds
    have := as.length
    exact Nat.le_of_lt (small1000 (by omega)), fun p hp => q _ (.list ds) _ ⟨ds, rfl, hds⟩ (.lst upd_same (s1.ne hp).1 (as.kp (Kp.new hp))) (k1.trans (Kp.new hp)) (s1.new hp)⟩
theorem DE.tup {t : TA} {m l k : Nat} (h : DEs st c H0 σ t (SzL m l k)) (hm : m ≤ 900) : DE st c H0 σ (tTup t) (Sz l (k + 1)) := (DE.tup' h fun ds s => Nat.le_trans s.len hm).imp fun d ⟨ds, e, s⟩ => by rw [e]; exact s.tup hm
theorem DE.lst {t : TA} {m l k : Nat} (h : DEs st c H0 σ t (SzL m l k)) (hm : m ≤ 900) : DE st c H0 σ (tLst t) (Sz 0 (k + 1)) := (DE.lst' h fun ds s => Nat.le_trans s.len hm).imp fun d ⟨ds, e, s⟩ => by rw [e]; exact s.lst hm
theorem DE.addI {ta tb : TE} {a b : Int} (ha : ∀ (H : Hp) (Q : VK), Q (.int a) H → ta σ H Q) (hb : ∀ (H : Hp) (Q : VK), Q (.int b) H → tb σ H Q) : DE st c H0 σ (tOp (rI0 fun i j => .int (i + j)) ta tb) (fun e => e = .int (a + b)) := fun H Q k s q =>
  ha H _ (hb H _ ⟨a, b, rfl, rfl, q _ (.int (a + b)) H rfl (.int _) .refl s⟩)
/-- the j-th item of a tuple -/
theorem DE.ix {K : PySem.W.Frag} {t : TE} {ds : List PyData} {j : Nat} {d : PyData} (h : DE st c H0 σ t (fun e => e = .tuple ds)) (hd : ds[j]? = some d) : DE st c H0 σ (tOp (rIxT K) t (tC (.int j))) (fun e => e = d) := fun H Q k s q =>
  h H _ k s fun v e H1 he a k1 s1 => by
    rw [he] at a
    obtain ⟨p, xs, rfl, hx, hall⟩ := a.tup_of
    obtain ⟨x, ex, ax⟩ := hall.get' hd
    exact ⟨p, xs, j, x, rfl, rfl, SqT.of hx, atI_nat ex, q x d H1 rfl ax k1 s1⟩
theorem cutV_sub (xs : List V) (lo hi : Option Int) : ∃ a b, cutV xs lo hi = (xs.drop a).take b := ⟨_, _, rfl⟩
theorem DE.cut {K : PySem.W.Frag} {t : TE} {tl th : TO} {ds : List PyData} {lo hi : Option Int} (h : DE st c H0 σ t (fun e => e = .tuple ds)) (hl : ∀ (H : Hp) (Q : Option Int → Hp → Prop), Q lo H → tl σ H Q) (hh : ∀ (H : Hp) (Q : Option Int → Hp → Prop), Q hi H → th σ H Q) :
    DE st c H0 σ (fun σ H Q => t σ H fun x H1 => tl σ H1 fun l H2 => th σ H2 fun u H3 => rSlA K x l u H3 Q) (fun e => ∃ es, e = .tuple es ∧ es.Sublist ds) := fun H Q k s q =>
  h H _ k s fun v e H1 he a k1 s1 => hl _ _ (hh _ _ (by
    rw [he] at a
    obtain ⟨p, xs, rfl, hx, hall⟩ := a.tup_of
    refine ⟨p, xs, rfl, SqT.of hx, fun _ => q _ (.tuple ds) H1 ⟨ds, rfl, List.Sublist.refl _⟩ (.tup hx hall) k1 s1, fun _ r hr => ?_⟩
    obtain ⟨n, m, e2⟩ := cutV_sub xs lo hi
    rw [e2]
    exact q _ (.tuple ((ds.drop n).take m)) _ ⟨_, rfl, (List.take_sublist _ _).trans (List.drop_sublist _ _)⟩ (.tup upd_same (((hall.drop n).take m).kp (Kp.new hr))) (k1.trans (Kp.new hr)) (s1.new hr)))
theorem DE.cat {K : PySem.W.Frag} {ta tb : TE} {Sa Sb : List PyData → Prop} (ha : DE st c H0 σ ta (fun e => ∃ es, e = .tuple es ∧ Sa es)) (hb : DE st c H0 σ tb (fun e => ∃ es, e = .tuple es ∧ Sb es)) (na : ∀ ds, Sa ds → ds.length ≤ 400) (nb : ∀ ds, Sb ds → ds.length ≤ 400) :
    DE st c H0 σ (tOp (rCatA K) ta tb) (fun e => ∃ ds es, e = .tuple (ds ++ es) ∧ Sa ds ∧ Sb es) := fun H Q k s q =>
  ha H _ k s fun v e H1 he a k1 s1 => hb H1 _ (k.trans k1) s1 fun v2 e2 H2 he2 a2 k2 s2 => by
    obtain ⟨ds, rfl, sd⟩ := he
    obtain ⟨es, rfl, se⟩ := he2
    obtain ⟨p, xs, rfl, hx, hall⟩ := (a.kp k2).tup_of
    obtain ⟨p2, ys, rfl, hy, hall2⟩ := a2.tup_of
    have l1 := hall.length
    have l2 := hall2.length
    have l3 := na _ sd
    have l4 := nb _ se
    refine ⟨p, p2, xs, ys, rfl, rfl, SqT.of hx, SqT.of hy, Nat.le_of_lt (small1000 (by omega)), fun z => ?_, fun _ z => ?_, fun _ _ r hr => ?_⟩
    · rw [z] at l1
      have : ds = [] := List.length_eq_zero_iff.mp l1.symm
      subst this
      exact q _ (.tuple es) H2 ⟨[], es, rfl, sd, se⟩ (.tup hy hall2) (k1.trans k2) s2
    · rw [z] at l2
      have : es = [] := List.length_eq_zero_iff.mp l2.symm
      subst this
      exact q _ (.tuple ds) H2 ⟨ds, [], by rw [List.append_nil], sd, se⟩ (.tup hx hall) (k1.trans k2) s2
    · exact q _ (.tuple (ds ++ es)) _ ⟨ds, es, rfl, sd, se⟩ (.tup upd_same ((hall.append hall2).kp (Kp.new hr))) (k1.trans (k2.trans (Kp.new hr))) (s2.new hr)
theorem DE.rev {K : PySem.W.Frag} {t : TE} {ds : List PyData} (h : DE st c H0 σ t (fun e => e = .tuple ds)) : DE st c H0 σ (tRevT K t) (fun e => e = .tuple ds.reverse) := fun H Q k s q =>
  h H _ k s fun v e H1 he a k1 s1 => by
    rw [he] at a
    obtain ⟨p, xs, rfl, hx, hall⟩ := a.tup_of
    exact ⟨p, xs, rfl, SqT.of hx, fun r hr => q _ _ _ rfl (.tup upd_same (hall.rev.kp (Kp.new hr))) (k1.trans (Kp.new hr)) (s1.new hr)⟩
theorem DE.toLst {K : PySem.W.Frag} {t : TE} {ds : List PyData} (h : DE st c H0 σ t (fun e => e = .tuple ds)) :
    DE st c H0 σ (tCB (fun xs H Q => ∃ p ys, xs = [.ref p] ∧ (SqL K H p ys ∨ SqT K H p ys) ∧ ∀ l, H l = none → Q (.ref l) (upd H l (.lst ys))) (tCons t tNil)) (fun e => e = .list ds) := fun H Q k s q =>
  h H _ k s fun v e H1 he a k1 s1 => by
    rw [he] at a
    obtain ⟨p, xs, rfl, hx, hall⟩ := a.tup_of
    exact ⟨p, xs, rfl, .inr (SqT.of hx), fun r hr => q _ _ _ rfl (.lst upd_same (s1.ne hr).1 (hall.kp (Kp.new hr))) (k1.trans (Kp.new hr)) (s1.new hr)⟩
theorem DE.next {i j : Nat} {n : Int} (h1 : σ[i]? = some (some (.ref st))) (h2 : σ[j]? = some (some (.int n))) (n0 : 0 < n) (n1 : n < 1000) : DE st c H0 σ (tCall spNext [] E0 (tCons (tVar i) (tCons (tVar j) tNil))) (Sz 1 0) := fun H Q k s q =>
  ⟨_, h1, _, h2, st, c, n, rfl, s, n0, n1, fun d H' _ _ k' s' => q _ (.int d) H' (Sz.int d) (.int d) k' s'⟩
theorem DE.pick {i : Nat} {n : Nat} {t : TE} {G : PyData → Prop} (h1 : σ[i]? = some (some (.ref st))) (h : DE st c H0 σ t (fun d => ∃ ds, d = .list ds ∧ AllS n G ds)) (n0 : 0 < n) (n1 : n < 1000) : DE st c H0 σ (tCall spPick [] E0 (tCons (tVar i) (tCons t tNil))) G := fun H Q k s q =>
  ⟨_, h1, h H _ k s fun v d H1 hd a k1 s1 => by
    obtain ⟨ds, rfl, hl, hg⟩ := hd
    exact ⟨st, c, v, ds, rfl, s1, a, fun z => by rw [z] at hl; simp at hl; omega, by omega, fun x e H2 he ae k2 s2 => q x e H2 (hg e he) ae (k1.trans k2) s2⟩⟩
/-- the same, no list within -/
def SzN (l k : Nat) (d : PyData) : Prop := Sz l k d ∧ noL d = true
def SzNL (m l k : Nat) (ds : List PyData) : Prop := SzL m l k ds ∧ noLL ds = true
theorem DE.exN {t : TE} {d : PyData} {l k : Nat} (h : DE st c H0 σ t (fun e => e = d)) (hs : Sz l k d) (hn : noL d = true) : DE st c H0 σ t (SzN l k) := h.imp fun e z => by rw [z]; exact ⟨hs, hn⟩
theorem DE.exS {t : TE} {d : PyData} {l k : Nat} (h : DE st c H0 σ t (fun e => e = d)) (hs : Sz l k d) : DE st c H0 σ t (Sz l k) := h.imp fun e z => by rw [z]; exact hs
theorem DEs.nilN : DEs st c H0 σ tNil (SzNL 0 0 0) := fun H Q k s q => q [] [] H ⟨SzL.nil, by simp [noLL]⟩ .nil .refl s
theorem DEs.consN {t : TE} {ts : TA} {l k m l' k' : Nat} (h : DE st c H0 σ t (SzN l k)) (r : DEs st c H0 σ ts (SzNL m l' k')) : DEs st c H0 σ (tCons t ts) (SzNL (m + 1) (l + l') (max k k')) := DEs.cons' h r fun d ds a b => ⟨SzL.cons a.1 b.1, by simp [noLL, a.2, b.2]⟩
theorem DE.tupN {t : TA} {m l k : Nat} (h : DEs st c H0 σ t (SzNL m l k)) (hm : m ≤ 900) : DE st c H0 σ (tTup t) (SzN l (k + 1)) := (DE.tup' h fun ds s => Nat.le_trans s.1.len hm).imp fun d ⟨ds, e, s⟩ => by rw [e]; exact ⟨s.1.tup hm, by simp [noL, s.2]⟩
theorem DE.intN (i : Int) : DE st c H0 σ (tC (.int i)) (SzN 1 0) := (DE.lit fun H => .int i).exN (Sz.int i) (by simp [noL])
theorem DE.nonN : DE st c H0 σ (tC .non) (SzN 0 0) := (DE.lit fun H => .non).exN Sz.non (by simp [noL])
theorem DE.strN {s : Str} (h : PyData.strOk s = true) : DE st c H0 σ (tC (.str s)) (SzN 0 0) := (DE.lit fun H => .str s).exN (Sz.str h) (by simp [noL])
theorem DE.ivarN {i : Nat} {n : Int} (hv : σ[i]? = some (some (.int n))) : DE st c H0 σ (tVar i) (SzN 1 0) := (DE.var hv (.int n)).exN (Sz.int n) (by simp [noL])
theorem DE.use {t : TE} {S : PyData → Prop} (h : DE st c H0 σ t S) {Q : VK} (s : StAt st c H0) (q : ∀ v d H', S d → At (MS st) H' v d → Kp (MS st) H0 H' → StAt st c H' → Q v H') : t σ H0 Q := h H0 Q .refl s q
end
end K14

set_option Elab.async false
set_option linter.all false
set_option maxRecDepth 100000
set_option maxHeartbeats 1000000
namespace KJ
open PySem PySem.W L2 GxR GA KD KR PyProof.Rows
theorem vals_at : ∀ {xs : List V} {its : List Value} {i : Nat} {v : Value}, Vals xs its → its[i]? = some v → ∃ u, xs[i]? = some u ∧ RelV u v
  | _, _, 0, v, .cons (a := x) r t, h => by
    simp at h
    subst h
    exact ⟨x, rfl, r⟩
  | _, _, i + 1, v, .cons r t, h => vals_at (i := i) t (by simpa using h)
theorem dps_at {K : PySem.W.Frag} {H : Hp} : ∀ {xs : List V} {ds : List PyData} {i : Nat} {u : V}, DpAll K H xs ds → xs[i]? = some u → ∃ d, ds[i]? = some d ∧ Dp K H u d
  | _, _, 0, u, .cons (d := d) r t, h => by
    simp at h
    subst h
    exact ⟨d, rfl, r⟩
  | _, _, i + 1, u, .cons r t, h => dps_at (i := i) t (by simpa using h)
/-- min(xs) of a list of data of one kind: the item itself -/
def rMinD (K : PySem.W.Frag) : List V → Hp → VK → Prop := fun vs H Q => ∃ (a : Addr) (xs : List V) (d : PyData) (ds : List PyData), vs = [.ref a] ∧ SqL K H a xs ∧ DpAll K H xs (d :: ds) ∧ AlikeAll (d :: ds) ∧ PyData.depthAll (d :: ds) ≤ 60 ∧
  ∀ (i : Nat) (v : V), xs[i]? = some v → (d :: ds)[i]? = some (minD d ds) → Q v H
theorem cr_minD {X : Cx} (hc : X.calm = true) (hu : X.A.units + 65 < cLine) : CallR X (.builtin "min") (rMinD X.K) := by
  intro pins s σ H vs us Q I r h
  obtain ⟨a, xs, d, ds, rfl, hs, hall, hal, hdep, q⟩ := h
  obtain ⟨its, rv, hl, _⟩ := I.list hs
  rw [Vals.ref1 r]
  obtain ⟨as, hr⟩ := Dp.readsAll I (d :: ds) xs its hall rv
  refine min_list_data (I.ok.hd hc) hl.isList (x := d) (xs := ds) (as := as) (by simpa using hr) hal (by omega) fun i v h' tk bs hv hR hk => ?_
  have hv' : its[i]? = some v := by simpa using hv
  obtain ⟨u, hu', ru⟩ := vals_at rv hv'
  obtain ⟨e, he, de⟩ := dps_at hall hu'
  obtain ⟨as2, r2⟩ := Dp.reads I e u v de ru
  have em := (reads_det (fun b o e _ => hk b o e) r2 hR).1
  exact ⟨u, H, I.kept hk, ru, q i u hu' (by rw [em]; exact he)⟩
theorem minD_last : ∀ (init : List PyData) (m : PyData), (∀ t ∈ init, dataLt m t = true) → ∀ x xs, x :: xs = init ++ [m] → minD x xs = m := by
  intro init m h x xs e
  cases init with
  | nil =>
    simp at e
    obtain ⟨rfl, rfl⟩ := e
    rfl
  | cons t r =>
    simp at e
    obtain ⟨rfl, rfl⟩ := e
    unfold minD
    rw [List.foldl_append]
    have key : ∀ (r : List PyData) (y : PyData), (∀ t ∈ r, dataLt m t = true) → dataLt m y = true → dataLt m (r.foldl (fun a y => if dataLt y a then y else a) y) = true := by
      intro r
      induction r with
      | nil => intro y _ h; exact h
      | cons z r ih =>
        intro y h1 h2
        rw [List.foldl_cons]
        refine ih _ (fun t ht => h1 t (List.mem_cons_of_mem _ ht)) ?_
        split
        · exact h1 z List.mem_cons_self
        · exact h2
    show (if dataLt m _ then m else _) = m
    rw [if_pos (key r x (fun t ht => h t (List.mem_cons_of_mem _ ht)) (h x List.mem_cons_self))]
theorem lt_heads {i j : Int} {xs ys : List PyData} (h : i < j) : dataLt (.tuple (.int i :: xs)) (.tuple (.int j :: ys)) = true := by
  rw [dataLt_tuple]
  have e : PyData.eqv (.int i) (.int j) = false := by
    show (i == j) = false
    rw [beq_eq_false_iff_ne]
    omega
  rw [dataLt_all_no (by simp [alike]) e, dataLt_int]
  exact decide_eq_true h
end KJ

set_option Elab.async false
set_option linter.all false
set_option maxRecDepth 100000
set_option maxHeartbeats 1000000
namespace KJ
open PySem L2 KM
mutual
/-- the tasks in their sequence -/
def tl : PyData → List Int
  | .int i => [i]
  | .tuple xs => tlL xs
  | _ => []
def tlL : List PyData → List Int
  | [] => []
  | x :: r => tl x ++ tlL r
end
theorem tl_int (i : Int) : tl (.int i) = [i] := by simp only [tl]
theorem tl_str (s : Str) : tl (.str s) = [] := by simp only [tl]
theorem tl_tuple (xs : List PyData) : tl (.tuple xs) = tlL xs := by simp only [tl]
theorem tlL_nil : tlL [] = [] := by simp only [tlL]
theorem tlL_cons (x : PyData) (r : List PyData) : tlL (x :: r) = tl x ++ tlL r := by simp only [tlL]
theorem tl_part (w : Str) (ps : List PyData) : tl (.tuple [.str w, .tuple ps]) = tlL ps := by
  rw [tl_tuple, tlL_cons, tlL_cons, tl_str, tl_tuple, tlL_nil, List.append_nil, List.nil_append]
/-- a plan or a part of one -/
inductive Pn : Str → PyData → List Int → Prop
  | int (o : Str) (i : Int) : Pn o (.int i) [i]
  | node {o w : Str} {ps : List PyData} {l : List Int} : wd w = true → w ≠ o → 2 ≤ ps.length → formedL ps w = some l → Pn o (.tuple [.str w, .tuple ps]) l
mutual
theorem formed_tl : ∀ (d : PyData) (o : Str) (l : List Int), formed d o = some l → tl d = l
  | .int i, o, l, h => by
    rw [formed_int] at h
    cases h
    exact tl_int i
  | .tuple [.str w, .tuple ps], o, l, h => by
    rw [formed_parts] at h
    split at h
    · rw [tl_part]
      exact formedL_tl ps w l h
    · cases h
  | .none, _, _, h => by simp [formed] at h
  | .bool _, _, _, h => by simp [formed] at h
  | .str _, _, _, h => by simp [formed] at h
  | .list _, _, _, h => by simp [formed] at h
  | .dict _, _, _, h => by simp [formed] at h
  | .tuple [], _, _, h => by simp [formed] at h
  | .tuple [_], _, _, h => by simp [formed] at h
  | .tuple (.str _ :: .none :: _), _, _, h => by simp [formed] at h
  | .tuple (.str _ :: .bool _ :: _), _, _, h => by simp [formed] at h
  | .tuple (.str _ :: .int _ :: _), _, _, h => by simp [formed] at h
  | .tuple (.str _ :: .str _ :: _), _, _, h => by simp [formed] at h
  | .tuple (.str _ :: .list _ :: _), _, _, h => by simp [formed] at h
  | .tuple (.str _ :: .dict _ :: _), _, _, h => by simp [formed] at h
  | .tuple (.none :: _ :: _), _, _, h => by simp [formed] at h
  | .tuple (.bool _ :: _ :: _), _, _, h => by simp [formed] at h
  | .tuple (.int _ :: _ :: _), _, _, h => by simp [formed] at h
  | .tuple (.tuple _ :: _ :: _), _, _, h => by simp [formed] at h
  | .tuple (.list _ :: _ :: _), _, _, h => by simp [formed] at h
  | .tuple (.dict _ :: _ :: _), _, _, h => by simp [formed] at h
  | .tuple (.str _ :: .tuple _ :: _ :: _), _, _, h => by simp [formed] at h
theorem formedL_tl : ∀ (ds : List PyData) (w : Str) (l : List Int), formedL ds w = some l → tlL ds = l
  | [], w, l, h => by
    rw [formedL_nil] at h
    cases h
    exact tlL_nil
  | p :: r, w, l, h => by
    rw [formedL_cons] at h
    cases e1 : formed p w with
    | none => rw [e1] at h; cases h
    | some a =>
      cases e2 : formedL r w with
      | none => rw [e1, e2] at h; cases h
      | some b =>
        rw [e1, e2] at h
        cases h
        rw [tlL_cons, formed_tl p w a e1, formedL_tl r w b e2]
end
theorem formedL_mem {w : Str} : ∀ {ds : List PyData} {l : List Int}, formedL ds w = some l → ∀ p ∈ ds, formed p w = some (tl p)
  | q :: r, l, h, p, hp => by
    rw [formedL_cons] at h
    cases e1 : formed q w with
    | none => rw [e1] at h; cases h
    | some a =>
      cases e2 : formedL r w with
      | none => rw [e1, e2] at h; cases h
      | some b =>
        rcases List.mem_cons.mp hp with z | z
        · rw [z, e1, formed_tl q w a e1]
        · exact formedL_mem e2 p z
theorem formedL_ok {w : Str} : ∀ {ds : List PyData}, (∀ p ∈ ds, formed p w = some (tl p)) → formedL ds w = some (tlL ds)
  | [], _ => by rw [formedL_nil, tlL_nil]
  | q :: r, h => by
    rw [formedL_cons, h q List.mem_cons_self, formedL_ok fun p hp => h p (List.mem_cons_of_mem _ hp), tlL_cons]
theorem tl_mem : ∀ {ds : List PyData} {p : PyData}, p ∈ ds → ∀ x ∈ tl p, x ∈ tlL ds
  | q :: r, p, hp, x, hx => by
    rw [tlL_cons, List.mem_append]
    rcases List.mem_cons.mp hp with z | z
    · rw [← z]; exact .inl hx
    · exact .inr (tl_mem z x hx)
/-- a part of two or more is longer than each of its parts -/
theorem tl_short {w : Str} : ∀ {ds : List PyData}, (∀ p ∈ ds, formed p w = some (tl p)) → ∀ p ∈ ds, (tl p).length + ds.length ≤ (tlL ds).length + 1
  | q :: r, h, p, hp => by
    have hq : 0 < (tl q).length := List.length_pos_iff.mpr (formed_ne q w _ (h q List.mem_cons_self))
    have hr := formedL_len r w _ (formedL_ok fun p hp => h p (List.mem_cons_of_mem _ hp))
    rw [tlL_cons, List.length_append, List.length_cons]
    rcases List.mem_cons.mp hp with z | z
    · rw [z]; omega
    · have := tl_short (fun p hp => h p (List.mem_cons_of_mem _ hp)) p z
      omega
mutual
/-- the least part that contains both -/
def jd (a b : Int) : PyData → PyData
  | .tuple [w, .tuple ps] => (jdL a b ps).getD (.tuple [w, .tuple ps])
  | d => d
termination_by d => sizeOf d
def jdL (a b : Int) : List PyData → Option PyData
  | [] => none
  | p :: r => if a ∈ tl p ∧ b ∈ tl p then some (jd a b p) else jdL a b r
termination_by ds => sizeOf ds
end
theorem jd_part (a b : Int) (w : PyData) (ps : List PyData) : jd a b (.tuple [w, .tuple ps]) = (jdL a b ps).getD (.tuple [w, .tuple ps]) := by rw [jd]
theorem jdL_nil (a b : Int) : jdL a b [] = none := by rw [jdL]
theorem jdL_cons (a b : Int) (p : PyData) (r : List PyData) : jdL a b (p :: r) = if a ∈ tl p ∧ b ∈ tl p then some (jd a b p) else jdL a b r := by rw [jdL]
mutual
/-- all parts: the word and the tasks -/
def lp : PyData → List (Str × List Int)
  | .tuple [.str w, .tuple ps] => (w, tlL ps) :: lpL ps
  | _ => []
termination_by d => sizeOf d
def lpL : List PyData → List (Str × List Int)
  | [] => []
  | p :: r => lp p ++ lpL r
termination_by ds => sizeOf ds
end
theorem lp_int (i : Int) : lp (.int i) = [] := by simp [lp]
theorem lp_part (w : Str) (ps : List PyData) : lp (.tuple [.str w, .tuple ps]) = (w, tlL ps) :: lpL ps := by rw [lp]
theorem lpL_nil : lpL [] = [] := by rw [lpL]
theorem lpL_cons (p : PyData) (r : List PyData) : lpL (p :: r) = lp p ++ lpL r := by rw [lpL]
def has (a b : Int) (x : Str × List Int) : Bool := decide (a ∈ x.2 ∧ b ∈ x.2)
/-- what the law gathers for two tasks: the joint stands last and is the shortest -/
structure Good (a b : Int) (e : PyData) (fl : List (Str × List Int)) (n : Nat) : Prop where
  ex : ∃ (we : Str) (pe : List PyData) (init : List (Str × List Int)) (o : Str), e = .tuple [.str we, .tuple pe] ∧ wd we = true ∧ formed e o = some (tlL pe) ∧ a ∈ tlL pe ∧ b ∈ tlL pe ∧ fl = init ++ [(we, tlL pe)] ∧ (∀ x ∈ init, (tlL pe).length < x.2.length) ∧ (tlL pe).length ≤ n
mutual
theorem lp_sub : ∀ (d : PyData) (o : Str) (l : List Int), formed d o = some l → ∀ x ∈ lp d, ∀ t ∈ x.2, t ∈ l
  | .int i, o, l, h, x, hx => by
    rw [lp_int] at hx
    cases hx
  | .tuple [.str w, .tuple ps], o, l, h, x, hx => by
    rw [formed_parts] at h
    split at h
    · rw [lp_part] at hx
      rcases List.mem_cons.mp hx with z | z
      · rw [z, formedL_tl ps w l h]
        exact fun t ht => ht
      · exact lpL_sub ps w l h x z
    · cases h
  | .none, _, _, h, _, _ => by simp [formed] at h
  | .bool _, _, _, h, _, _ => by simp [formed] at h
  | .str _, _, _, h, _, _ => by simp [formed] at h
  | .list _, _, _, h, _, _ => by simp [formed] at h
  | .dict _, _, _, h, _, _ => by simp [formed] at h
  | .tuple [], _, _, h, _, _ => by simp [formed] at h
  | .tuple [_], _, _, h, _, _ => by simp [formed] at h
  | .tuple (.str _ :: .none :: _), _, _, h, _, _ => by simp [formed] at h
  | .tuple (.str _ :: .bool _ :: _), _, _, h, _, _ => by simp [formed] at h
  | .tuple (.str _ :: .int _ :: _), _, _, h, _, _ => by simp [formed] at h
  | .tuple (.str _ :: .str _ :: _), _, _, h, _, _ => by simp [formed] at h
  | .tuple (.str _ :: .list _ :: _), _, _, h, _, _ => by simp [formed] at h
  | .tuple (.str _ :: .dict _ :: _), _, _, h, _, _ => by simp [formed] at h
  | .tuple (.none :: _ :: _), _, _, h, _, _ => by simp [formed] at h
  | .tuple (.bool _ :: _ :: _), _, _, h, _, _ => by simp [formed] at h
  | .tuple (.int _ :: _ :: _), _, _, h, _, _ => by simp [formed] at h
  | .tuple (.tuple _ :: _ :: _), _, _, h, _, _ => by simp [formed] at h
  | .tuple (.list _ :: _ :: _), _, _, h, _, _ => by simp [formed] at h
  | .tuple (.dict _ :: _ :: _), _, _, h, _, _ => by simp [formed] at h
  | .tuple (.str _ :: .tuple _ :: _ :: _), _, _, h, _, _ => by simp [formed] at h
theorem lpL_sub : ∀ (ds : List PyData) (w : Str) (l : List Int), formedL ds w = some l → ∀ x ∈ lpL ds, ∀ t ∈ x.2, t ∈ l
  | [], w, l, h, x, hx => by
    rw [lpL_nil] at hx
    cases hx
  | p :: r, w, l, h, x, hx => by
    rw [formedL_cons] at h
    cases e1 : formed p w with
    | none => rw [e1] at h; cases h
    | some a =>
      cases e2 : formedL r w with
      | none => rw [e1, e2] at h; cases h
      | some b =>
        rw [e1, e2] at h
        cases h
        rw [lpL_cons] at hx
        intro t ht
        rw [List.mem_append]
        rcases List.mem_append.mp hx with z | z
        · exact .inl (lp_sub p w a e1 x z t ht)
        · exact .inr (lpL_sub r w b e2 x z t ht)
end
theorem lp_none {d : PyData} {o : Str} {l : List Int} {a b : Int} (h : formed d o = some l) (hn : ¬ (a ∈ l ∧ b ∈ l)) : (lp d).filter (has a b) = [] := by
  rw [List.filter_eq_nil_iff]
  intro x hx z
  have z := of_decide_eq_true z
  exact hn ⟨lp_sub d o l h x hx a z.1, lp_sub d o l h x hx b z.2⟩
theorem lpL_none {ds : List PyData} {o : Str} {l : List Int} {a b : Int} (h : formedL ds o = some l) (hn : ¬ (a ∈ l ∧ b ∈ l)) : (lpL ds).filter (has a b) = [] := by
  rw [List.filter_eq_nil_iff]
  intro x hx z
  have z := of_decide_eq_true z
  exact hn ⟨lpL_sub ds o l h x hx a z.1, lpL_sub ds o l h x hx b z.2⟩
end KJ

set_option Elab.async false
set_option linter.all false
set_option maxRecDepth 100000
set_option maxHeartbeats 1000000
namespace KJ
open PySem PySem.W L2 KM
mutual
theorem chain {a b : Int} (hab : a ≠ b) : ∀ (d : PyData) (o : Str) (l : List Int), formed d o = some l → l.Nodup → a ∈ l → b ∈ l → Good a b (jd a b d) ((lp d).filter (has a b)) l.length
  | .int i, o, l, h, hn, ha, hb => by
    rw [formed_int] at h
    cases h
    exact absurd ((List.mem_singleton.mp ha).trans (List.mem_singleton.mp hb).symm) hab
  | .tuple [.str w, .tuple ps], o, l, h, hn, ha, hb => by
    have hf := h
    rw [formed_parts] at h
    split at h
    · rename_i hc
      simp only [Bool.and_eq_true, Bool.not_eq_true', decide_eq_false_iff_not, decide_eq_true_eq] at hc
      have htl := formedL_tl ps w l h
      have hh : has a b (w, tlL ps) = true := decide_eq_true (by rw [htl]; exact ⟨ha, hb⟩)
      rw [lp_part, List.filter_cons_of_pos hh, jd_part]
      rcases chainL hab ps w l h hn with ⟨e1, e2⟩ | ⟨e, e1, p, hp, g⟩
      · rw [e1, e2]
        exact ⟨w, ps, [], o, rfl, hc.1.1, by rw [htl]; exact hf, by rw [htl]; exact ha, by rw [htl]; exact hb, rfl, (fun _ z => by cases z), (by rw [htl]; exact Nat.le_refl _)⟩
      · rw [e1]
        obtain ⟨we, pe, init, o', g1, g2, g3, g4, g5, g6, g7, g8⟩ := g.ex
        have hs := tl_short (formedL_mem h) p hp
        rw [htl] at hs ⊢
        refine ⟨we, pe, (w, l) :: init, o', g1, g2, g3, g4, g5, by rw [g6]; rfl, fun x hx => ?_, by have := hc.2; omega⟩
        rcases List.mem_cons.mp hx with z | z
        · rw [z]
          show (tlL pe).length < l.length
          have := hc.2
          omega
        · exact g7 x z
    · cases h
  | .none, _, _, h, _, _, _ => by simp [formed] at h
  | .bool _, _, _, h, _, _, _ => by simp [formed] at h
  | .str _, _, _, h, _, _, _ => by simp [formed] at h
  | .list _, _, _, h, _, _, _ => by simp [formed] at h
  | .dict _, _, _, h, _, _, _ => by simp [formed] at h
  | .tuple [], _, _, h, _, _, _ => by simp [formed] at h
  | .tuple [_], _, _, h, _, _, _ => by simp [formed] at h
  | .tuple (.str _ :: .none :: _), _, _, h, _, _, _ => by simp [formed] at h
  | .tuple (.str _ :: .bool _ :: _), _, _, h, _, _, _ => by simp [formed] at h
  | .tuple (.str _ :: .int _ :: _), _, _, h, _, _, _ => by simp [formed] at h
  | .tuple (.str _ :: .str _ :: _), _, _, h, _, _, _ => by simp [formed] at h
  | .tuple (.str _ :: .list _ :: _), _, _, h, _, _, _ => by simp [formed] at h
  | .tuple (.str _ :: .dict _ :: _), _, _, h, _, _, _ => by simp [formed] at h
  | .tuple (.none :: _ :: _), _, _, h, _, _, _ => by simp [formed] at h
  | .tuple (.bool _ :: _ :: _), _, _, h, _, _, _ => by simp [formed] at h
  | .tuple (.int _ :: _ :: _), _, _, h, _, _, _ => by simp [formed] at h
  | .tuple (.tuple _ :: _ :: _), _, _, h, _, _, _ => by simp [formed] at h
  | .tuple (.list _ :: _ :: _), _, _, h, _, _, _ => by simp [formed] at h
  | .tuple (.dict _ :: _ :: _), _, _, h, _, _, _ => by simp [formed] at h
  | .tuple (.str _ :: .tuple _ :: _ :: _), _, _, h, _, _, _ => by simp [formed] at h
theorem chainL {a b : Int} (hab : a ≠ b) : ∀ (ds : List PyData) (w : Str) (l : List Int), formedL ds w = some l → l.Nodup →
    (jdL a b ds = none ∧ (lpL ds).filter (has a b) = []) ∨ ∃ e, jdL a b ds = some e ∧ ∃ p ∈ ds, Good a b e ((lpL ds).filter (has a b)) (tl p).length
  | [], w, l, h, hn => .inl ⟨jdL_nil a b, by rw [lpL_nil]; rfl⟩
  | p :: r, w, l, h, hn => by
    rw [formedL_cons] at h
    cases e1 : formed p w with
    | none => rw [e1] at h; cases h
    | some x =>
      cases e2 : formedL r w with
      | none => rw [e1, e2] at h; cases h
      | some y =>
        rw [e1, e2] at h
        cases h
        obtain ⟨n1, n2, n3⟩ := List.nodup_append.mp hn
        have htl := formed_tl p w x e1
        rw [jdL_cons, lpL_cons, List.filter_append, htl]
        by_cases hc : a ∈ x ∧ b ∈ x
        · rw [if_pos hc, lpL_none e2 (fun z => n3 a hc.1 a z.1 rfl), List.append_nil]
          refine .inr ⟨_, rfl, p, List.mem_cons_self, ?_⟩
          rw [htl]
          exact chain hab p w x e1 n1 hc.1 hc.2
        · rw [if_neg hc, lp_none e1 hc, List.nil_append]
          rcases chainL hab r w y e2 n2 with z | ⟨e, z1, q, z2, z3⟩
          · exact .inl z
          · exact .inr ⟨e, z1, q, List.mem_cons_of_mem _ z2, z3⟩
end
/-- the ascending list -/
def srt (l : List Int) : List Int := l.mergeSort fun a b => decide (a ≤ b)
theorem srt_perm (l : List Int) : (srt l).Perm l := List.mergeSort_perm l _
theorem srt_sorted (l : List Int) : (srt l).Pairwise (· ≤ ·) := by
  have h := List.pairwise_mergeSort (le := fun a b : Int => decide (a ≤ b)) (fun a b c h1 h2 => by simp only [decide_eq_true_eq] at *; omega) (fun a b => by simp only [Bool.or_eq_true, decide_eq_true_eq]; omega) l
  exact h.imp fun z => of_decide_eq_true z
theorem srt_uniq {l l' : List Int} (p : l'.Perm l) (s : l'.Pairwise (· ≤ ·)) : l' = srt l :=
  List.Perm.eq_of_pairwise (fun _ _ _ _ a b => Int.le_antisymm a b) s (srt_sorted l) (p.trans (srt_perm l).symm)
theorem srt_len (l : List Int) : (srt l).length = l.length := (srt_perm l).length_eq
/-- what the law's list holds for a part -/
def dOf (x : Str × List Int) : PyData := .tuple [.int (x.2.length : Int), .str x.1, .tuple ((srt x.2).map PyData.int)]
theorem min_good {a b : Int} {e : PyData} {fl : List (Str × List Int)} {n : Nat} (g : Good a b e fl n) : ∃ (we : Str) (pe : List PyData) (o : Str) (x : PyData) (xs : List PyData), e = .tuple [.str we, .tuple pe] ∧ wd we = true ∧ formed e o = some (tlL pe) ∧ a ∈ tlL pe ∧ b ∈ tlL pe ∧ (tlL pe).length ≤ n ∧
    fl.map dOf = x :: xs ∧ minD x xs = dOf (we, tlL pe) := by
  obtain ⟨we, pe, init, o, g1, g2, g3, g4, g5, g6, g7, g8⟩ := g.ex
  have hm : fl.map dOf = init.map dOf ++ [dOf (we, tlL pe)] := by rw [g6, List.map_append]; rfl
  obtain ⟨x, xs, hx⟩ : ∃ x xs, init.map dOf ++ [dOf (we, tlL pe)] = x :: xs := by
    cases init.map dOf with
    | nil => exact ⟨_, _, rfl⟩
    | cons y r => exact ⟨_, _, rfl⟩
  refine ⟨we, pe, o, x, xs, g1, g2, g3, g4, g5, g8, hm.trans hx, minD_last (init.map dOf) _ (fun t ht => ?_) x xs hx.symm⟩
  obtain ⟨y, hy, rfl⟩ := List.mem_map.mp ht
  exact lt_heads (by have := g7 y hy; show ((tlL pe).length : Int) < (y.2.length : Int); omega)
theorem alike_dOf (fl : List (Str × List Int)) : AlikeAll (fl.map dOf) := by
  have kin : ∀ l m : List Int, alikeAll (l.map PyData.int) (m.map PyData.int) = true := by
    intro l
    induction l with
    | nil => intro m; simp [alikeAll]
    | cons i r ih =>
      intro m
      cases m with
      | nil => simp [alikeAll]
      | cons j t => simp [alikeAll, alike, ih]
  refine ⟨fun x hx y hy => ?_, fun x hx => ?_⟩
  · obtain ⟨p, _, rfl⟩ := List.mem_map.mp hx
    obtain ⟨q, _, rfl⟩ := List.mem_map.mp hy
    simp [dOf, alike, alikeAll, kin]
  · obtain ⟨p, _, rfl⟩ := List.mem_map.mp hx
    exact fun z => by cases z
theorem depth_ints (l : List Int) : PyData.depthAll (l.map PyData.int) ≤ 1 := by
  induction l with
  | nil => simp [PyData.depthAll]
  | cons x r ih => simp only [List.map_cons, PyData.depthAll, PyData.depth]; omega
theorem depth_dOf (fl : List (Str × List Int)) : PyData.depthAll (fl.map dOf) ≤ 5 := by
  induction fl with
  | nil => simp [PyData.depthAll]
  | cons x r ih =>
    have := depth_ints (srt x.2)
    simp only [List.map_cons, PyData.depthAll, dOf, PyData.depth]
    omega
/-- the joint's word and tasks, for the two exchanged, too -/
theorem good_swap {a b : Int} {d : PyData} {n m : Nat} (g : Good a b (jd a b d) ((lp d).filter (has a b)) n) (g' : Good b a (jd b a d) ((lp d).filter (has b a)) m) :
    ∃ (we : Str) (pe pe' : List PyData), jd a b d = .tuple [.str we, .tuple pe] ∧ jd b a d = .tuple [.str we, .tuple pe'] ∧ tlL pe' = tlL pe := by
  obtain ⟨we, pe, init, o, g1, g2, g3, g4, g5, g6, g7, g8⟩ := g.ex
  obtain ⟨we', pe', init', o', k1, k2, k3, k4, k5, k6, k7, k8⟩ := g'.ex
  have e : (lp d).filter (has a b) = (lp d).filter (has b a) := by
    refine List.filter_congr fun x _ => ?_
    unfold has
    rw [decide_eq_decide]
    exact And.comm
  rw [g6, k6] at e
  have e2 := congrArg List.getLast? e
  rw [List.getLast?_concat, List.getLast?_concat] at e2
  injection e2 with e2
  injection e2 with e3 e4
  exact ⟨we, pe, pe', g1, by rw [k1, e3], e4.symm⟩
end KJ

set_option Elab.async false
set_option linter.all false
set_option maxRecDepth 100000
set_option maxHeartbeats 1000000
/-! the tables' laws: the drawn order, plans put together two by two, the tasks of a plan -/
namespace K14
open PySem L2 GxR GA KD KR KM KJ
abbrev sShuffled : Stmt := top 26
abbrev sJoined : Stmt := top 27
abbrev sLPlan : Stmt := top 28
abbrev sTasks : Stmt := top 29
def spShuffled : Sp := fun vs H Q _ => ∃ (st c : Addr) (n : Nat), vs = [.ref st, .int n] ∧ StAt st c H ∧ n < 60 ∧ ∀ a (l : List Int) H', l.Perm (rng n) → H' a = some (.lst (l.map V.int)) → (∀ zs, H a ≠ some (.lst zs)) → a ≠ st → a ≠ c → Kp (MS st) H H' → StAt st c H' → Q (.ref a) H'
/-- the parts that a plan gives to one with the word -/
def given (w : Str) (d : PyData) : List PyData := match d with
  | .tuple [.str u, .tuple ps] => if u = w then ps else [d]
  | _ => [d]
theorem given_ok {w o : Str} {d : PyData} (h : formed d o = some (tl d)) : formedL (given w d) w = some (tl d) ∧ 1 ≤ (given w d).length ∧ PyData.depthAll (given w d) ≤ d.depth := by
  cases d with
  | int i =>
    refine ⟨?_, Nat.le_refl _, ?_⟩
    · show formedL [.int i] w = _
      rw [formedL_one, formed_int, tl_int]
    · show PyData.depthAll [.int i] ≤ _
      simp [PyData.depthAll]
  | tuple ds =>
    match ds, h with
    | [.str u, .tuple ps], h =>
      have h' := h
      rw [formed_parts] at h
      split at h
      · rename_i hc
        simp only [Bool.and_eq_true, Bool.not_eq_true', decide_eq_false_iff_not, decide_eq_true_eq] at hc
        by_cases e : u = w
        · subst e
          have eg : given u (.tuple [.str u, .tuple ps]) = ps := if_pos rfl
          rw [eg]
          refine ⟨h, by omega, ?_⟩
          simp only [PyData.depth, PyData.depthAll]
          omega
        · have eg : given w (.tuple [.str u, .tuple ps]) = [.tuple [.str u, .tuple ps]] := if_neg e
          rw [eg]
          refine ⟨?_, Nat.le_refl _, by simp [PyData.depthAll]⟩
          rw [formedL_one, formed_parts, if_pos]
          · exact h
          · simp only [Bool.and_eq_true, Bool.not_eq_true', decide_eq_false_iff_not, decide_eq_true_eq]
            exact ⟨⟨hc.1.1, e⟩, hc.2⟩
      · cases h
    | [], h => simp [formed] at h
    | [_], h => simp [formed] at h
    | .str _ :: .none :: _, h => simp [formed] at h
    | .str _ :: .bool _ :: _, h => simp [formed] at h
    | .str _ :: .int _ :: _, h => simp [formed] at h
    | .str _ :: .str _ :: _, h => simp [formed] at h
    | .str _ :: .list _ :: _, h => simp [formed] at h
    | .str _ :: .dict _ :: _, h => simp [formed] at h
    | .none :: _ :: _, h => simp [formed] at h
    | .bool _ :: _ :: _, h => simp [formed] at h
    | .int _ :: _ :: _, h => simp [formed] at h
    | .tuple _ :: _ :: _, h => simp [formed] at h
    | .list _ :: _ :: _, h => simp [formed] at h
    | .dict _ :: _ :: _, h => simp [formed] at h
    | .str _ :: .tuple _ :: _ :: _, h => simp [formed] at h
  | _ => simp [formed] at h
section
variable {P : Program} {w : World} {K : PySem.W.Frag} {mg : Str → Option Value} {base : Heap}
theorem scShuffled : FnScope ["stream", "many", "left", "found", "k"] ["stream", "many"] (defScope sShuffled) := ⟨rfl, rfl, rfl, by decide +kernel, rfl, by decide +kernel, by decide +kernel⟩
theorem ok_shuffled {f g : Addr} {fd gd : FuncData} (F : Fun K "_law_shuffled" "_law_shuffled" sShuffled f fd) (B : Bl K mg)
    (G : FnOk P w K mg base CX0 1 g gd ["stream", "many"] spNext) (bG : Binds K gd ["stream", "many"] []) (kG : PySem.W.keepIn K (.ref g) = true) (mG : mg "_law_next" = some (.ref g)) : FnOk P w K mg base CX0 2 f fd ["stream", "many"] spShuffled := by
  refine F.ok scShuffled (fun vs H Q E h => ?_) (fun cdv A outer s H vs Q E hr h => ?_)
  · obtain ⟨st, c, n, rfl, _⟩ := h
    rfl
  obtain ⟨st, c, n, rfl, hst, hn, q⟩ := h
  refine ⟨_, pss_cons (ps_set (i := 2) scShuffled.nd rfl (Or.inl rfl) (pe_listRg rfl rfl B.list (prg_1 rfl B.range (pv 1))))
    (pss_cons (ps_set (i := 3) scShuffled.nd rfl (Or.inl rfl) (pe_lst pa_nil))
    (pss_cons (ps_for PassesOwn.never rfl (pi_range1 rfl B.range (pa_cons (pv 1) pa_nil)) (pg_name (i := 4) scShuffled.nd rfl (Or.inl rfl))
      (pss_one (ps_expr (pe_bm PySem.F.plainAttrs_list PySem.F.slot_list_append PySem.F.type_list_append mt_append (pv 3) (pa_cons
        (pe_bm PySem.F.plainAttrs_list PySem.F.slot_list_pop PySem.F.type_list_pop mt_popAt (pv 2) (pa_cons (pe_call G hr rfl mG kG bG .nil pass0 (pa_cons (pv 0) (pa_cons (pe_callB call_len_seq rfl B.len PySem.boot_len (pa_cons (pv 2) pa_nil)) pa_nil))) pa_nil)) pa_nil)))))
    (pss_one (ps_ret (pv 3))))), ?_⟩
  refine ⟨_, rfl, _, rfl, RgOk.of_le (by omega) (by omega) (by omega) (by omega), fun L hL => ?_⟩
  have hs0 : StAt st c (upd H L (.lst (rgV 0 n))) := hst.new hL
  refine ⟨(by show 0 ≤ sizeLine; decide), fun D hD => ?_⟩
  have nL : L ≠ D := ne_of_none upd_same hD
  have hD' : H D = none := by rw [upd_ne nL.symm] at hD; exact hD
  have sL := hst.ne hL
  have sD := hst.ne hD'
  refine ⟨_, rfl, _, rfl, by omega, by omega, ?_⟩
  refine for_range (lo := 0) (n := ((n : Int)).toNat) (fun i σ H' => ∃ x4 rest taken, σ = [some (.ref st), some (.int n), some (.ref L), some (.ref D), x4] ∧ H' L = some (.lst (rest.map V.int)) ∧ H' D = some (.lst (taken.map V.int)) ∧ taken.length = i ∧ (taken ++ rest).Perm (rng n) ∧ Kp (MS st) H H' ∧ StAt st c H')
    ⟨none, rng n, [], rfl, by rw [upd_ne nL, upd_same, rgV_rng], upd_same, rfl, List.Perm.refl _, (Kp.new hL).trans (Kp.new hD), hs0.new hD⟩ (fun i σ H' hi p => ?_) (fun σ H' p => ?_)
  · obtain ⟨x4, rest, taken, rfl, h1, h2, h3, h4, h5, h6⟩ := p
    have hlen : taken.length + rest.length = n := by rw [← List.length_append, h4.length_eq, rng_length]
    refine ⟨_, rfl, .inl ⟨rfl, _, .inl (.inl h2)⟩, _, rfl, .inl ⟨rfl, _, .inl (.inl h1)⟩, _, rfl, _, rfl, L, _, rfl, .inl (SqL.of h1), st, c, _, rfl, h6, by rw [List.length_map]; omega, by rw [List.length_map]; omega, fun d H2 d0 d1 k2 s2 => ?_⟩
    rw [List.length_map] at d1
    have hd : d.toNat < rest.length := by omega
    have h1' := k2.lst L _ sL.1 h1
    have h2' := k2.lst D _ sD.1 h2
    refine ⟨L, _, d, d.toNat, .int rest[d.toNat], rfl, rfl, h1', by omega, by omega, by rw [List.length_map]; exact seq_ix d0 d1, by rw [List.getElem?_map, List.getElem?_eq_getElem hd]; rfl, ?_⟩
    refine ⟨D, taken.map V.int, _, rfl, rfl, by rw [upd_ne nL.symm]; exact h2', by rw [List.length_map]; exact small1000 (by omega), ?_⟩
    refine ⟨_, rest.eraseIdx d.toNat, taken ++ [rest[d.toNat]], rfl, by rw [upd_ne nL, upd_same, map_eraseIdx], by rw [upd_same, List.map_append]; rfl, by rw [List.length_append, h3]; rfl, ?_, ?_, (s2.put sL).put sD⟩
    · refine List.Perm.trans ?_ h4
      rw [List.append_assoc]
      exact List.Perm.append_left _ (pop_perm hd)
    · have k3 := h5.trans k2
      refine Kp.putFresh (Kp.putFresh k3 (fun zs e => ?_) h1') (fun zs e => ?_) (by rw [upd_ne nL.symm]; exact h2')
      · rw [hL] at e; cases e
      · rw [hD'] at e; cases e
  · obtain ⟨x4, rest, taken, rfl, h1, h2, h3, h4, h5, h6⟩ := p
    have hlen : taken.length + rest.length = n := by rw [← List.length_append, h4.length_eq, rng_length]
    have hr0 : rest = [] := List.length_eq_zero_iff.mp (by omega)
    subst hr0
    rw [List.append_nil] at h4
    exact ⟨_, rfl, q D taken _ h4 h2 (fun zs e => by rw [hD'] at e; cases e) sD.1 sD.2 h5 h6⟩
end
end K14

set_option Elab.async false
set_option linter.all false
set_option maxRecDepth 100000
set_option maxHeartbeats 1000000
namespace K14
open PySem L2 GxR GA KD KR KM KJ
mutual
theorem formed_noL : ∀ (d : PyData) (o : Str) (l : List Int), formed d o = some l → noL d = true
  | .int i, o, l, h => by simp [noL]
  | .tuple [.str w, .tuple ps], o, l, h => by
    rw [formed_parts] at h
    split at h
    · have := formedL_noL ps w l h
      simp [noL, noLL, this]
    · cases h
  | .none, _, _, h => by simp [formed] at h
  | .bool _, _, _, h => by simp [formed] at h
  | .str _, _, _, h => by simp [formed] at h
  | .list _, _, _, h => by simp [formed] at h
  | .dict _, _, _, h => by simp [formed] at h
  | .tuple [], _, _, h => by simp [formed] at h
  | .tuple [_], _, _, h => by simp [formed] at h
  | .tuple (.str _ :: .none :: _), _, _, h => by simp [formed] at h
  | .tuple (.str _ :: .bool _ :: _), _, _, h => by simp [formed] at h
  | .tuple (.str _ :: .int _ :: _), _, _, h => by simp [formed] at h
  | .tuple (.str _ :: .str _ :: _), _, _, h => by simp [formed] at h
  | .tuple (.str _ :: .list _ :: _), _, _, h => by simp [formed] at h
  | .tuple (.str _ :: .dict _ :: _), _, _, h => by simp [formed] at h
  | .tuple (.none :: _ :: _), _, _, h => by simp [formed] at h
  | .tuple (.bool _ :: _ :: _), _, _, h => by simp [formed] at h
  | .tuple (.int _ :: _ :: _), _, _, h => by simp [formed] at h
  | .tuple (.tuple _ :: _ :: _), _, _, h => by simp [formed] at h
  | .tuple (.list _ :: _ :: _), _, _, h => by simp [formed] at h
  | .tuple (.dict _ :: _ :: _), _, _, h => by simp [formed] at h
  | .tuple (.str _ :: .tuple _ :: _ :: _), _, _, h => by simp [formed] at h
theorem formedL_noL : ∀ (ds : List PyData) (w : Str) (l : List Int), formedL ds w = some l → noLL ds = true
  | [], w, l, h => by simp [noLL]
  | p :: r, w, l, h => by
    rw [formedL_cons] at h
    cases e1 : formed p w with
    | none => rw [e1] at h; cases h
    | some a =>
      cases e2 : formedL r w with
      | none => rw [e1, e2] at h; cases h
      | some b => simp [noLL, formed_noL p w a e1, formedL_noL r w b e2]
end
/-- t + u of two tuples that stand -/
theorem cat_at {K : PySem.W.Frag} {H : Hp} {p t : Addr} {xs ys : List V} {ds es : List PyData} {Q : VK} (hp : H p = some (.tup xs)) (ht : H t = some (.tup ys)) (a : AtL MN H xs ds) (b : AtL MN H ys es) (hn : ds.length ≤ 400) (hm : es.length ≤ 400)
    (q : ∀ r zs H', H' r = some (.tup zs) → AtL MN H' zs (ds ++ es) → Kp MN H H' → Q (.ref r) H') : rCatA K (.ref p) (.ref t) H Q := by
  have l1 := a.length
  have l2 := b.length
  refine ⟨p, t, xs, ys, rfl, rfl, SqT.of hp, SqT.of ht, Nat.le_of_lt (small1000 (by omega)), fun z => ?_, fun _ z => ?_, fun _ _ r hr => ?_⟩
  · rw [z] at l1
    have : ds = [] := List.length_eq_zero_iff.mp l1.symm
    subst this
    exact q t ys H ht b .refl
  · rw [z] at l2
    have : es = [] := List.length_eq_zero_iff.mp l2.symm
    subst this
    exact q p xs H hp (by rw [List.append_nil]; exact a) .refl
  · exact q r _ _ upd_same ((a.append b).kp (Kp.new hr)) (Kp.new hr)
/-- two plans put together by the word -/
def joinD (wo : Str) (d1 d2 : PyData) : PyData := .tuple [.str wo, .tuple (given wo d1 ++ given wo d2)]
def spJoined : Sp := fun vs H Q _ => ∃ (v1 v2 : V) (d1 d2 : PyData) (wo o1 o2 : Str), vs = [.str wo, v1, v2] ∧ At MN H v1 d1 ∧ At MN H v2 d2 ∧ formed d1 o1 = some (tl d1) ∧ formed d2 o2 = some (tl d2) ∧ (tl d1).length ≤ 60 ∧ (tl d2).length ≤ 60 ∧
  ∀ v H', At MN H' v (joinD wo d1 d2) → Kp MN H H' → Q v H'
theorem given_len {wo o : Str} {d : PyData} (h : formed d o = some (tl d)) : (given wo d).length ≤ (tl d).length := formedL_len _ _ _ (given_ok h).1
theorem formed_two {d : PyData} {o : Str} {l : List Int} (h : formed d o = some l) : (∃ i, d = .int i) ∨ ∃ u ps, d = .tuple [.str u, .tuple ps] := by
  cases d with
  | int i => exact .inl ⟨i, rfl⟩
  | tuple ds =>
    match ds, h with
    | [.str u, .tuple ps], _ => exact .inr ⟨u, ps, rfl⟩
    | [], h => simp [formed] at h
    | [_], h => simp [formed] at h
    | .str _ :: .none :: _, h => simp [formed] at h
    | .str _ :: .bool _ :: _, h => simp [formed] at h
    | .str _ :: .int _ :: _, h => simp [formed] at h
    | .str _ :: .str _ :: _, h => simp [formed] at h
    | .str _ :: .list _ :: _, h => simp [formed] at h
    | .str _ :: .dict _ :: _, h => simp [formed] at h
    | .none :: _ :: _, h => simp [formed] at h
    | .bool _ :: _ :: _, h => simp [formed] at h
    | .int _ :: _ :: _, h => simp [formed] at h
    | .tuple _ :: _ :: _, h => simp [formed] at h
    | .list _ :: _ :: _, h => simp [formed] at h
    | .dict _ :: _ :: _, h => simp [formed] at h
    | .str _ :: .tuple _ :: _ :: _, h => simp [formed] at h
  | _ => simp [formed] at h
/-- where a part stands -/
theorem parts_at {M : Addr → Prop} {H : Hp} {v : V} {w : Str} {ps : List PyData} (h : At M H v (.tuple [.str w, .tuple ps])) : ∃ (a a2 : Addr) (xs : List V), v = .ref a ∧ H a = some (.tup [.str w, .ref a2]) ∧ H a2 = some (.tup xs) ∧ AtL M H xs ps := by
  obtain ⟨a, xs, rfl, hx, hall⟩ := h.tup_of
  cases hall with
  | cons h1 r =>
    cases r with
    | cons h2 r2 =>
      cases r2
      cases h1.str_of
      obtain ⟨a2, xs2, rfl, hx2, hall2⟩ := h2.tup_of
      exact ⟨a, a2, xs2, rfl, hx, hx2, hall2⟩
section
variable {P : Program} {w : World} {K : PySem.W.Frag} {mg : Str → Option Value} {base : Heap}
theorem scJoined : FnScope ["word", "first", "second", "parts", "plan"] ["word", "first", "second"] (defScope sJoined) := ⟨rfl, rfl, rfl, by decide +kernel, rfl, by decide +kernel, by decide +kernel⟩
theorem ok_joined {f : Addr} {fd : FuncData} (F : Fun K "_law_joined" "_law_joined" sJoined f fd) (B : Bl K mg) : FnOk P w K mg base CX0 1 f fd ["word", "first", "second"] spJoined := by
  refine F.ok scJoined (fun vs H Q E h => ?_) (fun cdv A outer s H vs Q E hr h => ?_)
  · obtain ⟨v1, v2, d1, d2, wo, o1, o2, rfl, _⟩ := h
    rfl
  obtain ⟨v1, v2, d1, d2, wo, o1, o2, rfl, h1, h2, f1, f2, n1, n2, q⟩ := h
  refine ⟨_, pss_cons (ps_set (i := 3) scJoined.nd rfl (Or.inl rfl) (pe_tup pa_nil))
    (pss_cons (ps_for PassesOwn.never rfl (pi_list (pe_lst (pa_cons (pv 1) (pa_cons (pv 2) pa_nil)))) (pg_name (i := 4) scJoined.nd rfl (Or.inl rfl))
      (pss_one (ps_if (PW.pt (pw_and (pt_val (pe_callB call_isi rfl B.isinstance (by decide +kernel) (pa_cons (pv 4) (pa_cons (pe_bltn rfl B.tuple (by decide +kernel) (v := .ty "tuple") rfl) pa_nil))))
          (pw_and1 (pt_cmpR op_eq (pe_ix ix_tup (pv 4) pe_int (fun _ _ => rfl)) (pv 0) (nomark _)))))
        (pss_one (ps_set (i := 3) scJoined.nd rfl (Or.inl rfl) (pe_op op_catA (pv 3) (pe_ix ix_tup (pv 4) pe_int (fun _ _ => rfl)))))
        (pss_one (ps_set (i := 3) scJoined.nd rfl (Or.inl rfl) (pe_op op_catA (pv 3) (pe_tup (pa_cons (pv 4) pa_nil))))))))
    (pss_one (ps_ret (pe_tup (pa_cons (pv 0) (pa_cons (pv 3) pa_nil)))))), ?_⟩
  refine ⟨(by show 0 ≤ sizeLine; decide), fun p0 hp0 => ?_⟩
  refine ⟨_, rfl, _, rfl, (by show 2 ≤ sizeLine; decide), fun L hL => ⟨L, rfl, ⟨_, SqL.of upd_same⟩, ?_⟩⟩
  have kL : Kp MN H (upd (upd H p0 (.tup [])) L (.lst [v1, v2])) := (Kp.new hp0).trans (Kp.new hL)
  have g1 := given_len (wo := wo) f1
  have g2 := given_len (wo := wo) f2
  -- one turn: behind it the plan's parts stand at the end
  have step : ∀ (x : V) (d : PyData) (o : Str) (ds : List PyData) (p : Addr) (xs : List V) (H' : Hp) (D : Ends) (y : Option V), At MN H' x d → formed d o = some (tl d) → (tl d).length ≤ 60 → H' p = some (.tup xs) → AtL MN H' xs ds → ds.length ≤ 60 →
      (∀ r zs H2, H2 r = some (.tup zs) → AtL MN H2 zs (ds ++ given wo d) → Kp MN H' H2 → D.nx [some (.str wo), some v1, some v2, some (.ref r), some x] H2) →
      tIfS (tAnd (tB (tCB (rIsi K) (tCons (tVar 4) (tCons (tC (.ty "tuple")) tNil)))) (tTest (tOp rEq (tOp (rIxT K) (tVar 4) (tC (.int 0))) (tVar 0)))) (tAsg (tOp (rCatA K) (tVar 3) (tOp (rIxT K) (tVar 4) (tC (.int 1)))) (gName 3))
        (tAsg (tOp (rCatA K) (tVar 3) (tTup (tCons (tVar 4) tNil))) (gName 3)) D [some (.str wo), some v1, some v2, some (.ref p), some x] H' := by
    intro x d o ds p xs H' D y hx hf hn hp hds hds60 nx
    have other : given wo d = [d] → tAsg (tOp (rCatA K) (tVar 3) (tTup (tCons (tVar 4) tNil))) (gName 3) D [some (.str wo), some v1, some v2, some (.ref p), some x] H' := fun eg => by
      rw [eg] at nx
      refine ⟨_, rfl, _, rfl, (by show 1 ≤ sizeLine; decide), fun t ht => ?_⟩
      have kt : Kp MN H' (upd H' t (.tup [x])) := Kp.new ht
      exact cat_at (kt.tup _ _ hp) upd_same (hds.kp kt) (.cons (hx.kp kt) .nil) (by omega) (by show 1 ≤ 400; decide) fun r zs H2 e a k => nx r zs H2 e a (kt.trans k)
    refine ⟨_, rfl, _, _, _, _, _, rfl, .ty _, hx.ty, kit_tup d, _, rfl, ?_⟩
    rcases formed_two hf with ⟨i, rfl⟩ | ⟨u, ps, rfl⟩
    · refine iteF ?_
      exact iteF (other rfl)
    · refine iteT ?_
      obtain ⟨b1, b2, ys, rfl, hb1, hb2, hall⟩ := parts_at hx
      refine ⟨_, rfl, _, _, _, _, rfl, rfl, SqT.of hb1, atI_nat (j := 0) rfl, _, rfl, rfl, _, rfl, ?_⟩
      by_cases e : u = wo
      · subst e
        rw [decide_eq_true rfl]
        refine iteT ?_
        have eg : given u (.tuple [.str u, .tuple ps]) = ps := if_pos rfl
        have gl := given_len (wo := u) hf
        rw [eg] at nx gl
        exact ⟨_, rfl, _, rfl, _, _, _, _, rfl, rfl, SqT.of hb1, atI_nat (j := 1) rfl, cat_at hp hb2 hds hall (by omega) (by omega) fun r zs H2 e a k => nx r zs H2 e a k⟩
      · rw [decide_eq_false (fun z => e (by injection z))]
        refine iteF ?_
        exact other (if_neg e)
  refine for_list (K := K) (a := L) (xs := [v1, v2]) (fun i σ H' => ∃ x4 p xs, σ = [some (.str wo), some v1, some v2, some (.ref p), x4] ∧ Kp MN (upd (upd H p0 (.tup [])) L (.lst [v1, v2])) H' ∧ H' p = some (.tup xs) ∧ AtL MN H' xs (if i = 0 then [] else if i = 1 then given wo d1 else given wo d1 ++ given wo d2))
    ⟨none, p0, [], rfl, .refl, by rw [upd_ne (ne_of_none upd_same hL), upd_same], .nil⟩ (fun i σ H' _ p => SqL.of (by obtain ⟨_, _, _, _, k, _⟩ := p; exact k.lst _ _ (fun z => z) upd_same)) (fun i x σ H' hi p => ?_) (fun σ H' p => ?_)
  · obtain ⟨x4, p, xs, rfl, k, hp, al⟩ := p
    match i, hi with
    | 0, hi =>
      cases hi
      exact step v1 d1 o1 [] p xs H' _ none (h1.kp (kL.trans k)) f1 n1 hp al (Nat.zero_le _) fun r zs H2 e a k2 => ⟨_, r, zs, rfl, k.trans k2, e, a⟩
    | 1, hi =>
      cases hi
      exact step v2 d2 o2 (given wo d1) p xs H' _ none (h2.kp (kL.trans k)) f2 n2 hp al (by omega) fun r zs H2 e a k2 => ⟨_, r, zs, rfl, k.trans k2, e, a⟩
    | i + 2, hi => simp at hi
  · obtain ⟨x4, p, xs, rfl, k, hp, al⟩ := p
    refine ⟨_, rfl, _, rfl, (by show 2 ≤ sizeLine; decide), fun t ht => ?_⟩
    exact q _ _ (.tup upd_same (.cons (.str wo) (.cons ((At.tup hp al).kp (Kp.new ht)) .nil))) (kL.trans (k.trans (Kp.new ht)))
end
end K14

set_option Elab.async false
set_option linter.all false
set_option maxRecDepth 100000
set_option maxHeartbeats 1000000
namespace K14
open PySem L2 GxR GA KD KR KM KJ
theorem tlL_app : ∀ ds es : List PyData, tlL (ds ++ es) = tlL ds ++ tlL es
  | [], es => by rw [tlL_nil]; rfl
  | d :: r, es => by rw [List.cons_append, tlL_cons, tlL_cons, tlL_app r es, List.append_assoc]
theorem AtL.erase {M : Addr → Prop} {H : Hp} : ∀ {ds : List PyData} {vs : List V} (j : Nat), AtL M H vs ds → AtL M H (vs.eraseIdx j) (ds.eraseIdx j)
  | [], _, j, h => by cases h; exact .nil
  | d :: r, _, 0, h => by
    cases h with
    | cons a t => exact t
  | d :: r, _, j + 1, h => by
    cases h with
    | cons a t => exact .cons a (AtL.erase j t)
theorem tlL_erase : ∀ {ds : List PyData} {j : Nat} {d : PyData}, ds[j]? = some d → (tl d ++ tlL (ds.eraseIdx j)).Perm (tlL ds)
  | x :: r, 0, d, h => by
    simp at h
    subst h
    rw [tlL_cons]
    exact List.Perm.refl _
  | x :: r, j + 1, d, h => by
    have ih := tlL_erase (ds := r) (j := j) (by simpa using h)
    show (tl d ++ tlL (x :: r.eraseIdx j)).Perm (tlL (x :: r))
    rw [tlL_cons, tlL_cons]
    refine List.Perm.trans ?_ (List.Perm.append_left (tl x) ih)
    rw [← List.append_assoc, ← List.append_assoc]
    exact List.Perm.append_right _ List.perm_append_comm
theorem AtL.put' {M M' : Addr → Prop} {H H' : Hp} (k : ∀ b xs, H b = some (.tup xs) → H' b = some (.tup xs)) : ∀ {ds : List PyData} {vs : List V}, AtL M H vs ds → (∀ d ∈ ds, noL d = true) → AtL M' H' vs ds
  | [], _, h, _ => by cases h; exact .nil
  | d :: ds, _, h, n => by
    cases h with
    | cons a r => exact .cons (At.put k a (n d List.mem_cons_self)) (AtL.put' k r fun x hx => n x (List.mem_cons_of_mem _ hx))
/-- a plan of its own, small -/
structure Wp (d : PyData) : Prop where
  form : ∃ o, formed d o = some (tl d)
  dep : d.depth + 2 ≤ 2 * (tl d).length
theorem Wp.noL {d : PyData} (h : Wp d) : noL d = true := by
  obtain ⟨o, e⟩ := h.form
  exact formed_noL d o _ e
theorem Wp.int (i : Int) : Wp (.int i) := ⟨⟨"", by rw [formed_int, tl_int]⟩, by rw [tl_int]; simp [PyData.depth]⟩
theorem Wp.pos {d : PyData} (h : Wp d) : 0 < (tl d).length := by have := h.dep; omega
theorem Wp.join {wo : Str} {d1 d2 : PyData} (hw : wd wo = true) (h1 : Wp d1) (h2 : Wp d2) : Wp (joinD wo d1 d2) ∧ tl (joinD wo d1 d2) = tl d1 ++ tl d2 := by
  obtain ⟨o1, f1⟩ := h1.form
  obtain ⟨o2, f2⟩ := h2.form
  obtain ⟨g1, g2, g3⟩ := given_ok (w := wo) f1
  obtain ⟨g4, g5, g6⟩ := given_ok (w := wo) f2
  have hf : formedL (given wo d1 ++ given wo d2) wo = some (tl d1 ++ tl d2) := by rw [formedL_app, g1, g4]
  have ht : tl (joinD wo d1 d2) = tl d1 ++ tl d2 := by
    unfold joinD
    rw [tl_part]
    exact formedL_tl _ _ _ hf
  have p1 := h1.pos
  have p2 := h2.pos
  have e1 := h1.dep
  have e2 := h2.dep
  refine ⟨⟨⟨"", ?_⟩, ?_⟩, ht⟩
  · rw [ht]
    unfold joinD
    rw [formed_parts, if_pos]
    · exact hf
    · simp only [Bool.and_eq_true, Bool.not_eq_true', decide_eq_false_iff_not, decide_eq_true_eq, List.length_append]
      refine ⟨⟨hw, fun z => ?_⟩, by omega⟩
      rw [z] at hw
      exact absurd hw (by decide +kernel)
  · rw [ht, List.length_append]
    simp only [joinD, PyData.depth, PyData.depthAll, depthAll_app]
    omega
def spLPlan : Sp := fun vs H Q _ => ∃ (st c : Addr) (n : Nat), vs = [.ref st, .int n] ∧ StAt st c H ∧ 1 ≤ n ∧ n ≤ 7 ∧ ∀ v d H', At (MS st) H' v d → Wp d → (tl d).Perm (rng n) → Kp (MS st) H H' → StAt st c H' → Q v H'
section
variable {P : Program} {w : World} {K : PySem.W.Frag} {mg : Str → Option Value} {base : Heap}
theorem scLPlan : FnScope ["stream", "size", "plans", "turn", "first", "second"] ["stream", "size"] (defScope sLPlan) := ⟨rfl, rfl, rfl, by decide +kernel, rfl, by decide +kernel, by decide +kernel⟩
theorem ok_lplan {f g s j : Addr} {fd gd sd jd' : FuncData} (F : Fun K "_law_plan" "_law_plan" sLPlan f fd) (B : Bl K mg)
    (G : FnOk P w K mg base CX0 1 g gd ["stream", "many"] spNext) (bG : Binds K gd ["stream", "many"] []) (kG : PySem.W.keepIn K (.ref g) = true) (mG : mg "_law_next" = some (.ref g))
    (S : FnOk P w K mg base CX0 2 s sd ["stream", "many"] spShuffled) (bS : Binds K sd ["stream", "many"] []) (kS : PySem.W.keepIn K (.ref s) = true) (mS : mg "_law_shuffled" = some (.ref s))
    (J : FnOk P w K mg base CX0 1 j jd' ["word", "first", "second"] spJoined) (bJ : Binds K jd' ["word", "first", "second"] []) (kJ : PySem.W.keepIn K (.ref j) = true) (mJ : mg "_law_joined" = some (.ref j)) :
    FnOk P w K mg base CX0 3 f fd ["stream", "size"] spLPlan := by
  refine F.ok scLPlan (fun vs H Q E h => ?_) (fun cdv A outer s H vs Q E hr h => ?_)
  · obtain ⟨st, c, n, rfl, _⟩ := h
    rfl
  obtain ⟨st, c, n, rfl, hst, n1, n7, q⟩ := h
  have r1 : Room 1 _ := hr.mono (by decide)
  refine ⟨_, pss_cons (ps_set (i := 2) scLPlan.nd rfl (Or.inl rfl) (pe_call S hr rfl mS kS bS .nil pass0 (pa_cons (pv 0) (pa_cons (pv 1) pa_nil))))
    (pss_cons (ps_for PassesOwn.never rfl (pi_range1 rfl B.range (pa_cons (pe_op op_sub (pv 1) pe_int) pa_nil)) (pg_name (i := 3) scLPlan.nd rfl (Or.inl rfl))
      (pss_cons (ps_set (i := 4) scLPlan.nd rfl (Or.inl rfl) (pe_bm PySem.F.plainAttrs_list PySem.F.slot_list_pop PySem.F.type_list_pop mt_popAt (pv 2) (pa_cons (pe_call G r1 rfl mG kG bG .nil pass0 (pa_cons (pv 0) (pa_cons (pe_callB call_len_seq rfl B.len PySem.boot_len (pa_cons (pv 2) pa_nil)) pa_nil))) pa_nil)))
      (pss_cons (ps_set (i := 5) scLPlan.nd rfl (Or.inl rfl) (pe_bm PySem.F.plainAttrs_list PySem.F.slot_list_pop PySem.F.type_list_pop mt_popAt (pv 2) (pa_cons (pe_call G r1 rfl mG kG bG .nil pass0 (pa_cons (pv 0) (pa_cons (pe_callB call_len_seq rfl B.len PySem.boot_len (pa_cons (pv 2) pa_nil)) pa_nil))) pa_nil)))
      (pss_one (ps_expr (pe_bm PySem.F.plainAttrs_list PySem.F.slot_list_append PySem.F.type_list_append mt_append (pv 2) (pa_cons (pe_call J r1 rfl mJ kJ bJ .nil pass0 (pa_cons
        (pe_ix ix_list (pe_lst (pa_cons pe_str (pa_cons pe_str pa_nil))) (pe_call G r1 rfl mG kG bG .nil pass0 (pa_cons (pv 0) (pa_cons pe_int pa_nil))) (fun _ _ => rfl)) (pa_cons (pv 4) (pa_cons (pv 5) pa_nil)))) pa_nil)))))))
    (pss_one (ps_ret (pe_ix ix_list (pv 2) pe_int (fun _ _ => rfl))))), ?_⟩
  refine ⟨_, rfl, _, rfl, st, c, n, rfl, hst, by omega, fun D l H1 hl e1 hD nDs nDc k1 s1 => ?_⟩
  refine ⟨_, rfl, n, 1, rfl, rfl, _, rfl, by omega, by omega, ?_⟩
  have hln := hl.length_eq
  rw [rng_length] at hln
  have hints : tlL (l.map PyData.int) = l := by
    clear hl hln e1
    induction l with
    | nil => exact tlL_nil
    | cons i r ih => rw [List.map_cons, tlL_cons, tl_int, ih]; rfl
  refine for_range (lo := 0) (n := ((n : Int) - 1).toNat) (fun i σ H' => ∃ x3 x4 x5 vs ds, σ = [some (.ref st), some (.int n), some (.ref D), x3, x4, x5] ∧ Kp (MS st) H H' ∧ StAt st c H' ∧ H' D = some (.lst vs) ∧ AtL (MS st) H' vs ds ∧ (∀ d ∈ ds, Wp d) ∧ ds.length + i = n ∧ (tlL ds).Perm (rng n))
    ⟨none, none, none, l.map V.int, l.map PyData.int, rfl, k1, s1, e1, AtL.ints l, fun d hd => ?_, by rw [List.length_map]; omega, by rw [hints]; exact hl⟩ (fun i σ H' hi p => ?_) (fun σ H' p => ?_)
  · obtain ⟨i, _, rfl⟩ := List.mem_map.mp hd
    exact Wp.int i
  · obtain ⟨x3, x4, x5, vs, ds, rfl, k, s', e, al, hw, hn, hp⟩ := p
    have hvl := al.length
    have hi2 : 2 ≤ ds.length := by omega
    refine ⟨_, rfl, .inl ⟨rfl, _, .inl (.inl e)⟩, _, rfl, _, rfl, D, _, rfl, .inl (SqL.of e), st, c, _, rfl, s', by omega, by omega, fun t1 H2 t10 t11 k2 s2 => ?_⟩
    have sD : D ≠ st ∧ D ≠ c := ⟨nDs, nDc⟩
    have tkp : ∀ (H9 : Hp) (us zs : List V), H9 D = some (.lst us) → ∀ b xs, H9 b = some (.tup xs) → upd H9 D (.lst zs) b = some (.tup xs) := fun H9 us zs e9 b xs eb => by
      rw [upd_ne]
      · exact eb
      · intro z
        rw [z, e9] at eb
        cases eb
    obtain ⟨d1, hd1⟩ : ∃ d1, ds[t1.toNat]? = some d1 := ⟨_, List.getElem?_eq_getElem (show t1.toNat < ds.length by omega)⟩
    have m1 := List.mem_of_getElem? hd1
    have e2 := k2.lst D _ nDs e
    have al2 := al.kp k2
    obtain ⟨v1, hv1, a1⟩ := al2.get' hd1
    refine ⟨D, _, t1, t1.toNat, v1, rfl, rfl, e2, by omega, by omega, seq_ix t10 t11, hv1, ?_⟩
    have l1 : (ds.eraseIdx t1.toNat).length + 1 = ds.length := by rw [List.length_eraseIdx, if_pos (by omega)]; omega
    have w1 : ∀ d ∈ ds.eraseIdx t1.toNat, Wp d := fun d hd => hw d (List.mem_of_mem_eraseIdx hd)
    have al3 : AtL (MS st) (upd H2 D (.lst (vs.eraseIdx t1.toNat))) (vs.eraseIdx t1.toNat) (ds.eraseIdx t1.toNat) := AtL.put' (tkp H2 _ _ e2) (AtL.erase t1.toNat al2) fun d hd => (w1 d hd).noL
    have a1' : At (MS st) (upd H2 D (.lst (vs.eraseIdx t1.toNat))) v1 d1 := At.put (M := MS st) (tkp H2 _ _ e2) a1 (hw d1 m1).noL
    have kD : ∀ zs, H D ≠ some (.lst zs) := hD
    have k3 := (k.trans k2).putFresh (ys := vs.eraseIdx t1.toNat) kD e2
    have s3 := s2.put (xs := vs.eraseIdx t1.toNat) sD
    have lv3 := al3.length
    refine ⟨_, rfl, .inl ⟨rfl, _, .inl (.inl upd_same)⟩, _, rfl, _, rfl, D, _, rfl, .inl (SqL.of upd_same), st, c, _, rfl, s3, by omega, by omega, fun t2 H4 t20 t21 k4 s4 => ?_⟩
    obtain ⟨d2, hd2⟩ : ∃ d2, (ds.eraseIdx t1.toNat)[t2.toNat]? = some d2 := ⟨_, List.getElem?_eq_getElem (show t2.toNat < (ds.eraseIdx t1.toNat).length by omega)⟩
    have m2 := List.mem_of_getElem? hd2
    have e4 := k4.lst D _ nDs upd_same
    have al4 := al3.kp k4
    obtain ⟨v2, hv2, a2⟩ := al4.get' hd2
    refine ⟨D, _, t2, t2.toNat, v2, rfl, rfl, e4, by omega, by omega, seq_ix t20 t21, hv2, ?_⟩
    have l2 : ((ds.eraseIdx t1.toNat).eraseIdx t2.toNat).length + 1 = (ds.eraseIdx t1.toNat).length := by rw [List.length_eraseIdx, if_pos (by omega)]; omega
    have w2 : ∀ d ∈ (ds.eraseIdx t1.toNat).eraseIdx t2.toNat, Wp d := fun d hd => w1 d (List.mem_of_mem_eraseIdx hd)
    generalize hus : (vs.eraseIdx t1.toNat).eraseIdx t2.toNat = us at *
    generalize hes : (ds.eraseIdx t1.toNat).eraseIdx t2.toNat = es at *
    have al5 : AtL (MS st) (upd H4 D (.lst us)) us es := by
      have := AtL.erase t2.toNat al4
      rw [hus, hes] at this
      exact AtL.put' (tkp H4 _ _ e4) this fun d hd => (w2 d hd).noL
    have a1'' : At (MS st) (upd H4 D (.lst us)) v1 d1 := At.put (M := MS st) (tkp H4 _ _ e4) (a1'.kp k4) (hw d1 m1).noL
    have a2'' : At (MS st) (upd H4 D (.lst us)) v2 d2 := At.put (M := MS st) (tkp H4 _ _ e4) a2 (w1 d2 m2).noL
    have k5 := (k3.trans k4).putFresh (ys := us) kD e4
    have s5 := s4.put (xs := us) sD
    refine ⟨_, rfl, .inl ⟨rfl, _, .inl (.inl upd_same)⟩, ?_⟩
    refine ⟨(by show 2 ≤ sizeLine; decide), fun W hW => ?_⟩
    have nDW : D ≠ W := ne_of_none upd_same hW
    have kW : Kp (MS st) (upd H4 D (.lst us)) (upd (upd H4 D (.lst us)) W (.lst [.str "then", .str "beside"])) := Kp.new hW
    have sW := s5.ne hW
    refine ⟨_, rfl, st, c, 2, rfl, s5.new hW, by decide, by decide, fun t3 H6 t30 t31 k6 s6 => ?_⟩
    have eW := k6.lst W _ sW.1 upd_same
    obtain ⟨wo, hwo, hwd⟩ : ∃ wo : Str, atI ([.str "then", .str "beside"] : List V) t3 = some (.str wo) ∧ wd wo = true := by
      have : t3 = 0 ∨ t3 = 1 := by omega
      rcases this with z | z
      · exact ⟨"then", by rw [z]; rfl, by decide +kernel⟩
      · exact ⟨"beside", by rw [z]; rfl, by decide +kernel⟩
    refine ⟨W, _, t3, _, rfl, rfl, SqL.of eW, hwo, ?_⟩
    have kk := kW.trans k6
    have W1 := hw d1 m1
    have W2 := w1 d2 m2
    obtain ⟨o1, f1⟩ := W1.form
    obtain ⟨o2, f2⟩ := W2.form
    obtain ⟨J1, J2⟩ := Wp.join hwd W1 W2
    have pm1 := tlL_erase hd1
    have pm2 := tlL_erase hd2
    rw [hes] at pm2
    have pm : (tlL (es ++ [joinD wo d1 d2])).Perm (rng n) := by
      rw [tlL_app, tlL_cons, tlL_nil, List.append_nil, J2]
      refine List.Perm.trans List.perm_append_comm ?_
      rw [List.append_assoc]
      exact (List.Perm.append_left _ pm2).trans (pm1.trans hp)
    have len1 : (tl d1).length ≤ 60 ∧ (tl d2).length ≤ 60 := by
      have q1 := pm.length_eq
      rw [tlL_app, tlL_cons, tlL_nil, List.append_nil, J2, rng_length, List.length_append, List.length_append] at q1
      omega
    refine ⟨_, rfl, _, rfl, v1, v2, d1, d2, wo, o1, o2, rfl, (a1''.kp kk).mn, (a2''.kp kk).mn, f1, f2, len1.1, len1.2, fun v H7 a7 k7 => ?_⟩
    have e7 := (kk.trans k7.any).lst D _ nDs upd_same
    have al7 := al5.kp (kk.trans k7.any)
    refine ⟨D, us, v, rfl, rfl, e7, small1000 (by have := al5.length; omega), ?_⟩
    refine ⟨_, _, _, us ++ [v], es ++ [joinD wo d1 d2], rfl, (k5.trans (kk.trans k7.any)).putFresh kD e7, (s6.kp k7).put sD, upd_same, ?_, fun d hd => ?_, by rw [List.length_append]; simp only [List.length_singleton]; omega, pm⟩
    · exact AtL.append (AtL.put' (tkp H7 _ _ e7) al7 fun d hd => (w2 d hd).noL) (AtL.one (At.put (M := MN) (tkp H7 _ _ e7) a7 J1.noL))
    · rcases List.mem_append.mp hd with z | z
      · exact w2 d z
      · rw [List.mem_singleton.mp z]; exact J1
  · obtain ⟨x3, x4, x5, vs, ds, rfl, k, s', e, al, hw, hn, hp⟩ := p
    obtain ⟨d, rfl⟩ : ∃ d, ds = [d] := by
      match ds, (show ds.length = 1 by omega) with
      | [d], _ => exact ⟨d, rfl⟩
    cases al with
    | cons a t =>
      cases t
      rw [tlL_cons, tlL_nil, List.append_nil] at hp
      exact ⟨_, rfl, D, _, _, _, rfl, rfl, SqL.of e, atI_nat (j := 0) rfl, q _ d H' a (hw d List.mem_cons_self) hp k s'⟩
end
end K14

set_option Elab.async false
set_option linter.all false
set_option maxRecDepth 100000
set_option maxHeartbeats 1000000
namespace K14
open PySem L2 GxR GA KD KR KM KJ
theorem tlL_succ {ds : List PyData} {i : Nat} {p : PyData} (h : ds[i]? = some p) : tlL (ds.take (i + 1)) = tlL (ds.take i) ++ tl p := by
  rw [List.take_succ, h]
  show tlL (ds.take i ++ [p]) = _
  rw [tlL_app, tlL_cons, tlL_nil, List.append_nil]
theorem tl_le : ∀ {ds : List PyData} {p : PyData}, p ∈ ds → (tl p).length ≤ (tlL ds).length
  | q :: r, p, hp => by
    rw [tlL_cons, List.length_append]
    rcases List.mem_cons.mp hp with z | z
    · rw [z]; omega
    · have := tl_le z
      omega
theorem tlL_take_le (ds : List PyData) (i : Nat) : (tlL (ds.take i)).length ≤ (tlL ds).length := by
  have h : tlL ds = tlL (ds.take i) ++ tlL (ds.drop i) := by rw [← tlL_app, List.take_append_drop]
  rw [h, List.length_append]
  omega
theorem depth_part {w : PyData} {ps : List PyData} {p : PyData} {n : Nat} (h : (PyData.tuple [w, .tuple ps]).depth < n + 1) (hp : p ∈ ps) : p.depth < n := by
  have := depth_mem hp
  simp only [PyData.depth, PyData.depthAll] at h
  omega
theorem part_form {u : Str} {ps : List PyData} {o : Str} (h : formed (.tuple [.str u, .tuple ps]) o = some (tl (.tuple [.str u, .tuple ps]))) : wd u = true ∧ u ≠ o ∧ 2 ≤ ps.length ∧ formedL ps u = some (tlL ps) ∧ ∀ p ∈ ps, formed p u = some (tl p) := by
  rw [formed_parts] at h
  split at h
  · rename_i hc
    simp only [Bool.and_eq_true, Bool.not_eq_true', decide_eq_false_iff_not, decide_eq_true_eq] at hc
    rw [tl_part] at h
    exact ⟨hc.1.1, hc.1.2, hc.2, h, formedL_mem h⟩
  · cases h
def spTasksS (n : Nat) : Sp := fun vs H Q _ => ∃ (v : V) (d : PyData) (o : Str), vs = [v] ∧ At MN H v d ∧ formed d o = some (tl d) ∧ d.depth < n ∧ (tl d).length ≤ 60 ∧
  ∀ a H', (∀ zs, H a ≠ some (.lst zs)) → Kp MN H H' → H' a = some (.lst ((srt (tl d)).map V.int)) → Q (.ref a) H'
section
variable {P : Program} {w : World} {K : PySem.W.Frag} {mg : Str → Option Value} {base : Heap}
theorem scTasks : FnScope ["plan", "found", "piece"] ["plan"] (defScope sTasks) := ⟨rfl, rfl, rfl, by decide +kernel, rfl, by decide +kernel, by decide +kernel⟩
theorem ok_tasks {n : Nat} {f : Addr} {fd : FuncData} (F : Fun K "_law_tasks" "_law_tasks" sTasks f fd) (B : Bl K mg)
    (R : FnOk P w K mg base CX0 (n + 1) f fd ["plan"] (spTasksS n)) (bF : Binds K fd ["plan"] []) (mF : mg "_law_tasks" = some (.ref f)) : FnOk P w K mg base CX0 (n + 2) f fd ["plan"] (spTasksS (n + 1)) := by
  refine F.ok scTasks (fun vs H Q E h => ?_) (fun cdv A outer s H vs Q E hr h => ?_)
  · obtain ⟨v, d, o, rfl, _⟩ := h
    rfl
  obtain ⟨v, d, o, rfl, hA, hf, hd, h60, q⟩ := h
  refine ⟨_, pss_cons (ps_if (pt_not (pt_val (pe_callB call_isi rfl B.isinstance (by decide +kernel) (pa_cons (pv 0) (pa_cons (pe_bltn rfl B.tuple (by decide +kernel) (v := .ty "tuple") rfl) pa_nil))))) (pss_one (ps_ret (pe_lst (pa_cons (pv 0) pa_nil)))) pss_nil)
    (pss_cons (ps_set (i := 1) scTasks.nd rfl (Or.inl rfl) (pe_lst pa_nil))
    (pss_cons (ps_for PassesOwn.never rfl (pi_tup (pe_ix ix_tup (pv 0) pe_int (fun _ _ => rfl))) (pg_name (i := 2) scTasks.nd rfl (Or.inl rfl))
      (pss_one (ps_set (i := 1) scTasks.nd rfl (Or.inl rfl) (pe_op op_cat (pv 1) (pe_call R hr rfl mF F.kp bF .nil pass0 (pa_cons (pv 2) pa_nil))))))
    (pss_one (ps_ret (pe_callB cr_sorted rfl B.sorted (by decide +kernel) (pa_cons (pv 1) pa_nil)))))), ?_⟩
  refine ⟨_, rfl, _, _, _, _, _, rfl, .ty _, hA.ty, kit_tup d, _, rfl, ?_⟩
  rcases formed_two hf with ⟨i, rfl⟩ | ⟨u, ps, rfl⟩
  · cases hA.int_of
    refine iteT ?_
    refine ⟨_, rfl, (by show 1 ≤ sizeLine; decide), fun p hp => q p _ (fun zs z => by rw [hp] at z; cases z) (Kp.new hp) ?_⟩
    rw [upd_same, tl_int, ← srt_uniq (List.Perm.refl [i]) (List.pairwise_singleton _ _)]
    rfl
  refine iteF ?_
  obtain ⟨hwd, hwo, h2, hfl, hfm⟩ := part_form hf
  obtain ⟨a, a2, xs, rfl, hx, hx2, hall⟩ := parts_at hA
  rw [tl_part] at h60 q
  refine ⟨(by show 0 ≤ sizeLine; decide), fun D hD => ?_⟩
  have kD : Kp MN H (upd H D (.lst [])) := Kp.new hD
  refine ⟨_, rfl, _, _, _, _, rfl, rfl, SqT.of (kD.tup _ _ hx), atI_nat (j := 1) rfl, a2, rfl, ⟨_, SqT.of (kD.tup _ _ hx2)⟩, ?_⟩
  refine for_tup (K := K) (a := a2) (xs := xs) (fun i σ H' => ∃ x2 fa l, σ = [some (.ref a), some (.ref fa), x2] ∧ Kp MN H H' ∧ H' fa = some (.lst (l.map V.int)) ∧ l.Perm (tlL (ps.take i))) ⟨none, D, [], rfl, kD, by rw [upd_same]; rfl, by rw [List.take_zero, tlL_nil]⟩
    (fun i σ H' _ p => SqT.of (by obtain ⟨_, _, _, _, k, _⟩ := p; exact k.tup _ _ hx2)) (fun i x σ H' hi p => ?_) (fun σ H' p => ?_)
  · obtain ⟨x2, fa, l, rfl, k, e, hp⟩ := p
    obtain ⟨d', hd', ha'⟩ := hall.get hi
    have hm := List.mem_of_getElem? hd'
    have hsuc := tlL_succ hd'
    have hle := tlL_take_le ps (i + 1)
    refine ⟨_, rfl, _, rfl, x, d', u, rfl, ha'.kp k, hfm d' hm, depth_part hd hm, Nat.le_trans (tl_le hm) h60, fun b H5 hb k5 e5 => ?_⟩
    have eF := k5.lst fa _ (fun z => z) e
    refine ⟨fa, b, _, _, rfl, rfl, eF, e5, ?_, fun t ht => ?_⟩
    · rw [hsuc, List.length_append] at hle
      rw [List.length_map, List.length_map, srt_len, hp.length_eq]
      exact Nat.le_of_lt (small1000 (by omega))
    · refine ⟨_, t, l ++ srt (tl d'), rfl, (k.trans k5).trans (Kp.new ht), by rw [upd_same, List.map_append], ?_⟩
      rw [hsuc]
      exact hp.append (srt_perm (tl d'))
  · obtain ⟨x2, fa, l, rfl, k, e, hp⟩ := p
    rw [hall.length, List.take_length] at hp
    refine ⟨_, rfl, fa, l, rfl, SqL.of e, by rw [hp.length_eq]; omega, fun ns' p perm srt' hq => ?_⟩
    have e4 := srt_uniq (perm.trans hp) srt'
    subst e4
    exact q p _ (k.noLst (fun z => z) hq) (k.trans (Kp.new hq)) upd_same
theorem oks_tasks {f : Addr} {fd : FuncData} (F : Fun K "_law_tasks" "_law_tasks" sTasks f fd) (B : Bl K mg) (bF : Binds K fd ["plan"] []) (mF : mg "_law_tasks" = some (.ref f)) : ∀ n : Nat, FnOk P w K mg base CX0 (n + 1) f fd ["plan"] (spTasksS n)
  | 0 => never_ok fun vs H Q E h => by
    obtain ⟨_, _, _, _, _, _, h, _⟩ := h
    exact absurd h (Nat.not_lt_zero _)
  | n + 1 => ok_tasks F B (oks_tasks F B bF mF n) bF mF
end
end K14

set_option Elab.async false
set_option linter.all false
set_option maxRecDepth 100000
set_option maxHeartbeats 1000000
namespace K14
open PySem PySem.W L2 GxR GA KD KR KM KJ
/-- x < y of data of one kind -/
def rLtD (K : PySem.W.Frag) : R2 := fun x y H Q => ∃ d e, Dp K H x d ∧ Dp K H y e ∧ alike d e = true ∧ d ≠ .none ∧ d.depth ≤ 60 ∧ Q (.bl (dataLt d e)) H
theorem op_ltD {X : Cx} (hu : X.A.units + 65 < cLine) : OpR X (compareOp .Lt) (rLtD X.K) := by
  intro pins s σ H x y v u Q I rx ry h
  obtain ⟨d, e, hd, he, ha, hn, hp, q⟩ := h
  obtain ⟨as, r1⟩ := Dp.reads I d x v hd rx
  obtain ⟨bs, r2⟩ := Dp.reads I e y u he ry
  exact lt_data r1 r2 ha hn (by omega) ⟨.bl _, H, I, rfl, q⟩
theorem lt_one (i j : Int) : dataLt (.list [.int i]) (.list [.int j]) = decide (i < j) := by
  rw [dataLt_list]
  by_cases e : i = j
  · subst e
    rw [dataLt_all_yes (by simp [alike]) (by show (i == i) = true; exact beq_self_eq_true i), decide_eq_false (by omega)]
    rfl
  · rw [dataLt_all_no (by simp [alike]) (by show (i == j) = false; rw [beq_eq_false_iff_ne]; exact e), dataLt_int]
/-- the relation of x to y in a plan -/
inductive RelD (x y : Int) : PyData → Str → Prop
  | inner {u : Str} {ps : List PyData} {i : Nat} {p : PyData} {r : Str} : ps[i]? = some p → x ∈ tl p → y ∈ tl p → RelD x y p r → RelD x y (.tuple [.str u, .tuple ps]) r
  | beside {ps : List PyData} {i j : Nat} {p q : PyData} : ps[i]? = some p → ps[j]? = some q → x ∈ tl p → y ∈ tl q → i ≠ j → RelD x y (.tuple [.str "beside", .tuple ps]) "beside"
  | before {ps : List PyData} {i j : Nat} {p q : PyData} : ps[i]? = some p → ps[j]? = some q → x ∈ tl p → y ∈ tl q → i < j → RelD x y (.tuple [.str "then", .tuple ps]) "before"
  | after {ps : List PyData} {i j : Nat} {p q : PyData} : ps[i]? = some p → ps[j]? = some q → x ∈ tl p → y ∈ tl q → j < i → RelD x y (.tuple [.str "then", .tuple ps]) "after"
def opp (r : Str) : Str := if r = "before" then "after" else if r = "after" then "before" else r
theorem RelD.swap {x y : Int} {d : PyData} {r : Str} (h : RelD x y d r) : RelD y x d (opp r) := by
  induction h with
  | inner h1 h2 h3 _ ih => exact .inner h1 h3 h2 ih
  | beside h1 h2 h3 h4 h5 => exact .beside h2 h1 h4 h3 (Ne.symm h5)
  | before h1 h2 h3 h4 h5 => exact .after h2 h1 h4 h3 h5
  | after h1 h2 h3 h4 h5 => exact .before h2 h1 h4 h3 h5
theorem RelD.kind {x y : Int} {d : PyData} {r : Str} (h : RelD x y d r) : r = "before" ∨ r = "beside" ∨ r = "after" := by
  induction h with
  | inner h1 h2 h3 _ ih => exact ih
  | beside => exact .inr (.inl rfl)
  | before => exact .inl rfl
  | after => exact .inr (.inr rfl)
/-- where a task stands is one place -/
theorem one_place {x : Int} : ∀ {ps : List PyData} {i j : Nat} {p q : PyData}, (tlL ps).Nodup → ps[i]? = some p → ps[j]? = some q → x ∈ tl p → x ∈ tl q → i = j
  | a :: r, i, j, p, q, hn, h1, h2, m1, m2 => by
    rw [tlL_cons] at hn
    obtain ⟨n1, n2, n3⟩ := List.nodup_append.mp hn
    have far : ∀ {k : Nat} {z : PyData}, r[k]? = some z → x ∈ tl z → x ∈ tl a → False := fun hk mz ma => n3 x ma x (tl_mem (List.mem_of_getElem? hk) x mz) rfl
    cases i with
    | zero =>
      simp at h1
      subst h1
      cases j with
      | zero => rfl
      | succ j => exact (far (k := j) (by simpa using h2) m2 m1).elim
    | succ i =>
      cases j with
      | zero =>
        simp at h2
        subst h2
        exact (far (k := i) (by simpa using h1) m1 m2).elim
      | succ j => exact congrArg (· + 1) (one_place n2 (by simpa using h1) (by simpa using h2) m1 m2)
theorem nodup_part : ∀ {ps : List PyData} {p : PyData}, (tlL ps).Nodup → p ∈ ps → (tl p).Nodup
  | a :: r, p, hn, hp => by
    rw [tlL_cons] at hn
    obtain ⟨n1, n2, _⟩ := List.nodup_append.mp hn
    rcases List.mem_cons.mp hp with z | z
    · rw [z]; exact n1
    · exact nodup_part n2 z
theorem RelD.uniq {x y : Int} {d : PyData} {r : Str} (h : RelD x y d r) : ∀ {r' : Str}, (tl d).Nodup → RelD x y d r' → r = r' := by
  induction h with
  | @inner u ps i p r h1 h2 h3 h4 ih =>
    intro r' hn h'
    rw [tl_part] at hn
    cases h' with
    | @inner _ _ k _ _ g1 g2 g3 g4 =>
      have e := one_place hn h1 g1 h2 g2
      subst e
      rw [h1] at g1
      cases g1
      exact ih (nodup_part hn (List.mem_of_getElem? h1)) g4
    | beside g1 g2 g3 g4 g5 => exact absurd ((one_place hn g1 h1 g3 h2).trans (one_place hn h1 g2 h3 g4)) g5
    | before g1 g2 g3 g4 g5 => exact absurd ((one_place hn g1 h1 g3 h2).trans (one_place hn h1 g2 h3 g4)) (by omega)
    | after g1 g2 g3 g4 g5 => exact absurd ((one_place hn g1 h1 g3 h2).trans (one_place hn h1 g2 h3 g4)) (by omega)
  | beside h1 h2 h3 h4 h5 =>
    intro r' hn h'
    rw [tl_part] at hn
    cases h' with
    | inner g1 g2 g3 g4 => exact absurd ((one_place hn h1 g1 h3 g2).trans (one_place hn g1 h2 g3 h4)) h5
    | beside => rfl
  | before h1 h2 h3 h4 h5 =>
    intro r' hn h'
    rw [tl_part] at hn
    cases h' with
    | inner g1 g2 g3 g4 => exact absurd ((one_place hn h1 g1 h3 g2).trans (one_place hn g1 h2 g3 h4)) (by omega)
    | before => rfl
    | after g1 g2 g3 g4 g5 =>
      have e1 := one_place hn h1 g1 h3 g3
      have e2 := one_place hn h2 g2 h4 g4
      omega
  | after h1 h2 h3 h4 h5 =>
    intro r' hn h'
    rw [tl_part] at hn
    cases h' with
    | inner g1 g2 g3 g4 => exact absurd ((one_place hn h1 g1 h3 g2).trans (one_place hn g1 h2 g3 h4)) (by omega)
    | before g1 g2 g3 g4 g5 =>
      have e1 := one_place hn h1 g1 h3 g3
      have e2 := one_place hn h2 g2 h4 g4
      omega
    | after => rfl
/-- the places ahead of i where z stands -/
def plc (z : Int) (ps : List PyData) (i : Nat) : List Int := ((List.range i).filter fun m => decide (z ∈ tl (ps.getD m .none))).map Int.ofNat
theorem plc_zero (z : Int) (ps : List PyData) : plc z ps 0 = [] := rfl
theorem plc_succ {z : Int} {ps : List PyData} {i : Nat} {p : PyData} (h : ps[i]? = some p) : plc z ps (i + 1) = if z ∈ tl p then plc z ps i ++ [(i : Int)] else plc z ps i := by
  have e : ps.getD i .none = p := by rw [List.getD_eq_getElem?_getD, h]; rfl
  unfold plc
  rw [List.range_succ, List.filter_append, List.map_append]
  by_cases c : z ∈ tl p
  · rw [if_pos c, List.filter_cons_of_pos (by rw [e]; exact decide_eq_true c)]
    rfl
  · rw [if_neg c, List.filter_cons_of_neg (by rw [e]; simpa using c)]
    simp
theorem plc_len (z : Int) (ps : List PyData) (i : Nat) : (plc z ps i).length ≤ i := by
  unfold plc
  rw [List.length_map]
  exact Nat.le_trans (List.length_filter_le _ _) (by rw [List.length_range]; exact Nat.le_refl _)
theorem mem_tlL {z : Int} : ∀ {ps : List PyData}, z ∈ tlL ps → ∃ (i : Nat) (p : PyData), ps[i]? = some p ∧ z ∈ tl p
  | a :: r, h => by
    rw [tlL_cons, List.mem_append] at h
    rcases h with h | h
    · exact ⟨0, a, rfl, h⟩
    · obtain ⟨i, p, h1, h2⟩ := mem_tlL h
      exact ⟨i + 1, p, by simpa using h1, h2⟩
theorem plc_one {z : Int} {ps : List PyData} (hn : (tlL ps).Nodup) {i : Nat} {p : PyData} (h : ps[i]? = some p) (hz : z ∈ tl p) : ∀ n : Nat, n ≤ ps.length → plc z ps n = if i < n then [(i : Int)] else []
  | 0, _ => rfl
  | n + 1, hl => by
    have ih := plc_one hn h hz n (by omega)
    have hp : ps[n]? = some ps[n] := List.getElem?_eq_getElem (by omega)
    rw [plc_succ hp, ih]
    by_cases e : n = i
    · subst e
      rw [hp] at h
      cases h
      rw [if_pos hz, if_neg (Nat.lt_irrefl _), if_pos (Nat.lt_succ_self _)]
      rfl
    · rw [if_neg fun c => e (one_place hn hp h c hz)]
      by_cases e2 : i < n
      · rw [if_pos e2, if_pos (by omega)]
      · rw [if_neg e2, if_neg (by omega)]
end K14

set_option Elab.async false
set_option linter.all false
set_option maxRecDepth 100000
set_option maxHeartbeats 1000000
namespace K14
open PySem L2 GxR GA KD KR KM KJ
abbrev sRel : Stmt := top 30
def spLRel (n : Nat) : Sp := fun vs H Q _ => ∃ (v : V) (d : PyData) (o : Str) (x y : Int), vs = [v, .int x, .int y] ∧ At MN H v d ∧ formed d o = some (tl d) ∧ d.depth < n ∧ (tl d).length ≤ 60 ∧ (tl d).Nodup ∧ x ≠ y ∧ x ∈ tl d ∧ y ∈ tl d ∧
  ∀ r H', RelD x y d r → Kp MN H H' → Q (.str r) H'
theorem any_srt (l : List Int) (a : Int) : (((srt l).map PyData.int).any fun z => PyData.eqv z (.int a)) = decide (a ∈ l) := by
  have any_ints : ∀ l : List Int, ((l.map PyData.int).any fun z => PyData.eqv z (.int a)) = decide (a ∈ l) := by
    intro l
    induction l with
    | nil => simp
    | cons i r ih =>
      rw [List.map_cons, List.any_cons, ih, Bool.eq_iff_iff, Bool.or_eq_true, decide_eq_true_eq, decide_eq_true_eq, List.mem_cons]
      have e : (PyData.eqv (.int i) (.int a) = true) ↔ a = i := by
        show (i == a) = true ↔ a = i
        rw [beq_iff_eq]
        exact eq_comm
      rw [e]
  rw [any_ints, decide_eq_decide]
  exact (srt_perm l).mem_iff
section
variable {P : Program} {w : World} {K : PySem.W.Frag} {mg : Str → Option Value} {base : Heap}
theorem scRel : FnScope ["plan", "x", "y", "places", "at", "k"] ["plan", "x", "y"] (defScope sRel) := ⟨rfl, rfl, rfl, by decide +kernel, rfl, by decide +kernel, by decide +kernel⟩
theorem ok_lrel {n : Nat} {f g : Addr} {fd gd : FuncData} (F : Fun K "_law_relation" "_law_relation" sRel f fd) (B : Bl K mg)
    (G : FnOk P w K mg base CX0 (n + 1) g gd ["plan"] (spTasksS n)) (bG : Binds K gd ["plan"] []) (kG : PySem.W.keepIn K (.ref g) = true) (mG : mg "_law_tasks" = some (.ref g))
    (R : FnOk P w K mg base CX0 (n + 1) f fd ["plan", "x", "y"] (spLRel n)) (bF : Binds K fd ["plan", "x", "y"] []) (mF : mg "_law_relation" = some (.ref f)) :
    FnOk P w K mg base CX0 (n + 2) f fd ["plan", "x", "y"] (spLRel (n + 1)) := by
  refine F.ok scRel (fun vs H Q E h => ?_) (fun cdv A outer s H vs Q E hr h => ?_)
  · obtain ⟨v, d, o, x, y, rfl, _⟩ := h
    rfl
  obtain ⟨v, d, o, x, y, rfl, hA, hf, hd, h60, hnd, hxy, hx0, hy0, q⟩ := h
  refine ⟨_, pss_cons (ps_set (i := 3) scRel.nd rfl (Or.inl rfl) (pe_lst (pa_cons (pe_lst pa_nil) (pa_cons (pe_lst pa_nil) pa_nil))))
    (pss_cons (ps_for PassesOwn.never rfl (pi_range1 rfl B.range (pa_cons (pe_callB call_len_seq rfl B.len PySem.boot_len (pa_cons (pe_ix ix_tup (pv 0) pe_int (fun _ _ => rfl)) pa_nil)) pa_nil)) (pg_name (i := 4) scRel.nd rfl (Or.inl rfl))
      (pss_one (ps_for PassesOwn.never rfl (pi_range1 rfl B.range (pa_cons pe_int pa_nil)) (pg_name (i := 5) scRel.nd rfl (Or.inl rfl))
        (pss_one (ps_if (pt_cmpR (op_inD (room65 hr)) (pe_ix ix_list (pe_lst (pa_cons (pv 1) (pa_cons (pv 2) pa_nil))) (pv 5) (fun _ _ => rfl)) (pe_call G hr rfl mG kG bG .nil pass0 (pa_cons (pe_ix ix_tup (pe_ix ix_tup (pv 0) pe_int (fun _ _ => rfl)) (pv 4) (fun _ _ => rfl)) pa_nil)) rfl)
          (pss_one (ps_expr (pe_bm PySem.F.plainAttrs_list PySem.F.slot_list_append PySem.F.type_list_append mt_append (pe_ix ix_list (pv 3) (pv 5) (fun _ _ => rfl)) (pa_cons (pv 4) pa_nil)))) pss_nil)))))
    (pss_cons (ps_if (pt_cmpR (op_eqD hr.units) (pe_ix ix_list (pv 3) pe_int (fun _ _ => rfl)) (pe_ix ix_list (pv 3) pe_int (fun _ _ => rfl)) (nomark _))
        (pss_one (ps_ret (pe_call R hr rfl mF F.kp bF .nil pass0 (pa_cons (pe_ix ix_tup (pe_ix ix_tup (pv 0) pe_int (fun _ _ => rfl)) (pe_ix ix_list (pe_ix ix_list (pv 3) pe_int (fun _ _ => rfl)) pe_int (fun _ _ => rfl)) (fun _ _ => rfl)) (pa_cons (pv 1) (pa_cons (pv 2) pa_nil)))))) pss_nil)
    (pss_cons (ps_if (pt_cmpR op_eq (pe_ix ix_tup (pv 0) pe_int (fun _ _ => rfl)) pe_str (nomark _)) (pss_one (ps_ret pe_str)) pss_nil)
    (pss_one (ps_ret (pe_ix ix_list (pe_lst (pa_cons pe_str (pa_cons pe_str pa_nil))) (pe_callTy call_int1 rfl B.int (by decide +kernel) (pa_cons (pe_cmpR (op_ltD (room65 hr)) (pe_ix ix_list (pv 3) pe_int (fun _ _ => rfl)) (pe_ix ix_list (pv 3) pe_int (fun _ _ => rfl)) (nomark _)) pa_nil)) (fun _ _ => rfl))))))), ?_⟩
  rcases formed_two hf with ⟨i, rfl⟩ | ⟨u, ps, rfl⟩
  · rw [tl_int] at hx0 hy0
    exact absurd ((List.mem_singleton.mp hx0).trans (List.mem_singleton.mp hy0).symm) hxy
  obtain ⟨hwd, hwo, h2, hfl, hfm⟩ := part_form hf
  obtain ⟨a, a2, xs, rfl, hx, hx2, hall⟩ := parts_at hA
  rw [tl_part] at h60 hnd hx0 hy0
  have hl := hall.length
  have hpl := formedL_len _ _ _ hfl
  refine ⟨(by show 0 ≤ sizeLine; decide), fun A0 hA0 => ?_⟩
  refine ⟨(by show 0 ≤ sizeLine; decide), fun A1 hA1 => ?_⟩
  refine ⟨(by show 2 ≤ sizeLine; decide), fun Pl hPl => ?_⟩
  have n01 : A0 ≠ A1 := ne_of_none upd_same hA1
  have e0 : upd (upd H A0 (.lst [])) A1 (.lst []) A0 = some (.lst []) := by rw [upd_ne n01, upd_same]
  have n0P : A0 ≠ Pl := ne_of_none e0 hPl
  have n1P : A1 ≠ Pl := ne_of_none upd_same hPl
  have k0 : Kp MN H (upd (upd (upd H A0 (.lst [])) A1 (.lst [])) Pl (.lst [.ref A0, .ref A1])) := (Kp.new hA0).trans ((Kp.new hA1).trans (Kp.new hPl))
  have f0 : ∀ zs, H A0 ≠ some (.lst zs) := fun zs z => by rw [hA0] at z; cases z
  have f1 : ∀ zs, H A1 ≠ some (.lst zs) := (Kp.new (M := MN) hA0).noLst (fun z => z) hA1
  refine ⟨_, rfl, _, _, _, _, rfl, rfl, SqT.of (k0.tup _ _ hx), atI_nat (j := 1) rfl, a2, xs, rfl, .inr (SqT.of (k0.tup _ _ hx2)), _, rfl, by omega, by omega, ?_⟩
  refine for_range (lo := 0) (n := ((xs.length : Int)).toNat) (fun i σ H' => ∃ x4 x5, σ = [some (.ref a), some (.int x), some (.int y), some (.ref Pl), x4, x5] ∧ Kp MN H H' ∧ H' Pl = some (.lst [.ref A0, .ref A1]) ∧ H' A0 = some (.lst ((plc x ps i).map V.int)) ∧ H' A1 = some (.lst ((plc y ps i).map V.int)))
    ⟨none, none, rfl, k0, upd_same, by rw [upd_ne n0P]; exact e0, by rw [upd_ne n1P, upd_same]; rfl⟩ (fun i σ H' hi p => ?_) (fun σ H' p => ?_)
  · obtain ⟨x4, x5, rfl, k, eP, eA, eB⟩ := p
    have hi' : i < ps.length := by omega
    have hp : ps[i]? = some ps[i] := List.getElem?_eq_getElem hi'
    generalize ps[i] = pc at hp
    have hm := List.mem_of_getElem? hp
    obtain ⟨xv, hxv, _⟩ := hall.get' hp
    have half : ∀ (kk z : Int) (Z : Addr) (L : List Int) (H' : Hp) (D : Ends), atI [V.int x, V.int y] kk = some (.int z) → atI [V.ref A0, V.ref A1] kk = some (.ref Z) → Kp MN H H' → H' Pl = some (.lst [.ref A0, .ref A1]) → H' Z = some (.lst (L.map V.int)) → L.length ≤ 60 → Z ≠ Pl →
        (z ∈ tl pc → ∀ H5, Kp MN H' H5 → H5 Z = some (.lst (L.map V.int)) → D.nx [some (.ref a), some (.int x), some (.int y), some (.ref Pl), some (.int (0 + (i : Int))), some (.int kk)] (upd H5 Z (.lst ((L ++ [(i : Int)]).map V.int)))) →
        (¬ z ∈ tl pc → ∀ H5, Kp MN H' H5 → D.nx [some (.ref a), some (.int x), some (.int y), some (.ref Pl), some (.int (0 + (i : Int))), some (.int kk)] H5) →
        tIfS (tTest (tOp (rInD K) (tOp (rIxL K) (tLst (tCons (tVar 1) (tCons (tVar 2) tNil))) (tVar 5)) (tCall (spTasksS n) [] E0 (tCons (tOp (rIxT K) (tOp (rIxT K) (tVar 0) (tC (.int 1))) (tVar 4)) tNil)))) (tDrop (tBM K "list" rAppend (tOp (rIxL K) (tVar 3) (tVar 5)) (tCons (tVar 4) tNil))) tNext D
          [some (.ref a), some (.int x), some (.int y), some (.ref Pl), some (.int (0 + (i : Int))), some (.int kk)] H' := by
      intro kk z Z L H' D hz hZ k eP eZ hL60 hZP yes no
      refine ⟨_, rfl, _, rfl, (by show 2 ≤ sizeLine; decide), fun W hW => ?_⟩
      have kW : Kp MN H' (upd H' W (.lst [.int x, .int y])) := Kp.new hW
      refine ⟨_, rfl, W, _, kk, _, rfl, rfl, SqL.of upd_same, hz, ?_⟩
      have kk1 := k.trans kW
      have ii : atI xs (0 + (i : Int)) = some xv := by rw [Int.zero_add]; exact atI_nat hxv
      refine ⟨_, rfl, _, _, _, _, rfl, rfl, SqT.of (kk1.tup _ _ hx), atI_nat (j := 1) rfl, _, rfl, a2, xs, _, xv, rfl, rfl, SqT.of (kk1.tup _ _ hx2), ii, ?_⟩
      obtain ⟨xv', hxv', hax⟩ := hall.get' hp
      rw [hxv] at hxv'
      cases hxv'
      refine ⟨xv, pc, u, rfl, hax.kp kk1, hfm pc hm, depth_part hd hm, Nat.le_trans (tl_le hm) h60, fun b H5 hb k5 e5 => ?_⟩
      refine ⟨.int z, _, .int z, .lst (SqL.of e5) (AtL.dp (AtL.ints (M := MN) (srt (tl pc)))), by rfl, shaped_ints _, ?_⟩
      rw [any_srt]
      refine ⟨_, rfl, ?_⟩
      have k15 := kW.trans k5
      have eP5 := k15.lst Pl _ (fun z => z) eP
      have eZ5 := k15.lst Z _ (fun z => z) eZ
      by_cases c : z ∈ tl pc
      · rw [decide_eq_true c]
        refine iteT ?_
        refine ⟨_, rfl, _, rfl, Pl, _, kk, _, rfl, rfl, SqL.of eP5, hZ, .inl ⟨rfl, _, .inl (.inl eZ5)⟩, _, rfl, Z, _, _, rfl, rfl, eZ5, by rw [List.length_map]; exact small1000 (by omega), ?_⟩
        have := yes c H5 k15 eZ5
        rw [List.map_append] at this
        have e : (0 + (i : Int)) = (i : Int) := Int.zero_add _
        rw [e] at this ⊢
        exact this
      · rw [decide_eq_false c]
        exact iteF (no c H5 k15)
    have lx := plc_len x ps i
    have ly := plc_len y ps i
    have sx := plc_succ (z := x) hp
    have sy := plc_succ (z := y) hp
    refine ⟨_, rfl, by decide, by decide, ?_⟩
    refine for_range (lo := 0) (n := ((2 : Int)).toNat) (fun j σ H' => ∃ x5, σ = [some (.ref a), some (.int x), some (.int y), some (.ref Pl), some (.int (0 + (i : Int))), x5] ∧ Kp MN H H' ∧ H' Pl = some (.lst [.ref A0, .ref A1]) ∧ H' A0 = some (.lst ((plc x ps (if 1 ≤ j then i + 1 else i)).map V.int)) ∧ H' A1 = some (.lst ((plc y ps (if 2 ≤ j then i + 1 else i)).map V.int)))
      ⟨x5, rfl, k, eP, eA, eB⟩ (fun j σ H' hj p => ?_) (fun σ H' p => ?_)
    · obtain ⟨x5, rfl, k, eP, eA, eB⟩ := p
      have : j = 0 ∨ j = 1 := by omega
      rcases this with z | z
      · subst z
        refine half (0 + ((0 : Nat) : Int)) x A0 (plc x ps i) H' _ rfl rfl k eP eA (by omega) n0P (fun c H5 k5 e5 => ?_) (fun c H5 k5 => ?_)
        · refine ⟨_, rfl, (k.trans k5).putFresh f0 e5, ?_, ?_, ?_⟩
          · rw [upd_ne n0P.symm]; exact k5.lst Pl _ (fun z => z) eP
          · rw [upd_same, if_pos (by decide), sx, if_pos c]
          · rw [upd_ne n01.symm, if_neg (by decide)]; exact k5.lst A1 _ (fun z => z) eB
        · refine ⟨_, rfl, k.trans k5, k5.lst Pl _ (fun z => z) eP, ?_, ?_⟩
          · rw [if_pos (by decide), sx, if_neg c]; exact k5.lst A0 _ (fun z => z) eA
          · rw [if_neg (by decide)]; exact k5.lst A1 _ (fun z => z) eB
      · subst z
        rw [if_pos (by decide)] at eA
        rw [if_neg (by decide)] at eB
        refine half (0 + ((1 : Nat) : Int)) y A1 (plc y ps i) H' _ rfl rfl k eP eB (by omega) n1P (fun c H5 k5 e5 => ?_) (fun c H5 k5 => ?_)
        · refine ⟨_, rfl, (k.trans k5).putFresh f1 e5, ?_, ?_, ?_⟩
          · rw [upd_ne n1P.symm]; exact k5.lst Pl _ (fun z => z) eP
          · rw [upd_ne n01, if_pos (by decide)]; exact k5.lst A0 _ (fun z => z) eA
          · rw [upd_same, if_pos (by decide), sy, if_pos c]
        · refine ⟨_, rfl, k.trans k5, k5.lst Pl _ (fun z => z) eP, ?_, ?_⟩
          · rw [if_pos (by decide)]; exact k5.lst A0 _ (fun z => z) eA
          · rw [if_pos (by decide), sy, if_neg c]; exact k5.lst A1 _ (fun z => z) eB
    · obtain ⟨x5, rfl, k, eP, eA, eB⟩ := p
      exact ⟨_, x5, rfl, k, eP, eA, eB⟩
  · obtain ⟨x4, x5, rfl, k, eP, eA, eB⟩ := p
    obtain ⟨i, p1, hp1, m1⟩ := mem_tlL hx0
    obtain ⟨j, p2, hp2, m2⟩ := mem_tlL hy0
    have hi := (List.getElem?_eq_some_iff.mp hp1).1
    have hj := (List.getElem?_eq_some_iff.mp hp2).1
    have en : ((xs.length : Int)).toNat = ps.length := by omega
    rw [en, plc_one hnd hp1 m1 _ (Nat.le_refl _), if_pos hi] at eA
    rw [en, plc_one hnd hp2 m2 _ (Nat.le_refl _), if_pos hj] at eB
    have dA : Dp K H' (.ref A0) (.list ([(i : Int)].map PyData.int)) := .lst (SqL.of eA) (AtL.dp (AtL.ints (M := MN) [(i : Int)]))
    have dB : Dp K H' (.ref A1) (.list ([(j : Int)].map PyData.int)) := .lst (SqL.of eB) (AtL.dp (AtL.ints (M := MN) [(j : Int)]))
    refine ⟨_, rfl, Pl, _, _, _, rfl, rfl, SqL.of eP, atI_nat (j := 0) rfl, _, rfl, Pl, _, _, _, rfl, rfl, SqL.of eP, atI_nat (j := 1) rfl, _, _, dA, dB, shaped_ints _, shaped_ints _, ?_⟩
    rw [eqv_ints]
    refine ⟨_, rfl, ?_⟩
    by_cases c : i = j
    · subst c
      rw [hp1] at hp2
      cases hp2
      have hm := List.mem_of_getElem? hp1
      rw [decide_eq_true rfl]
      refine iteT ?_
      obtain ⟨xv, hxv, hax⟩ := hall.get' hp1
      refine ⟨_, rfl, _, _, _, _, rfl, rfl, SqT.of (k.tup _ _ hx), atI_nat (j := 1) rfl, _, rfl, Pl, _, _, _, rfl, rfl, SqL.of eP, atI_nat (j := 0) rfl, A0, _, _, _, rfl, rfl, SqL.of eA, atI_nat (j := 0) rfl, a2, xs, _, xv, rfl, rfl, SqT.of (k.tup _ _ hx2), atI_nat hxv, _, rfl, _, rfl, ?_⟩
      exact ⟨xv, p1, u, x, y, rfl, hax.kp k, hfm p1 hm, depth_part hd hm, Nat.le_trans (tl_le hm) h60, nodup_part hnd hm, hxy, m1, m2, fun r H2 hr' k2 => q r H2 (.inner hp1 m1 m2 hr') (k.trans k2)⟩
    · rw [decide_eq_false (fun z => c (by injection z with z; omega))]
      refine iteF ?_
      refine ⟨_, rfl, _, _, _, _, rfl, rfl, SqT.of (k.tup _ _ hx), atI_nat (j := 0) rfl, rfl, _, rfl, ?_⟩
      refine ite2 (fun cc => ?_) (fun cc => ?_)
      · have c' := of_decide_eq_true cc
        injection c' with c'
        subst c'
        exact q "beside" H' (.beside hp1 hp2 m1 m2 c) k
      have nb : u ≠ "beside" := fun z => (of_decide_eq_false (Bool.eq_false_iff.mpr cc)) (by rw [z])
      have hu : u = "then" := by
        rcases wd_or hwd with z | z
        · exact z
        · exact absurd z nb
      subst hu
      refine ⟨(by show 2 ≤ sizeLine; decide), fun W hW => ?_⟩
      have kW : Kp MN H' (upd H' W (.lst [.str "after", .str "before"])) := Kp.new hW
      have eP' := kW.lst Pl _ (fun z => z) eP
      refine ⟨_, rfl, Pl, _, _, _, rfl, rfl, SqL.of eP', atI_nat (j := 0) rfl, _, rfl, Pl, _, _, _, rfl, rfl, SqL.of eP', atI_nat (j := 1) rfl, .list ([(i : Int)].map PyData.int), .list ([(j : Int)].map PyData.int), .lst (SqL.of (kW.lst A0 _ (fun z => z) eA)) (AtL.dp (AtL.ints (M := MN) [(i : Int)])), .lst (SqL.of (kW.lst A1 _ (fun z => z) eB)) (AtL.dp (AtL.ints (M := MN) [(j : Int)])), by simp [PySem.W.alike, PySem.W.alikeAll], fun z => (by cases z), by simp [PyData.depth, PyData.depthAll], ?_⟩
      have el : PySem.W.dataLt (.list ([(i : Int)].map PyData.int)) (.list ([(j : Int)].map PyData.int)) = decide ((i : Int) < (j : Int)) := lt_one _ _
      rw [el]
      refine .inr ⟨_, rfl, ?_⟩
      by_cases c2 : i < j
      · rw [decide_eq_true (show (i : Int) < (j : Int) by omega)]
        exact ⟨W, _, 1, _, rfl, rfl, SqL.of upd_same, atI_nat (j := 1) rfl, q "before" _ (.before hp1 hp2 m1 m2 c2) (k.trans kW)⟩
      · rw [decide_eq_false (show ¬ (i : Int) < (j : Int) by omega)]
        exact ⟨W, _, 0, _, rfl, rfl, SqL.of upd_same, atI_nat (j := 0) rfl, q "after" _ (.after hp1 hp2 m1 m2 (by omega)) (k.trans kW)⟩
theorem oks_lrel {f g : Addr} {fd gd : FuncData} (F : Fun K "_law_relation" "_law_relation" sRel f fd) (B : Bl K mg)
    (G : ∀ n, FnOk P w K mg base CX0 (n + 1) g gd ["plan"] (spTasksS n)) (bG : Binds K gd ["plan"] []) (kG : PySem.W.keepIn K (.ref g) = true) (mG : mg "_law_tasks" = some (.ref g))
    (bF : Binds K fd ["plan", "x", "y"] []) (mF : mg "_law_relation" = some (.ref f)) : ∀ n : Nat, FnOk P w K mg base CX0 (n + 1) f fd ["plan", "x", "y"] (spLRel n)
  | 0 => never_ok fun vs H Q E h => by
    obtain ⟨_, _, _, _, _, _, _, _, h, _⟩ := h
    exact absurd h (Nat.not_lt_zero _)
  | n + 1 => ok_lrel F B (G n) bG kG mG (oks_lrel F B G bG kG mG bF mF n) bF mF
end
end K14

set_option Elab.async false
set_option linter.all false
set_option maxRecDepth 100000
set_option maxHeartbeats 1000000
namespace K14
open PySem L2 GxR GA KD KR KM KJ
abbrev sTable : Stmt := top 31
abbrev sOpposite : Stmt := top 33
def rowD (r : List Str) : PyData := .tuple (r.map PyData.str)
def tabD (RS : List (List Str)) : PyData := .tuple (RS.map rowD)
def cell (RS : List (List Str)) (x y : Nat) : Str := (RS.getD x []).getD y ""
/-- a table of n tasks -/
structure Fit (n : Nat) (RS : List (List Str)) : Prop where
  len : RS.length = n
  row : ∀ r ∈ RS, r.length = n
  same : ∀ x, x < n → cell RS x x = "same"
  kind : ∀ x y, x < n → y < n → x ≠ y → cell RS x y = "before" ∨ cell RS x y = "beside" ∨ cell RS x y = "after"
  opp : ∀ x y, x < n → y < n → x ≠ y → cell RS y x = opp (cell RS x y)
/-- what stands in a plan's table -/
def Cel (d : PyData) (m j : Nat) (s : Str) : Prop := if m = j then s = "same" else RelD (m : Int) (j : Int) d s
theorem cell_at {RS : List (List Str)} {n x y : Nat} (hl : RS.length = n) (hr : ∀ r ∈ RS, r.length = n) (hx : x < n) (hy : y < n) : ∃ r, RS[x]? = some r ∧ r[y]? = some (cell RS x y) := by
  have h1 : RS[x]? = some RS[x] := List.getElem?_eq_getElem (by omega)
  have h2 : (RS[x]).length = n := hr _ (List.mem_of_getElem? h1)
  refine ⟨_, h1, ?_⟩
  have e1 : RS.getD x [] = RS[x] := by rw [List.getD_eq_getElem?_getD, h1]; rfl
  unfold cell
  rw [e1, List.getD_eq_getElem?_getD, List.getElem?_eq_getElem (by omega)]
  rfl
theorem Fit.of {d : PyData} {n : Nat} {RS : List (List Str)} (hn : (tl d).Nodup) (hl : RS.length = n) (hr : ∀ r ∈ RS, r.length = n) (hc : ∀ (m : Nat) (r : List Str) (j : Nat) (s : Str), RS[m]? = some r → r[j]? = some s → Cel d m j s) : Fit n RS := by
  have at_ : ∀ x y, x < n → y < n → Cel d x y (cell RS x y) := fun x y hx hy => by
    obtain ⟨r, h1, h2⟩ := cell_at hl hr hx hy
    exact hc x r y _ h1 h2
  refine ⟨hl, hr, fun x hx => ?_, fun x y hx hy ne => ?_, fun x y hx hy ne => ?_⟩
  · have := at_ x x hx hx
    unfold Cel at this
    rw [if_pos rfl] at this
    exact this
  · have := at_ x y hx hy
    unfold Cel at this
    rw [if_neg ne] at this
    exact this.kind
  · have h1 := at_ x y hx hy
    have h2 := at_ y x hy hx
    unfold Cel at h1 h2
    rw [if_neg ne] at h1
    rw [if_neg (Ne.symm ne)] at h2
    exact h2.uniq hn h1.swap
theorem rng_nodup (n : Nat) : (rng n).Nodup := by
  unfold rng
  exact List.Pairwise.map _ (fun a b h z => h (Int.ofNat.inj z)) List.nodup_range
theorem srt_rng {l : List Int} {n : Nat} (h : l.Perm (rng n)) : srt l = rng n := (srt_uniq h.symm (rng_sorted n)).symm
theorem noLL_strs (r : List Str) : noLL (r.map PyData.str) = true := by
  induction r with
  | nil => simp [noLL]
  | cons i r ih => simp [noLL, noL, ih]
theorem noLL_rows (RS : List (List Str)) : noLL (RS.map rowD) = true := by
  induction RS with
  | nil => simp [noLL]
  | cons i r ih => simp [noLL, noL, rowD, noLL_strs, ih]
theorem AtL.strs {M : Addr → Prop} {H : Hp} : ∀ r : List Str, AtL M H (r.map V.str) (r.map PyData.str)
  | [] => .nil
  | x :: r => .cons (.str x) (AtL.strs r)
def spTable : Sp := fun vs H Q _ => ∃ (v : V) (d : PyData) (n : Nat), vs = [v] ∧ At MN H v d ∧ Wp d ∧ (tl d).Perm (rng n) ∧ n ≤ 7 ∧ ∀ v' RS H', At MN H' v' (tabD RS) → Fit n RS → (∀ x y, x < n → y < n → Cel d x y (cell RS x y)) → Kp MN H H' → Q v' H'
section
variable {P : Program} {w : World} {K : PySem.W.Frag} {mg : Str → Option Value} {base : Heap}
theorem scTable : FnScope ["plan", "tasks", "rows", "x", "row", "y"] ["plan"] (defScope sTable) := ⟨rfl, rfl, rfl, by decide +kernel, rfl, by decide +kernel, by decide +kernel⟩
theorem ok_table {f g j : Addr} {fd gd jd' : FuncData} (F : Fun K "_law_table" "_law_table" sTable f fd) (B : Bl K mg)
    (G : FnOk P w K mg base CX0 16 g gd ["plan"] (spTasksS 15)) (bG : Binds K gd ["plan"] []) (kG : PySem.W.keepIn K (.ref g) = true) (mG : mg "_law_tasks" = some (.ref g))
    (J : FnOk P w K mg base CX0 16 j jd' ["plan", "x", "y"] (spLRel 15)) (bJ : Binds K jd' ["plan", "x", "y"] []) (kJ : PySem.W.keepIn K (.ref j) = true) (mJ : mg "_law_relation" = some (.ref j)) :
    FnOk P w K mg base CX0 17 f fd ["plan"] spTable := by
  refine F.ok scTable (fun vs H Q E h => ?_) (fun cdv A outer s H vs Q E hr h => ?_)
  · obtain ⟨v, d, n, rfl, _⟩ := h
    rfl
  obtain ⟨v, d, n, rfl, hA, hW, hp, hn7, q⟩ := h
  refine ⟨_, pss_cons (ps_set (i := 1) scTable.nd rfl (Or.inl rfl) (pe_call G hr rfl mG kG bG .nil pass0 (pa_cons (pv 0) pa_nil)))
    (pss_cons (ps_set (i := 2) scTable.nd rfl (Or.inl rfl) (pe_lst pa_nil))
    (pss_cons (ps_for PassesOwn.never rfl (pi_list (pv 1)) (pg_name (i := 3) scTable.nd rfl (Or.inl rfl))
      (pss_cons (ps_set (i := 4) scTable.nd rfl (Or.inl rfl) (pe_lst pa_nil))
      (pss_cons (ps_for PassesOwn.never rfl (pi_list (pv 1)) (pg_name (i := 5) scTable.nd rfl (Or.inl rfl))
        (pss_one (ps_if (pt_cmpR op_eq (pv 3) (pv 5) (nomark _))
          (pss_one (ps_expr (pe_bm PySem.F.plainAttrs_list PySem.F.slot_list_append PySem.F.type_list_append mt_append (pv 4) (pa_cons pe_str pa_nil))))
          (pss_one (ps_expr (pe_bm PySem.F.plainAttrs_list PySem.F.slot_list_append PySem.F.type_list_append mt_append (pv 4) (pa_cons (pe_call J hr rfl mJ kJ bJ .nil pass0 (pa_cons (pv 0) (pa_cons (pv 3) (pa_cons (pv 5) pa_nil)))) pa_nil)))))))
      (pss_one (ps_expr (pe_bm PySem.F.plainAttrs_list PySem.F.slot_list_append PySem.F.type_list_append mt_append (pv 2) (pa_cons (pe_callTy call_tuple_of rfl B.tuple (by decide +kernel) (pa_cons (pv 4) pa_nil)) pa_nil)))))))
    (pss_one (ps_ret (pe_callTy call_tuple_of rfl B.tuple (by decide +kernel) (pa_cons (pv 2) pa_nil)))))), ?_⟩
  obtain ⟨o, hf⟩ := hW.form
  have hlen := hp.length_eq
  rw [rng_length] at hlen
  have hnd : (tl d).Nodup := hp.nodup_iff.mpr (rng_nodup n)
  have hdep : d.depth < 15 := by have := hW.dep; omega
  have mem : ∀ m : Nat, m < n → (m : Int) ∈ tl d := fun m hm => hp.mem_iff.mpr (mem_rng.mpr ⟨by omega, by omega⟩)
  refine ⟨_, rfl, v, d, o, rfl, hA, hf, hdep, by omega, fun T H1 hT k1 eT => ?_⟩
  rw [srt_rng hp] at eT
  have rlen : ((rng n).map V.int).length = n := by rw [List.length_map, rng_length]
  have rget : ∀ (i : Nat) (x : V), ((rng n).map V.int)[i]? = some x → x = .int (i : Int) ∧ i < n := fun i x h => by
    rw [List.getElem?_map] at h
    obtain ⟨t, ht, rfl⟩ := Option.map_eq_some_iff.mp h
    have hi := (List.getElem?_eq_some_iff.mp ht).1
    rw [rng_length] at hi
    unfold rng at ht
    rw [List.getElem?_map, List.getElem?_range hi] at ht
    cases ht
    exact ⟨rfl, hi⟩
  refine ⟨(by show 0 ≤ sizeLine; decide), fun D hD => ?_⟩
  have nTD : T ≠ D := ne_of_none eT hD
  have fD : ∀ zs, H D ≠ some (.lst zs) := k1.noLst (fun z => z) hD
  refine ⟨_, rfl, T, rfl, ⟨_, SqL.of (by rw [upd_ne nTD]; exact eT)⟩, ?_⟩
  refine for_list (K := K) (a := T) (xs := (rng n).map V.int) (fun i σ H' => ∃ x3 x4 x5 vs RS, σ = [some v, some (.ref T), some (.ref D), x3, x4, x5] ∧ Kp MN H H' ∧ H' T = some (.lst ((rng n).map V.int)) ∧ H' D = some (.lst vs) ∧ AtL MN H' vs (RS.map rowD) ∧ RS.length = i ∧ (∀ r ∈ RS, r.length = n) ∧
      ∀ (m : Nat) (r : List Str) (j : Nat) (s : Str), RS[m]? = some r → r[j]? = some s → Cel d m j s)
    ⟨none, none, none, [], [], rfl, k1.trans (Kp.new hD), by rw [upd_ne nTD]; exact eT, upd_same, .nil, rfl, (fun r h => by cases h), (fun m r j s h => by simp at h)⟩ (fun i σ H' _ p => SqL.of (by obtain ⟨_, _, _, _, _, _, _, e, _⟩ := p; exact e)) (fun i x σ H' hi p => ?_) (fun σ H' p => ?_)
  · obtain ⟨x3, x4, x5, vs, RS, rfl, k, e1, e2, al, r1, r2, r3⟩ := p
    obtain ⟨rfl, hin⟩ := rget i x hi
    refine ⟨(by show 0 ≤ sizeLine; decide), fun W hW' => ?_⟩
    have nTW : T ≠ W := ne_of_none e1 hW'
    have nDW : D ≠ W := ne_of_none e2 hW'
    have kW : Kp MN H' (upd H' W (.lst [])) := Kp.new hW'
    have fW : ∀ zs, H' W ≠ some (.lst zs) := fun zs z => by rw [hW'] at z; cases z
    refine ⟨_, rfl, T, rfl, ⟨_, SqL.of (by rw [upd_ne nTW]; exact e1)⟩, ?_⟩
    refine for_list (K := K) (a := T) (xs := (rng n).map V.int) (fun j σ H2 => ∃ x5 rs, σ = [some v, some (.ref T), some (.ref D), some (.int (i : Int)), some (.ref W), x5] ∧ Kp MN H' H2 ∧ H2 T = some (.lst ((rng n).map V.int)) ∧ H2 W = some (.lst (rs.map V.str)) ∧ rs.length = j ∧ ∀ (j' : Nat) (s : Str), rs[j']? = some s → Cel d i j' s)
      ⟨x5, [], rfl, kW, by rw [upd_ne nTW]; exact e1, upd_same, rfl, fun j s h => by simp at h⟩ (fun j σ H2 _ p => SqL.of (by obtain ⟨_, _, _, _, e, _⟩ := p; exact e)) (fun j y σ H2 hj p => ?_) (fun σ H2 p => ?_)
    · obtain ⟨x5, rs, rfl, k2, e3, e4, l2, c2⟩ := p
      obtain ⟨rfl, hjn⟩ := rget j y hj
      have snoc : ∀ s : Str, Cel d i j s → ∀ (j' : Nat) (s' : Str), (rs ++ [s])[j']? = some s' → Cel d i j' s' := fun s hs j' s' h => by
        by_cases hlt : j' < rs.length
        · rw [List.getElem?_append_left hlt] at h
          exact c2 j' s' h
        · have hl := (List.getElem?_eq_some_iff.mp h).1
          rw [List.length_append, List.length_singleton] at hl
          have ej : j' = rs.length := by omega
          subst ej
          rw [List.getElem?_concat_length] at h
          cases h
          rw [l2]
          exact hs
      refine ⟨_, rfl, _, rfl, rfl, _, rfl, ?_⟩
      refine ite2 (fun c => ?_) (fun c => ?_)
      · have c' := of_decide_eq_true c
        injection c' with c'
        have eij : i = j := by omega
        refine ⟨_, rfl, .inl ⟨rfl, _, .inl (.inl e4)⟩, W, _, _, rfl, rfl, e4, by rw [List.length_map]; exact small1000 (by omega), ?_⟩
        refine ⟨_, rs ++ [("same" : Str)], rfl, k2.putFresh fW e4, by rw [upd_ne nTW]; exact e3, by rw [upd_same, List.map_append]; rfl, by rw [List.length_append, l2]; rfl, snoc "same" ?_⟩
        unfold Cel
        rw [if_pos eij]
      · have c' := of_decide_eq_false (Bool.eq_false_iff.mpr c)
        have eij : i ≠ j := fun z => c' (by rw [z])
        refine ⟨_, rfl, .inl ⟨rfl, _, .inl (.inl e4)⟩, _, rfl, _, rfl, _, rfl, v, d, o, i, j, rfl, hA.kp (k.trans k2), hf, hdep, by omega, hnd, by omega, mem i hin, mem j hjn, fun r H5 hr' k5 => ?_⟩
        have e45 := k5.lst W _ (fun z => z) e4
        refine ⟨W, _, _, rfl, rfl, e45, by rw [List.length_map]; exact small1000 (by omega), ?_⟩
        refine ⟨_, rs ++ [r], rfl, (k2.trans k5).putFresh fW e45, by rw [upd_ne nTW]; exact k5.lst T _ (fun z => z) e3, by rw [upd_same, List.map_append]; rfl, by rw [List.length_append, l2]; rfl, snoc r ?_⟩
        unfold Cel
        rw [if_neg eij]
        exact hr'
    · obtain ⟨x5, rs, rfl, k2, e3, e4, l2, c2⟩ := p
      rw [rlen] at l2
      have e22 := k2.lst D _ (fun z => z) e2
      refine ⟨_, rfl, .inl ⟨rfl, _, .inl (.inl e22)⟩, _, rfl, W, _, rfl, .inl ⟨SqL.of e4, fun t ht => ?_⟩⟩
      have nDt : D ≠ t := ne_of_none e22 ht
      have nTt : T ≠ t := ne_of_none e3 ht
      have kt : Kp MN H2 (upd H2 t (.tup (rs.map V.str))) := Kp.new ht
      have al2 := al.length
      rw [List.length_map] at al2
      have e5 : upd H2 t (.tup (rs.map V.str)) D = some (.lst vs) := by rw [upd_ne nDt]; exact e22
      refine ⟨D, vs, _, rfl, rfl, e5, small1000 (by omega), ?_⟩
      have tk : ∀ c ts, upd H2 t (.tup (rs.map V.str)) c = some (.tup ts) → upd (upd H2 t (.tup (rs.map V.str))) D (.lst (vs ++ [.ref t])) c = some (.tup ts) := fun c ts z => by
        rw [upd_ne]
        · exact z
        · intro y
          rw [y, e5] at z
          cases z
      refine ⟨_, _, _, vs ++ [.ref t], RS ++ [rs], rfl, ((k.trans k2).trans kt).putFresh fD e5, by rw [upd_ne nTD, upd_ne nTt]; exact e3, upd_same, ?_, by rw [List.length_append, r1]; rfl, fun r hr' => ?_, fun m r j s hm hs => ?_⟩
      · rw [List.map_append]
        exact AtL.append (AtL.put tk (al.kp (k2.trans kt)) (noLL_rows RS)) (AtL.one (.tup (by rw [upd_ne nDt.symm, upd_same]) (AtL.strs rs)))
      · rcases List.mem_append.mp hr' with z | z
        · exact r2 r z
        · rw [List.mem_singleton.mp z]; exact l2
      · by_cases hlt : m < RS.length
        · rw [List.getElem?_append_left hlt] at hm
          exact r3 m r j s hm hs
        · have hl := (List.getElem?_eq_some_iff.mp hm).1
          rw [List.length_append, List.length_singleton] at hl
          have ej : m = RS.length := by omega
          subst ej
          rw [List.getElem?_concat_length] at hm
          cases hm
          rw [r1]
          exact c2 j s hs
  · obtain ⟨x3, x4, x5, vs, RS, rfl, k, e1, e2, al, r1, r2, r3⟩ := p
    rw [rlen] at r1
    refine ⟨_, rfl, D, vs, rfl, .inl ⟨SqL.of e2, fun t ht => ?_⟩⟩
    exact q _ RS _ (.tup upd_same (al.kp (Kp.new ht))) (Fit.of hnd r1 r2 r3) (fun x y hx hy => (by obtain ⟨r, h1, h2⟩ := cell_at r1 r2 hx hy; exact r3 x r y _ h1 h2)) (k.trans (Kp.new ht))
end
end K14

set_option Elab.async false
set_option linter.all false
set_option maxRecDepth 100000
set_option maxHeartbeats 1000000
namespace K14
open PySem L2 GxR GA KD KR KM KJ
def spOpp : Sp := fun vs H Q _ => ∃ r : Str, vs = [.str r] ∧ ∀ H', Kp MN H H' → Q (.str (opp r)) H'
theorem opp_val (r : Str) : (valV (mergeK [] [(Sum.inr ("before" : Str), V.str "after"), (Sum.inr ("after" : Str), V.str "before")] : List (L2.Key × V)) (Sum.inr r)).getD (.str r) = .str (opp r) := by
  have e : (mergeK [] [(Sum.inr ("before" : Str), V.str "after"), (Sum.inr ("after" : Str), V.str "before")] : List (L2.Key × V)) = [(Sum.inr ("before" : Str), V.str "after"), (Sum.inr ("after" : Str), V.str "before")] := by rfl
  rw [e]
  unfold valV opp
  by_cases h1 : r = "before"
  · subst h1
    rfl
  · by_cases h2 : r = "after"
    · subst h2
      rfl
    · rw [if_neg h1, if_neg h2, List.find?_cons_of_neg (by simpa using fun z => h1 (Eq.symm z)), List.find?_cons_of_neg (by simpa using fun z => h2 (Eq.symm z))]
      rfl
section
variable {P : Program} {w : World} {K : PySem.W.Frag} {mg : Str → Option Value} {base : Heap}
theorem scOpposite : FnScope ["relation"] ["relation"] (defScope sOpposite) := ⟨rfl, rfl, rfl, by decide +kernel, rfl, by decide +kernel, by decide +kernel⟩
theorem ok_opposite {f : Addr} {fd : FuncData} (F : Fun K "_law_opposite" "_law_opposite" sOpposite f fd) : FnOk P w K mg base CX0 1 f fd ["relation"] spOpp := by
  refine F.ok scOpposite (fun vs H Q E h => ?_) (fun cdv A outer s H vs Q E hr h => ?_)
  · obtain ⟨r, rfl, _⟩ := h
    rfl
  obtain ⟨r, rfl, q⟩ := h
  refine ⟨_, pss_one (ps_ret (pe_dget2 (hu_of hr) (pe_disp (pps_cons pe_str pe_str (pps_cons pe_str pe_str pps_nil)) (by rfl) (by rfl) (fun z => by cases z) (by decide)) (pv 0) (pv 0) ⟨by rfl, by rfl, by rfl, by rfl⟩)), ?_⟩
  intro p hp
  refine ⟨upd_same, [(Sum.inr "before", V.str "after"), (Sum.inr "after", V.str "before")], rfl, by decide, ?_⟩
  rw [upd_upd]
  refine ⟨p, rfl, .inl ⟨_, .inl upd_same⟩, _, rfl, _, rfl, _, DGet.k (k := Sum.inr r) upd_same, ?_⟩
  rw [opp_val]
  exact q _ (Kp.new hp)
end
/-! ### rows that are changed in place -/
structure RowsV (H : Hp) (R : Addr) (rows : List (Addr × List Str)) : Prop where
  at_ : H R = some (.lst (rows.map fun r => V.ref r.1))
  nd : (rows.map (·.1)).Nodup
  row : ∀ r ∈ rows, H r.1 = some (.lst (r.2.map V.str))
  ne : ∀ r ∈ rows, r.1 ≠ R
theorem RowsV.kp {M : Addr → Prop} {R : Addr} {H H' : Hp} {rows : List (Addr × List Str)} (h : RowsV H R rows) (k : Kp M H H') (hR : ¬ M R) (hr : ∀ r ∈ rows, ¬ M r.1) : RowsV H' R rows :=
  ⟨k.lst _ _ hR h.at_, h.nd, fun r m => k.lst _ _ (hr r m) (h.row r m), h.ne⟩
theorem RowsV.put {H : Hp} {R a : Addr} {rows : List (Addr × List Str)} {j : Nat} {l l' : List Str} (h : RowsV H R rows) (hj : rows[j]? = some (a, l)) : RowsV (upd H a (.lst (l'.map V.str))) R (rows.set j (a, l')) := by
  have ha : (a, l) ∈ rows := List.mem_of_getElem? hj
  have hRa : R ≠ a := (h.ne _ ha).symm
  have nd := h.nd
  obtain ⟨hjl, ej⟩ := List.getElem?_eq_some_iff.mp hj
  have fs : (rows.set j (a, l')).map (·.1) = rows.map (·.1) := by
    rw [List.map_set]
    show (rows.map (·.1)).set j a = rows.map (·.1)
    refine List.ext_getElem? fun i => ?_
    by_cases e : i = j
    · subst e
      rw [List.getElem?_set_self (by rw [List.length_map]; exact hjl), List.getElem?_map, hj]
      rfl
    · rw [List.getElem?_set_ne (Ne.symm e)]
  refine ⟨?_, by rw [fs]; exact nd, fun r hr => ?_, fun r hr => ?_⟩
  · rw [upd_ne hRa, h.at_]
    have := congrArg (List.map V.ref) fs
    rw [List.map_map, List.map_map] at this
    exact congrArg (fun z => some (HO.lst z)) this.symm
  · obtain ⟨i, hi, e⟩ := List.getElem_of_mem hr
    rw [List.length_set] at hi
    by_cases z : i = j
    · subst z
      rw [List.getElem_set_self] at e
      subst e
      exact upd_same
    · rw [List.getElem_set_ne (Ne.symm z)] at e
      have hm : r ∈ rows := by rw [← e]; exact List.getElem_mem hi
      have hne : r.1 ≠ a := fun q => by
        have e1 : (rows.map (·.1))[i]'(by rw [List.length_map]; exact hi) = (rows.map (·.1))[j]'(by rw [List.length_map]; exact hjl) := by
          rw [List.getElem_map, List.getElem_map, e, ej]
          exact q
        exact z ((List.getElem_inj nd).mp e1)
      rw [upd_ne hne]
      exact h.row r hm
  · rcases List.mem_or_eq_of_mem_set hr with z | z
    · exact h.ne r z
    · rw [z]; exact hRa.symm
theorem RowsV.snoc {H : Hp} {R p : Addr} {rows : List (Addr × List Str)} {l : List Str} (h : RowsV H R rows) (hp : H p = none) :
    RowsV (upd (upd H p (.lst (l.map V.str))) R (.lst (rows.map (fun r => V.ref r.1) ++ [.ref p]))) R (rows ++ [(p, l)]) := by
  have nR : p ≠ R := (ne_of_none h.at_ hp).symm
  have nr : ∀ r ∈ rows, r.1 ≠ p := fun r m => ne_of_none (h.row r m) hp
  refine ⟨by rw [upd_same, List.map_append]; rfl, ?_, fun r hr => ?_, fun r hr => ?_⟩
  · rw [List.map_append, List.nodup_append]
    refine ⟨h.nd, by simp, fun x hx y hy => ?_⟩
    obtain ⟨r, hr, rfl⟩ := List.mem_map.mp hx
    have : y = p := by simpa using hy
    rw [this]
    exact nr r hr
  · rcases List.mem_append.mp hr with z | z
    · rw [upd_ne (h.ne r z), upd_ne (nr r z)]
      exact h.row r z
    · rw [List.mem_singleton.mp z, upd_ne nR, upd_same]
  · rcases List.mem_append.mp hr with z | z
    · exact h.ne r z
    · rw [List.mem_singleton.mp z]; exact nR
/-- one cell set -/
def setc (RS : List (List Str)) (x y : Nat) (s : Str) : List (List Str) := RS.set x ((RS.getD x []).set y s)
theorem setc_len (RS : List (List Str)) (x y : Nat) (s : Str) : (setc RS x y s).length = RS.length := List.length_set
theorem setc_row {RS : List (List Str)} {n x y : Nat} {s : Str} (hr : ∀ r ∈ RS, r.length = n) (hx : x < RS.length) : ∀ r ∈ setc RS x y s, r.length = n := fun r h => by
  rcases List.mem_or_eq_of_mem_set h with z | z
  · exact hr r z
  · rw [z, List.length_set, List.getD_eq_getElem?_getD, List.getElem?_eq_getElem hx]
    exact hr _ (List.getElem_mem hx)
theorem cell_set {RS : List (List Str)} {n x y x' y' : Nat} {s : Str} (hl : RS.length = n) (hr : ∀ r ∈ RS, r.length = n) (hx : x < n) (hy : y < n) : cell (setc RS x y s) x' y' = if x' = x ∧ y' = y then s else cell RS x' y' := by
  have hx0 : x < RS.length := by omega
  have er : RS.getD x [] = RS[x] := by rw [List.getD_eq_getElem?_getD, List.getElem?_eq_getElem hx0]; rfl
  have hrl : (RS[x]).length = n := hr _ (List.getElem_mem hx0)
  by_cases e : x' = x
  · subst e
    have e1 : (setc RS x' y s).getD x' [] = (RS[x']).set y s := by
      unfold setc
      rw [er, List.getD_eq_getElem?_getD, List.getElem?_set_self hx0]
      rfl
    unfold cell
    rw [e1, er]
    by_cases e2 : y' = y
    · subst e2
      rw [if_pos ⟨rfl, rfl⟩, List.getD_eq_getElem?_getD, List.getElem?_set_self (by omega)]
      rfl
    · rw [if_neg fun z => e2 z.2, List.getD_eq_getElem?_getD, List.getElem?_set_ne (Ne.symm e2), ← List.getD_eq_getElem?_getD]
  · rw [if_neg fun z => e z.1]
    unfold cell setc
    rw [List.getD_eq_getElem?_getD (l := RS.set x _), List.getElem?_set_ne (Ne.symm e), ← List.getD_eq_getElem?_getD]
theorem opp_opp {r : Str} (h : r = "before" ∨ r = "beside" ∨ r = "after") : opp (opp r) = r ∧ (opp r = "before" ∨ opp r = "beside" ∨ opp r = "after") := by
  rcases h with z | z | z <;> rw [z] <;> decide +kernel
/-- two cells set to opposites: still a table -/
theorem fit_set {n x y : Nat} {RS : List (List Str)} {s : Str} (h : Fit n RS) (hx : x < n) (hy : y < n) (ne : x ≠ y) (hs : s = "before" ∨ s = "beside" ∨ s = "after") : Fit n (setc (setc RS x y s) y x (opp s)) := by
  have l1 : (setc RS x y s).length = n := by rw [setc_len]; exact h.len
  have r1 : ∀ r ∈ setc RS x y s, r.length = n := setc_row h.row (by rw [h.len]; exact hx)
  have c2 : ∀ a b, cell (setc (setc RS x y s) y x (opp s)) a b = if a = y ∧ b = x then opp s else if a = x ∧ b = y then s else cell RS a b := fun a b => by
    rw [cell_set l1 r1 hy hx, cell_set h.len h.row hx hy]
  obtain ⟨o1, o2⟩ := opp_opp hs
  refine ⟨by rw [setc_len]; exact l1, setc_row r1 (by rw [l1]; exact hy), fun a ha => ?_, fun a b ha hb hab => ?_, fun a b ha hb hab => ?_⟩
  · rw [c2, if_neg fun z => ne (z.2.symm.trans z.1), if_neg fun z => ne (z.1.symm.trans z.2)]
    exact h.same a ha
  · rw [c2]
    by_cases e1 : a = y ∧ b = x
    · rw [if_pos e1]; exact o2
    · rw [if_neg e1]
      by_cases e2 : a = x ∧ b = y
      · rw [if_pos e2]; exact hs
      · rw [if_neg e2]; exact h.kind a b ha hb hab
  · rw [c2, c2]
    by_cases e1 : a = y ∧ b = x
    · rw [if_pos e1, if_neg (fun z : b = y ∧ a = x => ne (e1.2.symm.trans z.1)), if_pos ⟨e1.2, e1.1⟩]
      exact o1.symm
    · by_cases e2 : a = x ∧ b = y
      · rw [if_neg e1, if_pos e2, if_pos ⟨e2.2, e2.1⟩]
      · rw [if_neg e1, if_neg e2, if_neg fun z => e2 ⟨z.2, z.1⟩, if_neg fun z => e1 ⟨z.2, z.1⟩]
        exact h.opp a b ha hb hab
end K14

set_option Elab.async false
set_option linter.all false
set_option maxRecDepth 100000
set_option maxHeartbeats 1000000
/-! the tables' laws: what the program calls a table -/
namespace K14
open PySem L2 GxR GA KD KR KM KJ
abbrev sRequire : Stmt := top 7
abbrev sIsSquare : Stmt := top 16
abbrev sEntriesFit : Stmt := top 17
abbrev sEntryFits : Stmt := top 18
/-- the module's tuple and dict of relations -/
structure Bt (K : PySem.W.Frag) (w : World) (mg : Str → Option Value) : Prop where
  rel : ∃ a, mg "RELATIONS" = some (.ref a) ∧ ∀ H : Hp, SqT K H a [.str "before", .str "beside", .str "after"]
  opp : ∃ a, mg "OPPOSITES" = some (.ref a) ∧ KDct K w a "before" (.str "after") ∧ KDct K w a "beside" (.str "beside") ∧ KDct K w a "after" (.str "before")
def lenIs (n : Nat) : PyData → Bool
  | .tuple es => decide (es.length = n)
  | _ => false
def sqD (n : Nat) : PyData → Bool
  | .tuple rs => decide (rs.length = n) && rs.all (lenIs n)
  | _ => false
def itD (y : Nat) : PyData → PyData
  | .tuple es => es.getD y .none
  | _ => .none
def celD (rs : List PyData) (x y : Nat) : PyData := itD y (rs.getD x .none)
def isRel (s : Str) : Bool := decide (s = "before" ∨ s = "beside" ∨ s = "after")
def inR : PyData → Bool
  | .str s => isRel s
  | _ => false
def oppD : PyData → PyData
  | .str s => .str (opp s)
  | d => d
def entD (rs : List PyData) (x y : Nat) : Bool := if x = y then PyData.eqv (celD rs x y) (.str "same") else inR (celD rs x y) && PyData.eqv (celD rs y x) (oppD (celD rs x y))
def fitB (n : Nat) (rs : List PyData) : Bool := (List.range n).all fun x => (List.range n).all fun y => entD rs x y
theorem any_rels (w : PyData) : ([PyData.str "before", PyData.str "beside", PyData.str "after"].any fun z => PyData.eqv z w) = inR w := by
  cases w with
  | str s =>
    have e : ∀ a : Str, PyData.eqv (.str a) (.str s) = decide (s = a) := fun a => by
      show (a == s) = decide (s = a)
      rw [Bool.eq_iff_iff, beq_iff_eq, decide_eq_true_eq]
      exact eq_comm
    show (PyData.eqv (.str "before") (.str s) || (PyData.eqv (.str "beside") (.str s) || (PyData.eqv (.str "after") (.str s) || false))) = isRel s
    rw [e, e, e, Bool.or_false]
    unfold isRel
    rw [Bool.eq_iff_iff]
    simp only [Bool.or_eq_true, decide_eq_true_eq]
  | _ => simp [PyData.eqv, inR]
theorem shaped_rels : SeqAt.shaped (.tuple [PyData.str "before", PyData.str "beside", PyData.str "after"]) = true := by decide +kernel
theorem shaped_same : SeqAt.shaped (.str "same") = true := by decide +kernel
theorem dp_rels {K : PySem.W.Frag} {a : Addr} {H : Hp} (h : SqT K H a [.str "before", .str "beside", .str "after"]) : Dp K H (.ref a) (.tuple [PyData.str "before", PyData.str "beside", PyData.str "after"]) := .tup h (.cons (.str _) (.cons (.str _) (.cons (.str _) .nil)))
theorem sq_row {n : Nat} {rs : List PyData} (h : sqD n (.tuple rs) = true) {x : Nat} (hx : x < n) : ∃ es, rs[x]? = some (.tuple es) ∧ es.length = n := by
  have h' : (decide (rs.length = n) && rs.all (lenIs n)) = true := h
  rw [Bool.and_eq_true] at h'
  have hl := of_decide_eq_true h'.1
  have e : rs[x]? = some rs[x] := List.getElem?_eq_getElem (by omega)
  have ha := List.all_eq_true.mp h'.2 _ (List.mem_of_getElem? e)
  cases hr : rs[x] with
  | tuple es =>
    rw [hr] at ha e
    exact ⟨es, e, of_decide_eq_true ha⟩
  | _ => rw [hr] at ha; cases ha
theorem cel_at {M : Addr → Prop} {H : Hp} {v : V} {n : Nat} {rs : List PyData} (hA : At M H v (.tuple rs)) (h : sqD n (.tuple rs) = true) {x y : Nat} (hx : x < n) (hy : y < n) :
    ∃ (a b : Addr) (xs ys : List V) (u : V), v = .ref a ∧ H a = some (.tup xs) ∧ xs[x]? = some (.ref b) ∧ H b = some (.tup ys) ∧ ys[y]? = some u ∧ At M H u (celD rs x y) := by
  obtain ⟨a, xs, rfl, hxs, hall⟩ := hA.tup_of
  obtain ⟨es, he, hl⟩ := sq_row h hx
  obtain ⟨r, hr, har⟩ := hall.get' he
  obtain ⟨b, ys, rfl, hys, hall2⟩ := har.tup_of
  have e : es[y]? = some es[y] := List.getElem?_eq_getElem (by omega)
  obtain ⟨u, hu, hau⟩ := hall2.get' e
  refine ⟨a, b, xs, ys, u, rfl, hxs, hr, hys, hu, ?_⟩
  have e2 : celD rs x y = es[y] := by
    unfold celD
    rw [List.getD_eq_getElem?_getD, he]
    show es.getD y .none = _
    rw [List.getD_eq_getElem?_getD, e]
    rfl
  rw [e2]
  exact hau
theorem cel_shaped {n : Nat} {rs : List PyData} (hS : SeqAt.shaped (.tuple rs) = true) (h : sqD n (.tuple rs) = true) {x y : Nat} (hx : x < n) (hy : y < n) : SeqAt.shaped (celD rs x y) = true := by
  obtain ⟨es, he, hl⟩ := sq_row h hx
  have e : es[y]? = some es[y] := List.getElem?_eq_getElem (by omega)
  have e2 : celD rs x y = es[y] := by
    unfold celD
    rw [List.getD_eq_getElem?_getD, he]
    show es.getD y .none = _
    rw [List.getD_eq_getElem?_getD, e]
    rfl
  rw [e2]
  exact shaped_tup (shaped_tup hS (List.mem_of_getElem? he)) (List.mem_of_getElem? e)
def spEntryFits : Sp := fun vs H Q _ => ∃ (v : V) (rs : List PyData) (n x y : Nat), vs = [v, .int x, .int y] ∧ At MN H v (.tuple rs) ∧ sqD n (.tuple rs) = true ∧ SeqAt.shaped (.tuple rs) = true ∧ x < n ∧ y < n ∧ Q (.bl (entD rs x y)) H
def spEntriesFit (PT : Addr) : Sp := fun vs H Q _ => ∃ (v : V) (rs : List PyData) (n : Nat), vs = [v] ∧ At MN H v (.tuple rs) ∧ sqD n (.tuple rs) = true ∧ n ≤ 60 ∧ SeqAt.shaped (.tuple rs) = true ∧ TabG H PT ∧ ∀ H', Kp MN H H' → Q (.bl (fitB n rs)) H'
def spIsSquare (PT : Addr) : Sp := fun vs H Q _ => ∃ (v : V) (d : PyData) (n : Nat), vs = [v, .int n] ∧ At MN H v d ∧ TabG H PT ∧ ∀ H', Kp MN H H' → Q (.bl (sqD n d)) H'
section
variable {P : Program} {w : World} {K : PySem.W.Frag} {mg : Str → Option Value} {base : Heap}
theorem scEntryFits : FnScope ["square", "task", "other", "entry"] ["square", "task", "other"] (defScope sEntryFits) := ⟨rfl, rfl, rfl, by decide +kernel, rfl, by decide +kernel, by decide +kernel⟩
theorem ok_entryFits {f : Addr} {fd : FuncData} (F : Fun K "entry_fits" "entry_fits" sEntryFits f fd) (B : Bl K mg) (C : Bt K w mg) : FnOk P w K mg base CX0 1 f fd ["square", "task", "other"] spEntryFits := by
  refine F.ok scEntryFits (fun vs H Q E h => ?_) (fun cdv A outer s H vs Q E hr h => ?_)
  · obtain ⟨v, rs, n, x, y, rfl, _⟩ := h
    rfl
  obtain ⟨v, rs, n, x, y, rfl, hA, hq, hS, hx, hy, q⟩ := h
  obtain ⟨ar, mr, hR⟩ := C.rel
  obtain ⟨ao, mo, o1, o2, o3⟩ := C.opp
  refine ⟨_, pss_cons (ps_set (i := 3) scEntryFits.nd rfl (Or.inl rfl) (pe_ix ix_tup (pe_ix ix_tup (pv 0) (pv 1) (fun _ _ => rfl)) (pv 2) (fun _ _ => rfl)))
    (pss_cons (ps_if (pt_cmpR op_eq (pv 1) (pv 2) (nomark _)) (pss_one (ps_ret (pe_cmpR (op_eqD hr.units) (pv 3) pe_str (nomark _)))) pss_nil)
    (pss_one (ps_ret (pe_and (pe_cmpR (op_inT (room65 hr)) (pv 3) (pe_glob rfl mr (v := .ref ar) rfl) rfl)
      (pe_one (pe_cmpR (op_eqD hr.units) (pe_ix ix_tup (pe_ix ix_tup (pv 0) (pv 2) (fun _ _ => rfl)) (pv 1) (fun _ _ => rfl)) (pe_ix ix_kdict (pe_glob rfl mo (v := .ref ao) rfl) (pv 3) (fun _ _ => rfl)) (nomark _))))))), ?_⟩
  obtain ⟨a, b, xs, ys, u, rfl, e1, e2, e3, e4, a1⟩ := cel_at hA hq hx hy
  have s1 := cel_shaped hS hq hx hy
  refine ⟨_, rfl, _, rfl, a, xs, (x : Int), .ref b, rfl, rfl, SqT.of e1, atI_nat e2, _, rfl, b, ys, (y : Int), u, rfl, rfl, SqT.of e3, atI_nat e4, ?_⟩
  refine ⟨_, rfl, _, rfl, rfl, _, rfl, ?_⟩
  refine ite2 (fun c => ?_) (fun c => ?_)
  · have c' := of_decide_eq_true c
    injection c' with c'
    have c : x = y := by omega
    refine ⟨_, rfl, celD rs x y, .str "same", a1.dp, .str _, s1, shaped_same, ?_⟩
    have e : entD rs x y = PyData.eqv (celD rs x y) (.str "same") := if_pos c
    rw [← e]
    exact q
  · have c' := of_decide_eq_false (Bool.eq_false_iff.mpr c)
    have c : ¬ x = y := fun z => c' (by rw [z])
    have e : entD rs x y = (inR (celD rs x y) && PyData.eqv (celD rs y x) (oppD (celD rs x y))) := if_neg c
    rw [e] at q
    refine ⟨_, rfl, celD rs x y, _, a1.dp, dp_rels (hR H), s1, shaped_rels, ?_⟩
    rw [if_neg Bool.false_ne_true, any_rels]
    refine ⟨_, rfl, ?_⟩
    by_cases c2 : inR (celD rs x y) = true
    · rw [c2] at q ⊢
      refine iteT ?_
      obtain ⟨a', b', xs', ys', u', ea, e1', e2', e3', e4', a1'⟩ := cel_at hA hq hy hx
      have s1' := cel_shaped hS hq hy hx
      injection ea with ea
      subst ea
      rw [e1] at e1'
      cases e1'
      refine ⟨_, rfl, _, rfl, a, xs, (y : Int), .ref b', rfl, rfl, SqT.of e1, atI_nat e2', _, rfl, b', ys', (x : Int), u', rfl, rfl, SqT.of e3', atI_nat e4', ?_⟩
      cases hc : celD rs x y with
      | str r =>
        rw [hc] at c2 q a1
        cases a1.str_of
        have hr' : r = "before" ∨ r = "beside" ∨ r = "after" := of_decide_eq_true c2
        have so : SeqAt.shaped (.str (opp r)) = true := by
          rcases hr' with z | z | z <;> rw [z] <;> decide +kernel
        have kd : KDct K w ao r (.str (opp r)) := by
          rcases hr' with z | z | z
          · rw [z]; exact o1
          · rw [z]; exact o2
          · rw [z]; exact o3
        refine ⟨_, rfl, ao, r, .str (opp r), rfl, rfl, kd, celD rs y x, .str (opp r), a1'.dp, .str _, s1', so, ?_⟩
        exact q
      | _ => rw [hc] at c2; cases c2
    · have c2' := Bool.eq_false_iff.mpr c2
      rw [c2'] at q ⊢
      exact iteF q
end
end K14

set_option Elab.async false
set_option linter.all false
set_option maxRecDepth 100000
set_option maxHeartbeats 1000000
namespace K14
open PySem L2 GxR GA KD KR KM KJ
abbrev sIsTable : Stmt := top 14
def tabB (n : Nat) (d : PyData) : Bool := sqD n d && (match d with | .tuple rs => fitB n rs | _ => false)
theorem rng_get {n i : Nat} {x : V} (h : ((rng n).map V.int)[i]? = some x) : x = .int (i : Int) ∧ i < n := by
  rw [List.getElem?_map] at h
  obtain ⟨t, ht, rfl⟩ := Option.map_eq_some_iff.mp h
  have hi := (List.getElem?_eq_some_iff.mp ht).1
  rw [rng_length] at hi
  unfold rng at ht
  rw [List.getElem?_map, List.getElem?_range hi] at ht
  cases ht
  exact ⟨rfl, hi⟩
theorem rng_vlen (n : Nat) : ((rng n).map V.int).length = n := by rw [List.length_map, rng_length]
section
variable {P : Program} {w : World} {K : PySem.W.Frag} {mg : Str → Option Value} {base : Heap}
theorem scIsSquare : FnScope ["value", "size", "row"] ["value", "size"] (defScope sIsSquare) := ⟨rfl, rfl, rfl, by decide +kernel, rfl, by decide +kernel, by decide +kernel⟩
theorem ok_isSquare {f c PT : Addr} {fd : FuncData} (F : FunT K "is_square" "is_square" sIsSquare f fd c) (TB : TabB base mg c PT) (B : Bl K mg) : FnOk P w K mg base CX0 2 f fd ["value", "size"] (spIsSquare PT) := by
  refine F.ok scIsSquare (fun vs H Q E h => ?_) (fun A outer s H vs Q E hr h => ?_)
  · obtain ⟨v, d, n, rfl, _⟩ := h
    rfl
  obtain ⟨v, d, n, rfl, hA, hT, q⟩ := h
  refine ⟨_, pss_cons (ps_if (PW.pt (pw_or (pt_not (pt_val (pe_callB call_isi rfl B.isinstance (by decide +kernel) (pa_cons (pv 0) (pa_cons (pe_bltn rfl B.tuple (by decide +kernel) (v := .ty "tuple") rfl) pa_nil)))))
      (pw_or1 (pt_cmpR op_ne (pe_callB call_len_seq rfl B.len PySem.boot_len (pa_cons (pv 0) pa_nil)) (pv 1) (nomark _)))))
      (pss_one (ps_ret pe_bl)) pss_nil)
    (pss_one (ps_ret (pe_all (own := [("row", 2)]) (te := tAndV (tCB (rIsi K) (tCons (tVar 2) (tCons (tC (.ty "tuple")) tNil))) (tOp rEq (tCB (fun xs H Q => ∃ p ys, xs = [.ref p] ∧ (SqL K H p ys ∨ SqT K H p ys) ∧ Q (.int ys.length) H) (tCons (tVar 2) tNil)) (tVar 1))) (hr : Room (0 + 1) _) rfl B.all TB rfl scIsSquare.nd (gok_by (N := ["value", "size", "row"]) (sc := defScope sIsSquare) (own := [("row", 2)]) (by decide +kernel)) (pi_tup (pv 0)) (fun _ _ _ _ _ _ => pg_name (i := 2) scIsSquare.nd rfl (Or.inl rfl))
      (fun _ _ _ _ _ _ r => pe_and (pe_callB call_isi rfl B.isinstance (by decide +kernel) (pa_cons (pv 2) (pa_cons (pe_bltn rfl B.tuple (by decide +kernel) (v := .ty "tuple") rfl) pa_nil)))
        (pe_one (pe_cmpR op_eq (pe_callB call_len_seq rfl B.len PySem.boot_len (pa_cons (pv 2) pa_nil)) (pv 1) (nomark _))))))), ?_⟩
  refine ⟨_, rfl, _, _, _, _, _, rfl, .ty _, hA.ty, kit_tup d, _, rfl, ?_⟩
  cases d with
  | tuple rs =>
    obtain ⟨a, xs, rfl, hx, hall⟩ := hA.tup_of
    have hl := hall.length
    refine iteF ?_
    refine ⟨_, rfl, a, xs, rfl, .inr (SqT.of hx), _, rfl, rfl, _, rfl, ?_⟩
    refine ite2 (fun c => ?_) (fun c => ?_)
    · have e : sqD n (.tuple rs) = false := by
        have c' : ¬ (xs.length = n) := fun z => by
          rw [z] at c
          simp at c
        show (decide (rs.length = n) && _) = false
        rw [decide_eq_false (by omega)]
        rfl
      rw [e] at q
      exact q H .refl
    · have hn : rs.length = n := by
        have c' := Bool.eq_false_iff.mpr c
        have := of_decide_eq_true (show decide (V.int (xs.length : Int) = V.int n) = true by simpa using c')
        injection this with this
        omega
      have e0 : sqD n (.tuple rs) = rs.all (lenIs n) := by
        show (decide (rs.length = n) && _) = _
        rw [decide_eq_true hn, Bool.true_and]
      rw [e0] at q
      refine ⟨_, rfl, a, rfl, ⟨_, SqT.of hx⟩, hT, fun H2 hTb => gen_tup (K := K) (a := a) (xs := xs) (fun i H' => Kp MN H H' ∧ (rs.take i).all (lenIs n) = true) ⟨Kp.tabbed hT hTb, rfl⟩ (fun i H' _ p => p.1.seqT (SqT.of hx)) (fun i x H' hi p => ?_) (fun H' p => ?_)⟩
      · obtain ⟨d', hd', ha'⟩ := hall.get hi
        have ha2 := ha'.kp p.1
        have bad : lenIs n d' = false → rs.all (lenIs n) = false := fun z => by
          rw [List.all_eq_false]
          exact ⟨d', List.mem_of_getElem? hd', by rw [z]; exact Bool.false_ne_true⟩
        have good : lenIs n d' = true → (rs.take (i + 1)).all (lenIs n) = true := fun z => by
          rw [List.take_succ, hd', List.all_append, p.2]
          show (true && (lenIs n d' && true)) = true
          rw [z]
          rfl
        refine ⟨rfl, _, rfl, _, _, _, _, _, rfl, .ty _, ha2.ty, kit_tup d', _, rfl, ?_⟩
        cases d' with
        | tuple es =>
          obtain ⟨b, ys, rfl, hy, hall2⟩ := ha2.tup_of
          have hl2 := hall2.length
          refine iteT ?_
          refine ⟨_, rfl, b, ys, rfl, .inr (SqT.of hy), _, rfl, rfl, ?_⟩
          have ed : decide (V.int (ys.length : Int) = V.int n) = lenIs n (.tuple es) := by
            show _ = decide (es.length = n)
            rw [decide_eq_decide]
            exact ⟨fun z => by injection z with z; omega, fun z => by rw [hl2, z]⟩
          refine ⟨_, rfl, ?_⟩
          rw [ed]
          refine ⟨fun z => ?_, fun z => ⟨p.1, good z⟩⟩
          have := q H' p.1
          rw [bad z] at this
          exact this
        | _ =>
          refine iteF ⟨_, rfl, fun _ => ?_, fun z => by cases z⟩
          have := q H' p.1
          rw [bad rfl] at this
          exact this
      · have e2 : rs.all (lenIs n) = true := by
          have := p.2
          rw [hl, List.take_length] at this
          exact this
        have := q H' p.1
        rw [e2] at this
        exact this
  | _ => exact iteT (q H .refl)
theorem scEntriesFit : FnScope ["square", "tasks", "task", "other"] ["square"] (defScope sEntriesFit) := ⟨rfl, rfl, rfl, by decide +kernel, rfl, by decide +kernel, by decide +kernel⟩
theorem fitB_false {n x y : Nat} {rs : List PyData} (hx : x < n) (hy : y < n) (h : entD rs x y = false) : fitB n rs = false := by
  unfold fitB
  rw [List.all_eq_false]
  refine ⟨x, List.mem_range.mpr hx, ?_⟩
  rw [Bool.not_eq_true, List.all_eq_false]
  exact ⟨y, List.mem_range.mpr hy, by rw [h]; exact Bool.false_ne_true⟩
theorem ok_entriesFit {f g c PT : Addr} {fd gd : FuncData} (F : FunT K "entries_fit" "entries_fit" sEntriesFit f fd c) (TB : TabB base mg c PT) (B : Bl K mg)
    (G : FnOk P w K mg base CX0 1 g gd ["square", "task", "other"] spEntryFits) (bG : Binds K gd ["square", "task", "other"] []) (kG : PySem.W.keepIn K (.ref g) = true) (mG : mg "entry_fits" = some (.ref g)) :
    FnOk P w K mg base CX0 3 f fd ["square"] (spEntriesFit PT) := by
  refine F.ok scEntriesFit (fun vs H Q E h => ?_) (fun A outer s H vs Q E hr h => ?_)
  · obtain ⟨v, rs, n, rfl, _⟩ := h
    rfl
  obtain ⟨v, rs, n, rfl, hA, hq, hn, hS, hT, q⟩ := h
  refine ⟨_, pss_cons (ps_set (i := 1) scEntriesFit.nd rfl (Or.inr rfl) (pe_listRg rfl rfl B.list (prg_1 rfl B.range (pe_callB call_len_seq rfl B.len PySem.boot_len (pa_cons (pv 0) pa_nil)))))
    (pss_one (ps_ret (pe_all2 (own := [("task", 2), ("other", 3)]) (vs1 := [3]) (g := gName 2) (g1 := gName 3) (wi1 := iList K (tVar 1)) (te := tCall spEntryFits [] E0 (tCons (tVar 0) (tCons (tVar 2) (tCons (tVar 3) tNil)))) (hr : Room (1 + 1) _) rfl B.all TB rfl scEntriesFit.nd (gok_by (N := ["square", "tasks", "task", "other"]) (sc := defScope sEntriesFit) (own := [("task", 2), ("other", 3)]) (by decide +kernel)) (pi_list (pv 1)) (by decide)
      (fun _ _ _ _ _ _ _ => pi_list (pv 1)) (fun _ _ _ _ _ _ => pg_name (i := 3) scEntriesFit.nd rfl (Or.inl rfl)) (by intro _ _; rfl) (fun _ _ _ _ _ _ => pg_name (i := 2) scEntriesFit.nd rfl (Or.inl rfl))
      (fun _ _ _ _ _ _ r => pe_call G r rfl mG kG bG .nil pass0 (pa_cons (pv 0) (pa_cons (pv 2) (pa_cons (pv 3) pa_nil))))))), ?_⟩
  obtain ⟨a, xs, rfl, hx, hall⟩ := hA.tup_of
  have hl := hall.length
  have hrl : rs.length = n := by
    have h' : (decide (rs.length = n) && rs.all (lenIs n)) = true := hq
    rw [Bool.and_eq_true] at h'
    exact of_decide_eq_true h'.1
  have hxl : xs.length = n := by omega
  refine ⟨_, rfl, a, xs, rfl, .inr (SqT.of hx), _, rfl, RgOk.of_le (by omega) (by omega) (by omega) (by omega), fun L hL => ?_⟩
  have eL : upd H L (.lst (rgV 0 (xs.length : Int))) L = some (.lst ((rng n).map V.int)) := by rw [upd_same, rgV_rng, hxl]
  have kL : Kp MN H (upd H L (.lst (rgV 0 (xs.length : Int)))) := Kp.new hL
  generalize upd H L (.lst (rgV 0 (xs.length : Int))) = H1 at eL kL
  refine ⟨_, rfl, L, rfl, ⟨_, SqL.of eL⟩, kL.tbl _ hT, fun H2 hTb => ?_⟩
  have k2 : Kp MN H H2 := kL.trans (Kp.tabbed (kL.tbl _ hT) hTb)
  have e2 : H2 L = some (.lst ((rng n).map V.int)) := (Kp.tabbed (M := MN) (kL.tbl _ hT) hTb).lst _ _ (fun z => z) eL
  -- all entries ahead of (i, j) fit
  refine ⟨fun i m H' => m = (n - i) * (n + 1) ∧ i ≤ n ∧ Kp MN H H' ∧ H' L = some (.lst ((rng n).map V.int)) ∧ ∀ x y, x < i → y < n → entD rs x y = true, ⟨_, rfl, Nat.zero_le _, k2, e2, fun x y h => absurd h (Nat.not_lt_zero _)⟩, ?_⟩
  rintro i m H3 ⟨rfl, hi, k3, e3, p3⟩
  by_cases hlt : i < n
  case neg =>
    have : i = n := by omega
    subst this
    refine .inl ⟨⟨_, SqL.of e3, by rw [rng_vlen]; exact Nat.le_refl _⟩, ?_⟩
    have e : fitB i rs = true := by
      unfold fitB
      rw [List.all_eq_true]
      intro x hx
      rw [List.all_eq_true]
      intro y hy
      exact p3 x y (List.mem_range.mp hx) (List.mem_range.mp hy)
    have := q H3 k3
    rw [e] at this
    exact this
  refine .inr ⟨⟨_, _, SqL.of e3, List.getElem?_eq_getElem (by rw [rng_vlen]; exact hlt)⟩, fun x H4 y4 => ?_⟩
  obtain ⟨eh, y4⟩ := y4
  subst eh
  obtain ⟨rfl, _⟩ := rng_get (y4 _ (SqL.of e3))
  refine ⟨rfl, _, rfl, L, rfl, ⟨_, SqL.of e3⟩, ?_⟩
  refine ⟨fun j k H' => k = (n - i) * (n + 1) - 1 - j ∧ j ≤ n ∧ Kp MN H H' ∧ H' L = some (.lst ((rng n).map V.int)) ∧ (∀ x y, x < i → y < n → entD rs x y = true) ∧ ∀ y, y < j → entD rs i y = true, ⟨_, rfl, Nat.zero_le _, k3, e3, p3, fun y h => absurd h (Nat.not_lt_zero _)⟩, ?_, ?_⟩
  · rintro j k H5 ⟨rfl, hj, _⟩
    have : 0 < (n - i) * (n + 1) := Nat.mul_pos (by omega) (by omega)
    omega
  rintro j k H5 ⟨rfl, hj, k5, e5, p5, r5⟩
  have big : n + 1 ≤ (n - i) * (n + 1) := Nat.le_mul_of_pos_left _ (by omega)
  by_cases hlt2 : j < n
  case neg =>
    have : j = n := by omega
    subst this
    refine .inl ⟨⟨_, SqL.of e5, by rw [rng_vlen]; exact Nat.le_refl _⟩, (j - (i + 1)) * (j + 1), ?_, rfl, hlt, k5, e5, fun x y hx hy => ?_⟩
    · have : (j - i) * (j + 1) = (j - (i + 1)) * (j + 1) + (j + 1) := by
        have : j - i = (j - (i + 1)) + 1 := by omega
        rw [this, Nat.add_mul, Nat.one_mul]
      omega
    · rcases Nat.lt_or_ge x i with z | z
      · exact p5 x y z hy
      · have : x = i := by omega
        subst this
        exact r5 y hy
  refine .inr ⟨⟨_, _, SqL.of e5, List.getElem?_eq_getElem (by rw [rng_vlen]; exact hlt2)⟩, fun y H6 y6 => ?_⟩
  obtain ⟨eh, y6⟩ := y6
  subst eh
  obtain ⟨rfl, _⟩ := rng_get (y6 _ (SqL.of e5))
  refine ⟨rfl, _, rfl, _, rfl, _, rfl, .ref a, rs, n, i, j, rfl, (At.tup hx hall).kp k5, hq, hS, hlt, hlt2, _, rfl, fun z => ?_, fun z => ⟨_, ?_, rfl, hlt2, k5, e5, p5, fun y hy => ?_⟩⟩
  · have := q _ k5
    rw [fitB_false hlt hlt2 z] at this
    exact this
  · omega
  · rcases Nat.lt_or_ge y j with z' | z'
    · exact r5 y z'
    · have : y = j := by omega
      subst this
      exact z
end
end K14

set_option Elab.async false
set_option linter.all false
set_option maxRecDepth 100000
set_option maxHeartbeats 1000000
/-! the tables' laws: a drawn table -/
namespace K14
open PySem L2 GxR GA KD KR KM KJ
abbrev sDrawn : Stmt := top 34
/-- an address that is no old list and none of the stream -/
structure FrA (H : Hp) (st c a : Addr) : Prop where
  new : ∀ zs, H a ≠ some (.lst zs)
  st : a ≠ st
  c : a ≠ c
theorem FrA.of {H H' : Hp} {st c a : Addr} (k : Kp (MS st) H H') (s : StAt st c H') (h : H' a = none) : FrA H st c a := by
  have n := s.ne h
  exact ⟨k.noLst n.1 h, n.1, n.2⟩
theorem RowsV.snoc' {H : Hp} {R p : Addr} {rows : List (Addr × List Str)} {l : List Str} (h : RowsV H R rows) (hp : H p = some (.lst (l.map V.str))) (nR : p ≠ R) (nr : ∀ r ∈ rows, r.1 ≠ p) :
    RowsV (upd H R (.lst (rows.map (fun r => V.ref r.1) ++ [.ref p]))) R (rows ++ [(p, l)]) := by
  refine ⟨by rw [upd_same, List.map_append]; rfl, ?_, fun r hr => ?_, fun r hr => ?_⟩
  · rw [List.map_append, List.nodup_append]
    refine ⟨h.nd, by simp, fun x hx y hy => ?_⟩
    obtain ⟨r, hr, rfl⟩ := List.mem_map.mp hx
    have : y = p := by simpa using hy
    rw [this]
    exact nr r hr
  · rcases List.mem_append.mp hr with z | z
    · rw [upd_ne (h.ne r z)]
      exact h.row r z
    · rw [List.mem_singleton.mp z, upd_ne nR]
      exact hp
  · rcases List.mem_append.mp hr with z | z
    · exact h.ne r z
    · rw [List.mem_singleton.mp z]; exact nR
theorem set_cell {H : Hp} {R : Addr} {rows : List (Addr × List Str)} {n x y : Nat} (s : Str) (h : RowsV H R rows) (hx : x < rows.length) (hl : ∀ r ∈ rows.map (·.2), r.length = n) (hy : y < n) :
    ∃ (a : Addr) (l : List Str) (rows' : List (Addr × List Str)), rows[x]? = some (a, l) ∧ H a = some (.lst (l.map V.str)) ∧ l.length = n ∧ RowsV (upd H a (.lst ((l.map V.str).set y (.str s)))) R rows' ∧ rows'.map (·.2) = setc (rows.map (·.2)) x y s ∧ rows'.map (·.1) = rows.map (·.1) := by
  have e : rows[x]? = some rows[x] := List.getElem?_eq_getElem hx
  obtain ⟨a, l⟩ : Addr × List Str := rows[x]
  refine ⟨rows[x].1, rows[x].2, rows.set x (rows[x].1, rows[x].2.set y s), e, h.row _ (List.getElem_mem hx), hl _ (List.mem_map.mpr ⟨_, List.getElem_mem hx, rfl⟩), ?_, ?_, ?_⟩
  · have := h.put (l' := rows[x].2.set y s) (j := x) (a := rows[x].1) (l := rows[x].2) e
    rw [List.map_set] at this
    exact this
  · rw [List.map_set]
    unfold setc
    rw [List.getD_eq_getElem?_getD, List.getElem?_map, e]
    rfl
  · rw [List.map_set]
    refine List.ext_getElem? fun i => ?_
    by_cases z : i = x
    · subst z
      rw [List.getElem?_set_self (by rw [List.length_map]; exact hx), List.getElem?_map, e]
      rfl
    · rw [List.getElem?_set_ne (Ne.symm z)]
theorem ixN_nat {i n : Nat} (h : i < n) : ixN n (i : Int) = some i := by
  unfold ixN
  rw [if_pos (by omega), if_pos (by omega)]
  rfl
/-- the pairs that are done -/
def dn (i j a b : Nat) : Prop := (a < b ∧ (a < i ∨ (a = i ∧ b < j))) ∨ (b < a ∧ (b < i ∨ (b = i ∧ a < j)))
structure Half (n i j : Nat) (RS : List (List Str)) : Prop where
  len : RS.length = n
  row : ∀ r ∈ RS, r.length = n
  same : ∀ x, x < n → cell RS x x = "same"
  kind : ∀ x y, x < n → y < n → x ≠ y → dn i j x y → (cell RS x y = "before" ∨ cell RS x y = "beside" ∨ cell RS x y = "after") ∧ cell RS y x = opp (cell RS x y)
theorem Half.any {n i j i' j' : Nat} {RS : List (List Str)} (h : Half n i j RS) (hd : ∀ a b, a < n → b < n → dn i' j' a b → dn i j a b) : Half n i' j' RS := ⟨h.len, h.row, h.same, fun x y hx hy ne d => h.kind x y hx hy ne (hd x y hx hy d)⟩
theorem Half.fit {n : Nat} {RS : List (List Str)} (h : Half n n 0 RS) : Fit n RS := by
  have d : ∀ x y, x < n → y < n → x ≠ y → dn n 0 x y := fun x y hx hy ne => by unfold dn; omega
  exact ⟨h.len, h.row, h.same, fun x y hx hy ne => (h.kind x y hx hy ne (d x y hx hy ne)).1, fun x y hx hy ne => (h.kind x y hx hy ne (d x y hx hy ne)).2⟩
theorem Half.step {n i j : Nat} {RS : List (List Str)} {s : Str} (h : Half n i j RS) (hi : i < n) (hj : j < n) (hij : i < j) (hs : s = "before" ∨ s = "beside" ∨ s = "after") : Half n i (j + 1) (setc (setc RS i j s) j i (opp s)) := by
  have l1 : (setc RS i j s).length = n := by rw [setc_len]; exact h.len
  have r1 : ∀ r ∈ setc RS i j s, r.length = n := setc_row h.row (by rw [h.len]; exact hi)
  have c2 : ∀ a b, cell (setc (setc RS i j s) j i (opp s)) a b = if a = j ∧ b = i then opp s else if a = i ∧ b = j then s else cell RS a b := fun a b => by
    rw [cell_set l1 r1 hj hi, cell_set h.len h.row hi hj]
  obtain ⟨o1, o2⟩ := opp_opp hs
  refine ⟨by rw [setc_len]; exact l1, setc_row r1 (by rw [l1]; exact hj), fun a ha => ?_, fun a b ha hb hab d => ?_⟩
  · rw [c2, if_neg (by omega), if_neg (by omega)]
    exact h.same a ha
  · rw [c2, c2]
    by_cases e1 : a = j ∧ b = i
    · rw [if_pos e1, if_neg (by omega), if_pos ⟨e1.2, e1.1⟩]
      exact ⟨o2, o1.symm⟩
    · by_cases e2 : a = i ∧ b = j
      · rw [if_neg e1, if_pos e2, if_pos ⟨e2.2, e2.1⟩]
        exact ⟨hs, rfl⟩
      · rw [if_neg e1, if_neg e2, if_neg fun z => e2 ⟨z.2, z.1⟩, if_neg fun z => e1 ⟨z.2, z.1⟩]
        refine h.kind a b ha hb hab ?_
        unfold dn at d ⊢
        omega
theorem Half.start {n : Nat} {RS : List (List Str)} (h1 : RS.length = n) (h2 : ∀ r ∈ RS, r = List.replicate n ("same" : Str)) : Half n 0 0 RS := by
  refine ⟨h1, fun r hr => by rw [h2 r hr, List.length_replicate], fun x hx => ?_, fun x y hx hy ne d => ?_⟩
  · have e : RS[x]? = some RS[x] := List.getElem?_eq_getElem (by omega)
    have e1 : RS.getD x [] = RS[x] := by rw [List.getD_eq_getElem?_getD, e]; rfl
    unfold cell
    rw [e1, h2 _ (List.getElem_mem (by omega)), List.getD_eq_getElem?_getD, List.getElem?_replicate, if_pos hx]
    rfl
  · unfold dn at d
    omega
/-- rows that may be changed, none of them old -/
structure RowsN (H0 H : Hp) (st c R : Addr) (rows : List (Addr × List Str)) : Prop where
  at_ : RowsV H R rows
  fr : ∀ a ∈ rows.map (·.1), FrA H0 st c a
  frR : FrA H0 st c R
theorem RowsN.kp {H0 H H' : Hp} {st c R : Addr} {rows : List (Addr × List Str)} (h : RowsN H0 H st c R rows) (k : Kp (MS st) H H') : RowsN H0 H' st c R rows :=
  ⟨h.at_.kp k h.frR.st fun r hr => (h.fr _ (List.mem_map.mpr ⟨r, hr, rfl⟩)).st, h.fr, h.frR⟩
def spDrawn : Sp := fun vs H Q _ => ∃ (st c : Addr) (n : Nat), vs = [.ref st, .int n] ∧ StAt st c H ∧ n ≤ 7 ∧ ∀ R rows H', RowsN H H' st c R rows → Fit n (rows.map (·.2)) → Kp (MS st) H H' → StAt st c H' → Q (.ref R) H'
section
variable {P : Program} {w : World} {K : PySem.W.Frag} {mg : Str → Option Value} {base : Heap}
theorem scDrawn : FnScope ["stream", "size", "rows", "kind", "x", "y", "relation", "row"] ["stream", "size"] (defScope sDrawn) := ⟨rfl, rfl, rfl, by decide +kernel, rfl, by decide +kernel, by decide +kernel⟩
theorem ok_drawn {f g o : Addr} {fd gd od : FuncData} (F : Fun K "_law_drawn_table" "_law_drawn_table" sDrawn f fd) (B : Bl K mg)
    (G : FnOk P w K mg base CX0 1 g gd ["stream", "many"] spNext) (bG : Binds K gd ["stream", "many"] []) (kG : PySem.W.keepIn K (.ref g) = true) (mG : mg "_law_next" = some (.ref g))
    (O : FnOk P w K mg base CX0 1 o od ["relation"] spOpp) (bO : Binds K od ["relation"] []) (kO : PySem.W.keepIn K (.ref o) = true) (mO : mg "_law_opposite" = some (.ref o)) :
    FnOk P w K mg base CX0 2 f fd ["stream", "size"] spDrawn := by
  refine F.ok scDrawn (fun vs H Q E h => ?_) (fun cdv A outer s H vs Q E hr h => ?_)
  · obtain ⟨st, c, n, rfl, _⟩ := h
    rfl
  obtain ⟨st, c, n, rfl, hst, hn, q⟩ := h
  refine ⟨_, pss_cons (ps_setLc (i := 2) (g := gName 4) (own := [("x", 4)]) (tt := tYes) (te := tLc (iRng1 (tCons (tVar 1) tNil)) (gName 5) tYes (tC (.str "same")) [5]) (by rfl) scDrawn.nd rfl rfl (sw_true rfl rfl rfl (by decide +kernel)) (pi_range1 rfl B.range (pa_cons (pv 1) pa_nil))
        (blkOk_by (own := [("x", 4)]) (N := ["stream", "size", "rows", "kind", "x", "y", "relation", "row"]) (sc := defScope sDrawn) (by decide +kernel)) (fun _ _ _ _ _ => pg_name (i := 4) scDrawn.nd rfl (Or.inl rfl)) (fun _ _ _ _ _ => pts_nil)
        (fun _ _ _ _ _ => pe_lc (own := [("y", 5)]) (g := gName 5) (tt := tYes) rfl scDrawn.nd (pi_range1 rfl B.range (pa_cons (pv 1) pa_nil)) (blkOk_by (own := [("y", 5)]) (N := ["stream", "size", "rows", "kind", "x", "y", "relation", "row"]) (by rfl))
          (fun _ _ _ _ _ => pg_name (i := 5) scDrawn.nd rfl (Or.inl rfl)) (fun _ _ _ _ _ => pts_nil) (fun _ _ _ _ _ => pe_str)))
    (pss_cons (ps_set (i := 3) scDrawn.nd rfl (Or.inl rfl) (pe_call G hr rfl mG kG bG .nil pass0 (pa_cons (pv 0) (pa_cons pe_int pa_nil))))
    (pss_cons (ps_for PassesOwn.never rfl (pi_range1 rfl B.range (pa_cons (pv 1) pa_nil)) (pg_name (i := 4) scDrawn.nd rfl (Or.inl rfl))
      (pss_one (ps_for PassesOwn.never rfl (pi_range2 rfl B.range (pa_cons (pe_op op_add (pv 4) pe_int) (pa_cons (pv 1) pa_nil))) (pg_name (i := 5) scDrawn.nd rfl (Or.inl rfl))
        (pss_cons (ps_set (i := 6) scDrawn.nd rfl (Or.inl rfl) (pe_ix ix_list (pe_lst (pa_cons pe_str (pa_cons pe_str (pa_cons pe_str pa_nil))))
          (pe_ix ix_list (pe_lst (pa_cons (pe_call G hr rfl mG kG bG .nil pass0 (pa_cons (pv 0) (pa_cons pe_int pa_nil))) (pa_cons (pe_call G hr rfl mG kG bG .nil pass0 (pa_cons (pv 0) (pa_cons pe_int pa_nil))) (pa_cons pe_int pa_nil)))) (pv 3) (fun _ _ => rfl)) (fun _ _ => rfl)))
        (pss_cons (ps_asg (pv 6) (pg_sub (pe_ix ix_list (pv 2) (pv 4) (fun _ _ => rfl)) (pv 5) set_list))
        (pss_one (ps_asg (pe_call O hr rfl mO kO bO .nil pass0 (pa_cons (pv 6) pa_nil)) (pg_sub (pe_ix ix_list (pv 2) (pv 5) (fun _ _ => rfl)) (pv 4) set_list))))))))
    (pss_one (ps_ret (pe_lc (own := [("row", 7)]) (g := gName 7) (tt := tYes) (te := tCB (fun xs H Q => ∃ p ys, xs = [.ref p] ∧ (SqL K H p ys ∨ SqT K H p ys) ∧ ∀ l, H l = none → Q (.ref l) (upd H l (.lst ys))) (tCons (tVar 7) tNil)) rfl scDrawn.nd (pi_list (pv 2))
      (blkOk_by (own := [("row", 7)]) (N := ["stream", "size", "rows", "kind", "x", "y", "relation", "row"]) (sc := defScope sDrawn) (by decide +kernel)) (fun _ _ _ _ _ => pg_name (i := 7) scDrawn.nd rfl (Or.inl rfl)) (fun _ _ _ _ _ => pts_nil)
      (fun _ _ _ _ _ => pe_callTy call_list_of rfl B.list (by decide +kernel) (pa_cons (pv 7) pa_nil))))))), ?_⟩
  refine ⟨_, rfl, _, rfl, by omega, by omega, fun R hR => ?_⟩
  have fR : FrA H st c R := FrA.of .refl hst hR
  have s0 : StAt st c (upd H R (.lst [])) := hst.new hR
  refine lc_range (lo := 0) (n := ((n : Int)).toNat) (fun i H' => ∃ rows, RowsN H H' st c R rows ∧ rows.length = i ∧ (∀ r ∈ rows, r.2 = List.replicate n ("same" : Str)) ∧ Kp (MS st) H H' ∧ StAt st c H')
    ⟨[], ⟨⟨upd_same, List.nodup_nil, fun r h => (by cases h), fun r h => (by cases h)⟩, fun a h => (by cases h), fR⟩, rfl, fun r h => (by cases h), Kp.new hR, s0⟩ (fun i H' hi p => ?_) (fun H' p => ?_)
  · obtain ⟨rows, hN, hl, hs, k, s1⟩ := p
    refine ⟨rfl, ?_⟩
    dsimp only [tYes]
    rw [if_pos rfl]
    refine ⟨_, rfl, _, rfl, by omega, by omega, fun D hD => ?_⟩
    have fD : FrA H st c D := FrA.of k s1 hD
    have nDR : D ≠ R := (ne_of_none hN.at_.at_ hD).symm
    have nDr : ∀ r ∈ rows, r.1 ≠ D := fun r m => ne_of_none (hN.at_.row r m) hD
    have sD := s1.ne hD
    refine lc_range (lo := 0) (n := ((n : Int)).toNat) (fun j H2 => RowsV H2 R rows ∧ H2 D = some (.lst ((List.replicate j ("same" : Str)).map V.str)) ∧ Kp (MS st) H H2 ∧ StAt st c H2)
      ⟨hN.at_.kp (M := MS st) (Kp.new hD) fR.st fun r m => (hN.fr _ (List.mem_map.mpr ⟨r, m, rfl⟩)).st, upd_same, k.trans (Kp.new hD), s1.new hD⟩ (fun j H2 hj p => ?_) (fun H2 p => ?_)
    · obtain ⟨r2, e2, k2, s2⟩ := p
      refine ⟨rfl, ?_⟩
      dsimp only [tYes]
      rw [if_pos rfl]
      refine ⟨_, e2, small1000 (by rw [List.length_map, List.length_replicate]; omega), ?_⟩
      have r3 : RowsV (upd H2 D (.lst ((List.replicate j ("same" : Str)).map V.str ++ [.str "same"]))) R rows := ⟨by rw [upd_ne nDR.symm]; exact r2.at_, r2.nd, fun r m => by rw [upd_ne (nDr r m)]; exact r2.row r m, r2.ne⟩
      refine ⟨r3, ?_, k2.putFresh fD.new e2, s2.put sD⟩
      rw [upd_same, List.replicate_succ', List.map_append]
      rfl
    · obtain ⟨r2, e2, k2, s2⟩ := p
      rw [show ((n : Int)).toNat = n from rfl] at e2
      refine ⟨_, r2.at_, small1000 (by rw [List.length_map]; omega), rows ++ [(D, List.replicate n ("same" : Str))], ⟨r2.snoc' e2 nDR nDr, fun a ha => ?_, fR⟩, by rw [List.length_append, hl]; rfl, fun r hr' => ?_, k2.putFresh fR.new r2.at_, s2.put ⟨fR.st, fR.c⟩⟩
      · rw [List.map_append] at ha
        rcases List.mem_append.mp ha with z | z
        · exact hN.fr a z
        · have : a = D := by simpa using z
          rw [this]
          exact fD
      · rcases List.mem_append.mp hr' with z | z
        · exact hs r z
        · rw [List.mem_singleton.mp z]
  obtain ⟨rows0, hN0, hl0, hs0, k0, s0'⟩ := p
  have H0 : Half n 0 0 (rows0.map (·.2)) := Half.start (by rw [List.length_map, hl0]; rfl) fun r hr' => by
    obtain ⟨x, hx, rfl⟩ := List.mem_map.mp hr'
    exact hs0 x hx
  refine ⟨_, rfl, st, c, 3, rfl, s0', by decide, by decide, fun kd H1 kd0 kd1 k1 s1 => ?_⟩
  refine ⟨_, rfl, _, rfl, by omega, by omega, ?_⟩
  refine for_range (lo := 0) (n := ((n : Int)).toNat) (fun i σ H' => ∃ x4 x5 x6 rows, σ = [some (.ref st), some (.int n), some (.ref R), some (.int kd), x4, x5, x6, none] ∧ RowsN H H' st c R rows ∧ Half n i 0 (rows.map (·.2)) ∧ Kp (MS st) H H' ∧ StAt st c H')
    ⟨none, none, none, rows0, rfl, hN0.kp k1, H0, k0.trans k1, s1⟩ (fun i σ H' hi p => ?_) (fun σ H' p => ?_)
  · obtain ⟨x4, x5, x6, rows, rfl, hN, hH, k, s2⟩ := p
    have hin : i < n := by omega
    refine ⟨_, rfl, _, 1, rfl, rfl, _, rfl, _, _, rfl, ⟨by omega, by omega, by omega, by omega⟩, ?_⟩
    refine for_range (lo := 0 + (i : Int) + 1) (n := ((n : Int) - (0 + (i : Int) + 1)).toNat) (fun j σ H2 => ∃ x5 x6 rows, σ = [some (.ref st), some (.int n), some (.ref R), some (.int kd), some (.int (0 + (i : Int))), x5, x6, none] ∧ RowsN H H2 st c R rows ∧ Half n i (i + 1 + j) (rows.map (·.2)) ∧ Kp (MS st) H H2 ∧ StAt st c H2)
      ⟨x5, x6, rows, rfl, hN, hH.any (fun a b _ _ d => by unfold dn at d ⊢; omega), k, s2⟩ (fun j σ H2 hj p => ?_) (fun σ H2 p => ?_)
    · obtain ⟨x5, x6, rows, rfl, hN, hH, k, s2⟩ := p
      have hjn : i + 1 + j < n := by omega
      generalize hA : (0 + (i : Int)) = A
      generalize hC : (A + 1 + (j : Int)) = C
      have eA : A = ((i : Nat) : Int) := by omega
      have eC : C = ((i + 1 + j : Nat) : Int) := by omega
      subst eA
      subst eC
      refine ⟨(by show 3 ≤ sizeLine; decide), fun W hW => ?_⟩
      have kW : Kp (MS st) H2 (upd H2 W (.lst [.str "before", .str "beside", .str "after"])) := Kp.new hW
      refine ⟨_, rfl, st, c, 3, rfl, s2.new hW, by decide, by decide, fun d1 H3 d10 d11 k3 s3 => ?_⟩
      refine ⟨_, rfl, st, c, 2, rfl, s3, by decide, by decide, fun d2 H4 d20 d21 k4 s4 => ?_⟩
      refine ⟨(by show 3 ≤ sizeLine; decide), fun U hU => ?_⟩
      have kU : Kp (MS st) H4 (upd H4 U (.lst [.int d1, .int d2, .int 0])) := Kp.new hU
      have sW := s2.ne hW
      have eW := (k3.trans (k4.trans kU)).lst W _ sW.1 upd_same
      obtain ⟨d, ed, dd0, dd1⟩ : ∃ d : Int, atI ([.int d1, .int d2, .int 0] : List V) kd = some (.int d) ∧ 0 ≤ d ∧ d < 3 := by
        have : kd = 0 ∨ kd = 1 ∨ kd = 2 := by omega
        rcases this with z | z | z
        · exact ⟨d1, by rw [z]; rfl, d10, d11⟩
        · exact ⟨d2, by rw [z]; rfl, d20, by omega⟩
        · exact ⟨0, by rw [z]; rfl, by decide, by decide⟩
      obtain ⟨r, er, hr3⟩ : ∃ r : Str, atI ([.str "before", .str "beside", .str "after"] : List V) d = some (.str r) ∧ (r = "before" ∨ r = "beside" ∨ r = "after") := by
        have : d = 0 ∨ d = 1 ∨ d = 2 := by omega
        rcases this with z | z | z
        · exact ⟨"before", by rw [z]; rfl, .inl rfl⟩
        · exact ⟨"beside", by rw [z]; rfl, .inr (.inl rfl)⟩
        · exact ⟨"after", by rw [z]; rfl, .inr (.inr rfl)⟩
      refine ⟨_, rfl, U, _, kd, _, rfl, rfl, SqL.of upd_same, ed, W, _, d, _, rfl, rfl, SqL.of eW, er, ?_⟩
      have kk := kW.trans (k3.trans (k4.trans kU))
      have s5 := s4.new (o := .lst [.int d1, .int d2, .int 0]) hU
      generalize upd H4 U (.lst [.int d1, .int d2, .int 0]) = H5 at kk s5 ⊢
      have hN5 := hN.kp kk
      have k5 := k.trans kk
      have hlr : rows.length = n := by have := hH.len; rw [List.length_map] at this; exact this
      obtain ⟨a, l, rows1, g1, g2, g3, g4, g5, g6⟩ := set_cell (x := i) (y := i + 1 + j) r hN5.at_ (by omega) hH.row hjn
      have fa : FrA H st c a := hN.fr a (List.mem_map.mpr ⟨_, List.mem_of_getElem? g1, rfl⟩)
      refine ⟨_, rfl, _, rfl, _, rfl, R, _, _, _, rfl, rfl, SqL.of hN5.at_.at_, atI_nat (j := i) (by rw [List.getElem?_map, g1]; rfl), _, rfl, a, _, _, i + 1 + j, rfl, rfl, g2, ixN_nat (by rw [List.length_map, g3]; omega), ?_⟩
      have nRa : R ≠ a := (hN5.at_.ne _ (List.mem_of_getElem? g1)).symm
      have k6 := k5.putFresh (ys := (l.map V.str).set (i + 1 + j) (.str r)) fa.new g2
      have s6 := s5.put (xs := (l.map V.str).set (i + 1 + j) (.str r)) ⟨fa.st, fa.c⟩
      have hN6 : RowsN H (upd H5 a (.lst ((l.map V.str).set (i + 1 + j) (.str r)))) st c R rows1 := ⟨g4, fun b hb => hN.fr b (by rw [← g6]; exact hb), fR⟩
      generalize upd H5 a (.lst ((l.map V.str).set (i + 1 + j) (.str r))) = H6 at k6 s6 hN6 ⊢
      refine ⟨_, rfl, r, rfl, fun H7 k7 => ?_⟩
      have hN7 := hN6.kp k7.any
      have k8 := k6.trans k7.any
      have s7 := s6.kp k7
      have hl1 : rows1.length = n := by
        have := congrArg List.length g6
        rw [List.length_map, List.length_map] at this
        omega
      have hrow1 : ∀ x ∈ rows1.map (·.2), x.length = n := by
        rw [g5]
        exact setc_row hH.row (by rw [hH.len]; exact hin)
      obtain ⟨a', l', rows2, f1, f2, f3, f4, f5, f6⟩ := set_cell (x := i + 1 + j) (y := i) (opp r) hN7.at_ (by omega) hrow1 hin
      have fa' : FrA H st c a' := hN7.fr a' (List.mem_map.mpr ⟨_, List.mem_of_getElem? f1, rfl⟩)
      refine ⟨_, rfl, _, rfl, R, _, _, _, rfl, rfl, SqL.of hN7.at_.at_, atI_nat (j := i + 1 + j) (by rw [List.getElem?_map, f1]; rfl), _, rfl, a', _, _, i, rfl, rfl, f2, ixN_nat (by rw [List.length_map, f3]; omega), ?_⟩
      refine ⟨_, _, rows2, rfl, ⟨f4, fun b hb => hN7.fr b (by rw [← f6]; exact hb), fR⟩, ?_, k8.putFresh fa'.new f2, s7.put ⟨fa'.st, fa'.c⟩⟩
      rw [f5, g5]
      exact hH.step hin hjn (by omega) hr3
    · obtain ⟨x5, x6, rows, rfl, hN, hH, k, s2⟩ := p
      refine ⟨_, x5, x6, rows, rfl, hN, hH.any (fun a b _ _ d => by unfold dn at d ⊢; omega), k, s2⟩
  · obtain ⟨x4, x5, x6, rows, rfl, hN, hH, k, s2⟩ := p
    have hF : Fit n (rows.map (·.2)) := Half.fit (by exact hH)
    have hlr : rows.length = n := by have := hF.len; rw [List.length_map] at this; exact this
    refine ⟨_, rfl, R, rfl, ⟨_, SqL.of hN.at_.at_⟩, fun D hD => ?_⟩
    have fD : FrA H st c D := FrA.of k s2 hD
    have nDR : D ≠ R := (ne_of_none hN.at_.at_ hD).symm
    have nDr : ∀ r ∈ rows, r.1 ≠ D := fun r m => ne_of_none (hN.at_.row r m) hD
    refine lc_list (K := K) (a := R) (xs := rows.map fun r => V.ref r.1) (fun i H' => ∃ new, RowsN H H' st c D new ∧ RowsN H H' st c R rows ∧ new.map (·.2) = (rows.map (·.2)).take i ∧ Kp (MS st) H H' ∧ StAt st c H' ∧ R ≠ D)
      ⟨[], ⟨⟨upd_same, List.nodup_nil, fun r h => (by cases h), fun r h => (by cases h)⟩, fun a h => (by cases h), fD⟩, hN.kp (Kp.new hD), rfl, k.trans (Kp.new hD), s2.new hD, nDR.symm⟩ (fun i H' _ p => SqL.of (by obtain ⟨_, _, h, _⟩ := p; exact h.at_.at_)) (fun i x H' hi p => ?_) (fun H' p => ?_)
    · obtain ⟨new, h1, h2, h3, h4, h5, h6⟩ := p
      rw [List.getElem?_map] at hi
      obtain ⟨rw', hrw, rfl⟩ := Option.map_eq_some_iff.mp hi
      have e := h2.at_.row rw' (List.mem_of_getElem? hrw)
      refine ⟨rfl, ?_⟩
      dsimp only [tYes]
      rw [if_pos rfl]
      refine ⟨_, rfl, rw'.1, _, rfl, .inl (SqL.of e), fun p hp => ?_⟩
      have kp : Kp (MS st) H' (upd H' p (.lst (rw'.2.map V.str))) := Kp.new hp
      have fp : FrA H st c p := FrA.of h4 h5 hp
      have h1' := h1.kp kp
      have h2' := h2.kp kp
      have hnl : new.length ≤ 7 := by
        have := congrArg List.length h3
        rw [List.length_map, List.length_take, List.length_map] at this
        omega
      have npD : p ≠ D := (ne_of_none h1.at_.at_ hp).symm
      have hsn := h1'.at_.snoc' (l := rw'.2) upd_same npD fun r m => ne_of_none (h1.at_.row r m) hp
      have nDrow : ∀ r ∈ rows, r.1 ≠ D := nDr
      refine ⟨_, h1'.at_.at_, small1000 (by rw [List.length_map]; omega), new ++ [(p, rw'.2)], ⟨hsn, fun b hb => ?_, fD⟩, ?_, ?_, (h4.trans kp).putFresh fD.new h1'.at_.at_, (h5.new hp).put ⟨fD.st, fD.c⟩, h6⟩
      · rw [List.map_append] at hb
        rcases List.mem_append.mp hb with z | z
        · exact h1.fr b z
        · have : b = p := by simpa using z
          rw [this]
          exact fp
      · exact ⟨⟨by rw [upd_ne h6]; exact h2'.at_.at_, h2.at_.nd, fun r m => by rw [upd_ne (nDrow r m)]; exact h2'.at_.row r m, h2.at_.ne⟩, h2.fr, fR⟩
      · rw [List.map_append, h3, List.take_succ, List.getElem?_map, hrw]
        rfl
    · obtain ⟨new, h1, h2, h3, h4, h5, h6⟩ := p
      have e : new.map (·.2) = rows.map (·.2) := by
        rw [h3, List.take_of_length_le]
        rw [List.length_map, List.length_map]
        exact Nat.le_refl _
      refine q D new H' h1 (by rw [e]; exact hF) h4 h5
end
end K14

set_option Elab.async false
set_option linter.all false
set_option maxRecDepth 100000
set_option maxHeartbeats 1000000
namespace K14
open PySem L2 GxR GA KD KR KM KJ
abbrev sSome : Stmt := top 35
theorem atl_strs {M : Addr → Prop} {H : Hp} : ∀ {l : List Str} {xs : List V}, AtL M H xs (l.map PyData.str) → xs = l.map V.str
  | [], _, h => by cases h; rfl
  | i :: r, _, h => by
    cases h with
    | cons a t => rw [a.str_of, atl_strs t]; rfl
def spSome : Sp := fun vs H Q _ => ∃ (st c : Addr) (n : Nat), vs = [.ref st, .int n] ∧ StAt st c H ∧ 1 ≤ n ∧ n ≤ 7 ∧ ∀ v RS H', At (MS st) H' v (tabD RS) → Fit n RS → Kp (MS st) H H' → StAt st c H' → Q v H'
section
variable {P : Program} {w : World} {K : PySem.W.Frag} {mg : Str → Option Value} {base : Heap}
theorem scSome : FnScope ["stream", "size", "rows", "turn", "x", "y", "relation", "row"] ["stream", "size"] (defScope sSome) := ⟨rfl, rfl, rfl, by decide +kernel, rfl, by decide +kernel, by decide +kernel⟩
theorem ok_some {f g o d p t : Addr} {fd gd od dd pd td : FuncData} (F : Fun K "_law_some_table" "_law_some_table" sSome f fd) (B : Bl K mg)
    (G : FnOk P w K mg base CX0 1 g gd ["stream", "many"] spNext) (bG : Binds K gd ["stream", "many"] []) (kG : PySem.W.keepIn K (.ref g) = true) (mG : mg "_law_next" = some (.ref g))
    (O : FnOk P w K mg base CX0 1 o od ["relation"] spOpp) (bO : Binds K od ["relation"] []) (kO : PySem.W.keepIn K (.ref o) = true) (mO : mg "_law_opposite" = some (.ref o))
    (D : FnOk P w K mg base CX0 2 d dd ["stream", "size"] spDrawn) (bD : Binds K dd ["stream", "size"] []) (kD : PySem.W.keepIn K (.ref d) = true) (mD : mg "_law_drawn_table" = some (.ref d))
    (Pl : FnOk P w K mg base CX0 3 p pd ["stream", "size"] spLPlan) (bP : Binds K pd ["stream", "size"] []) (kP : PySem.W.keepIn K (.ref p) = true) (mP : mg "_law_plan" = some (.ref p))
    (T : FnOk P w K mg base CX0 17 t td ["plan"] spTable) (bT : Binds K td ["plan"] []) (kT : PySem.W.keepIn K (.ref t) = true) (mT : mg "_law_table" = some (.ref t)) :
    FnOk P w K mg base CX0 18 f fd ["stream", "size"] spSome := by
  refine F.ok scSome (fun vs H Q E h => ?_) (fun cdv A outer s H vs Q E hr h => ?_)
  · obtain ⟨st, c, n, rfl, _⟩ := h
    rfl
  obtain ⟨st, c, n, rfl, hst, hn1, hn, q⟩ := h
  have r1 : Room 1 _ := hr.mono (by decide)
  have r2 : Room 2 _ := hr.mono (by decide)
  have r3 : Room 3 _ := hr.mono (by decide)
  refine ⟨_, pss_cons (ps_set (i := 2) scSome.nd rfl (Or.inl rfl) (pe_call D r2 rfl mD kD bD .nil pass0 (pa_cons (pv 0) (pa_cons (pv 1) pa_nil))))
    (C8.pss_cut (ps_if (pt_cmpR op_gt (pe_call G r1 rfl mG kG bG .nil pass0 (pa_cons (pv 0) (pa_cons pe_int pa_nil))) pe_int (nomark _))
      (pss_cons (ps_setLc (i := 2) (g := gName 7) (own := [("row", 7)]) (tt := tYes) (te := tCB (fun xs H Q => ∃ p ys, xs = [.ref p] ∧ (SqL K H p ys ∨ SqT K H p ys) ∧ ∀ l, H l = none → Q (.ref l) (upd H l (.lst ys))) (tCons (tVar 7) tNil)) (by rfl) scSome.nd rfl rfl (sw_true rfl rfl rfl (by decide +kernel))
          (pi_tup (pe_call T hr rfl mT kT bT .nil pass0 (pa_cons (pe_call Pl r3 rfl mP kP bP .nil pass0 (pa_cons (pv 0) (pa_cons (pv 1) pa_nil))) pa_nil)))
          (blkOk_by (own := [("row", 7)]) (N := ["stream", "size", "rows", "turn", "x", "y", "relation", "row"]) (sc := defScope sSome) (by decide +kernel)) (fun _ _ _ _ _ => pg_name (i := 7) scSome.nd rfl (Or.inl rfl)) (fun _ _ _ _ _ => pts_nil)
          (fun _ _ _ _ _ => pe_callTy call_list_of rfl B.list (by decide +kernel) (pa_cons (pv 7) pa_nil)))
      (pss_one (ps_for PassesOwn.never rfl (pi_range1 rfl B.range (pa_cons (pe_call G r1 rfl mG kG bG .nil pass0 (pa_cons (pv 0) (pa_cons pe_int pa_nil))) pa_nil)) (pg_name (i := 3) scSome.nd rfl (Or.inl rfl))
        (pss_cons (ps_set (i := 4) scSome.nd rfl (Or.inl rfl) (pe_call G r1 rfl mG kG bG .nil pass0 (pa_cons (pv 0) (pa_cons (pv 1) pa_nil))))
        (pss_cons (ps_set (i := 5) scSome.nd rfl (Or.inl rfl) (pe_call G r1 rfl mG kG bG .nil pass0 (pa_cons (pv 0) (pa_cons (pv 1) pa_nil))))
        (pss_one (ps_if (pt_cmpR op_ne (pv 4) (pv 5) (nomark _))
          (pss_cons (ps_set (i := 6) scSome.nd rfl (Or.inl rfl) (pe_ix ix_list (pe_lst (pa_cons pe_str (pa_cons pe_str (pa_cons pe_str pa_nil)))) (pe_call G r1 rfl mG kG bG .nil pass0 (pa_cons (pv 0) (pa_cons pe_int pa_nil))) (fun _ _ => rfl)))
          (pss_cons (ps_asg (pv 6) (pg_sub (pe_ix ix_list (pv 2) (pv 4) (fun _ _ => rfl)) (pv 5) set_list))
          (pss_one (ps_asg (pe_call O r1 rfl mO kO bO .nil pass0 (pa_cons (pv 6) pa_nil)) (pg_sub (pe_ix ix_list (pv 2) (pv 5) (fun _ _ => rfl)) (pv 4) set_list)))))
          pss_nil))))))) pss_nil)
    (pss_one (ps_ret (pe_callTy call_tuple_of rfl B.tuple (by decide +kernel) (pa_cons
      (pe_lc (own := [("row", 7)]) (g := gName 7) (tt := tYes) (te := tCB (fun xs H Q => ∃ p ys, xs = [.ref p] ∧ (SqL K H p ys ∧ (∀ t, H t = none → Q (.ref t) (upd H t (.tup ys))) ∨ SqT K H p ys ∧ Q (.ref p) H)) (tCons (tVar 7) tNil)) rfl scSome.nd (pi_list (pv 2))
        (blkOk_by (own := [("row", 7)]) (N := ["stream", "size", "rows", "turn", "x", "y", "relation", "row"]) (sc := defScope sSome) (by decide +kernel)) (fun _ _ _ _ _ => pg_name (i := 7) scSome.nd rfl (Or.inl rfl)) (fun _ _ _ _ _ => pts_nil)
        (fun _ _ _ _ _ => pe_callTy call_tuple_of rfl B.tuple (by decide +kernel) (pa_cons (pv 7) pa_nil))) pa_nil))))), ?_⟩
  refine ⟨_, rfl, _, rfl, st, c, n, rfl, hst, hn, fun R0 rows0 H1 hN0 hF0 k1 s1 => ?_⟩
  -- behind the if: rows that are a table
  refine ⟨fun σ' H' => ∃ R rows x3 x4 x5 x6, σ' = [some (.ref st), some (.int n), some (.ref R), x3, x4, x5, x6, none] ∧ RowsN H H' st c R rows ∧ Fit n (rows.map (·.2)) ∧ Kp (MS st) H H' ∧ StAt st c H', ?_, ?_⟩
  · refine ⟨_, rfl, st, c, 3, rfl, s1, by decide, by decide, fun d0 H2 d00 d01 k2 s2 => ⟨_, _, rfl, rfl, _, rfl, ?_⟩⟩
    have k12 := k1.trans k2
    refine ite2 (fun cc => ?_) (fun cc => ⟨R0, rows0, none, none, none, none, rfl, hN0.kp k2, hF0, k12, s2⟩)
    refine ⟨_, rfl, _, rfl, st, c, n, rfl, s2, hn1, hn, fun vp dp H3 ap wp hp k3 s3 => ?_⟩
    refine ⟨vp, dp, n, rfl, ap.mn, wp, hp, hn, fun vt RS H4 at_ hF _ k4 => ?_⟩
    obtain ⟨a, xs, rfl, hx, hall⟩ := at_.tup_of
    have s4 := s3.kp k4
    have k14 := k12.trans (k3.trans k4.any)
    refine ⟨a, rfl, ⟨_, SqT.of hx⟩, fun R hR => ?_⟩
    have fR : FrA H st c R := FrA.of k14 s4 hR
    refine lc_tup (K := K) (a := a) (xs := xs) (fun i H' => ∃ rows, RowsN H H' st c R rows ∧ rows.map (·.2) = RS.take i ∧ Kp (MS st) H4 H' ∧ StAt st c H')
      ⟨[], ⟨⟨upd_same, List.nodup_nil, fun r h => (by cases h), fun r h => (by cases h)⟩, fun a h => (by cases h), fR⟩, rfl, Kp.new hR, s4.new hR⟩ (fun i H' _ p => SqT.of (by obtain ⟨_, _, _, k, _⟩ := p; exact k.tup _ _ hx)) (fun i x H' hi p => ?_) (fun H' p => ?_)
    · obtain ⟨rows, h1, h3, h4, h5⟩ := p
      obtain ⟨dr, hdr, har⟩ := hall.get hi
      rw [List.getElem?_map] at hdr
      obtain ⟨l, hl, rfl⟩ := Option.map_eq_some_iff.mp hdr
      obtain ⟨b, ys, rfl, hb, hb2⟩ := har.tup_of
      have ey := atl_strs hb2
      subst ey
      refine ⟨rfl, ?_⟩
      dsimp only [tYes]
      rw [if_pos rfl]
      refine ⟨_, rfl, b, _, rfl, .inr (SqT.of (h4.tup _ _ hb)), fun p hp => ?_⟩
      have kp : Kp (MS st) H' (upd H' p (.lst (l.map V.str))) := Kp.new hp
      have fp : FrA H st c p := FrA.of (k14.trans h4) h5 hp
      have h1' := h1.kp kp
      have hnl : rows.length ≤ 7 := by
        have := congrArg List.length h3
        have := hF.len
        rw [List.length_map, List.length_take] at *
        omega
      have npR : p ≠ R := (ne_of_none h1.at_.at_ hp).symm
      have hsn := h1'.at_.snoc' (l := l) upd_same npR fun r m => ne_of_none (h1.at_.row r m) hp
      refine ⟨_, h1'.at_.at_, small1000 (by rw [List.length_map]; omega), rows ++ [(p, l)], ⟨hsn, fun b hb => ?_, fR⟩, ?_, ?_, (h5.new hp).put ⟨fR.st, fR.c⟩⟩
      · rw [List.map_append] at hb
        rcases List.mem_append.mp hb with z | z
        · exact h1.fr b z
        · have : b = p := by simpa using z
          rw [this]
          exact fp
      · rw [List.map_append, h3, List.take_succ, hl]
        rfl
      · exact (h4.trans kp).putFresh (fun zs z => by rw [hR] at z; cases z) h1'.at_.at_
    obtain ⟨rows1, hN1, he1, k5, s5⟩ := p
    have hF1 : Fit n (rows1.map (·.2)) := by
      rw [he1, hall.length, List.length_map, List.take_length]
      exact hF
    have k15 := k14.trans k5
    refine ⟨_, rfl, st, c, 3, rfl, s5, by decide, by decide, fun d1 H6 d10 d11 k6 s6 => ?_⟩
    refine ⟨_, rfl, by omega, by omega, ?_⟩
    refine for_range (lo := 0) (n := (d1).toNat) (fun i σ H' => ∃ x3 x4 x5 x6 rows, σ = [some (.ref st), some (.int n), some (.ref R), x3, x4, x5, x6, none] ∧ RowsN H H' st c R rows ∧ Fit n (rows.map (·.2)) ∧ Kp (MS st) H H' ∧ StAt st c H')
      ⟨none, none, none, none, rows1, rfl, hN1.kp k6, hF1, k15.trans k6, s6⟩ (fun i σ H' hi p => ?_) (fun σ H' p => ?_)
    · obtain ⟨x3, x4, x5, x6, rows, rfl, hN, hF, k, s7⟩ := p
      refine ⟨_, rfl, _, rfl, st, c, n, rfl, s7, by omega, by omega, fun x H8 x0 x1 k8 s8 => ?_⟩
      refine ⟨_, rfl, _, rfl, st, c, n, rfl, s8, by omega, by omega, fun y H9 y0 y1 k9 s9 => ?_⟩
      have k79 := k8.trans k9
      have hN9 := hN.kp k79
      refine ⟨_, rfl, _, rfl, rfl, _, rfl, ?_⟩
      refine ite2 (fun ne => ?_) (fun ne => ⟨_, _, _, x6, rows, rfl, hN9, hF, k.trans k79, s9⟩)
      obtain ⟨i1, rfl⟩ : ∃ i1 : Nat, x = (i1 : Int) := ⟨x.toNat, by omega⟩
      obtain ⟨j1, rfl⟩ : ∃ j1 : Nat, y = (j1 : Int) := ⟨y.toNat, by omega⟩
      have hi1 : i1 < n := by omega
      have hj1 : j1 < n := by omega
      have nij : i1 ≠ j1 := fun z => by
        rw [z] at ne
        simp at ne
      refine ⟨(by show 3 ≤ sizeLine; decide), fun W hW => ?_⟩
      have kW : Kp (MS st) H9 (upd H9 W (.lst [.str "before", .str "beside", .str "after"])) := Kp.new hW
      refine ⟨_, rfl, st, c, 3, rfl, s9.new hW, by decide, by decide, fun d H10 dd0 dd1 k10 s10 => ?_⟩
      have sW := s9.ne hW
      have eW := k10.lst W _ sW.1 upd_same
      obtain ⟨r, er, hr3⟩ : ∃ r : Str, atI ([.str "before", .str "beside", .str "after"] : List V) d = some (.str r) ∧ (r = "before" ∨ r = "beside" ∨ r = "after") := by
        have : d = 0 ∨ d = 1 ∨ d = 2 := by omega
        rcases this with z | z | z
        · exact ⟨"before", by rw [z]; rfl, .inl rfl⟩
        · exact ⟨"beside", by rw [z]; rfl, .inr (.inl rfl)⟩
        · exact ⟨"after", by rw [z]; rfl, .inr (.inr rfl)⟩
      refine ⟨W, _, d, _, rfl, rfl, SqL.of eW, er, ?_⟩
      have kk := kW.trans k10
      have hNa := hN9.kp kk
      have ka := (k.trans k79).trans kk
      have hlr : rows.length = n := by have := hF.len; rw [List.length_map] at this; exact this
      obtain ⟨b, l, rows2, g1, g2, g3, g4, g5, g6⟩ := set_cell (x := i1) (y := j1) r hNa.at_ (by omega) hF.row hj1
      have fb : FrA H st c b := hN.fr b (List.mem_map.mpr ⟨_, List.mem_of_getElem? g1, rfl⟩)
      refine ⟨_, rfl, _, rfl, _, rfl, R, _, _, _, rfl, rfl, SqL.of hNa.at_.at_, atI_nat (j := i1) (by rw [List.getElem?_map, g1]; rfl), _, rfl, b, _, _, j1, rfl, rfl, g2, ixN_nat (by rw [List.length_map, g3]; omega), ?_⟩
      have kb := ka.putFresh (ys := (l.map V.str).set j1 (.str r)) fb.new g2
      have sb := s10.put (xs := (l.map V.str).set j1 (.str r)) ⟨fb.st, fb.c⟩
      have hNb : RowsN H (upd H10 b (.lst ((l.map V.str).set j1 (.str r)))) st c R rows2 := ⟨g4, fun z hz => hN.fr z (by rw [← g6]; exact hz), fR⟩
      generalize upd H10 b (.lst ((l.map V.str).set j1 (.str r))) = Hb at kb sb hNb ⊢
      refine ⟨_, rfl, r, rfl, fun Hc kc => ?_⟩
      have hNc := hNb.kp kc.any
      have kc' := kb.trans kc.any
      have sc := sb.kp kc
      have hl1 : rows2.length = n := by
        have := congrArg List.length g6
        rw [List.length_map, List.length_map] at this
        omega
      have hrow1 : ∀ x ∈ rows2.map (·.2), x.length = n := by
        rw [g5]
        exact setc_row hF.row (by rw [hF.len]; exact hi1)
      obtain ⟨b', l', rows3, f1, f2, f3, f4, f5, f6⟩ := set_cell (x := j1) (y := i1) (opp r) hNc.at_ (by omega) hrow1 hi1
      have fb' : FrA H st c b' := hNc.fr b' (List.mem_map.mpr ⟨_, List.mem_of_getElem? f1, rfl⟩)
      refine ⟨_, rfl, _, rfl, R, _, _, _, rfl, rfl, SqL.of hNc.at_.at_, atI_nat (j := j1) (by rw [List.getElem?_map, f1]; rfl), _, rfl, b', _, _, i1, rfl, rfl, f2, ixN_nat (by rw [List.length_map, f3]; omega), ?_⟩
      refine ⟨_, _, _, _, rows3, rfl, ⟨f4, fun z hz => hNc.fr z (by rw [← f6]; exact hz), fR⟩, ?_, kc'.putFresh fb'.new f2, sc.put ⟨fb'.st, fb'.c⟩⟩
      rw [f5, g5]
      exact fit_set hF hi1 hj1 nij hr3
    · obtain ⟨x3, x4, x5, x6, rows, rfl, hN, hF, k, s7⟩ := p
      exact ⟨R, rows, x3, x4, x5, x6, rfl, hN, hF, k, s7⟩
  · rintro σ' H2 ⟨R, rows, x3, x4, x5, x6, rfl, hN, hF, k, s2⟩
    have hlr : rows.length = n := by have := hF.len; rw [List.length_map] at this; exact this
    refine ⟨_, rfl, R, rfl, ⟨_, SqL.of hN.at_.at_⟩, fun D hD => ?_⟩
    have fD : FrA H st c D := FrA.of k s2 hD
    have nDR : D ≠ R := (ne_of_none hN.at_.at_ hD).symm
    have nDr : ∀ r ∈ rows, r.1 ≠ D := fun r m => ne_of_none (hN.at_.row r m) hD
    refine lc_list (K := K) (a := R) (xs := rows.map fun r => V.ref r.1) (fun i H' => ∃ vs, H' D = some (.lst vs) ∧ AtL (MS st) H' vs (((rows.map (·.2)).take i).map rowD) ∧ RowsN H H' st c R rows ∧ Kp (MS st) H H' ∧ StAt st c H')
      ⟨[], upd_same, .nil, hN.kp (Kp.new hD), k.trans (Kp.new hD), s2.new hD⟩ (fun i H' _ p => SqL.of (by obtain ⟨_, _, _, h, _⟩ := p; exact h.at_.at_)) (fun i x H' hi p => ?_) (fun H' p => ?_)
    · obtain ⟨vs, e1, h1, h2, h4, h5⟩ := p
      rw [List.getElem?_map] at hi
      obtain ⟨rw', hrw, rfl⟩ := Option.map_eq_some_iff.mp hi
      have e := h2.at_.row rw' (List.mem_of_getElem? hrw)
      refine ⟨rfl, ?_⟩
      dsimp only [tYes]
      rw [if_pos rfl]
      refine ⟨_, rfl, rw'.1, _, rfl, .inl ⟨SqL.of e, fun p hp => ?_⟩⟩
      have kp : Kp (MS st) H' (upd H' p (.tup (rw'.2.map V.str))) := Kp.new hp
      have nDp : D ≠ p := ne_of_none e1 hp
      have e1' : upd H' p (.tup (rw'.2.map V.str)) D = some (.lst vs) := by rw [upd_ne nDp]; exact e1
      have hvl : vs.length ≤ 7 := by
        have := h1.length
        rw [List.length_map, List.length_take, List.length_map] at this
        omega
      have tk : ∀ cc ts, upd H' p (.tup (rw'.2.map V.str)) cc = some (.tup ts) → upd (upd H' p (.tup (rw'.2.map V.str))) D (.lst (vs ++ [.ref p])) cc = some (.tup ts) := fun cc ts z => by
        rw [upd_ne]
        · exact z
        · intro y
          rw [y, e1'] at z
          cases z
      have h2' := h2.kp kp
      refine ⟨_, e1', small1000 (by omega), vs ++ [.ref p], upd_same, ?_, ⟨⟨by rw [upd_ne nDR.symm]; exact h2'.at_.at_, h2.at_.nd, fun r m => by rw [upd_ne (nDr r m)]; exact h2'.at_.row r m, h2.at_.ne⟩, h2.fr, h2.frR⟩, (h4.trans kp).putFresh fD.new e1', (h5.new hp).put ⟨fD.st, fD.c⟩⟩
      rw [List.take_succ, List.getElem?_map, hrw, List.map_append]
      exact AtL.append (AtL.put (M := MS st) tk (h1.kp kp) (noLL_rows _)) (AtL.one (.tup (by rw [upd_ne nDp.symm, upd_same]) (AtL.strs rw'.2)))
    · obtain ⟨vs, e1, h1, h2, h4, h5⟩ := p
      rw [List.length_map, List.take_of_length_le (by rw [List.length_map]; exact Nat.le_refl _)] at h1
      refine ⟨D, vs, rfl, .inl ⟨SqL.of e1, fun t ht => ?_⟩⟩
      exact q _ (rows.map (·.2)) _ (.tup upd_same (h1.kp (Kp.new ht))) hF (h4.trans (Kp.new ht)) (h5.new ht)
end
end K14

set_option Elab.async false
set_option linter.all false
set_option maxRecDepth 100000
set_option maxHeartbeats 1000000
/-! set(t) of a tuple of whole numbers, as a value -/
namespace KR
open PySem PySem.Spec PyProof.Rows L2 GxR GA KD
section
variable {X : Cx}
def rSetT (K : PySem.W.Frag) (w : World) : List V → Hp → VK → Prop := fun xs H Q => ∃ (p : Addr) (ns : List Int), xs = [V.ref p] ∧ SqT K H p (ns.map V.int) ∧ ns.length ≤ 1000 ∧ ∀ (q : Addr) (c : Nat), c ≤ ns.length → H q = none → Q (.ref q) (upd H q (SetO w q (fun j => decide (j ∈ ns)) c))
theorem cr_setT (hc : X.calm = true) : CallR X (.type "set") (rSetT X.K X.w) := by
  intro pins s σ H xs us Q I r h
  obtain ⟨p, ns, rfl, hs, hl, q⟩ := h
  obtain ⟨its, rv, pt, hz⟩ := I.tuple hs
  rw [Vals.ref1 r]
  have hi : IntsAre its.toArray.toList ns := ints_of_vals rv
  refine call_set_tupI ns (I.ok.hd hc) (show s.heap.IsTuple p its.toArray from pt) hi (by unfold scanBound; omega) fun h' tk c R1 hcn k => ?_
  have hn : H s.heap.objs.size = none := I.hok.fresh (Nat.le_refl _)
  exact ⟨.ref _, upd H s.heap.objs.size (SetO X.w s.heap.objs.size (fun j => decide (j ∈ ns)) c), I.laid (t' := tk) k (Nat.le_refl _) (setO_new R1), rfl, q _ c hcn hn⟩
end
end KR

set_option Elab.async false
set_option linter.all false
set_option maxRecDepth 100000
set_option maxHeartbeats 1000000
/-! k14: what the program calls a bundle -/
namespace K14
open PySem L2 GxR GA KD KR KM KJ
abbrev sIsTask : Stmt := top 10
abbrev sAreTasks : Stmt := top 11
abbrev sIsSet : Stmt := top 12
abbrev sIsBundle : Stmt := top 15
abbrev sCheckedT : Stmt := top 19
abbrev sAlike : Stmt := top 20
def spReq : Sp := fun vs H Q _ => ∃ name : Str, vs = [.bl true, .str name] ∧ Q .non H
theorem any_ints : ∀ (l : List Int) (a : Int), ((l.map PyData.int).any fun z => PyData.eqv z (.int a)) = decide (a ∈ l) := by
  intro l a
  induction l with
  | nil => simp
  | cons i r ih =>
    rw [List.map_cons, List.any_cons, ih, Bool.eq_iff_iff, Bool.or_eq_true, decide_eq_true_eq, decide_eq_true_eq, List.mem_cons]
    have e : (PyData.eqv (.int i) (.int a) = true) ↔ a = i := by
      show (i == a) = true ↔ a = i
      rw [beq_iff_eq]
      exact eq_comm
    rw [e]
theorem shaped_tints (l : List Int) : SeqAt.shaped (.tuple (l.map PyData.int)) = true := by
  have h := shaped_ints l
  have h' : (PyData.canLay0 (.list (l.map PyData.int)) && decide (PyData.depth (.list (l.map PyData.int)) ≤ 64)) = true := h
  show (PyData.canLay0 (.tuple (l.map PyData.int)) && decide (PyData.depth (.tuple (l.map PyData.int)) ≤ 64)) = true
  simp only [PyData.canLay0, PyData.depth] at h' ⊢
  exact h'
/-- an ascending tuple of tasks -/
structure Asc (n : Nat) (ns : List Int) : Prop where
  up : ns.Pairwise (· < ·)
  rg : ∀ k ∈ ns, 0 ≤ k ∧ k < n
theorem Asc.nodup {n : Nat} {ns : List Int} (h : Asc n ns) : ns.Nodup := h.up.imp fun z e => by omega
theorem asc_len : ∀ (l : List Int) (lo hi : Int), l.Pairwise (· < ·) → (∀ k ∈ l, lo ≤ k ∧ k < hi) → l.length ≤ (hi - lo).toNat
  | [], _, _, _, _ => Nat.zero_le _
  | a :: r, lo, hi, h, g => by
    rw [List.pairwise_cons] at h
    have ih := asc_len r (a + 1) hi h.2 fun k hk => ⟨by have := h.1 k hk; omega, (g k (List.mem_cons_of_mem _ hk)).2⟩
    have := g a List.mem_cons_self
    simp only [List.length_cons]
    omega
theorem Asc.len {n : Nat} {ns : List Int} (h : Asc n ns) : ns.length ≤ n := by
  have := asc_len ns 0 n h.up h.rg
  omega
theorem asc_eq : ∀ {a b : List Int}, a.Pairwise (· < ·) → b.Pairwise (· < ·) → (∀ k, k ∈ a ↔ k ∈ b) → a = b
  | [], [], _, _, _ => rfl
  | [], y :: s, _, _, h => absurd ((h y).mpr List.mem_cons_self) (by simp)
  | x :: r, [], _, _, h => absurd ((h x).mp List.mem_cons_self) (by simp)
  | x :: r, y :: s, ha, hb, h => by
    rw [List.pairwise_cons] at ha hb
    have e : x = y := by
      rcases List.mem_cons.mp ((h x).mp List.mem_cons_self) with z | z
      · exact z
      · rcases List.mem_cons.mp ((h y).mpr List.mem_cons_self) with z' | z'
        · exact z'.symm
        · have h1 := hb.1 x z
          have h2 := ha.1 y z'
          omega
    subst e
    rw [asc_eq ha.2 hb.2 fun k => ⟨fun z => ?_, fun z => ?_⟩]
    · rcases List.mem_cons.mp ((h k).mp (List.mem_cons_of_mem _ z)) with y | y
      · have := ha.1 k z
        omega
      · exact y
    · rcases List.mem_cons.mp ((h k).mpr (List.mem_cons_of_mem _ z)) with y | y
      · have := hb.1 k z
        omega
      · exact y
def spIsSet (PT : Addr) : Sp := fun vs H Q _ => ∃ (v : V) (ns : List Int) (n : Nat), vs = [v, .int n] ∧ At MN H v (.tuple (ns.map PyData.int)) ∧ Asc n ns ∧ n ≤ 60 ∧ TabG H PT ∧ ∀ H', Kp MN H H' → Q (.bl true) H'
section
variable {P : Program} {w : World} {K : PySem.W.Frag} {mg : Str → Option Value} {base : Heap}
theorem scIsTask : FnScope ["value", "many"] ["value", "many"] (defScope sIsTask) := ⟨rfl, rfl, rfl, by decide +kernel, rfl, by decide +kernel, by decide +kernel⟩
theorem ok_isTask {f g : Addr} {fd gd : FuncData} (F : Fun K "is_index" "is_index" sIsTask f fd) (B : Bl K mg) (G : FnOk P w K mg base CX0 1 g gd ["value"] spIsInt) (bG : Binds K gd ["value"] []) (kG : PySem.W.keepIn K (.ref g) = true) (mG : mg "is_integer" = some (.ref g)) :
    FnOk P w K mg base CX0 2 f fd ["value", "many"] spIsTask := by
  refine F.ok scIsTask (fun vs H Q E h => ?_) (fun cdv A outer s H vs Q E hr h => ?_)
  · obtain ⟨v, d, n, rfl, _⟩ := h
    rfl
  obtain ⟨v, d, n, rfl, hA, q⟩ := h
  refine ⟨_, pss_one (ps_ret (pe_and (pe_call G hr rfl mG kG bG .nil pass0 (pa_cons (pv 0) pa_nil))
    (pe_one (pe_chain op_le op_lt pe_int (pv 0) (pv 1))))), ?_⟩
  refine ⟨_, rfl, v, d, rfl, hA, _, rfl, ?_⟩
  cases d with
  | int i =>
    cases hA.int_of
    refine iteT ?_
    refine ⟨_, rfl, _, _, rfl, rfl, _, rfl, ?_⟩
    refine ite2 (fun c => ?_) (fun c => ?_)
    · refine ⟨_, rfl, _, _, rfl, rfl, ?_⟩
      have c' : 0 ≤ i := of_decide_eq_true c
      have e : decide (i < n) = isTk n (.int i) := by show decide (i < n) = decide (0 ≤ i ∧ i < n); rw [decide_eq_decide]; omega
      rw [← e] at q
      exact q
    · have c' : ¬ 0 ≤ i := of_decide_eq_false (Bool.eq_false_iff.mpr c)
      have e : false = isTk n (.int i) := by show false = decide (0 ≤ i ∧ i < n); rw [decide_eq_false]; omega
      rw [← e] at q
      exact q
  | _ => exact iteF q
theorem scAreTasks : FnScope ["value", "many", "item"] ["value", "many"] (defScope sAreTasks) := ⟨rfl, rfl, rfl, by decide +kernel, rfl, by decide +kernel, by decide +kernel⟩
theorem ok_areTasks {f g c PT : Addr} {fd gd : FuncData} (F : FunT K "are_indexes" "are_indexes" sAreTasks f fd c) (TB : TabB base mg c PT) (B : Bl K mg) (G : FnOk P w K mg base CX0 2 g gd ["value", "many"] spIsTask) (bG : Binds K gd ["value", "many"] []) (kG : PySem.W.keepIn K (.ref g) = true) (mG : mg "is_index" = some (.ref g)) :
    FnOk P w K mg base CX0 4 f fd ["value", "many"] (spAreTasks PT) := by
  refine F.ok scAreTasks (fun vs H Q E h => ?_) (fun A outer s H vs Q E hr h => ?_)
  · obtain ⟨v, d, n, rfl, _⟩ := h
    rfl
  obtain ⟨v, d, n, rfl, hA, hT, q⟩ := h
  refine ⟨_, pss_one (ps_ret (pe_and (pe_callB call_isi rfl B.isinstance (by decide +kernel) (pa_cons (pv 0) (pa_cons (pe_bltn rfl B.tuple (by decide +kernel) (v := .ty "tuple") rfl) pa_nil)))
    (pe_one (pe_all (own := [("item", 2)]) (hr : Room (2 + 1) _) rfl B.all TB rfl scAreTasks.nd (gok_by (N := ["value", "many", "item"]) (sc := defScope sAreTasks) (own := [("item", 2)]) (by decide +kernel)) (pi_tup (pv 0)) (fun _ _ _ _ _ _ => pg_name (i := 2) scAreTasks.nd rfl (Or.inl rfl))
      (fun _ _ _ _ _ _ r => pe_call G r rfl mG kG bG .nil pass0 (pa_cons (pv 2) (pa_cons (pv 1) pa_nil))))))), ?_⟩
  refine ⟨_, rfl, _, _, _, _, _, rfl, .ty _, hA.ty, kit_tup d, _, rfl, ?_⟩
  cases d with
  | tuple ds =>
    obtain ⟨a, xs, rfl, hx, hall⟩ := hA.tup_of
    have hl := hall.length
    refine iteT ?_
    refine ⟨_, rfl, a, rfl, ⟨_, SqT.of hx⟩, hT, fun H2 hTb => gen_tup (K := K) (a := a) (xs := xs) (fun i H' => Kp MN H H' ∧ (ds.take i).all (isTk n) = true) ⟨Kp.tabbed hT hTb, rfl⟩ (fun i H' _ p => p.1.seqT (SqT.of hx)) (fun i x H' hi p => ?_) (fun H' p => ?_)⟩
    · obtain ⟨d', hd', ha'⟩ := hall.get hi
      refine ⟨rfl, _, rfl, _, rfl, x, d', n, rfl, ha'.kp p.1, _, rfl, fun e => ?_, fun e => ⟨p.1, ?_⟩⟩
      · have e2 : areTk n (.tuple ds) = false := by
          show ds.all (isTk n) = false
          rw [List.all_eq_false]
          exact ⟨d', List.mem_of_getElem? hd', by rw [e]; exact Bool.false_ne_true⟩
        have := q H' p.1
        rw [e2] at this
        exact this
      · rw [List.take_succ, hd', List.all_append, p.2]
        show (true && (isTk n d' && true)) = true
        rw [e]
        rfl
    · have e2 : areTk n (.tuple ds) = true := by
        have := p.2
        rw [hl, List.take_length] at this
        exact this
      have := q H' p.1
      rw [e2] at this
      exact this
  | _ => exact iteF (q H .refl)


theorem tk_all {n : Int} {ns : List Int} (h : ∀ k ∈ ns, 0 ≤ k ∧ k < n) : areTk n (.tuple (ns.map PyData.int)) = true := by
  show (ns.map PyData.int).all (isTk n) = true
  rw [List.all_eq_true]
  intro d hd
  obtain ⟨k, hk, rfl⟩ := List.mem_map.mp hd
  exact decide_eq_true (h k hk)
theorem scIsSet : FnScope ["value", "many"] ["value", "many"] (defScope sIsSet) := ⟨rfl, rfl, rfl, by decide +kernel, rfl, by decide +kernel, by decide +kernel⟩
theorem ok_isSet {f g PT : Addr} {fd gd : FuncData} (F : Fun K "is_set" "is_set" sIsSet f fd) (B : Bl K mg) (mS : mg "set" = none) (G : FnOk P w K mg base CX0 4 g gd ["value", "many"] (spAreTasks PT)) (bG : Binds K gd ["value", "many"] []) (kG : PySem.W.keepIn K (.ref g) = true) (mG : mg "are_indexes" = some (.ref g)) :
    FnOk P w K mg base CX0 5 f fd ["value", "many"] (spIsSet PT) := by
  refine F.ok scIsSet (fun vs H Q E h => ?_) (fun cdv A outer s H vs Q E hr h => ?_)
  · obtain ⟨v, ns, n, rfl, _⟩ := h
    rfl
  obtain ⟨v, ns, n, rfl, hA, hns, hn, hT, q⟩ := h
  refine ⟨_, pss_one (ps_ret (pe_and (pe_call G hr rfl mG kG bG .nil pass0 (pa_cons (pv 0) (pa_cons (pv 1) pa_nil)))
    (pe_one (pe_cmpR (op_eqD hr.units) (pe_callTy call_list_of rfl B.list (by decide +kernel) (pa_cons (pv 0) pa_nil)) (pe_callB (cr_sortedSet rfl) rfl B.sorted (by decide +kernel) (pa_cons (pe_callTy (cr_setT rfl) rfl mS (by decide +kernel) (pa_cons (pv 0) pa_nil)) pa_nil)) (nomark _))))), ?_⟩
  refine ⟨_, rfl, _, rfl, v, _, n, rfl, hA, hT, fun H1 k1 => ⟨_, rfl, ?_⟩⟩
  rw [tk_all hns.rg]
  refine iteT ?_
  obtain ⟨a, xs, rfl, hx, hall⟩ := hA.tup_of
  have exs := atl_ints hall
  subst exs
  have hl := hns.len
  have hx1 := k1.tup _ _ hx
  refine ⟨_, rfl, a, _, rfl, .inr (SqT.of hx1), fun L hL => ?_⟩
  have kL : Kp MN H1 (upd H1 L (.lst (ns.map V.int))) := Kp.new hL
  refine ⟨_, rfl, a, ns, rfl, SqT.of (kL.tup _ _ hx1), by omega, fun S c hc hS => ?_⟩
  have nLS : L ≠ S := ne_of_none upd_same hS
  refine ⟨S, _, c, rfl, upd_same, by omega, fun ms p h1 h2 h3 hp => ?_⟩
  have e : ms = ns := asc_eq h1 hns.up fun k => by rw [h2 k, decide_eq_true_eq]
  subst e
  have nLp : L ≠ p := ne_of_none (show upd (upd H1 L (.lst (ms.map V.int))) S _ L = some (.lst (ms.map V.int)) by rw [upd_ne nLS, upd_same]) hp
  refine ⟨.list (ms.map PyData.int), .list (ms.map PyData.int), .lst (SqL.of (by rw [upd_ne nLp, upd_ne nLS, upd_same])) (AtL.dp (AtL.ints (M := MN) ms)), .lst (SqL.of upd_same) (AtL.dp (AtL.ints (M := MN) ms)), shaped_ints _, shaped_ints _, ?_⟩
  rw [eqv_ints, decide_eq_true rfl]
  exact q _ (k1.trans (kL.trans ((Kp.new hS).trans (Kp.new hp))))
end
end K14

set_option Elab.async false
set_option linter.all false
set_option maxRecDepth 100000
set_option maxHeartbeats 1000000
namespace K14
open PySem L2 GxR GA KD KR KM KJ
theorem tab_lenIs (RS : List (List Str)) (n : Nat) (h : ∀ r ∈ RS, r.length = n) : (RS.map rowD).all (lenIs n) = true := by
  rw [List.all_eq_true]
  intro d hd
  obtain ⟨r, hr, rfl⟩ := List.mem_map.mp hd
  show decide ((r.map PyData.str).length = n) = true
  rw [List.length_map]
  exact decide_eq_true (h r hr)
theorem tab_sq {n : Nat} {RS : List (List Str)} (h : Fit n RS) : sqD n (tabD RS) = true := by
  show (decide ((RS.map rowD).length = n) && (RS.map rowD).all (lenIs n)) = true
  rw [tab_lenIs RS n h.row, List.length_map, decide_eq_true h.len]
  rfl
theorem tab_cel {n : Nat} {RS : List (List Str)} (h : Fit n RS) {x y : Nat} (hx : x < n) (hy : y < n) : celD (RS.map rowD) x y = .str (cell RS x y) := by
  obtain ⟨r, h1, h2⟩ := cell_at h.len h.row hx hy
  unfold celD
  rw [List.getD_eq_getElem?_getD, List.getElem?_map, h1]
  show (r.map PyData.str).getD y .none = _
  rw [List.getD_eq_getElem?_getD, List.getElem?_map, h2]
  rfl
theorem eqv_str (a b : Str) : PyData.eqv (.str a) (.str b) = decide (a = b) := by
  show (a == b) = decide (a = b)
  rw [Bool.eq_iff_iff, beq_iff_eq, decide_eq_true_eq]
theorem tab_fit {n : Nat} {RS : List (List Str)} (h : Fit n RS) : fitB n (RS.map rowD) = true := by
  unfold fitB
  rw [List.all_eq_true]
  intro x hx
  rw [List.all_eq_true]
  intro y hy
  have hx := List.mem_range.mp hx
  have hy := List.mem_range.mp hy
  unfold entD
  rw [tab_cel h hx hy, tab_cel h hy hx]
  by_cases c : x = y
  · rw [if_pos c, eqv_str, decide_eq_true]
    rw [c]
    exact h.same y hy
  · rw [if_neg c]
    have k := h.kind x y hx hy c
    show (isRel (cell RS x y) && PyData.eqv (.str (cell RS y x)) (.str (opp (cell RS x y)))) = true
    rw [eqv_str, h.opp x y hx hy c, decide_eq_true rfl, Bool.and_true]
    exact decide_eq_true k
theorem tab_ok {n : Nat} {RS : List (List Str)} (h : Fit n RS) : tabB n (tabD RS) = true := by
  show (sqD n (tabD RS) && fitB n (RS.map rowD)) = true
  rw [tab_sq h, tab_fit h]
  rfl
theorem cell_ok {s : Str} (h : s = "same" ∨ s = "before" ∨ s = "beside" ∨ s = "after") : PyData.strOk s = true := by
  rcases h with z | z | z | z <;> rw [z] <;> decide +kernel
theorem Fit.any {n : Nat} {RS : List (List Str)} (h : Fit n RS) {x y : Nat} (hx : x < n) (hy : y < n) : cell RS x y = "same" ∨ cell RS x y = "before" ∨ cell RS x y = "beside" ∨ cell RS x y = "after" := by
  by_cases c : x = y
  · exact .inl (by rw [c]; exact h.same y hy)
  · exact .inr (h.kind x y hx hy c)
theorem Fit.mem {n : Nat} {RS : List (List Str)} (h : Fit n RS) {r : List Str} (hr : r ∈ RS) {s : Str} (hs : s ∈ r) : s = "same" ∨ s = "before" ∨ s = "beside" ∨ s = "after" := by
  obtain ⟨x, hx, rfl⟩ := List.getElem_of_mem hr
  obtain ⟨y, hy, rfl⟩ := List.getElem_of_mem hs
  have h1 : x < n := by have := h.len; omega
  have h2 : y < n := by have := h.row _ hr; omega
  have e : cell RS x y = (RS[x])[y] := by
    unfold cell
    rw [List.getD_eq_getElem?_getD, List.getD_eq_getElem?_getD, List.getElem?_eq_getElem hx]
    show ((RS[x])[y]?).getD "" = _
    rw [List.getElem?_eq_getElem hy]
    rfl
  rw [← e]
  exact h.any h1 h2
theorem strs_lay : ∀ r : List Str, (∀ s ∈ r, PyData.strOk s = true) → PyData.canLayAll0 (r.map PyData.str) = true
  | [], _ => by simp [PyData.canLayAll0]
  | s :: r, h => by simp [PyData.canLayAll0, PyData.canLay0, h s List.mem_cons_self, strs_lay r fun x hx => h x (List.mem_cons_of_mem _ hx)]
theorem strs_depth : ∀ r : List Str, PyData.depthAll (r.map PyData.str) ≤ 0
  | [] => by simp [PyData.depthAll]
  | s :: r => by have := strs_depth r; simp only [List.map_cons, PyData.depthAll, PyData.depth]; omega
theorem tab_shaped {n : Nat} {RS : List (List Str)} (h : Fit n RS) : SeqAt.shaped (tabD RS) = true := by
  have h1 : ∀ RS' : List (List Str), (∀ r ∈ RS', ∀ s ∈ r, PyData.strOk s = true) → PyData.canLayAll0 (RS'.map rowD) = true ∧ PyData.depthAll (RS'.map rowD) ≤ 1 := by
    intro RS'
    induction RS' with
    | nil => intro _; simp [PyData.canLayAll0, PyData.depthAll]
    | cons r t ih =>
      intro g
      obtain ⟨a, b⟩ := ih fun x hx => g x (List.mem_cons_of_mem _ hx)
      have d := strs_depth r
      refine ⟨by simp [PyData.canLayAll0, rowD, PyData.canLay0, strs_lay r (g r List.mem_cons_self), a], ?_⟩
      simp only [List.map_cons, PyData.depthAll, rowD, PyData.depth]
      omega
  obtain ⟨a, b⟩ := h1 RS fun r hr s hs => cell_ok (h.mem hr hs)
  show (PyData.canLay0 (tabD RS) && decide (PyData.depth (tabD RS) ≤ 64)) = true
  rw [Bool.and_eq_true]
  refine ⟨by simp only [tabD, PyData.canLay0]; exact a, decide_eq_true ?_⟩
  simp only [tabD, PyData.depth]
  omega
def spIsTableR (P1 P2 : Addr) : Sp := fun vs H Q _ => ∃ (v : V) (d : PyData) (n : Nat), vs = [v, .int n] ∧ 1 ≤ n ∧ n ≤ 7 ∧ At MN H v d ∧ SeqAt.shaped d = true ∧ TabG H P1 ∧ TabG H P2 ∧ ∀ H', Kp MN H H' → Q (.bl (tabB n d)) H'
def spCheckedT (P1 P2 : Addr) : Sp := fun vs H Q _ => ∃ (v : V) (RS : List (List Str)) (n : Nat), vs = [v] ∧ 1 ≤ n ∧ n ≤ 7 ∧ At MN H v (tabD RS) ∧ Fit n RS ∧ TabG H P1 ∧ TabG H P2 ∧ ∀ H', Kp MN H H' → Q (.int n) H'
section
variable {P : Program} {w : World} {K : PySem.W.Frag} {mg : Str → Option Value} {base : Heap}
theorem ps_not {X : Cx} {st : Stmt} : PS X st (fun _ _ _ => False) := ⟨fun _ _ _ _ _ _ h => h.elim⟩
theorem scRequire : FnScope ["holds", "name"] ["holds", "name"] (defScope sRequire) := ⟨rfl, rfl, rfl, by decide +kernel, rfl, by decide +kernel, by decide +kernel⟩
theorem ok_require {f : Addr} {fd : FuncData} (F : Fun K "require" "require" sRequire f fd) : FnOk P w K mg base CX0 1 f fd ["holds", "name"] spReq := by
  refine F.ok scRequire (fun vs H Q E h => ?_) (fun cdv A outer s H vs Q E hr h => ?_)
  · obtain ⟨nm, rfl, _⟩ := h
    rfl
  obtain ⟨nm, rfl, q⟩ := h
  refine ⟨_, pss_one (ps_if (pt_not (pt_val (pv 0))) (pss_one ps_not) pss_nil), ?_⟩
  refine ⟨_, rfl, _, rfl, ?_⟩
  exact iteF q
theorem scIsTable : FnScope ["value", "size"] ["value", "size"] (defScope sIsTable) := ⟨rfl, rfl, rfl, by decide +kernel, rfl, by decide +kernel, by decide +kernel⟩
theorem ok_isTable {f r z q' e P1 P2 : Addr} {fd rd zd qd ed : FuncData} (F : Fun K "is_table" "is_table" sIsTable f fd)
    (R : FnOk P w K mg base CX0 1 r rd ["holds", "name"] spReq) (bR : Binds K rd ["holds", "name"] []) (kR : PySem.W.keepIn K (.ref r) = true) (mR : mg "require" = some (.ref r))
    (Z : FnOk P w K mg base CX0 2 z zd ["value"] spIsSize) (bZ : Binds K zd ["value"] []) (kZ : PySem.W.keepIn K (.ref z) = true) (mZ : mg "is_size" = some (.ref z))
    (S : FnOk P w K mg base CX0 2 q' qd ["value", "size"] (spIsSquare P1)) (bS : Binds K qd ["value", "size"] []) (kS : PySem.W.keepIn K (.ref q') = true) (mS : mg "is_square" = some (.ref q'))
    (EF : FnOk P w K mg base CX0 3 e ed ["square"] (spEntriesFit P2)) (bE : Binds K ed ["square"] []) (kE : PySem.W.keepIn K (.ref e) = true) (mE : mg "entries_fit" = some (.ref e)) :
    FnOk P w K mg base CX0 4 f fd ["value", "size"] (spIsTableR P1 P2) := by
  refine F.ok scIsTable (fun vs H Q E h => ?_) (fun cdv A outer s H vs Q E hr h => ?_)
  · obtain ⟨v, d, n, rfl, _⟩ := h
    rfl
  obtain ⟨v, d, n, rfl, n1, n7, hA, hS, t1, t2, q⟩ := h
  refine ⟨_, pss_cons (ps_expr (pe_call R (hr.mono (by decide)) rfl mR kR bR .nil pass0 (pa_cons (pe_call Z (hr.mono (by decide)) rfl mZ kZ bZ .nil pass0 (pa_cons (pv 1) pa_nil)) (pa_cons pe_str pa_nil))))
    (pss_one (ps_ret (pe_and (pe_call S (hr.mono (by decide)) rfl mS kS bS .nil pass0 (pa_cons (pv 0) (pa_cons (pv 1) pa_nil))) (pe_one (pe_call EF hr rfl mE kE bE .nil pass0 (pa_cons (pv 0) pa_nil)))))), ?_⟩
  have e1 : isSz (.int (n : Int)) = true := decide_eq_true ⟨by omega, by omega⟩
  refine ⟨_, rfl, .int n, .int n, rfl, .int _, ?_⟩
  rw [e1]
  refine ⟨"size", rfl, ?_⟩
  refine ⟨_, rfl, _, rfl, v, d, n, rfl, hA, t1, fun H1 k1 => ⟨_, rfl, ?_⟩⟩
  by_cases c : sqD n d = true
  · rw [c]
    refine iteT ?_
    cases d with
    | tuple rs =>
      refine ⟨_, rfl, v, rs, n, rfl, hA.kp k1, c, by omega, hS, k1.tbl _ t2, fun H2 k2 => ?_⟩
      have e : tabB n (.tuple rs) = fitB n rs := by
        show (sqD n (.tuple rs) && fitB n rs) = _
        rw [c]
        rfl
      rw [← e]
      exact q _ (k1.trans k2)
    | _ => cases c
  · have c' := Bool.eq_false_iff.mpr c
    rw [c']
    refine iteF ?_
    have e : tabB n d = false := by
      unfold tabB
      rw [c']
      rfl
    rw [← e]
    exact q _ k1
theorem scCheckedT : FnScope ["table"] ["table"] (defScope sCheckedT) := ⟨rfl, rfl, rfl, by decide +kernel, rfl, by decide +kernel, by decide +kernel⟩
theorem ok_checkedT {f r z t P1 P2 : Addr} {fd rd zd td : FuncData} (F : Fun K "checked_table_size" "checked_table_size" sCheckedT f fd) (B : Bl K mg)
    (R : FnOk P w K mg base CX0 1 r rd ["holds", "name"] spReq) (bR : Binds K rd ["holds", "name"] []) (kR : PySem.W.keepIn K (.ref r) = true) (mR : mg "require" = some (.ref r))
    (Z : FnOk P w K mg base CX0 2 z zd ["value"] spIsSize) (bZ : Binds K zd ["value"] []) (kZ : PySem.W.keepIn K (.ref z) = true) (mZ : mg "is_size" = some (.ref z))
    (T : FnOk P w K mg base CX0 4 t td ["value", "size"] (spIsTableR P1 P2)) (bT : Binds K td ["value", "size"] []) (kT : PySem.W.keepIn K (.ref t) = true) (mT : mg "is_table" = some (.ref t)) :
    FnOk P w K mg base CX0 5 f fd ["table"] (spCheckedT P1 P2) := by
  refine F.ok scCheckedT (fun vs H Q E h => ?_) (fun cdv A outer s H vs Q E hr h => ?_)
  · obtain ⟨v, RS, n, rfl, _⟩ := h
    rfl
  obtain ⟨v, RS, n, rfl, n1, n7, hA, hF, t1, t2, q⟩ := h
  have r1 : Room 1 _ := hr.mono (by decide)
  refine ⟨_, pss_cons (ps_expr (pe_call R r1 rfl mR kR bR .nil pass0 (pa_cons (pe_and (pe_callB call_isi rfl B.isinstance (by decide +kernel) (pa_cons (pv 0) (pa_cons (pe_bltn rfl B.tuple (by decide +kernel) (v := .ty "tuple") rfl) pa_nil)))
      (pe_one (pe_call Z (hr.mono (by decide)) rfl mZ kZ bZ .nil pass0 (pa_cons (pe_callB call_len_seq rfl B.len PySem.boot_len (pa_cons (pv 0) pa_nil)) pa_nil)))) (pa_cons pe_str pa_nil))))
    (pss_cons (ps_expr (pe_call R r1 rfl mR kR bR .nil pass0 (pa_cons (pe_call T hr rfl mT kT bT .nil pass0 (pa_cons (pv 0) (pa_cons (pe_callB call_len_seq rfl B.len PySem.boot_len (pa_cons (pv 0) pa_nil)) pa_nil))) (pa_cons pe_str pa_nil))))
    (pss_one (ps_ret (pe_callB call_len_seq rfl B.len PySem.boot_len (pa_cons (pv 0) pa_nil))))), ?_⟩
  have hA' := hA
  obtain ⟨a, xs, rfl, hx, hall⟩ := hA.tup_of
  have hl := hall.length
  rw [List.length_map, hF.len] at hl
  have e1 : isSz (.int (xs.length : Int)) = true := decide_eq_true ⟨by omega, by omega⟩
  refine ⟨_, rfl, _, _, _, _, _, rfl, .ty _, hA'.ty, kit_tup _, _, rfl, ?_⟩
  refine iteT ?_
  refine ⟨_, rfl, a, xs, rfl, .inr (SqT.of hx), .int xs.length, .int xs.length, rfl, .int _, ?_⟩
  rw [e1]
  refine ⟨"table", rfl, ?_⟩
  refine ⟨_, rfl, _, rfl, a, xs, rfl, .inr (SqT.of hx), .ref a, tabD RS, n, by rw [hl]; rfl, n1, n7, hA', tab_shaped hF, t1, t2, fun H1 k1 => ?_⟩
  rw [tab_ok hF]
  refine ⟨"table", rfl, ?_⟩
  refine ⟨_, rfl, a, xs, rfl, .inr (SqT.of (k1.tup _ _ hx)), ?_⟩
  rw [hl]
  exact q H1 k1
end
end K14

set_option Elab.async false
set_option linter.all false
set_option maxRecDepth 100000
set_option maxHeartbeats 1000000
namespace K14
open PySem L2 GxR GA KD KR KM KJ
/-- a row has one entry for all the tasks -/
def alike (r : List Str) (ns : List Int) : Bool := ns.all fun k => decide (r.getD k.toNat "" = r.getD (ns.headD 0).toNat "")
def others (n : Nat) (ns : List Int) : List Int := (rng n).filter fun k => !decide (k ∈ ns)
def bund (n : Nat) (RS : List (List Str)) (ns : List Int) : Bool := decide (ns ≠ []) && (others n ns).all fun t => alike (RS.getD t.toNat []) ns
def spAlike (PT : Addr) : Sp := fun vs H Q _ => ∃ (v u : V) (r : List Str) (ns : List Int), vs = [v, u] ∧ At MN H v (rowD r) ∧ At MN H u (.tuple (ns.map PyData.int)) ∧ Asc r.length ns ∧ ns ≠ [] ∧ TabG H PT ∧ ∀ H', Kp MN H H' → Q (.bl (alike r ns)) H'
structure Tab5 (H : Hp) (p1 p2 p3 p4 p5 : Addr) : Prop where
  t1 : TabG H p1
  t2 : TabG H p2
  t3 : TabG H p3
  t4 : TabG H p4
  t5 : TabG H p5
theorem Tab5.kp {M : Addr → Prop} {H H' : Hp} {p1 p2 p3 p4 p5 : Addr} (t : Tab5 H p1 p2 p3 p4 p5) (k : Kp M H H') : Tab5 H' p1 p2 p3 p4 p5 := ⟨k.tbl _ t.t1, k.tbl _ t.t2, k.tbl _ t.t3, k.tbl _ t.t4, k.tbl _ t.t5⟩
/-- p1 is_square, p2 entries_fit, p3 are_indexes, p4 looks_alike, p5 is_bundle -/
def spBundle (p1 p2 p3 p4 p5 : Addr) : Sp := fun vs H Q _ => ∃ (v u : V) (RS : List (List Str)) (ns : List Int) (n : Nat), vs = [v, u] ∧ 1 ≤ n ∧ n ≤ 7 ∧ At MN H v (tabD RS) ∧ Fit n RS ∧ At MN H u (.tuple (ns.map PyData.int)) ∧ Asc n ns ∧ Tab5 H p1 p2 p3 p4 p5 ∧ ∀ H', Kp MN H H' → Q (.bl (bund n RS ns)) H'
theorem str_get {r : List Str} {k : Int} (h0 : 0 ≤ k) (h1 : k < r.length) : atI (r.map V.str) k = some (.str (r.getD k.toNat "")) := by
  have e : k = ((k.toNat : Nat) : Int) := by omega
  have h := atI_nat (xs := r.map V.str) (j := k.toNat) (v := .str (r.getD k.toNat "")) (by
    rw [List.getElem?_map, List.getD_eq_getElem?_getD, List.getElem?_eq_getElem (show k.toNat < r.length by omega)]
    rfl)
  rw [← e] at h
  exact h
section
variable {P : Program} {w : World} {K : PySem.W.Frag} {mg : Str → Option Value} {base : Heap}
theorem scAlike : FnScope ["row", "chosen", "task"] ["row", "chosen"] (defScope sAlike) := ⟨rfl, rfl, rfl, by decide +kernel, rfl, by decide +kernel, by decide +kernel⟩
theorem ok_alike {f c PT : Addr} {fd : FuncData} (F : FunT K "looks_alike" "looks_alike" sAlike f fd c) (TB : TabB base mg c PT) (B : Bl K mg) : FnOk P w K mg base CX0 2 f fd ["row", "chosen"] (spAlike PT) := by
  refine F.ok scAlike (fun vs H Q E h => ?_) (fun A outer s H vs Q E hr h => ?_)
  · obtain ⟨v, u, r, ns, rfl, _⟩ := h
    rfl
  obtain ⟨v, u, r, ns, rfl, hA, hU, hns, hne, hT, q⟩ := h
  refine ⟨_, pss_one (ps_ret (pe_all (own := [("task", 2)]) (te := tOp rEq (tOp (rIxT K) (tVar 0) (tVar 2)) (tOp (rIxT K) (tVar 0) (tOp (rIxT K) (tVar 1) (tC (.int 0))))) (hr : Room (0 + 1) _) rfl B.all TB rfl scAlike.nd (gok_by (N := ["row", "chosen", "task"]) (sc := defScope sAlike) (own := [("task", 2)]) (by decide +kernel)) (pi_tup (pv 1)) (fun _ _ _ _ _ _ => pg_name (i := 2) scAlike.nd rfl (Or.inl rfl))
      (fun _ _ _ _ _ _ _ => pe_cmpR op_eq (pe_ix ix_tup (pv 0) (pv 2) (fun _ _ => rfl)) (pe_ix ix_tup (pv 0) (pe_ix ix_tup (pv 1) pe_int (fun _ _ => rfl)) (fun _ _ => rfl)) (nomark _)))), ?_⟩
  obtain ⟨a, xs, rfl, hx, hall⟩ := hA.tup_of
  have exs := atl_strs hall
  subst exs
  obtain ⟨b, ys, rfl, hy, hall2⟩ := hU.tup_of
  have eys := atl_ints hall2
  subst eys
  obtain ⟨k0, rest, rfl⟩ : ∃ k0 rest, ns = k0 :: rest := by
    cases ns with
    | nil => exact absurd rfl hne
    | cons k0 rest => exact ⟨k0, rest, rfl⟩
  have hk0 := hns.rg k0 List.mem_cons_self
  refine ⟨_, rfl, b, rfl, ⟨_, SqT.of hy⟩, hT, fun H2 hTb => gen_tup (K := K) (a := b) (xs := (k0 :: rest).map V.int) (fun i H' => Kp MN H H' ∧ ∀ k ∈ (k0 :: rest).take i, r.getD k.toNat "" = r.getD k0.toNat "") ⟨Kp.tabbed hT hTb, fun k h => by cases h⟩ (fun i H' _ p => p.1.seqT (SqT.of hy)) (fun i x H' hi p => ?_) (fun H' p => ?_)⟩
  · rw [List.getElem?_map] at hi
    obtain ⟨k, hk, rfl⟩ := Option.map_eq_some_iff.mp hi
    have hkr := hns.rg k (List.mem_of_getElem? hk)
    have hx' := p.1.tup _ _ hx
    have hy' := p.1.tup _ _ hy
    refine ⟨rfl, ?_⟩
    refine ⟨_, rfl, _, rfl, a, _, k, _, rfl, rfl, SqT.of hx', str_get hkr.1 hkr.2, ?_⟩
    refine ⟨_, rfl, _, rfl, b, _, 0, .int k0, rfl, rfl, SqT.of hy', atI_nat (j := 0) rfl, a, _, k0, _, rfl, rfl, SqT.of hx', str_get hk0.1 hk0.2, ?_⟩
    refine ⟨rfl, _, rfl, fun z => ?_, fun z => ⟨p.1, fun k' hk' => ?_⟩⟩
    · have ne : ¬ r.getD k.toNat "" = r.getD k0.toNat "" := fun e => by
        rw [e] at z
        simp at z
      have e : alike r (k0 :: rest) = false := by
        unfold alike
        rw [List.all_eq_false]
        exact ⟨k, List.mem_of_getElem? hk, by show ¬ decide (r.getD k.toNat "" = r.getD k0.toNat "") = true; rw [decide_eq_false ne]; exact Bool.false_ne_true⟩
      rw [e] at q
      exact q _ p.1
    · rw [List.take_succ, hk] at hk'
      rcases List.mem_append.mp hk' with y | y
      · exact p.2 k' y
      · have : k' = k := by simpa using y
        rw [this]
        have := of_decide_eq_true z
        injection this
  · have e : alike r (k0 :: rest) = true := by
      unfold alike
      rw [List.all_eq_true]
      intro k hk
      refine decide_eq_true (p.2 k ?_)
      rw [List.length_map, List.take_length]
      exact hk
    rw [e] at q
    exact q _ p.1
theorem scBundle : FnScope ["table", "chosen", "size", "others", "task"] ["table", "chosen"] (defScope sIsBundle) := ⟨rfl, rfl, rfl, by decide +kernel, rfl, by decide +kernel, by decide +kernel⟩
theorem ok_bundle {f c p1 p2 p3 p4 p5 r t i l : Addr} {fd rd td id' ld : FuncData} (F : FunT K "is_bundle" "is_bundle" sIsBundle f fd c) (TB : TabB base mg c p5) (B : Bl K mg)
    (R : FnOk P w K mg base CX0 1 r rd ["holds", "name"] spReq) (bR : Binds K rd ["holds", "name"] []) (kR : PySem.W.keepIn K (.ref r) = true) (mR : mg "require" = some (.ref r))
    (T : FnOk P w K mg base CX0 5 t td ["table"] (spCheckedT p1 p2)) (bT : Binds K td ["table"] []) (kT : PySem.W.keepIn K (.ref t) = true) (mT : mg "checked_table_size" = some (.ref t))
    (I : FnOk P w K mg base CX0 5 i id' ["value", "many"] (spIsSet p3)) (bI : Binds K id' ["value", "many"] []) (kI : PySem.W.keepIn K (.ref i) = true) (mI : mg "is_set" = some (.ref i))
    (L : FnOk P w K mg base CX0 2 l ld ["row", "chosen"] (spAlike p4)) (bL : Binds K ld ["row", "chosen"] []) (kL : PySem.W.keepIn K (.ref l) = true) (mL : mg "looks_alike" = some (.ref l)) :
    FnOk P w K mg base CX0 6 f fd ["table", "chosen"] (spBundle p1 p2 p3 p4 p5) := by
  refine F.ok scBundle (fun vs H Q E h => ?_) (fun A outer s H vs Q E hr h => ?_)
  · obtain ⟨v, u, RS, ns, n, rfl, _⟩ := h
    rfl
  obtain ⟨v, u, RS, ns, n, rfl, n1, n7, hA, hF, hU, hns, hT, q⟩ := h
  refine ⟨_, pss_cons (ps_set (i := 2) scBundle.nd rfl (Or.inl rfl) (pe_call T hr rfl mT kT bT .nil pass0 (pa_cons (pv 0) pa_nil)))
    (pss_cons (ps_expr (pe_call R (hr.mono (by decide)) rfl mR kR bR .nil pass0 (pa_cons (pe_call I hr rfl mI kI bI .nil pass0 (pa_cons (pv 1) (pa_cons (pv 2) pa_nil))) (pa_cons pe_str pa_nil))))
    (pss_cons (ps_if (pt_cmpR op_eq (pe_callB call_len_seq rfl B.len PySem.boot_len (pa_cons (pv 1) pa_nil)) pe_int (nomark _)) (pss_one (ps_ret pe_bl)) pss_nil)
    (pss_cons (ps_setLc (i := 3) (g := gName 4) (own := [("task", 4)]) (tt := tTest (tOp (rInT K true) (tVar 4) (tVar 1))) (te := tVar 4) (by rfl) scBundle.nd rfl rfl (sw_true rfl rfl rfl (by decide +kernel)) (pi_range1 rfl B.range (pa_cons (pv 2) pa_nil))
      (blkOk_by (own := [("task", 4)]) (N := ["table", "chosen", "size", "others", "task"]) (sc := defScope sIsBundle) (by decide +kernel)) (fun _ _ _ _ _ => pg_name (i := 4) scBundle.nd rfl (Or.inl rfl))
      (fun _ _ _ _ _ => pts_one (pt_cmpR (op_notInT (room65 hr)) (pv 4) (pv 1) rfl)) (fun _ _ _ _ _ => pv 4))
    (pss_one (ps_ret (pe_all (own := [("task", 4)]) (te := tCall (spAlike p4) [] E0 (tCons (tOp (rIxT K) (tVar 0) (tVar 4)) (tCons (tVar 1) tNil))) (hr : Room (4 + 1) _) rfl B.all TB rfl scBundle.nd (gok_by (N := ["table", "chosen", "size", "others", "task"]) (sc := defScope sIsBundle) (own := [("task", 4)]) (by decide +kernel)) (pi_list (pv 3)) (fun _ _ _ _ _ _ => pg_name (i := 4) scBundle.nd rfl (Or.inl rfl))
      (fun _ _ _ _ _ _ r => pe_call L (r.mono (by decide)) rfl mL kL bL .nil pass0 (pa_cons (pe_ix ix_tup (pv 0) (pv 4) (fun _ _ => rfl)) (pa_cons (pv 1) pa_nil))))))))), ?_⟩
  refine ⟨_, rfl, v, RS, n, rfl, n1, n7, hA, hF, hT.t1, hT.t2, fun H1 k1 => ?_⟩
  refine ⟨_, rfl, _, rfl, u, ns, n, rfl, hU.kp k1, hns, by omega, (hT.kp k1).t3, fun H2 k2 => ⟨"chosen", rfl, ?_⟩⟩
  have k12 := k1.trans k2
  have hA2 := hA.kp k12
  have hU2 := hU.kp k12
  have hd := hU2.dp (K := K)
  obtain ⟨b, ys, rfl, hy, hall2⟩ := hU2.tup_of
  have eys := atl_ints hall2
  subst eys
  refine ⟨_, rfl, b, _, rfl, .inr (SqT.of hy), rfl, _, rfl, ?_⟩
  refine ite2 (fun cc => ?_) (fun cc => ?_)
  · have e0 : ns = [] := by
      have := of_decide_eq_true cc
      injection this with this
      rw [List.length_map] at this
      exact List.length_eq_zero_iff.mp (by omega)
    have e : bund n RS ns = false := by
      unfold bund
      rw [decide_eq_false (by simp [e0])]
      rfl
    rw [e] at q
    exact q _ k12
  have hne : ns ≠ [] := fun z => by
    rw [z] at cc
    exact absurd cc (by decide)
  have e : bund n RS ns = (others n ns).all fun t => alike (RS.getD t.toNat []) ns := by
    unfold bund
    rw [decide_eq_true hne, Bool.true_and]
  rw [e] at q
  refine ⟨_, rfl, _, rfl, by omega, by omega, fun D hD => ?_⟩
  refine lc_range (lo := 0) (n := ((n : Int)).toNat) (fun i H' => Kp MN H2 H' ∧ H' D = some (.lst ((((rng n).take i).filter fun k => !decide (k ∈ ns)).map V.int))) ⟨Kp.new hD, upd_same⟩ (fun i H' hi p => ?_) (fun H3 p => ?_)
  · obtain ⟨k3, e3⟩ := p
    have hin : i < n := by omega
    have htk : (rng n).take (i + 1) = (rng n).take i ++ [(i : Int)] := by
      rw [List.take_succ]
      unfold rng
      rw [List.getElem?_map, List.getElem?_range hin]
      rfl
    have hil : (((rng n).take i).filter fun k => !decide (k ∈ ns)).length ≤ 7 := by
      have := List.length_filter_le (fun k => !decide (k ∈ ns)) ((rng n).take i)
      rw [List.length_take, rng_length] at this
      omega
    refine ⟨rfl, ?_⟩
    generalize hZ : (0 + (i : Int)) = Z
    have eZ : Z = (i : Int) := by omega
    subst eZ
    refine ⟨_, rfl, _, rfl, .int (i : Int), _, .int _, (At.tup (M := MN) (k3.tup _ _ hy) (AtL.ints ns)).dp, by rfl, shaped_tints _, ?_⟩
    rw [if_pos rfl, any_ints]
    refine ⟨_, rfl, ?_⟩
    by_cases c : (i : Int) ∈ ns
    · rw [decide_eq_true c]
      refine iteF ⟨k3, ?_⟩
      rw [htk, List.filter_append, List.filter_cons_of_neg (by rw [decide_eq_true c]; exact Bool.false_ne_true), List.filter_nil, List.append_nil]
      exact e3
    · rw [decide_eq_false c]
      refine iteT ?_
      refine ⟨_, rfl, _, e3, small1000 (by rw [List.length_map]; omega), k3.putNew hD e3, ?_⟩
      rw [upd_same, htk, List.filter_append, List.filter_cons_of_pos (by rw [decide_eq_false c]; rfl), List.filter_nil, List.map_append]
      rfl
  obtain ⟨k3, e3⟩ := p
  have ho : (rng n).take ((n : Int)).toNat = rng n := List.take_of_length_le (by rw [rng_length]; omega)
  rw [ho] at e3
  have kk := k12.trans k3
  have hT3 := hT.kp kk
  refine ⟨_, rfl, D, rfl, ⟨_, SqL.of e3⟩, hT3.t5, fun H4 hTb => gen_list (K := K) (a := D) (xs := (others n ns).map V.int) (fun i H' => Kp MN H3 H' ∧ ∀ t ∈ (others n ns).take i, alike (RS.getD t.toNat []) ns = true) ⟨Kp.tabbed hT3.t5 hTb, fun t h => by cases h⟩ (fun i H' _ p => SqL.of (p.1.lst _ _ (fun z => z) e3)) (fun i x H' hi p => ?_) (fun H' p => ?_)⟩
  · rw [List.getElem?_map] at hi
    obtain ⟨t, ht, rfl⟩ := Option.map_eq_some_iff.mp hi
    have hmem := List.mem_of_getElem? ht
    have htr := mem_rng.mp (List.mem_filter.mp hmem).1
    have hA5 := (hA.kp kk).kp p.1
    obtain ⟨a, xs, rfl, hx, hall⟩ := hA5.tup_of
    have hx0 : t.toNat < RS.length := by have := hF.len; omega
    have er : RS[t.toNat]? = some (RS.getD t.toNat []) := by
      rw [List.getD_eq_getElem?_getD, List.getElem?_eq_getElem hx0]
      rfl
    obtain ⟨y, hy1, hy2⟩ := hall.get' (i := t.toNat) (d := rowD (RS.getD t.toNat [])) (by rw [List.getElem?_map, er]; rfl)
    have hrl : (RS.getD t.toNat []).length = n := hF.row _ (List.mem_of_getElem? er)
    have et : t = ((t.toNat : Nat) : Int) := by omega
    have hat := atI_nat hy1
    rw [← et] at hat
    refine ⟨rfl, ?_⟩
    refine ⟨_, rfl, _, rfl, a, xs, t, y, rfl, rfl, SqT.of hx, hat, _, rfl, y, _, RS.getD t.toNat [], ns, rfl, hy2, (At.tup hy (AtL.ints ns)).kp (k3.trans p.1), by rw [hrl]; exact hns, hne, (hT3.kp p.1).t4, fun H6 k6 => ⟨_, rfl, fun z => ?_, fun z => ⟨p.1.trans k6, fun t' ht' => ?_⟩⟩⟩
    · have ef : ((others n ns).all fun t => alike (RS.getD t.toNat []) ns) = false := by
        rw [List.all_eq_false]
        exact ⟨t, hmem, by rw [z]; exact Bool.false_ne_true⟩
      rw [ef] at q
      exact q _ (kk.trans (p.1.trans k6))
    · rw [List.take_succ, ht] at ht'
      rcases List.mem_append.mp ht' with y' | y'
      · exact p.2 t' y'
      · have : t' = t := by simpa using y'
        rw [this]
        exact z
  · have et : ((others n ns).all fun t => alike (RS.getD t.toNat []) ns) = true := by
      rw [List.all_eq_true]
      intro t ht
      refine p.2 t ?_
      rw [List.length_map, List.take_length]
      exact ht
    rw [et] at q
    exact q _ (kk.trans p.1)
end
end K14

set_option Elab.async false
set_option linter.all false
set_option maxRecDepth 100000
set_option maxHeartbeats 1000000
namespace K14
open PySem L2 GxR GA KD KR KM KJ
abbrev sDue : Stmt := top 36
abbrev sParts : Stmt := top 37
def kinds3 : List Str := ["before", "beside", "after"]
def cnt (es : List Str) : Nat := (kinds3.filter fun s => decide (s ∈ es)).length
theorem cnt_gt {es : List Str} {e0 : Str} (h : ∀ e ∈ es, e = "before" ∨ e = "beside" ∨ e = "after") (h0 : es ≠ [] → e0 ∈ es) : (1 < cnt es) ↔ ¬ ∀ e ∈ es, e = e0 := by
  have nb : (("before" : Str) = "beside") = False ∧ (("before" : Str) = "after") = False ∧ (("beside" : Str) = "after") = False := by
    refine ⟨?_, ?_, ?_⟩ <;> exact eq_false (by decide +kernel)
  have key : cnt es = (if ("before" : Str) ∈ es then 1 else 0) + (if ("beside" : Str) ∈ es then 1 else 0) + (if ("after" : Str) ∈ es then 1 else 0) := by
    unfold cnt kinds3
    by_cases a : ("before" : Str) ∈ es <;> by_cases b : ("beside" : Str) ∈ es <;> by_cases c : ("after" : Str) ∈ es <;> simp [List.filter_cons, a, b, c]
  rw [key]
  constructor
  · intro g z
    have one : ∀ x y : Str, x ∈ es → y ∈ es → x = y := fun x y hx hy => (z x hx).trans (z y hy).symm
    by_cases a : ("before" : Str) ∈ es <;> by_cases b : ("beside" : Str) ∈ es <;> by_cases c : ("after" : Str) ∈ es <;> simp [a, b, c] at g
    · exact absurd (one _ _ a b) (by decide +kernel)
    · exact absurd (one _ _ a b) (by decide +kernel)
    · exact absurd (one _ _ a c) (by decide +kernel)
    · exact absurd (one _ _ b c) (by decide +kernel)
  · intro g
    obtain ⟨x, hx, ne⟩ : ∃ x, x ∈ es ∧ x ≠ e0 := by
      refine Classical.byContradiction fun w => g fun e he => ?_
      exact Classical.byContradiction fun q => w ⟨e, he, q⟩
    have m0 := h0 fun z => by rw [z] at hx; cases hx
    have a := h x hx
    have b := h e0 m0
    have in1 : ∀ s : Str, s ∈ es → (if s ∈ es then 1 else 0 : Nat) = 1 := fun s hs => if_pos hs
    rcases a with a | a | a <;> rcases b with b | b | b <;> first
      | exact absurd (a.trans b.symm) ne
      | (rw [a] at hx; rw [b] at m0; simp only [hx, m0, if_true]; split <;> omega)
def entries (r : List Str) (ns : List Int) : List Str := ns.map fun k => r.getD k.toNat ""
theorem alike_cnt {r : List Str} {ns : List Int} (h : ∀ e ∈ entries r ns, e = "before" ∨ e = "beside" ∨ e = "after") : decide (1 < cnt (entries r ns)) = !alike r ns := by
  rw [Bool.eq_iff_iff, decide_eq_true_eq, Bool.not_eq_true', cnt_gt (e0 := r.getD (ns.headD 0).toNat "") h fun ne => ?_]
  · unfold alike entries
    rw [List.all_eq_false]
    constructor
    · intro g
      refine Classical.byContradiction fun w => g fun e he => ?_
      obtain ⟨k, hk, rfl⟩ := List.mem_map.mp he
      exact Classical.byContradiction fun q => w ⟨k, hk, by rw [decide_eq_false q]; exact Bool.false_ne_true⟩
    · rintro ⟨k, hk, g⟩ w
      exact g (decide_eq_true (w _ (List.mem_map.mpr ⟨k, hk, rfl⟩)))
  · unfold entries at ne ⊢
    cases ns with
    | nil => exact absurd rfl ne
    | cons k0 rest => exact List.mem_cons_self
theorem fit_entries {n : Nat} {RS : List (List Str)} {ns : List Int} (hF : Fit n RS) (hns : Asc n ns) {t : Nat} (ht : t < n) (hm : (t : Int) ∉ ns) : ∀ e ∈ entries (RS.getD t []) ns, e = "before" ∨ e = "beside" ∨ e = "after" := by
  intro e he
  obtain ⟨k, hk, rfl⟩ := List.mem_map.mp he
  have hr := hns.rg k hk
  refine hF.kind t k.toNat ht (by omega) fun z => hm ?_
  have : (t : Int) = k := by omega
  rw [this]
  exact hk
def spDue : Sp := fun vs H Q _ => ∃ (v u : V) (RS : List (List Str)) (ns : List Int) (n : Nat), vs = [v, u] ∧ n ≤ 7 ∧ At MN H v (tabD RS) ∧ Fit n RS ∧ At MN H u (.tuple (ns.map PyData.int)) ∧ Asc n ns ∧ ∀ H', Kp MN H H' → Q (.bl (bund n RS ns)) H'
/-- a part of a plan, the plan itself one of them -/
inductive Sub (p : PyData) : PyData → Prop
  | refl : Sub p p
  | part {u : Str} {qs : List PyData} {q : PyData} : q ∈ qs → Sub p q → Sub p (.tuple [.str u, .tuple qs])
def spParts (n : Nat) : Sp := fun vs H Q _ => ∃ (v : V) (d : PyData) (o : Str), vs = [v] ∧ At MN H v d ∧ formed d o = some (tl d) ∧ d.depth < n ∧ (tl d).length ≤ 60 ∧
  ∀ a xs ps H', (∀ zs, H a ≠ some (.lst zs)) → Kp MN H H' → H' a = some (.lst xs) → AtL MN H' xs ps → (∀ p ∈ ps, Sub p d) → ps.length + 1 ≤ 2 * (tl d).length → Q (.ref a) H'
theorem any_strs (l : List Str) (a : Str) : ((l.map PyData.str).any fun z => PyData.eqv z (.str a)) = decide (a ∈ l) := by
  induction l with
  | nil => simp
  | cons i r ih =>
    rw [List.map_cons, List.any_cons, ih, Bool.eq_iff_iff, Bool.or_eq_true, decide_eq_true_eq, decide_eq_true_eq, List.mem_cons, eqv_str, decide_eq_true_eq]
    exact ⟨fun z => z.imp Eq.symm id, fun z => z.imp Eq.symm id⟩
theorem shaped_strs {l : List Str} (h : ∀ s ∈ l, PyData.strOk s = true) : SeqAt.shaped (.list (l.map PyData.str)) = true := by
  show (PyData.canLay0 (.list (l.map PyData.str)) && decide (PyData.depth (.list (l.map PyData.str)) ≤ 64)) = true
  rw [Bool.and_eq_true]
  refine ⟨by simp only [PyData.canLay0]; exact strs_lay l h, decide_eq_true ?_⟩
  have := strs_depth l
  simp only [PyData.depth]
  omega
theorem sub_int {i : Int} : Sub (.int i) (.int i) := .refl
section
variable {P : Program} {w : World} {K : PySem.W.Frag} {mg : Str → Option Value} {base : Heap}
theorem scDue : FnScope ["table", "chosen", "one", "entries", "x", "entry"] ["table", "chosen"] (defScope sDue) := ⟨rfl, rfl, rfl, by decide +kernel, rfl, by decide +kernel, by decide +kernel⟩
theorem ok_due {f : Addr} {fd : FuncData} (F : Fun K "_law_due" "_law_due" sDue f fd) (B : Bl K mg) : FnOk P w K mg base CX0 1 f fd ["table", "chosen"] spDue := by
  refine F.ok scDue (fun vs H Q E h => ?_) (fun cdv A outer s H vs Q E hr h => ?_)
  · obtain ⟨v, u, RS, ns, n, rfl, _⟩ := h
    rfl
  obtain ⟨v, u, RS, ns, n, rfl, n7, hA, hF, hU, hns, q⟩ := h
  refine ⟨_, pss_cons (ps_for PassesOwn.never rfl (pi_range1 rfl B.range (pa_cons (pe_callB call_len_seq rfl B.len PySem.boot_len (pa_cons (pv 0) pa_nil)) pa_nil)) (pg_name (i := 2) scDue.nd rfl (Or.inr rfl))
      (pss_one (ps_if (pt_cmpR (op_notInT (room65 hr)) (pv 2) (pv 1) rfl)
        (pss_cons (ps_set (i := 3) scDue.nd rfl (Or.inr rfl) (pe_lc (own := [("x", 4)]) (g := gName 4) (tt := tYes) (te := tOp (rIxT K) (tOp (rIxT K) (tVar 0) (tVar 2)) (tVar 4)) rfl scDue.nd (pi_tup (pv 1))
          (blkOk_by (own := [("x", 4)]) (N := ["table", "chosen", "one", "entries", "x", "entry"]) (sc := defScope sDue) (by decide +kernel)) (fun _ _ _ _ _ => pg_name (i := 4) scDue.nd rfl (Or.inl rfl)) (fun _ _ _ _ _ => pts_nil)
          (fun _ _ _ _ _ => pe_ix ix_tup (pe_ix ix_tup (pv 0) (pv 2) (fun _ _ => rfl)) (pv 4) (fun _ _ => rfl))))
        (pss_one (ps_if (pt_cmpR op_gt (pe_callB call_len_seq rfl B.len PySem.boot_len (pa_cons
          (pe_lc (own := [("entry", 5)]) (g := gName 5) (tt := tTest (tOp (rInD K) (tVar 5) (tVar 3))) (te := tVar 5) rfl scDue.nd (pi_list (pe_lst (pa_cons pe_str (pa_cons pe_str (pa_cons pe_str pa_nil)))))
            (blkOk_by (own := [("entry", 5)]) (N := ["table", "chosen", "one", "entries", "x", "entry"]) (sc := defScope sDue) (by decide +kernel)) (fun _ _ _ _ _ => pg_name (i := 5) scDue.nd rfl (Or.inl rfl)) (fun _ _ _ _ _ => pts_one (pt_cmpR (op_inD (room65 hr)) (pv 5) (pv 3) rfl)) (fun _ _ _ _ _ => pv 5)) pa_nil)) pe_int (nomark _))
          (pss_one (ps_ret pe_bl)) pss_nil))) pss_nil)))
    (pss_one (ps_ret (pe_cmpR op_gt (pe_callB call_len_seq rfl B.len PySem.boot_len (pa_cons (pv 1) pa_nil)) pe_int (nomark _)))), ?_⟩
  have hA0 := hA
  obtain ⟨a, xs, rfl, hx, hall⟩ := hA.tup_of
  have hl := hall.length
  rw [List.length_map, hF.len] at hl
  obtain ⟨b, ys, rfl, hy, hall2⟩ := hU.tup_of
  have eys := atl_ints hall2
  subst eys
  have hlen := hns.len
  refine ⟨_, rfl, a, xs, rfl, .inr (SqT.of hx), _, rfl, by omega, by omega, ?_⟩
  have bad : ∀ t : Nat, t < n → (t : Int) ∉ ns → alike (RS.getD t []) ns = false → bund n RS ns = false := fun t ht hm z => by
    unfold bund
    have : ((others n ns).all fun t => alike (RS.getD t.toNat []) ns) = false := by
      rw [List.all_eq_false]
      refine ⟨(t : Int), List.mem_filter.mpr ⟨mem_rng.mpr ⟨by omega, by omega⟩, by rw [decide_eq_false hm]; rfl⟩, ?_⟩
      rw [show ((t : Int)).toNat = t from rfl, z]
      exact Bool.false_ne_true
    rw [this, Bool.and_false]
  refine for_range (lo := 0) (n := ((xs.length : Int)).toNat) (fun i σ H' => ∃ x2 x3, σ = [some (.ref a), some (.ref b), x2, x3, none, none] ∧ Kp MN H H' ∧ ∀ t : Nat, t < i → (t : Int) ∉ ns → alike (RS.getD t []) ns = true)
    ⟨none, none, rfl, .refl, fun t h => absurd h (Nat.not_lt_zero _)⟩ (fun i σ H' hi p => ?_) (fun σ H' p => ?_)
  · obtain ⟨x2, x3, rfl, k, hg⟩ := p
    have hin : i < n := by omega
    generalize hZ : (0 + (i : Int)) = Z
    have eZ : Z = (i : Int) := by omega
    subst eZ
    refine ⟨_, rfl, _, rfl, .int (i : Int), _, .int _, (At.tup (M := MN) (k.tup _ _ hy) (AtL.ints ns)).dp, by rfl, shaped_tints _, ?_⟩
    rw [if_pos rfl, any_ints]
    refine ⟨_, rfl, ?_⟩
    by_cases c : (i : Int) ∈ ns
    · rw [decide_eq_true c]
      refine iteF ⟨_, _, rfl, k, fun t ht hm => ?_⟩
      rcases Nat.lt_or_ge t i with z | z
      · exact hg t z hm
      · have : t = i := by omega
        subst this
        exact absurd c hm
    rw [decide_eq_false c]
    refine iteT ?_
    refine ⟨_, rfl, b, rfl, ⟨_, SqT.of (k.tup _ _ hy)⟩, fun D hD => ?_⟩
    have hx0 : i < RS.length := by have := hF.len; omega
    have er : RS[i]? = some (RS.getD i []) := by
      rw [List.getD_eq_getElem?_getD, List.getElem?_eq_getElem hx0]
      rfl
    have hrl : (RS.getD i []).length = n := hF.row _ (List.mem_of_getElem? er)
    refine lc_tup (K := K) (a := b) (xs := ns.map V.int) (fun j H2 => Kp MN H' H2 ∧ H2 D = some (.lst ((entries (RS.getD i []) (ns.take j)).map V.str))) ⟨Kp.new hD, upd_same⟩ (fun j H2 _ p => SqT.of (p.1.tup _ _ (k.tup _ _ hy))) (fun j x H2 hj p => ?_) (fun H2 p => ?_)
    · obtain ⟨k2, e2⟩ := p
      rw [List.getElem?_map] at hj
      obtain ⟨t, ht, rfl⟩ := Option.map_eq_some_iff.mp hj
      have htr := hns.rg t (List.mem_of_getElem? ht)
      obtain ⟨y, hy1, hy2⟩ := (hall.kp (k.trans k2)).get' (i := i) (d := rowD (RS.getD i [])) (by rw [List.getElem?_map, er]; rfl)
      obtain ⟨p, zs, rfl, hp, hz⟩ := hy2.tup_of
      have ez := atl_strs hz
      subst ez
      refine ⟨rfl, ?_⟩
      dsimp only [tYes]
      rw [if_pos rfl]
      refine ⟨_, rfl, _, rfl, a, xs, (i : Int), _, rfl, rfl, SqT.of ((k.trans k2).tup _ _ hx), atI_nat hy1, _, rfl, p, _, t, _, rfl, rfl, SqT.of hp, str_get htr.1 (by omega), ?_⟩
      have hlj : (entries (RS.getD i []) (ns.take j)).length ≤ 7 := by
        unfold entries
        rw [List.length_map, List.length_take]
        omega
      refine ⟨_, e2, small1000 (by rw [List.length_map]; omega), k2.putNew hD e2, ?_⟩
      unfold entries at e2 ⊢
      rw [upd_same, List.take_succ, ht, List.map_append, List.map_append]
      rfl
    obtain ⟨k2, e2⟩ := p
    rw [List.length_map, List.take_length] at e2
    have hent := fit_entries hF hns hin c
    generalize hes : entries (RS.getD i []) ns = es at e2 hent
    refine ⟨(by show 3 ≤ sizeLine; decide), fun W hW => ?_⟩
    have kW : Kp MN H2 (upd H2 W (.lst [.str "before", .str "beside", .str "after"])) := Kp.new hW
    refine ⟨W, rfl, ⟨_, SqL.of upd_same⟩, fun D2 hD2 => ?_⟩
    have nDW : D ≠ W := ne_of_none e2 hW
    have nDD : D ≠ D2 := ne_of_none (kW.lst _ _ (fun z => z) e2) hD2
    refine lc_list (K := K) (a := W) (xs := [.str "before", .str "beside", .str "after"]) (fun j H3 => Kp MN (upd H2 W (.lst [.str "before", .str "beside", .str "after"])) H3 ∧ H3 D2 = some (.lst (((kinds3.take j).filter fun s => decide (s ∈ es)).map V.str)))
      ⟨Kp.new hD2, upd_same⟩ (fun j H3 _ p => SqL.of (p.1.lst _ _ (fun z => z) upd_same)) (fun j x H3 hj p => ?_) (fun H3 p => ?_)
    · obtain ⟨k3, e3⟩ := p
      obtain ⟨s3, hs3, rfl⟩ : ∃ s3, kinds3[j]? = some s3 ∧ x = .str s3 := by
        match j, hj with
        | 0, hj => exact ⟨"before", rfl, by simpa using hj.symm⟩
        | 1, hj => exact ⟨"beside", rfl, by simpa using hj.symm⟩
        | 2, hj => exact ⟨"after", rfl, by simpa using hj.symm⟩
        | j + 3, hj => simp at hj
      have eD3 : H3 D = some (.lst (es.map V.str)) := k3.lst _ _ (fun z => z) (kW.lst _ _ (fun z => z) e2)
      have sok : PyData.strOk s3 = true := by
        have : s3 ∈ kinds3 := List.mem_of_getElem? hs3
        simp only [kinds3, List.mem_cons, List.not_mem_nil, or_false] at this
        rcases this with z | z | z <;> rw [z] <;> decide +kernel
      refine ⟨rfl, ?_⟩
      refine ⟨_, rfl, _, rfl, .str s3, es.map PyData.str, .str _, .lst (SqL.of eD3) (AtL.dp (AtL.strs (M := MN) es)), ?_, shaped_strs fun s hs => ?_, ?_⟩
      · show (PyData.canLay0 (.str s3) && decide (PyData.depth (.str s3) ≤ 64)) = true
        simp [PyData.canLay0, sok, PyData.depth]
      · rcases hent s hs with z | z | z <;> rw [z] <;> decide +kernel
      rw [any_strs]
      refine ⟨_, rfl, ?_⟩
      have h3l : ((kinds3.take j).filter fun s => decide (s ∈ es)).length ≤ 3 := by
        refine Nat.le_trans (List.length_filter_le _ _) ?_
        rw [List.length_take]
        exact Nat.min_le_right _ _
      by_cases c3 : s3 ∈ es
      · rw [decide_eq_true c3]
        refine iteT ?_
        refine ⟨_, rfl, _, e3, small1000 (by rw [List.length_map]; omega), k3.putNew hD2 e3, ?_⟩
        rw [upd_same, List.take_succ, hs3, List.filter_append, List.map_append, show (some s3).toList = [s3] from rfl, List.filter_cons_of_pos (by exact decide_eq_true c3)]
        rfl
      · rw [decide_eq_false c3]
        refine iteF ⟨k3, ?_⟩
        rw [e3, List.take_succ, hs3, List.filter_append, show (some s3).toList = [s3] from rfl, List.filter_cons_of_neg (by rw [decide_eq_false c3]; exact Bool.false_ne_true), List.filter_nil, List.append_nil]
    obtain ⟨k3, e3⟩ := p
    have kk := k.trans (k2.trans (kW.trans k3))
    have ec : (((kinds3.take 3).filter fun s => decide (s ∈ es)).map V.str).length = cnt es := by rw [List.length_map]; rfl
    refine ⟨D2, _, rfl, .inl (SqL.of e3), _, _, rfl, rfl, ?_⟩
    have hac := alike_cnt (r := RS.getD i []) (ns := ns) (by rw [hes]; exact hent)
    rw [hes] at hac
    refine ⟨_, rfl, ?_⟩
    have eg : decide ((1 : Int) < ((((kinds3.take [V.str "before", V.str "beside", V.str "after"].length).filter fun s => decide (s ∈ es)).map V.str).length : Int)) = !alike (RS.getD i []) ns := by
      rw [← hac, show [V.str "before", V.str "beside", V.str "after"].length = 3 from rfl, ec, decide_eq_decide]
      omega
    rw [eg]
    by_cases cl : alike (RS.getD i []) ns = true
    · rw [cl]
      refine iteF ⟨_, _, rfl, kk, fun t ht hm => ?_⟩
      rcases Nat.lt_or_ge t i with z | z
      · exact hg t z hm
      · have : t = i := by omega
        subst this
        exact cl
    · have cl' := Bool.eq_false_iff.mpr cl
      rw [cl']
      refine iteT ?_
      have := q _ kk
      rw [bad i hin c cl'] at this
      exact this
  · obtain ⟨x2, x3, rfl, k, hg⟩ := p
    refine ⟨_, rfl, b, _, rfl, .inr (SqT.of (k.tup _ _ hy)), _, _, rfl, rfl, ?_⟩
    have e : decide ((0 : Int) < ((ns.map V.int).length : Int)) = bund n RS ns := by
      have e1 : ((others n ns).all fun t => alike (RS.getD t.toNat []) ns) = true := by
        rw [List.all_eq_true]
        intro t ht
        have hf := List.mem_filter.mp ht
        have hr' := mem_rng.mp hf.1
        have hm : t ∉ ns := fun z => by
          have := hf.2
          rw [decide_eq_true z] at this
          cases this
        have et : t = ((t.toNat : Nat) : Int) := by omega
        exact hg t.toNat (by omega) (by rw [← et]; exact hm)
      unfold bund
      rw [e1, Bool.and_true, decide_eq_decide, List.length_map]
      cases ns with
      | nil => simp
      | cons k0 rest => simp
    show Q (.bl (decide ((0 : Int) < ((ns.map V.int).length : Int)))) H'
    rw [e]
    exact q H' k
end
end K14

set_option Elab.async false
set_option linter.all false
set_option maxRecDepth 100000
set_option maxHeartbeats 1000000
namespace K14
open PySem L2 GxR GA KD KR KM KJ
section
variable {P : Program} {w : World} {K : PySem.W.Frag} {mg : Str → Option Value} {base : Heap}
theorem scParts : FnScope ["plan", "found", "part"] ["plan"] (defScope sParts) := ⟨rfl, rfl, rfl, by decide +kernel, rfl, by decide +kernel, by decide +kernel⟩
theorem tl_pos {d : PyData} {o : Str} (h : formed d o = some (tl d)) : 1 ≤ (tl d).length := by
  rcases formed_two h with ⟨i, rfl⟩ | ⟨u, ps, rfl⟩
  · rw [tl_int]; exact Nat.le_refl _
  · obtain ⟨_, _, h2, hfl, _⟩ := part_form h
    have := formedL_len ps u _ hfl
    rw [tl_part]
    omega
theorem ok_parts {n : Nat} {f : Addr} {fd : FuncData} (F : Fun K "_law_parts" "_law_parts" sParts f fd) (B : Bl K mg)
    (R : FnOk P w K mg base CX0 (n + 1) f fd ["plan"] (spParts n)) (bF : Binds K fd ["plan"] []) (mF : mg "_law_parts" = some (.ref f)) : FnOk P w K mg base CX0 (n + 2) f fd ["plan"] (spParts (n + 1)) := by
  refine F.ok scParts (fun vs H Q E h => ?_) (fun cdv A outer s H vs Q E hr h => ?_)
  · obtain ⟨v, d, o, rfl, _⟩ := h
    rfl
  obtain ⟨v, d, o, rfl, hA, hf, hd, h60, q⟩ := h
  refine ⟨_, pss_cons (ps_if (pt_not (pt_val (pe_callB call_isi rfl B.isinstance (by decide +kernel) (pa_cons (pv 0) (pa_cons (pe_bltn rfl B.tuple (by decide +kernel) (v := .ty "tuple") rfl) pa_nil))))) (pss_one (ps_ret (pe_lst (pa_cons (pv 0) pa_nil)))) pss_nil)
    (pss_cons (ps_set (i := 1) scParts.nd rfl (Or.inl rfl) (pe_lst (pa_cons (pv 0) pa_nil)))
    (pss_cons (ps_for PassesOwn.never rfl (pi_tup (pe_ix ix_tup (pv 0) pe_int (fun _ _ => rfl))) (pg_name (i := 2) scParts.nd rfl (Or.inl rfl))
      (pss_one (ps_set (i := 1) scParts.nd rfl (Or.inl rfl) (pe_op op_cat (pv 1) (pe_call R hr rfl mF F.kp bF .nil pass0 (pa_cons (pv 2) pa_nil))))))
    (pss_one (ps_ret (pv 1))))), ?_⟩
  refine ⟨_, rfl, _, _, _, _, _, rfl, .ty _, hA.ty, kit_tup d, _, rfl, ?_⟩
  rcases formed_two hf with ⟨i, rfl⟩ | ⟨u, ps, rfl⟩
  · cases hA.int_of
    refine iteT ?_
    refine ⟨_, rfl, (by show 1 ≤ sizeLine; decide), fun p hp => q p _ [.int i] _ (fun zs z => by rw [hp] at z; cases z) (Kp.new hp) upd_same (.cons (.int i) .nil) (fun p hp => ?_) (by rw [tl_int]; simp)⟩
    rw [List.mem_singleton.mp hp]
    exact .refl
  refine iteF ?_
  obtain ⟨hwd, hwo, h2, hfl, hfm⟩ := part_form hf
  have hA0 := hA
  obtain ⟨a, a2, xs, rfl, hx, hx2, hall⟩ := parts_at hA
  rw [tl_part] at h60 q
  refine ⟨_, rfl, (by show 1 ≤ sizeLine; decide), fun D hD => ?_⟩
  have kD : Kp MN H (upd H D (.lst [.ref a])) := Kp.new hD
  refine ⟨_, rfl, _, _, _, _, rfl, rfl, SqT.of (kD.tup _ _ hx), atI_nat (j := 1) rfl, a2, rfl, ⟨_, SqT.of (kD.tup _ _ hx2)⟩, ?_⟩
  refine for_tup (K := K) (a := a2) (xs := xs) (fun i σ H' => ∃ x2 fa ys qs, σ = [some (.ref a), some (.ref fa), x2] ∧ (∀ zs, H fa ≠ some (.lst zs)) ∧ Kp MN H H' ∧ H' fa = some (.lst ys) ∧ AtL MN H' ys qs ∧ (∀ p ∈ qs, Sub p (.tuple [.str u, .tuple ps])) ∧ qs.length + i ≤ 2 * (tlL (ps.take i)).length + 1)
    ⟨none, D, [.ref a], [.tuple [.str u, .tuple ps]], rfl, (fun zs z => by rw [hD] at z; cases z), kD, upd_same, .one (hA0.kp kD), (fun p hp => by rw [List.mem_singleton.mp hp]; exact .refl), by rw [List.take_zero, tlL_nil]; exact Nat.le_refl _⟩
    (fun i σ H' _ p => SqT.of (by obtain ⟨_, _, _, _, _, _, k, _⟩ := p; exact k.tup _ _ hx2)) (fun i x σ H' hi p => ?_) (fun σ H' p => ?_)
  · obtain ⟨x2, fa, ys, qs, rfl, nf, k, e, al, hs, hq⟩ := p
    obtain ⟨d', hd', ha'⟩ := hall.get hi
    have hm := List.mem_of_getElem? hd'
    have hsuc := tlL_succ hd'
    have hle := tlL_take_le ps (i + 1)
    refine ⟨_, rfl, _, rfl, x, d', u, rfl, ha'.kp k, hfm d' hm, depth_part hd hm, Nat.le_trans (tl_le hm) h60, fun b ws rs H5 hb k5 e5 al5 hs5 hq5 => ?_⟩
    have eF := k5.lst fa _ (fun z => z) e
    have l1 := al.length
    have l2 := al5.length
    rw [hsuc, List.length_append] at hle
    refine ⟨fa, b, _, _, rfl, rfl, eF, e5, ?_, fun t ht => ?_⟩
    · exact Nat.le_of_lt (small1000 (by omega))
    · have nt : ∀ zs, H t ≠ some (.lst zs) := (k.trans k5).noLst (fun z => z) ht
      refine ⟨_, t, ys ++ ws, qs ++ rs, rfl, nt, (k.trans k5).trans (Kp.new ht), upd_same, ((al.kp k5).append al5).kp (Kp.new ht), fun p hp => ?_, ?_⟩
      · rcases List.mem_append.mp hp with z | z
        · exact hs p z
        · exact .part hm (hs5 p z)
      · rw [hsuc, List.length_append, List.length_append]
        omega
  · obtain ⟨x2, fa, ys, qs, rfl, nf, k, e, al, hs, hq⟩ := p
    rw [hall.length, List.take_length] at hq
    exact ⟨_, rfl, q fa ys qs H' nf k e al hs (by omega)⟩
theorem oks_parts {f : Addr} {fd : FuncData} (F : Fun K "_law_parts" "_law_parts" sParts f fd) (B : Bl K mg) (bF : Binds K fd ["plan"] []) (mF : mg "_law_parts" = some (.ref f)) : ∀ n : Nat, FnOk P w K mg base CX0 (n + 1) f fd ["plan"] (spParts n)
  | 0 => never_ok fun vs H Q E h => by
    obtain ⟨_, _, _, _, _, _, h, _⟩ := h
    exact absurd h (Nat.not_lt_zero _)
  | n + 1 => ok_parts F B (oks_parts F B bF mF n) bF mF
end
end K14

set_option Elab.async false
set_option linter.all false
set_option maxRecDepth 100000
set_option maxHeartbeats 1000000
/-! k14: bundles of plans, bundles renamed -/
namespace K14
open PySem L2 GxR GA KD KR KM KJ
/-- a bundle, said without lists -/
theorem bund_iff {n : Nat} {RS : List (List Str)} {ns : List Int} (hns : Asc n ns) : bund n RS ns = true ↔ ns ≠ [] ∧ ∀ t : Nat, t < n → (t : Int) ∉ ns → ∀ x ∈ ns, ∀ y ∈ ns, cell RS t x.toNat = cell RS t y.toNat := by
  unfold bund
  rw [Bool.and_eq_true, decide_eq_true_eq, List.all_eq_true]
  constructor
  · rintro ⟨h1, h2⟩
    refine ⟨h1, fun t ht hm x hx y hy => ?_⟩
    have h := h2 (t : Int) (List.mem_filter.mpr ⟨mem_rng.mpr ⟨by omega, by omega⟩, by rw [decide_eq_false hm]; rfl⟩)
    unfold alike at h
    rw [List.all_eq_true] at h
    have a := of_decide_eq_true (h x hx)
    have b := of_decide_eq_true (h y hy)
    exact a.trans b.symm
  · rintro ⟨h1, h2⟩
    refine ⟨h1, fun t ht => ?_⟩
    have hf := List.mem_filter.mp ht
    have hr := mem_rng.mp hf.1
    have hm : t ∉ ns := fun z => by
      have := hf.2
      rw [decide_eq_true z] at this
      cases this
    unfold alike
    rw [List.all_eq_true]
    intro k hk
    obtain ⟨k0, rest, rfl⟩ : ∃ k0 rest, ns = k0 :: rest := by
      cases ns with
      | nil => exact absurd rfl h1
      | cons k0 rest => exact ⟨k0, rest, rfl⟩
    have et : t = ((t.toNat : Nat) : Int) := by omega
    exact decide_eq_true (h2 t.toNat (by omega) (by rw [← et]; exact hm) k hk k0 List.mem_cons_self)
theorem bund_of {n : Nat} {RS : List (List Str)} {ns : List Int} {d : PyData} (hns : Asc n ns) (hne : ns ≠ []) (hnd : (tl d).Nodup) (hp : (tl d).Perm (rng n)) (hc : ∀ x y, x < n → y < n → Cel d x y (cell RS x y))
    (hs : ∀ t ∈ tl d, t ∉ ns → ∀ x ∈ ns, ∀ y ∈ ns, ∀ r, RelD t x d r → RelD t y d r) : bund n RS ns = true := by
  rw [bund_iff hns]
  refine ⟨hne, fun t ht hm x hx y hy => ?_⟩
  have hxr := hns.rg x hx
  have hyr := hns.rg y hy
  have ex : ((x.toNat : Nat) : Int) = x := by omega
  have ey : ((y.toNat : Nat) : Int) = y := by omega
  have nx : t ≠ x.toNat := fun z => hm (by rw [z, ex]; exact hx)
  have ny : t ≠ y.toNat := fun z => hm (by rw [z, ey]; exact hy)
  have h1 := hc t x.toNat ht (by omega)
  have h2 := hc t y.toNat ht (by omega)
  unfold Cel at h1 h2
  rw [if_neg nx, ex] at h1
  rw [if_neg ny, ey] at h2
  exact (hs t (hp.mem_iff.mpr (mem_rng.mpr ⟨by omega, by omega⟩)) hm x hx y hy _ h1).uniq hnd h2
theorem sub_tl {p d : PyData} (h : Sub p d) : ∀ x ∈ tl p, x ∈ tl d := by
  induction h with
  | refl => exact fun x hx => hx
  | part hq _ ih =>
    intro x hx
    rw [tl_part]
    exact tl_mem hq x (ih x hx)
/-- outside tasks stand alike to all tasks of a part -/
theorem sub_same {p d : PyData} (h : Sub p d) : (tl d).Nodup → ∀ t ∈ tl d, t ∉ tl p → ∀ x ∈ tl p, ∀ y ∈ tl p, ∀ r, RelD t x d r → RelD t y d r := by
  induction h with
  | refl => exact fun _ t ht hm => absurd ht hm
  | @part u qs q hq hsub ih =>
    intro hn t ht hm x hx y hy r hr
    rw [tl_part] at hn ht
    obtain ⟨j, hj⟩ := List.getElem?_of_mem hq
    have hxq := sub_tl hsub x hx
    have hyq := sub_tl hsub y hy
    cases hr with
    | @inner _ _ i p' _ h1 h2 h3 h4 =>
      have e := one_place hn h1 hj h3 hxq
      subst e
      rw [hj] at h1
      cases h1
      exact .inner hj h2 hyq (ih (nodup_part hn hq) t h2 hm x hx y hy r h4)
    | beside h1 h2 h3 h4 h5 =>
      have e := one_place hn h2 hj h4 hxq
      subst e
      exact .beside h1 hj h3 hyq h5
    | before h1 h2 h3 h4 h5 =>
      have e := one_place hn h2 hj h4 hxq
      subst e
      exact .before h1 hj h3 hyq h5
    | after h1 h2 h3 h4 h5 =>
      have e := one_place hn h2 hj h4 hxq
      subst e
      exact .after h1 hj h3 hyq h5
/-- some parts of a plan: their places -/
theorem some_same {u : Str} {ps : List PyData} (hn : (tlL ps).Nodup) {I : Nat → Prop} (hI : u = "beside" ∨ ∀ i j k, I i → I j → ¬ I k → (k < i ↔ k < j)) {t x y : Int} {k i j : Nat} {pk pi pj : PyData}
    (hk : ps[k]? = some pk) (hi : ps[i]? = some pi) (hj : ps[j]? = some pj) (mt : t ∈ tl pk) (mx : x ∈ tl pi) (my : y ∈ tl pj) (Ii : I i) (Ij : I j) (Ik : ¬ I k) {r : Str} (h : RelD t x (.tuple [.str u, .tuple ps]) r) : RelD t y (.tuple [.str u, .tuple ps]) r := by
  have nki : k ≠ i := fun z => Ik (z ▸ Ii)
  have nkj : k ≠ j := fun z => Ik (z ▸ Ij)
  cases h with
  | inner h1 h2 h3 h4 => exact absurd ((one_place hn hk h1 mt h2).trans (one_place hn h1 hi h3 mx)) nki
  | beside h1 h2 h3 h4 h5 => exact .beside hk hj mt my nkj
  | before h1 h2 h3 h4 h5 =>
    have e1 := one_place hn h1 hk h3 mt
    have e2 := one_place hn h2 hi h4 mx
    subst e1
    subst e2
    rcases hI with z | z
    · exact absurd z (by decide +kernel)
    · exact .before hk hj mt my ((z _ _ _ Ii Ij Ik).mp h5)
  | after h1 h2 h3 h4 h5 =>
    have e1 := one_place hn h1 hk h3 mt
    have e2 := one_place hn h2 hi h4 mx
    subst e1
    subst e2
    rcases hI with z | z
    · exact absurd z (by decide +kernel)
    · refine .after hk hj mt my ?_
      have := z _ _ _ Ii Ij Ik
      omega
/-- an order and the way back -/
structure Ord (n : Nat) (l : List Int) (b : List Nat) : Prop where
  len : l.length = n
  blen : b.length = n
  rg : ∀ k ∈ l, 0 ≤ k ∧ k < n
  brg : ∀ k ∈ b, k < n
  lb : ∀ x : Nat, x < n → l[b.getD x 0]? = some (x : Int)
  bl : ∀ x : Nat, x < n → b.getD (l.getD x 0).toNat 0 = x
theorem ren_fit {n : Nat} {RS RS' : List (List Str)} {l : List Int} {b : List Nat} (hF : Fit n RS) (hO : Ord n l b) (h1 : RS'.length = n) (h2 : ∀ r ∈ RS', r.length = n) (h3 : ∀ x y, x < n → y < n → cell RS' x y = cell RS (b.getD x 0) (b.getD y 0)) : Fit n RS' := by
  have brg : ∀ x, x < n → b.getD x 0 < n := fun x hx => by
    rw [List.getD_eq_getElem?_getD, List.getElem?_eq_getElem (by rw [hO.blen]; exact hx)]
    exact hO.brg _ (List.getElem_mem _)
  have inj : ∀ x y, x < n → y < n → x ≠ y → b.getD x 0 ≠ b.getD y 0 := fun x y hx hy ne z => by
    have a := hO.lb x hx
    have c := hO.lb y hy
    rw [z, c] at a
    injection a with a
    exact ne (by omega)
  refine ⟨h1, h2, fun x hx => ?_, fun x y hx hy ne => ?_, fun x y hx hy ne => ?_⟩
  · rw [h3 x x hx hx]
    exact hF.same _ (brg x hx)
  · rw [h3 x y hx hy]
    exact hF.kind _ _ (brg x hx) (brg y hy) (inj x y hx hy ne)
  · rw [h3 y x hy hx, h3 x y hx hy]
    exact hF.opp _ _ (brg x hx) (brg y hy) (inj x y hx hy ne)
theorem ren_bund {n : Nat} {RS RS' : List (List Str)} {l : List Int} {b : List Nat} {ns ms : List Int} (hO : Ord n l b) (h3 : ∀ x y, x < n → y < n → cell RS' x y = cell RS (b.getD x 0) (b.getD y 0)) (hns : Asc n ns) (hms : Asc n ms) (hm : ms.Perm (ns.map fun k => l.getD k.toNat 0)) : bund n RS' ms = bund n RS ns := by
  have brg : ∀ x, x < n → b.getD x 0 < n := fun x hx => by
    rw [List.getD_eq_getElem?_getD, List.getElem?_eq_getElem (by rw [hO.blen]; exact hx)]
    exact hO.brg _ (List.getElem_mem _)
  have lrg : ∀ x, x < n → 0 ≤ l.getD x 0 ∧ l.getD x 0 < n := fun x hx => by
    rw [List.getD_eq_getElem?_getD, List.getElem?_eq_getElem (by rw [hO.len]; exact hx)]
    exact hO.rg _ (List.getElem_mem _)
  have lb' : ∀ x, x < n → l.getD (b.getD x 0) 0 = (x : Int) := fun x hx => by
    rw [List.getD_eq_getElem?_getD, hO.lb x hx]
    rfl
  -- a task is among the renamed ones exactly if what it came from is among the old ones
  have mem : ∀ x : Nat, x < n → ((x : Int) ∈ ms ↔ ((b.getD x 0 : Nat) : Int) ∈ ns) := fun x hx => by
    rw [hm.mem_iff, List.mem_map]
    constructor
    · rintro ⟨k, hk, e⟩
      have hr := hns.rg k hk
      have e2 := hO.bl k.toNat (by omega)
      rw [e] at e2
      have e3 : b.getD x 0 = k.toNat := e2
      rw [e3]
      have : ((k.toNat : Nat) : Int) = k := by omega
      rw [this]
      exact hk
    · intro h
      exact ⟨_, h, lb' x hx⟩
  rw [Bool.eq_iff_iff, bund_iff hms, bund_iff hns]
  have ne : ms ≠ [] ↔ ns ≠ [] := by
    have := hm.length_eq
    rw [List.length_map] at this
    constructor
    · intro h z
      rw [z] at this
      exact h (List.length_eq_zero_iff.mp this)
    · intro h z
      rw [z] at this
      exact h (List.length_eq_zero_iff.mp this.symm)
  rw [ne]
  refine and_congr_right fun _ => ⟨fun h t ht hmt x hx y hy => ?_, fun h t ht hmt x hx y hy => ?_⟩
  · -- from the renamed to the old
    have hxr := hns.rg x hx
    have hyr := hns.rg y hy
    have ht' := lrg t ht
    have hx' := lrg x.toNat (by omega)
    have hy' := lrg y.toNat (by omega)
    have bt := hO.bl t ht
    have bx := hO.bl x.toNat (by omega)
    have by' := hO.bl y.toNat (by omega)
    have mx : l.getD x.toNat 0 ∈ ms := hm.mem_iff.mpr (List.mem_map.mpr ⟨x, hx, rfl⟩)
    have my : l.getD y.toNat 0 ∈ ms := hm.mem_iff.mpr (List.mem_map.mpr ⟨y, hy, rfl⟩)
    have nt : (((l.getD t 0).toNat : Nat) : Int) ∉ ms := fun z => hmt (by
      have := (mem (l.getD t 0).toNat (by omega)).mp z
      rw [bt] at this
      exact this)
    have g := h (l.getD t 0).toNat (by omega) nt _ mx _ my
    rw [h3 _ _ (by omega) (by omega), h3 _ _ (by omega) (by omega), bt, bx, by'] at g
    exact g
  · have hxr := hms.rg x hx
    have hyr := hms.rg y hy
    have mx := (mem x.toNat (by omega)).mp (by rw [show ((x.toNat : Nat) : Int) = x by omega]; exact hx)
    have my := (mem y.toNat (by omega)).mp (by rw [show ((y.toNat : Nat) : Int) = y by omega]; exact hy)
    have nt : ((b.getD t 0 : Nat) : Int) ∉ ns := fun z => hmt ((mem t ht).mpr z)
    rw [h3 _ _ ht (by omega), h3 _ _ ht (by omega)]
    exact h _ (brg t ht) nt _ mx _ my
end K14

set_option Elab.async false
set_option linter.all false
set_option maxRecDepth 100000
set_option maxHeartbeats 1000000
namespace K14
open PySem L2 GxR GA KD KR KM KJ
/-- the first place of a task -/
def fnd (a : Int) : List Int → Nat
  | [] => 0
  | x :: r => if x = a then 0 else fnd a r + 1
theorem fnd_at {a : Int} : ∀ {l : List Int}, a ∈ l → l[fnd a l]? = some a ∧ ∀ (m : Nat) (z : Int), m < fnd a l → l[m]? = some z → z ≠ a
  | x :: r, h => by
    unfold fnd
    by_cases e : x = a
    · rw [if_pos e]
      exact ⟨by rw [e]; rfl, fun m z h => absurd h (Nat.not_lt_zero m)⟩
    · rw [if_neg e]
      have h' : a ∈ r := by
        rcases List.mem_cons.mp h with z | z
        · exact absurd z.symm e
        · exact z
      obtain ⟨h1, h2⟩ := fnd_at h'
      refine ⟨by simpa using h1, fun m z hm hz => ?_⟩
      cases m with
      | zero => simp at hz; rw [← hz]; exact e
      | succ m => exact h2 m z (by omega) (by simpa using hz)
theorem nodup_at {l : List Int} (hn : l.Nodup) {i j : Nat} {a : Int} (h1 : l[i]? = some a) (h2 : l[j]? = some a) : i = j := by
  obtain ⟨a1, e1⟩ := List.getElem?_eq_some_iff.mp h1
  obtain ⟨a2, e2⟩ := List.getElem?_eq_some_iff.mp h2
  exact (List.getElem_inj hn).mp (e1.trans e2.symm)
def bk (l : List Int) (n : Nat) : List Nat := (List.range n).map fun (x : Nat) => fnd (x : Int) l
theorem bk_get {l : List Int} {n x : Nat} (h : x < n) : (bk l n).getD x 0 = fnd (x : Int) l := by
  unfold bk
  rw [List.getD_eq_getElem?_getD, List.getElem?_map, List.getElem?_range h]
  rfl
theorem ord_of {l : List Int} {n : Nat} (hp : l.Perm (rng n)) : Ord n l (bk l n) := by
  have hl : l.length = n := by rw [hp.length_eq, rng_length]
  have hn : l.Nodup := hp.nodup_iff.mpr (rng_nodup n)
  have hm : ∀ x : Nat, x < n → (x : Int) ∈ l := fun x hx => hp.mem_iff.mpr (mem_rng.mpr ⟨by omega, by omega⟩)
  have hf : ∀ x : Nat, x < n → fnd (x : Int) l < n := fun x hx => by
    have := (List.getElem?_eq_some_iff.mp (fnd_at (hm x hx)).1).1
    omega
  refine ⟨hl, by unfold bk; rw [List.length_map, List.length_range], fun k hk => mem_rng.mp (hp.mem_iff.mp hk), fun k hk => ?_, fun x hx => ?_, fun x hx => ?_⟩
  · unfold bk at hk
    obtain ⟨x, hx, rfl⟩ := List.mem_map.mp hk
    exact hf x (List.mem_range.mp hx)
  · rw [bk_get hx]
    exact (fnd_at (hm x hx)).1
  · have e : l[x]? = some l[x] := List.getElem?_eq_getElem (by omega)
    have eg : l.getD x 0 = l[x] := by rw [List.getD_eq_getElem?_getD, e]; rfl
    have hr := mem_rng.mp (hp.mem_iff.mp (List.getElem_mem (show x < l.length by omega)))
    rw [eg, bk_get (by omega)]
    have e3 : (((l[x]).toNat : Nat) : Int) = l[x] := by omega
    rw [e3]
    exact nodup_at hn (fnd_at (List.getElem_mem _)).1 e
theorem tlL_sub : ∀ {as bs : List PyData}, as.Sublist bs → (tlL as).Sublist (tlL bs) := by
  intro as bs h
  induction h with
  | slnil => exact List.Sublist.refl _
  | cons a _ ih => rw [tlL_cons]; exact ih.trans (List.sublist_append_right _ _)
  | cons_cons a _ ih => rw [tlL_cons, tlL_cons]; exact List.Sublist.append (List.Sublist.refl _) ih
/-- rising, no two the same: ascending -/
theorem le_lt : ∀ {l : List Int}, l.Pairwise (· ≤ ·) → l.Nodup → l.Pairwise (· < ·)
  | [], _, _ => List.Pairwise.nil
  | x :: r, h, n => by
    rw [List.pairwise_cons] at h
    rw [List.nodup_cons] at n
    rw [List.pairwise_cons]
    refine ⟨fun y hy => ?_, le_lt h.2 n.2⟩
    have := h.1 y hy
    have ne : x ≠ y := fun z => n.1 (by rw [z]; exact hy)
    omega
theorem asc_of {n : Nat} {l : List Int} (h : l.Pairwise (· ≤ ·)) (hn : l.Nodup) (hr : ∀ k ∈ l, 0 ≤ k ∧ k < n) : Asc n l := ⟨le_lt h hn, hr⟩
theorem map_nodup {n : Nat} {l ns : List Int} (hO : Ord n l (bk l n)) (hns : Asc n ns) : (ns.map fun k => l.getD k.toNat 0).Nodup := by
  refine List.Pairwise.map _ (R := fun a b : Int => a ≠ b ∧ (0 ≤ a ∧ a < n) ∧ (0 ≤ b ∧ b < n)) (fun a b h z => ?_) ?_
  · obtain ⟨h1, h2, h3⟩ := h
    have e1 := hO.bl a.toNat (by omega)
    have e2 := hO.bl b.toNat (by omega)
    rw [z, e2] at e1
    exact h1 (by omega)
  · have : ∀ ns : List Int, ns.Pairwise (· < ·) → (∀ k ∈ ns, 0 ≤ k ∧ k < n) → ns.Pairwise fun a b : Int => a ≠ b ∧ (0 ≤ a ∧ a < n) ∧ (0 ≤ b ∧ b < n) := by
      intro ns
      induction ns with
      | nil => intro _ _; exact List.Pairwise.nil
      | cons x r ih =>
        intro h g
        rw [List.pairwise_cons] at h ⊢
        exact ⟨fun y hy => ⟨by have := h.1 y hy; omega, g x List.mem_cons_self, g y (List.mem_cons_of_mem _ hy)⟩, ih h.2 fun k hk => g k (List.mem_cons_of_mem _ hk)⟩
    exact this ns hns.up hns.rg
/-- the tasks of some parts are a bundle -/
theorem parts_bund {n : Nat} {RS : List (List Str)} {u : Str} {ps S : List PyData} {ms : List Int} {I : Nat → Prop} (hnd : (tlL ps).Nodup) (hp : (tlL ps).Perm (rng n)) (hc : ∀ x y, x < n → y < n → Cel (.tuple [.str u, .tuple ps]) x y (cell RS x y))
    (hI : u = "beside" ∨ ∀ i j k, I i → I j → ¬ I k → (k < i ↔ k < j)) (s1 : ∀ p ∈ S, ∃ i, I i ∧ ps[i]? = some p) (s2 : ∀ i p, I i → ps[i]? = some p → p ∈ S) (hms : Asc n ms) (hne : ms ≠ []) (hm : ms.Perm (tlL S)) : bund n RS ms = true := by
  refine bund_of (d := .tuple [.str u, .tuple ps]) hms hne (by rw [tl_part]; exact hnd) (by rw [tl_part]; exact hp) hc fun t ht htm x hx y hy r hr => ?_
  rw [tl_part] at ht
  obtain ⟨k, pk, hk, mt⟩ := mem_tlL ht
  obtain ⟨i', pi', hi', mx⟩ := mem_tlL (hm.mem_iff.mp hx)
  obtain ⟨j', pj', hj', my⟩ := mem_tlL (hm.mem_iff.mp hy)
  obtain ⟨i, Ii, hi⟩ := s1 pi' (List.mem_of_getElem? hi')
  obtain ⟨j, Ij, hj⟩ := s1 pj' (List.mem_of_getElem? hj')
  have Ik : ¬ I k := fun z => htm (hm.mem_iff.mpr (tl_mem (s2 k pk z hk) t mt))
  exact some_same hnd hI hk hi hj mt mx my Ii Ij Ik hr
/-- parts from lo up to hi, and the first one with them where lo is greater than 1 and they are beside -/
def pick (u : Str) (ps : List PyData) (lo hi : Nat) : List PyData := (ps.drop lo).take (hi - lo) ++ (if u = "beside" then ps.take (if 1 < lo then 1 else 0) else [])
def pickI (u : Str) (lo hi i : Nat) : Prop := (lo ≤ i ∧ i < hi) ∨ (u = "beside" ∧ 1 < lo ∧ i = 0)
theorem pick_mem {u : Str} {ps : List PyData} {lo hi : Nat} (h2 : hi ≤ ps.length) : (∀ p ∈ pick u ps lo hi, ∃ i, pickI u lo hi i ∧ ps[i]? = some p) ∧ ∀ i p, pickI u lo hi i → ps[i]? = some p → p ∈ pick u ps lo hi := by
  refine ⟨fun p hp => ?_, fun i p hI hp => ?_⟩
  · rcases List.mem_append.mp hp with z | z
    · obtain ⟨j, hj⟩ := List.getElem?_of_mem z
      have hl := (List.getElem?_eq_some_iff.mp hj).1
      rw [List.length_take, List.length_drop] at hl
      rw [List.getElem?_take_of_lt (by omega), List.getElem?_drop] at hj
      exact ⟨lo + j, .inl ⟨by omega, by omega⟩, hj⟩
    · by_cases c : u = "beside"
      · rw [if_pos c] at z
        by_cases c2 : 1 < lo
        · rw [if_pos c2] at z
          obtain ⟨j, hj⟩ := List.getElem?_of_mem z
          have hl := (List.getElem?_eq_some_iff.mp hj).1
          rw [List.length_take] at hl
          have : j = 0 := by omega
          subst this
          rw [List.getElem?_take_of_lt (by omega)] at hj
          exact ⟨0, .inr ⟨c, c2, rfl⟩, hj⟩
        · rw [if_neg c2] at z
          simp at z
      · rw [if_neg c] at z
        cases z
  · rcases hI with ⟨a, b⟩ | ⟨a, b, c⟩
    · refine List.mem_append.mpr (.inl ?_)
      refine List.mem_of_getElem? (i := i - lo) ?_
      rw [List.getElem?_take_of_lt (by omega), List.getElem?_drop]
      rw [show lo + (i - lo) = i by omega]
      exact hp
    · subst c
      refine List.mem_append.mpr (.inr ?_)
      rw [if_pos a, if_pos b]
      refine List.mem_of_getElem? (i := 0) ?_
      rw [List.getElem?_take_of_lt (by omega)]
      exact hp
theorem pick_I {u : Str} {lo hi : Nat} : u = "beside" ∨ ∀ i j k, pickI u lo hi i → pickI u lo hi j → ¬ pickI u lo hi k → (k < i ↔ k < j) := by
  by_cases c : u = "beside"
  · exact .inl c
  · refine .inr fun i j k h1 h2 hk => ?_
    have e : ∀ i, pickI u lo hi i ↔ (lo ≤ i ∧ i < hi) := fun i => ⟨fun z => z.elim id fun y => absurd y.1 c, .inl⟩
    rw [e] at h1 h2 hk
    omega
theorem pick_nodup {u : Str} {ps : List PyData} {lo hi : Nat} (hn : (tlL ps).Nodup) : (tlL (pick u ps lo hi)).Nodup := by
  have hs : ∀ a : Nat, a ≤ lo → (ps.take a ++ (ps.drop lo).take (hi - lo)).Sublist ps := fun a ha => by
    have h := List.Sublist.append (List.take_sublist_take_left (l := ps) ha) (List.take_sublist (hi - lo) (ps.drop lo))
    rw [List.take_append_drop] at h
    exact h
  have key : ∀ a : Nat, a ≤ lo → (tlL ((ps.drop lo).take (hi - lo) ++ ps.take a)).Nodup := fun a ha => by
    have h := (tlL_sub (hs a ha)).nodup hn
    rw [tlL_app] at h ⊢
    exact (List.perm_append_comm).nodup_iff.mp h
  unfold pick
  split
  · split
    · exact key 1 (by omega)
    · exact key 0 (by omega)
  · have := key 0 (by omega)
    rw [List.take_zero] at this
    exact this
theorem pick_pos {u : Str} {ps : List PyData} {lo hi : Nat} (h1 : lo < hi) (h2 : hi ≤ ps.length) (hp : ∀ p ∈ ps, 1 ≤ (tl p).length) : 1 ≤ (tlL (pick u ps lo hi)).length := by
  have e : ps[lo]? = some ps[lo] := List.getElem?_eq_getElem (by omega)
  have hm := (pick_mem (u := u) (lo := lo) h2).2 lo ps[lo] (.inl ⟨Nat.le_refl _, h1⟩) e
  exact Nat.le_trans (hp _ (List.getElem_mem _)) (tl_le hm)
/-- t[lo:hi] of a tuple that stands -/
theorem slice_at {K : PySem.W.Frag} {H : Hp} {p : Addr} {xs : List V} {ds : List PyData} {Q : VK} {lo hi : Option Int} {i j : Nat} (hp : H p = some (.tup xs)) (al : AtL MN H xs ds) (h1 : HT.sIx xs.length 0 lo = i) (h2 : HT.sIx xs.length xs.length hi = j)
    (q : ∀ r zs H', H' r = some (.tup zs) → AtL MN H' zs ((ds.drop i).take (j - i)) → Kp MN H H' → Q (.ref r) H') : rSlA K (.ref p) lo hi H Q := by
  refine ⟨p, xs, rfl, SqT.of hp, fun z => ?_, fun _ r hr => ?_⟩
  · have e1 : i = 0 := h1.symm.trans z.1
    have e2 : j = xs.length := h2.symm.trans z.2
    refine q p xs H hp ?_ .refl
    rw [e1, e2, List.drop_zero, Nat.sub_zero, al.length, List.take_length]
    exact al
  · unfold cutV
    rw [h1, h2]
    exact q r _ _ upd_same (((al.drop i).take (j - i)).kp (Kp.new hr)) (Kp.new hr)
theorem sub_form {p d : PyData} (h : Sub p d) : ∀ {o : Str}, formed d o = some (tl d) → (∃ o', formed p o' = some (tl p)) ∧ p.depth ≤ d.depth ∧ (tl p).Sublist (tl d) := by
  induction h with
  | refl => exact fun hf => ⟨⟨_, hf⟩, Nat.le_refl _, List.Sublist.refl _⟩
  | @part u qs q hq _ ih =>
    intro o hf
    obtain ⟨_, _, _, _, hfm⟩ := part_form hf
    obtain ⟨h1, h2, h3⟩ := ih (hfm q hq)
    refine ⟨h1, ?_, ?_⟩
    · have := depth_mem hq
      simp only [PyData.depth, PyData.depthAll]
      omega
    · rw [tl_part]
      refine h3.trans ?_
      obtain ⟨i, hi⟩ := List.getElem?_of_mem hq
      have hs : [q].Sublist qs := List.singleton_sublist.mpr hq
      have := tlL_sub hs
      rw [tlL_cons, tlL_nil, List.append_nil] at this
      exact this
theorem srt_up (l : List Int) : (srt l).Pairwise (· ≤ ·) := srt_sorted l
theorem asc_srt {n : Nat} {l m : List Int} (h : l.Sublist m) (hp : m.Perm (rng n)) : Asc n (srt l) := by
  have hn : l.Nodup := h.nodup (hp.nodup_iff.mpr (rng_nodup n))
  refine asc_of (srt_up l) ((srt_perm l).nodup_iff.mpr hn) fun k hk => ?_
  exact mem_rng.mp (hp.mem_iff.mp (h.subset ((srt_perm l).mem_iff.mp hk)))
end K14

set_option Elab.async false
set_option linter.all false
set_option maxRecDepth 100000
set_option maxHeartbeats 4000000
/-! k14: the law -/
namespace K14
open PySem L2 GxR GA KD KR KM KJ
abbrev sLaw : Stmt := top 38
def spLaw (K : PySem.W.Frag) (p1 p2 p3 p4 p5 : Addr) : Sp := fun vs H Q _ => ∃ (a : Addr) (ns : List Int), vs = [.ref a] ∧ SqL K H a (ns.map V.int) ∧ ns.length ≤ 63 ∧ Tab5 H p1 p2 p3 p4 p5 ∧ ∀ H', Q (.bl true) H'
abbrev LN : List Str := ["script", "stream", "size", "table", "order", "back", "other", "turn", "chosen", "due", "plan", "low", "high", "some", "tasks", "one", "x", "y"]
/-- tuple(a list or tuple) -/
abbrev rTupOf (K : PySem.W.Frag) : List V → Hp → VK → Prop := fun xs H Q => ∃ p ys, xs = [.ref p] ∧ (SqL K H p ys ∧ (∀ t, H t = none → Q (.ref t) (upd H t (.tup ys))) ∨ SqT K H p ys ∧ Q (.ref p) H)
section
variable {P : Program} {w : World} {K : PySem.W.Frag} {mg : Str → Option Value} {base : Heap}
theorem scLaw : FnScope LN ["script"] (defScope sLaw) := ⟨rfl, rfl, rfl, by decide +kernel, rfl, by decide +kernel, by decide +kernel⟩
theorem ok_law {f g1 g2 g3 g4 g5 g6 g7 g8 g9 gb gd p1 p2 p3 p4 p5 : Addr} {fd d1 d2 d3 d4 d5 d6 d7 d8 d9 db dd : FuncData} (F : Fun K "law" "law" sLaw f fd) (B : Bl K mg)
    (G1 : FnOk P w K mg base CX0 1 g1 d1 ["script"] (spStream K)) (b1 : Binds K d1 ["script"] []) (k1 : PySem.W.keepIn K (.ref g1) = true) (m1 : mg "_law_stream" = some (.ref g1))
    (G2 : FnOk P w K mg base CX0 1 g2 d2 ["stream", "many"] spNext) (b2 : Binds K d2 ["stream", "many"] []) (k2 : PySem.W.keepIn K (.ref g2) = true) (m2 : mg "_law_next" = some (.ref g2))
    (G3 : FnOk P w K mg base CX0 18 g3 d3 ["stream", "size"] spSome) (b3 : Binds K d3 ["stream", "size"] []) (k3 : PySem.W.keepIn K (.ref g3) = true) (m3 : mg "_law_some_table" = some (.ref g3))
    (G4 : FnOk P w K mg base CX0 5 g4 d4 ["actual", "due"] (spEq 4)) (b4 : Binds K d4 ["actual", "due"] []) (k4 : PySem.W.keepIn K (.ref g4) = true) (m4 : mg "_law_equal" = some (.ref g4))
    (G5 : FnOk P w K mg base CX0 2 g5 d5 ["stream", "many"] spShuffled) (b5 : Binds K d5 ["stream", "many"] []) (k5 : PySem.W.keepIn K (.ref g5) = true) (m5 : mg "_law_shuffled" = some (.ref g5))
    (G6 : FnOk P w K mg base CX0 3 g6 d6 ["stream", "size"] spLPlan) (b6 : Binds K d6 ["stream", "size"] []) (k6 : PySem.W.keepIn K (.ref g6) = true) (m6 : mg "_law_plan" = some (.ref g6))
    (G7 : FnOk P w K mg base CX0 17 g7 d7 ["plan"] spTable) (b7 : Binds K d7 ["plan"] []) (k7 : PySem.W.keepIn K (.ref g7) = true) (m7 : mg "_law_table" = some (.ref g7))
    (G8 : FnOk P w K mg base CX0 16 g8 d8 ["plan"] (spTasksS 15)) (b8 : Binds K d8 ["plan"] []) (k8 : PySem.W.keepIn K (.ref g8) = true) (m8 : mg "_law_tasks" = some (.ref g8))
    (G9 : FnOk P w K mg base CX0 16 g9 d9 ["plan"] (spParts 15)) (b9 : Binds K d9 ["plan"] []) (k9 : PySem.W.keepIn K (.ref g9) = true) (m9 : mg "_law_parts" = some (.ref g9))
    (GB : FnOk P w K mg base CX0 6 gb db ["table", "chosen"] (spBundle p1 p2 p3 p4 p5)) (bB : Binds K db ["table", "chosen"] []) (kB : PySem.W.keepIn K (.ref gb) = true) (mB : mg "is_bundle" = some (.ref gb))
    (GD : FnOk P w K mg base CX0 1 gd dd ["table", "chosen"] spDue) (bD : Binds K dd ["table", "chosen"] []) (kD : PySem.W.keepIn K (.ref gd) = true) (mD : mg "_law_due" = some (.ref gd)) :
    FnOk P w K mg base CX0 19 f fd ["script"] (spLaw K p1 p2 p3 p4 p5) := by
  refine F.ok scLaw (fun vs H Q E h => ?_) (fun cdv A outer s H vs Q E hr h => ?_)
  · obtain ⟨a, ns, rfl, _⟩ := h
    rfl
  obtain ⟨a, ns, rfl, hS, h63, hT, q⟩ := h
  have r1 : Room 1 _ := hr.mono (by decide)
  have r2 : Room 2 _ := hr.mono (by decide)
  have r3 : Room 3 _ := hr.mono (by decide)
  have r5 : Room 5 _ := hr.mono (by decide)
  have r6 : Room 6 _ := hr.mono (by decide)
  have r16 : Room 16 _ := hr.mono (by decide)
  have r17 : Room 17 _ := hr.mono (by decide)
  refine ⟨_, pss_cons (ps_set (i := 1) scLaw.nd rfl (Or.inr rfl) (pe_call G1 r1 rfl m1 k1 b1 .nil pass0 (pa_cons (pv 0) pa_nil)))
    (pss_cons (ps_set (i := 2) scLaw.nd rfl (Or.inr rfl) (pe_op op_add pe_int (pe_call G2 r1 rfl m2 k2 b2 .nil pass0 (pa_cons (pv 1) (pa_cons pe_int pa_nil)))))
    (pss_cons (ps_set (i := 3) scLaw.nd rfl (Or.inr rfl) (pe_call G3 hr rfl m3 k3 b3 .nil pass0 (pa_cons (pv 1) (pa_cons (pv 2) pa_nil))))
    (pss_cons (ps_set (i := 4) scLaw.nd rfl (Or.inr rfl) (pe_call G5 r2 rfl m5 k5 b5 .nil pass0 (pa_cons (pv 1) (pa_cons (pv 2) pa_nil))))
    (pss_cons (ps_set (i := 5) scLaw.nd rfl (Or.inr rfl) (pe_lc (own := [("one", 15)]) (g := gName 15) (tt := tYes) (te := tBM K "list" (rIndex K) (tVar 4) (tCons (tVar 15) tNil)) rfl scLaw.nd (pi_range1 rfl B.range (pa_cons (pv 2) pa_nil))
        (blkOk_by (own := [("one", 15)]) (N := LN) (sc := defScope sLaw) (by decide +kernel)) (fun _ _ _ _ _ => pg_name (i := 15) scLaw.nd rfl (Or.inl rfl)) (fun _ _ _ _ _ => pts_nil)
        (fun _ _ _ _ _ => pe_bm PySem.F.plainAttrs_list PySem.F.slot_list_index PySem.F.type_list_index mt_index (pv 4) (pa_cons (pv 15) pa_nil))))
    (pss_cons (ps_set (i := 6) scLaw.nd rfl (Or.inl rfl) (pe_callTy call_tuple_of rfl B.tuple (by decide +kernel) (pa_cons
      (pe_lc (own := [("x", 16)]) (g := gName 16) (tt := tYes) (te := tCB (rTupOf K) (tCons (tLc (iRng1 (tCons (tVar 2) tNil)) (gName 17) tYes (tOp (rIxT K) (tOp (rIxT K) (tVar 3) (tOp (rIxL K) (tVar 5) (tVar 16))) (tOp (rIxL K) (tVar 5) (tVar 17))) [17]) tNil)) rfl scLaw.nd (pi_range1 rfl B.range (pa_cons (pv 2) pa_nil))
        (blkOk_by (own := [("x", 16)]) (N := LN) (sc := defScope sLaw) (by decide +kernel)) (fun _ _ _ _ _ => pg_name (i := 16) scLaw.nd rfl (Or.inr rfl)) (fun _ _ _ _ _ => pts_nil)
        (fun _ _ _ _ _ => pe_callTy call_tuple_of rfl B.tuple (by decide +kernel) (pa_cons (pe_lc (own := [("y", 17)]) (g := gName 17) (tt := tYes) (te := tOp (rIxT K) (tOp (rIxT K) (tVar 3) (tOp (rIxL K) (tVar 5) (tVar 16))) (tOp (rIxL K) (tVar 5) (tVar 17))) rfl scLaw.nd (pi_range1 rfl B.range (pa_cons (pv 2) pa_nil))
          (blkOk_by (own := [("y", 17)]) (N := LN) (by rfl)) (fun _ _ _ _ _ => pg_name (i := 17) scLaw.nd rfl (Or.inl rfl)) (fun _ _ _ _ _ => pts_nil)
          (fun _ _ _ _ _ => pe_ix ix_tup (pe_ix ix_tup (pv 3) (pe_ix ix_list (pv 5) (pv 16) (fun _ _ => rfl)) (fun _ _ => rfl)) (pe_ix ix_list (pv 5) (pv 17) (fun _ _ => rfl)) (fun _ _ => rfl))) pa_nil))) pa_nil)))
    (pss_cons (ps_for PassesOwn.never rfl (pi_range1 rfl B.range (pa_cons pe_int pa_nil)) (pg_name (i := 7) scLaw.nd rfl (Or.inl rfl))
      (pss_cons (ps_set (i := 8) scLaw.nd rfl (Or.inl rfl) (pe_callTy call_tuple_of rfl B.tuple (by decide +kernel) (pa_cons
        (pe_lc (own := [("one", 15)]) (g := gName 15) (tt := tTest (tOp rEq (tCall spNext [] E0 (tCons (tVar 1) (tCons (tC (.int 2)) tNil))) (tC (.int 0)))) (te := tVar 15) rfl scLaw.nd (pi_range1 rfl B.range (pa_cons (pv 2) pa_nil))
          (blkOk_by (own := [("one", 15)]) (N := LN) (sc := defScope sLaw) (by decide +kernel)) (fun _ _ _ _ _ => pg_name (i := 15) scLaw.nd rfl (Or.inl rfl))
          (fun _ _ _ _ _ => pts_one (pt_cmpR op_eq (pe_call G2 r1 rfl m2 k2 b2 .nil pass0 (pa_cons (pv 1) (pa_cons pe_int pa_nil))) pe_int (nomark _))) (fun _ _ _ _ _ => pv 15)) pa_nil)))
      (pss_cons (ps_set (i := 9) scLaw.nd rfl (Or.inl rfl) (pe_call GD r1 rfl mD kD bD .nil pass0 (pa_cons (pv 3) (pa_cons (pv 8) pa_nil))))
      (pss_cons (ps_if (pt_not (pt_val (pe_call G4 r5 rfl m4 k4 b4 .nil pass0 (pa_cons (pe_call GB r6 rfl mB kB bB .nil pass0 (pa_cons (pv 3) (pa_cons (pv 8) pa_nil))) (pa_cons (pv 9) pa_nil))))) (pss_one (ps_ret pe_bl)) pss_nil)
      (pss_one (ps_if (pt_not (pt_val (pe_call G4 r5 rfl m4 k4 b4 .nil pass0 (pa_cons (pe_call GB r6 rfl mB kB bB .nil pass0 (pa_cons (pv 6) (pa_cons
          (pe_callTy call_tuple_of rfl B.tuple (by decide +kernel) (pa_cons (pe_callB cr_sorted rfl B.sorted (by decide +kernel) (pa_cons
            (pe_lc (own := [("one", 15)]) (g := gName 15) (tt := tYes) (te := tOp (rIxL K) (tVar 4) (tVar 15)) rfl scLaw.nd (pi_tup (pv 8)) (blkOk_by (own := [("one", 15)]) (N := LN) (sc := defScope sLaw) (by decide +kernel)) (fun _ _ _ _ _ => pg_name (i := 15) scLaw.nd rfl (Or.inl rfl)) (fun _ _ _ _ _ => pts_nil)
              (fun _ _ _ _ _ => pe_ix ix_list (pv 4) (pv 15) (fun _ _ => rfl))) pa_nil)) pa_nil)) pa_nil))) (pa_cons (pv 9) pa_nil))))) (pss_one (ps_ret pe_bl)) pss_nil))))))
    (pss_cons (ps_set (i := 10) scLaw.nd rfl (Or.inl rfl) (pe_call G6 r3 rfl m6 k6 b6 .nil pass0 (pa_cons (pv 1) (pa_cons (pv 2) pa_nil))))
    (pss_cons (ps_set (i := 3) scLaw.nd rfl (Or.inr rfl) (pe_call G7 r17 rfl m7 k7 b7 .nil pass0 (pa_cons (pv 10) pa_nil)))
    (pss_cons (ps_if (pt_not (pt_val (pe_callB (cr_all rfl) rfl B.all (by decide +kernel) (pa_cons
        (pe_lc (own := [("one", 15)]) (g := gName 15) (tt := tYes) (te := tOp rIsB (tCall (spBundle p1 p2 p3 p4 p5) [] E0 (tCons (tVar 3) (tCons (tCB (rTupOf K) (tCons (tCall (spTasksS 15) [] E0 (tCons (tVar 15) tNil)) tNil)) tNil))) (tC (.bl true))) rfl scLaw.nd (pi_list (pe_call G9 r16 rfl m9 k9 b9 .nil pass0 (pa_cons (pv 10) pa_nil)))
          (blkOk_by (own := [("one", 15)]) (N := LN) (sc := defScope sLaw) (by decide +kernel)) (fun _ _ _ _ _ => pg_name (i := 15) scLaw.nd rfl (Or.inl rfl)) (fun _ _ _ _ _ => pts_nil)
          (fun _ _ _ _ _ => pe_cmpR op_isBl (pe_call GB r6 rfl mB kB bB .nil pass0 (pa_cons (pv 3) (pa_cons (pe_callTy call_tuple_of rfl B.tuple (by decide +kernel) (pa_cons (pe_call G8 r16 rfl m8 k8 b8 .nil pass0 (pa_cons (pv 15) pa_nil)) pa_nil)) pa_nil))) pe_bl (nomark _))) pa_nil)))) (pss_one (ps_ret pe_bl)) pss_nil)
    (pss_cons (ps_if (pt_not (pt_val (pe_callB call_isi rfl B.isinstance (by decide +kernel) (pa_cons (pv 10) (pa_cons (pe_bltn rfl B.tuple (by decide +kernel) (v := .ty "tuple") rfl) pa_nil))))) (pss_one (ps_ret pe_bl)) pss_nil)
    (pss_cons (ps_set (i := 11) scLaw.nd rfl (Or.inl rfl) (pe_call G2 r1 rfl m2 k2 b2 .nil pass0 (pa_cons (pv 1) (pa_cons (pe_callB call_len_seq rfl B.len PySem.boot_len (pa_cons (pe_ix ix_tup (pv 10) pe_int (fun _ _ => rfl)) pa_nil)) pa_nil))))
    (pss_cons (ps_set (i := 12) scLaw.nd rfl (Or.inl rfl) (pe_op op_add (pe_op op_add (pv 11) pe_int) (pe_call G2 r1 rfl m2 k2 b2 .nil pass0 (pa_cons (pv 1) (pa_cons (pe_op op_sub (pe_callB call_len_seq rfl B.len PySem.boot_len (pa_cons (pe_ix ix_tup (pv 10) pe_int (fun _ _ => rfl)) pa_nil)) (pv 11)) pa_nil)))))
    (pss_cons (ps_set (i := 13) scLaw.nd rfl (Or.inl rfl) (pe_slice sl_tupA (pe_ix ix_tup (pv 10) pe_int (fun _ _ => rfl)) (po_some (pv 11)) (po_some (pv 12))))
    (C8.pss_cut (ps_if (pt_cmpR op_eq (pe_ix ix_tup (pv 10) pe_int (fun _ _ => rfl)) pe_str (nomark _))
        (pss_one (ps_set (i := 13) scLaw.nd rfl (Or.inl rfl) (pe_op op_catA (pv 13) (pe_slice sl_tupA (pe_ix ix_tup (pv 10) pe_int (fun _ _ => rfl)) po_none (po_some (pe_callTy call_int1 rfl B.int (by decide +kernel) (pa_cons (pe_cmpR op_gt (pv 11) pe_int (nomark _)) pa_nil))))))) pss_nil)
    (pss_cons (ps_set (i := 14) scLaw.nd rfl (Or.inl rfl) (pe_lst pa_nil))
    (pss_cons (ps_for PassesOwn.never rfl (pi_tup (pv 13)) (pg_name (i := 15) scLaw.nd rfl (Or.inl rfl))
      (pss_one (ps_set (i := 14) scLaw.nd rfl (Or.inl rfl) (pe_op op_cat (pv 14) (pe_call G8 r16 rfl m8 k8 b8 .nil pass0 (pa_cons (pv 15) pa_nil))))))
    (pss_one (ps_ret (pe_cmpR op_isBl (pe_call GB r6 rfl mB kB bB .nil pass0 (pa_cons (pv 3) (pa_cons (pe_callTy call_tuple_of rfl B.tuple (by decide +kernel) (pa_cons (pe_callB cr_sorted rfl B.sorted (by decide +kernel) (pa_cons (pv 14) pa_nil)) pa_nil)) pa_nil))) pe_bl (nomark _)))))))))))))))))))), ?_⟩
  refine ⟨_, rfl, a, ns, rfl, hS, h63, fun st c H1 hst k1' s1 => ?_⟩
  refine ⟨_, rfl, st, c, 7, rfl, s1, by decide, by decide, fun d0 H2 d00 d01 k2' s2 => ?_⟩
  refine ⟨1, d0, rfl, rfl, ?_⟩
  obtain ⟨n, en⟩ : ∃ n : Nat, (1 : Int) + d0 = (n : Int) := ⟨(1 + d0).toNat, by omega⟩
  have n1 : 1 ≤ n := by omega
  have n7 : n ≤ 7 := by omega
  dsimp only
  rw [en]
  refine ⟨_, rfl, _, rfl, st, c, n, rfl, s2, n1, n7, fun v RS H3 aT hF k3' s3 => ?_⟩
  refine ⟨_, rfl, _, rfl, st, c, n, rfl, s3, by omega, fun Lo l H4 hperm eLo _ nLs nLc k4' s4 => ?_⟩
  have hO := ord_of hperm
  have hT4 : Tab5 H4 p1 p2 p3 p4 p5 := ((hT.kp k1').kp k2' |>.kp k3').kp k4'
  have aT4 := aT.kp k4'
  have hll : l.length = n := hO.len
  have lget : ∀ x : Nat, x < n → l[x]? = some (l.getD x 0) := fun x hx => by rw [List.getD_eq_getElem?_getD, List.getElem?_eq_getElem (by omega)]; rfl
  have flat : (l.map V.int).all flatV = true := by
    rw [List.all_eq_true]
    intro x hx
    obtain ⟨i, _, rfl⟩ := List.mem_map.mp hx
    rfl
  -- the way back
  refine ⟨_, rfl, _, rfl, by omega, by omega, fun D hD => ?_⟩
  refine lc_range (lo := 0) (n := ((n : Int)).toNat) (fun i H' => Kp MN H4 H' ∧ H' D = some (.lst (((bk l n).take i).map fun (k : Nat) => V.int (k : Int)))) ⟨Kp.new hD, upd_same⟩ (fun i H' hi p => ?_) (fun H5 p => ?_)
  · obtain ⟨k, e⟩ := p
    have hin : i < n := by omega
    generalize hZ : (0 + (i : Int)) = Z
    have eZ : Z = (i : Int) := by omega
    subst eZ
    have hm : (i : Int) ∈ l := hperm.mem_iff.mpr (mem_rng.mpr ⟨by omega, by omega⟩)
    obtain ⟨f1, f2⟩ := fnd_at hm
    have eL := k.lst Lo _ (fun z => z) eLo
    refine ⟨rfl, ?_⟩
    dsimp only [tYes]
    rw [if_pos rfl]
    refine ⟨_, rfl, .inl ⟨rfl, _, .inl (.inl eL)⟩, _, rfl, Lo, _, .int (i : Int), fnd (i : Int) l, .int (i : Int), rfl, rfl, SqL.of eL, rfl, flat, by rw [List.getElem?_map, f1]; rfl, ?_, fun m z' hm' hz => ?_, ?_⟩
    · show ((i : Int) == (i : Int)) = true
      exact beq_self_eq_true _
    · rw [List.getElem?_map] at hz
      obtain ⟨t, ht, rfl⟩ := Option.map_eq_some_iff.mp hz
      show (t == (i : Int)) = false
      rw [beq_eq_false_iff_ne]
      exact f2 m t hm' ht
    · have hbl : (((bk l n).take i).map fun (k : Nat) => V.int (k : Int)).length ≤ 7 := by
        rw [List.length_map, List.length_take, hO.blen]
        omega
      refine ⟨_, e, small1000 (by omega), k.putNew hD e, ?_⟩
      have eb : (bk l n)[i]? = some (fnd (i : Int) l) := by
        unfold bk
        rw [List.getElem?_map, List.getElem?_range hin]
        rfl
      rw [upd_same, List.take_succ, eb, List.map_append]
      rfl
  obtain ⟨k5', eLb⟩ := p
  rw [List.take_of_length_le (by rw [hO.blen]; exact Nat.le_refl _)] at eLb
  generalize D = Lb at eLb hD
  have nLb : Lb ≠ st ∧ Lb ≠ c := s4.ne hD
  have s5 := s4.kp k5'
  have aT5 := aT4.kp k5'.any
  have eLo5 := k5'.lst Lo _ (fun z => z) eLo
  have hT5 := hT4.kp k5'
  have brg : ∀ x, x < n → (bk l n).getD x 0 < n := fun x hx => by
    rw [List.getD_eq_getElem?_getD, List.getElem?_eq_getElem (by rw [hO.blen]; exact hx)]
    exact hO.brg _ (List.getElem_mem _)
  have bat : ∀ x : Nat, x < n → atI ((bk l n).map fun (k : Nat) => V.int (k : Int)) ((x : Nat) : Int) = some (.int (((bk l n).getD x 0 : Nat) : Int)) := fun x hx => atI_nat (j := x) (by
    rw [List.getElem?_map, List.getD_eq_getElem?_getD, List.getElem?_eq_getElem (by rw [hO.blen]; exact hx)]
    rfl)
  -- a cell of the table
  have cellAt : ∀ (H' : Hp), At MN H' v (tabD RS) → ∀ x y : Nat, x < n → y < n → ∃ (pa pb : Addr) (xs ys : List V), v = .ref pa ∧ H' pa = some (.tup xs) ∧ xs[x]? = some (.ref pb) ∧ H' pb = some (.tup ys) ∧ ys[y]? = some (.str (cell RS x y)) := fun H' hA x y hx hy => by
    obtain ⟨pa, pb, xs, ys, u, e1, e2, e3, e4, e5, e6⟩ := cel_at hA (tab_sq hF) hx hy
    rw [tab_cel hF hx hy] at e6
    cases e6.str_of
    exact ⟨pa, pb, xs, ys, e1, e2, e3, e4, e5⟩
  -- the renamed table
  refine ⟨_, rfl, _, rfl, by omega, by omega, fun D hD => ?_⟩
  have nLbD : Lb ≠ D := ne_of_none eLb hD
  refine lc_range (lo := 0) (n := ((n : Int)).toNat) (fun i H' => ∃ vs RS', Kp MN H5 H' ∧ H' D = some (.lst vs) ∧ AtL MN H' vs (RS'.map rowD) ∧ RS'.length = i ∧ (∀ r ∈ RS', r.length = n) ∧ ∀ x y, x < i → y < n → cell RS' x y = cell RS ((bk l n).getD x 0) ((bk l n).getD y 0))
    ⟨[], [], Kp.new hD, upd_same, .nil, rfl, (fun r h => by cases h), fun x y h => absurd h (Nat.not_lt_zero _)⟩ (fun i H' hi p => ?_) (fun H6 p => ?_)
  · obtain ⟨vs, RS', k, e, al, hl, hr', hc⟩ := p
    have hin : i < n := by omega
    generalize hZ : (0 + (i : Int)) = Z
    have eZ : Z = (i : Int) := by omega
    subst eZ
    refine ⟨rfl, ?_⟩
    dsimp only [tYes]
    rw [if_pos rfl]
    refine ⟨_, rfl, _, rfl, by omega, by omega, fun D2 hD2 => ?_⟩
    have nD2 : D ≠ D2 := ne_of_none e hD2
    refine lc_range (lo := 0) (n := ((n : Int)).toNat) (fun j H2 => ∃ rw' : List Str, Kp MN H' H2 ∧ H2 D2 = some (.lst (rw'.map V.str)) ∧ rw'.length = j ∧ ∀ y, y < j → rw'[y]? = some (cell RS ((bk l n).getD i 0) ((bk l n).getD y 0)))
      ⟨[], Kp.new hD2, upd_same, rfl, fun y h => absurd h (Nat.not_lt_zero _)⟩ (fun j H2 hj p => ?_) (fun H2 p => ?_)
    · obtain ⟨rw', k2, e2, l2, c2⟩ := p
      have hjn : j < n := by omega
      generalize hZ : (0 + (j : Int)) = Z
      have eZ : Z = (j : Int) := by omega
      subst eZ
      have kk := k.trans k2
      obtain ⟨pa, pb, xs, ys, e1, e3, e4, e5, e6⟩ := cellAt H2 (aT5.mn.kp kk) _ _ (brg i hin) (brg j hjn)
      have eb := kk.lst Lb _ (fun z => z) eLb
      refine ⟨rfl, ?_⟩
      dsimp only [tYes]
      rw [if_pos rfl]
      refine ⟨v, rfl, _, rfl, _, rfl, Lb, _, (i : Int), _, rfl, rfl, SqL.of eb, bat i hin, pa, xs, _, _, e1, rfl, SqT.of e3, atI_nat e4, _, rfl, _, rfl, Lb, _, (j : Int), _, rfl, rfl, SqL.of eb, bat j hjn, pb, ys, _, _, rfl, rfl, SqT.of e5, atI_nat e6, ?_⟩
      refine ⟨_, e2, small1000 (by rw [List.length_map]; omega), rw' ++ [cell RS ((bk l n).getD i 0) ((bk l n).getD j 0)], k2.putNew hD2 e2, by rw [upd_same, List.map_append]; rfl, by rw [List.length_append, l2]; rfl, fun y hy => ?_⟩
      by_cases hlt : y < rw'.length
      · rw [List.getElem?_append_left hlt]
        exact c2 y (by omega)
      · have : y = rw'.length := by omega
        subst this
        rw [List.getElem?_concat_length, l2]
    obtain ⟨rw', k2, e2, l2, c2⟩ := p
    refine ⟨D2, _, rfl, .inl ⟨SqL.of e2, fun t ht => ?_⟩⟩
    have eD := k2.lst D _ (fun z => z) e
    have kt : Kp MN H2 (upd H2 t (.tup (rw'.map V.str))) := Kp.new ht
    have nDt : D ≠ t := ne_of_none eD ht
    have eD' : upd H2 t (.tup (rw'.map V.str)) D = some (.lst vs) := by rw [upd_ne nDt]; exact eD
    have hvl : vs.length ≤ 7 := by
      have := al.length
      rw [List.length_map] at this
      omega
    have tk : ∀ cc ts, upd H2 t (.tup (rw'.map V.str)) cc = some (.tup ts) → upd (upd H2 t (.tup (rw'.map V.str))) D (.lst (vs ++ [.ref t])) cc = some (.tup ts) := fun cc ts z => by
      rw [upd_ne]
      · exact z
      · intro y
        rw [y, eD'] at z
        cases z
    refine ⟨_, eD', small1000 (by omega), vs ++ [.ref t], RS' ++ [rw'], ((k.trans k2).trans kt).putNew hD eD', upd_same, ?_, by rw [List.length_append, hl]; rfl, fun r h => ?_, fun x y hx hy => ?_⟩
    · rw [List.map_append]
      exact AtL.append (AtL.put (M := MN) tk (al.kp (k2.trans kt)) (noLL_rows _)) (AtL.one (.tup (by rw [upd_ne nDt.symm, upd_same]) (AtL.strs rw')))
    · rcases List.mem_append.mp h with z | z
      · exact hr' r z
      · rw [List.mem_singleton.mp z]; omega
    · by_cases hlt : x < RS'.length
      · have : cell (RS' ++ [rw']) x y = cell RS' x y := by
          unfold cell
          rw [List.getD_eq_getElem?_getD (l := RS' ++ [rw']), List.getElem?_append_left hlt, ← List.getD_eq_getElem?_getD]
        rw [this]
        exact hc x y (by omega) hy
      · have ex : x = RS'.length := by omega
        subst ex
        have : cell (RS' ++ [rw']) RS'.length y = rw'.getD y "" := by
          unfold cell
          rw [List.getD_eq_getElem?_getD (l := RS' ++ [rw']), List.getElem?_concat_length]
          rfl
        rw [this, List.getD_eq_getElem?_getD, c2 y (by omega), hl]
        rfl
  obtain ⟨vs, RS', k6', eD6, al, hl', hr', hc'⟩ := p
  refine ⟨D, vs, rfl, .inl ⟨SqL.of eD6, fun to hto => ?_⟩⟩
  have kto : Kp MN H6 (upd H6 to (.tup vs)) := Kp.new hto
  have aO : At (MS st) (upd H6 to (.tup vs)) (.ref to) (tabD RS') := At.put (M := MN) (M' := MS st) (fun _ _ z => z) (.tup upd_same (al.kp kto)) (by simp [tabD, noL, noLL_rows])
  have hF' : Fit n RS' := ren_fit hF hO hl' hr' hc'
  have k57 := k6'.trans kto
  have s7 := s5.kp k57
  have aT7 := aT5.kp k57.any
  have eLo7 := k57.lst Lo _ (fun z => z) eLo5
  have hT7 := hT5.kp k57
  generalize upd H6 to (.tup vs) = H7 at aO k57 s7 aT7 eLo7 hT7 ⊢
  -- five drawn sets of tasks
  refine ⟨_, rfl, by decide, by decide, ?_⟩
  refine for_range (lo := 0) (n := (5 : Int).toNat) (fun i σ H' => ∃ x7 x8 x9, σ = [some (.ref a), some (.ref st), some (.int n), some v, some (.ref Lo), some (.ref Lb), some (.ref to), x7, x8, x9, none, none, none, none, none, none, none, none] ∧ Kp (MS st) H7 H' ∧ StAt st c H')
    ⟨none, none, none, rfl, .refl, s7⟩ (fun i σ H' hi p => ?_) (fun σ H8 p => ?_)
  · obtain ⟨x7, x8, x9, rfl, k, sH⟩ := p
    refine ⟨_, rfl, _, rfl, by omega, by omega, fun D hD => ?_⟩
    have nD := sH.ne hD
    refine lc_range (lo := 0) (n := ((n : Int)).toNat) (fun j H2 => ∃ ms, Kp (MS st) H' H2 ∧ H2 D = some (.lst (ms.map V.int)) ∧ Asc j ms ∧ StAt st c H2) ⟨[], Kp.new hD, upd_same, ⟨List.Pairwise.nil, fun k h => by cases h⟩, sH.new hD⟩ (fun j H2 hj p => ?_) (fun H2 p => ?_)
    · obtain ⟨ms, k2, e2, as, sH2⟩ := p
      generalize hZ : (0 + (j : Int)) = Z
      have eZ : Z = (j : Int) := by omega
      subst eZ
      refine ⟨rfl, ?_⟩
      refine ⟨_, rfl, st, c, 2, rfl, sH2, by decide, by decide, fun d H3 d0' d1' k3 s3' => ⟨rfl, _, rfl, ?_⟩⟩
      have e3 := k3.lst D _ nD.1 e2
      have up : Asc (j + 1) ms := ⟨as.up, fun k hk => by have := as.rg k hk; omega⟩
      have hml := as.len
      refine ite2 (fun cc => ?_) (fun cc => ⟨ms, k2.trans k3, e3, up, s3'⟩)
      refine ⟨_, rfl, _, e3, small1000 (by rw [List.length_map]; omega), ms ++ [(j : Int)], (k2.trans k3).putFresh (fun zs z => by rw [hD] at z; cases z) e3, by rw [upd_same, List.map_append]; rfl, ⟨?_, fun k hk => ?_⟩, s3'.put nD⟩
      · rw [List.pairwise_append]
        refine ⟨as.up, List.pairwise_singleton _ _, fun x hx y hy => ?_⟩
        have := as.rg x hx
        have : y = (j : Int) := by simpa using hy
        omega
      · rcases List.mem_append.mp hk with z | z
        · have := as.rg k z
          omega
        · have : k = (j : Int) := by simpa using z
          omega
    obtain ⟨ms, k2, e2, as, sH2⟩ := p
    have as : Asc n ms := as
    refine ⟨D, _, rfl, .inl ⟨SqL.of e2, fun t ht => ?_⟩⟩
    have kt : Kp MN H2 (upd H2 t (.tup (ms.map V.int))) := Kp.new ht
    have aC : At MN (upd H2 t (.tup (ms.map V.int))) (.ref t) (.tuple (ms.map PyData.int)) := .tup upd_same (AtL.ints ms)
    have k3 := k.trans (k2.trans kt.any)
    have sH3 := sH2.kp kt
    generalize upd H2 t (.tup (ms.map V.int)) = H3 at aC k3 sH3 ⊢
    have aT3 := (aT7.kp k3).mn
    have aO3 := (aO.kp k3).mn
    have hml := as.len
    refine ⟨_, rfl, _, rfl, v, .ref t, RS, ms, n, rfl, n7, aT3, hF, aC, as, fun H4' k4'' => ?_⟩
    have q4 := k3.trans k4''.any
    refine ⟨_, rfl, _, rfl, v, .ref t, RS, ms, n, rfl, n1, n7, aT3.kp k4'', hF, aC.kp k4'', as, hT7.kp q4, fun H5' k5'' => ?_⟩
    refine ⟨_, rfl, .bl (bund n RS ms), .bl (bund n RS ms), .bool (bund n RS ms), .bool (bund n RS ms), rfl, .bl _, .bl _, by simp [PyData.depth], rfl, fun H6' k6'' => ⟨_, rfl, ?_⟩⟩
    have lb : leq (.bool (bund n RS ms)) (.bool (bund n RS ms)) = true := by simp [leq]
    rw [lb]
    refine iteF ?_
    have q6 := q4.trans (k5''.trans k6'').any
    have q36 := k4''.trans (k5''.trans k6'')
    have aC6 := aC.kp q36
    obtain ⟨t', xs, et, hx, hall⟩ := aC6.tup_of
    injection et with et
    subst et
    have exs := atl_ints hall
    subst exs
    have eLo6 := q6.lst Lo _ nLs eLo7
    refine ⟨_, rfl, _, rfl, t, rfl, ⟨_, SqT.of hx⟩, fun D2 hD2 => ?_⟩
    refine lc_tup (K := K) (a := t) (xs := ms.map V.int) (fun j H2 => Kp MN H6' H2 ∧ H2 D2 = some (.lst (((ms.take j).map fun k => l.getD k.toNat 0).map V.int))) ⟨Kp.new hD2, upd_same⟩ (fun j H2 _ p => SqT.of (p.1.tup _ _ hx)) (fun j x H2 hj p => ?_) (fun H8 p => ?_)
    · obtain ⟨k8', e8⟩ := p
      rw [List.getElem?_map] at hj
      obtain ⟨m, hm, rfl⟩ := Option.map_eq_some_iff.mp hj
      have hmr := as.rg m (List.mem_of_getElem? hm)
      have em : m = ((m.toNat : Nat) : Int) := by omega
      have hat := atI_nat (xs := l.map V.int) (j := m.toNat) (v := .int (l.getD m.toNat 0)) (by rw [List.getElem?_map, lget m.toNat (by omega)]; rfl)
      rw [← em] at hat
      refine ⟨rfl, ?_⟩
      dsimp only [tYes]
      rw [if_pos rfl]
      refine ⟨_, rfl, _, rfl, Lo, _, m, _, rfl, rfl, SqL.of (k8'.lst _ _ (fun z => z) eLo6), hat, ?_⟩
      refine ⟨_, e8, small1000 (by rw [List.length_map, List.length_map, List.length_take]; omega), k8'.putNew hD2 e8, ?_⟩
      rw [upd_same, List.take_succ, hm, List.map_append, List.map_append]
      rfl
    obtain ⟨k8', e8⟩ := p
    rw [List.length_map, List.take_length] at e8
    refine ⟨D2, _, rfl, SqL.of e8, by rw [List.length_map]; omega, fun zs pz permz srtz hpz => ?_⟩
    refine ⟨pz, _, rfl, .inl ⟨SqL.of upd_same, fun t2 ht2 => ?_⟩⟩
    have asz : Asc n zs := asc_of srtz (permz.nodup_iff.mpr (map_nodup hO as)) fun k hk => by
      obtain ⟨m, hm, rfl⟩ := List.mem_map.mp (permz.mem_iff.mp hk)
      have hmr := as.rg m hm
      exact hO.rg _ (List.mem_of_getElem? (lget m.toNat (by omega)))
    have kz : Kp MN H8 (upd (upd H8 pz (.lst (zs.map V.int))) t2 (.tup (zs.map V.int))) := (Kp.new hpz).trans (Kp.new ht2)
    have aZ : At MN (upd (upd H8 pz (.lst (zs.map V.int))) t2 (.tup (zs.map V.int))) (.ref t2) (.tuple (zs.map PyData.int)) := .tup upd_same (AtL.ints zs)
    have q9 := q6.trans (k8'.trans kz).any
    have kall : Kp MN H3 (upd (upd H8 pz (.lst (zs.map V.int))) t2 (.tup (zs.map V.int))) := q36.trans (k8'.trans kz)
    generalize upd (upd H8 pz (.lst (zs.map V.int))) t2 (.tup (zs.map V.int)) = H9 at aZ q9 kall ⊢
    refine ⟨.ref to, .ref t2, RS', zs, n, rfl, n1, n7, aO3.kp kall, hF', aZ, asz, hT7.kp q9, fun H10 k10 => ?_⟩
    rw [ren_bund hO hc' as asz permz]
    refine ⟨_, rfl, .bl (bund n RS ms), .bl (bund n RS ms), .bool (bund n RS ms), .bool (bund n RS ms), rfl, .bl _, .bl _, by simp [PyData.depth], rfl, fun H11 k11 => ⟨_, rfl, ?_⟩⟩
    rw [lb]
    refine iteF ?_
    exact ⟨_, _, _, rfl, q9.trans (k10.trans k11).any, sH3.kp (kall.trans (k10.trans k11))⟩
  obtain ⟨x7, x8, x9, rfl, k8', s8⟩ := p
  have hT8 := hT7.kp k8'
  -- a plan, its table, its parts
  refine ⟨_, rfl, _, rfl, st, c, n, rfl, s8, n1, n7, fun vp dp H9 ap wp hp k9' s9 => ?_⟩
  refine ⟨_, rfl, vp, dp, n, rfl, ap.mn, wp, hp, n7, fun vt RT H10 aT hFT hcT k10' => ?_⟩
  obtain ⟨o, hf⟩ := wp.form
  have hlen := hp.length_eq
  rw [rng_length] at hlen
  have hnd : (tl dp).Nodup := hp.nodup_iff.mpr (rng_nodup n)
  have hdep : dp.depth < 15 := by have := wp.dep; omega
  have apm := ap.mn.kp k10'
  have hT10 := (hT8.kp k9').kp k10'
  have s10 := s9.kp k10'
  refine ⟨_, rfl, vp, dp, o, rfl, apm, hf, hdep, by omega, fun b ws pp H11 _ k11' e11 al11 hs11 hl11 => ⟨b, rfl, ⟨_, SqL.of e11⟩, fun D hD => ?_⟩⟩
  have aT11 := aT.kp k11'
  have hT11 := hT10.kp k11'
  have hwl := al11.length
  refine lc_list (K := K) (a := b) (xs := ws) (fun j H' => Kp MN H11 H' ∧ H' D = some (.lst ((List.replicate j true).map V.bl))) ⟨Kp.new hD, upd_same⟩ (fun j H' _ p => SqL.of (p.1.lst _ _ (fun z => z) e11)) (fun j x H' hj p => ?_) (fun H12 p => ?_)
  · obtain ⟨k, e⟩ := p
    obtain ⟨dx, hdx, hax⟩ := al11.get hj
    have hjl := (List.getElem?_eq_some_iff.mp hj).1
    have hsub := hs11 dx (List.mem_of_getElem? hdx)
    obtain ⟨⟨o', hf'⟩, hd', hsl⟩ := sub_form hsub hf
    have hle := hsl.length_le
    have as := asc_srt hsl hp
    have hpos := tl_pos hf'
    have hne : srt (tl dx) ≠ [] := fun z => by
      have := srt_len (tl dx)
      rw [z] at this
      simp at this
      omega
    refine ⟨rfl, ?_⟩
    dsimp only [tYes]
    rw [if_pos rfl]
    refine ⟨_, rfl, _, rfl, x, dx, o', rfl, hax.kp k, hf', by omega, by omega, fun cc H13 _ k13 e13 => ⟨cc, _, rfl, .inl ⟨SqL.of e13, fun t ht => ?_⟩⟩⟩
    have kt : Kp MN H13 (upd H13 t (.tup ((srt (tl dx)).map V.int))) := Kp.new ht
    have aC : At MN (upd H13 t (.tup ((srt (tl dx)).map V.int))) (.ref t) (.tuple ((srt (tl dx)).map PyData.int)) := .tup upd_same (AtL.ints _)
    have kk := k.trans (k13.trans kt)
    refine ⟨vt, .ref t, RT, srt (tl dx), n, rfl, n1, n7, aT11.kp kk, hFT, aC, as, hT11.kp kk, fun H14 k14 => ?_⟩
    have eb : bund n RT (srt (tl dx)) = true := bund_of as hne hnd hp hcT fun t ht hm x hx y hy r hr => sub_same hsub hnd t ht (fun z => hm ((srt_perm _).mem_iff.mpr z)) x ((srt_perm _).mem_iff.mp hx) y ((srt_perm _).mem_iff.mp hy) r hr
    rw [eb]
    have eD := (k13.trans (kt.trans k14)).lst D _ (fun z => z) e
    refine ⟨true, true, rfl, rfl, _, eD, small1000 (by rw [List.length_map, List.length_replicate]; omega), (kk.trans k14).putNew hD eD, ?_⟩
    rw [upd_same, List.replicate_succ', List.map_append]
    rfl
  obtain ⟨k12', e12⟩ := p
  refine ⟨D, _, rfl, SqL.of e12, _, rfl, ?_⟩
  have eall : (List.replicate ws.length true).all id = true := by
    rw [List.all_eq_true]
    intro x hx
    rw [List.eq_of_mem_replicate hx]
    rfl
  rw [eall]
  refine iteF ?_
  have k1012 := k11'.trans k12'
  have apm12 := apm.kp k1012
  have hT12 := hT10.kp k1012
  have aT12 := aT.kp k1012
  have s12 := s10.kp k1012
  refine ⟨_, rfl, _, _, _, _, _, rfl, .ty _, apm12.ty, kit_tup dp, _, rfl, ?_⟩
  rcases formed_two hf with ⟨i, rfl⟩ | ⟨u, ps, rfl⟩
  · exact iteT (q _)
  refine iteF ?_
  obtain ⟨hwd, hwo, hps2, hfl, hfm⟩ := part_form hf
  obtain ⟨pa, pb, xs, rfl, hx, hx2, hall⟩ := parts_at apm12
  have hxl := hall.length
  rw [tl_part] at hp hnd hlen
  have hpl := formedL_len ps u _ hfl
  -- low and high
  refine ⟨_, rfl, _, rfl, pa, _, 1, .ref pb, rfl, rfl, SqT.of hx, atI_nat (j := 1) rfl, pb, xs, rfl, .inr (SqT.of hx2), st, c, _, rfl, s12, by omega, by omega, fun lo H13 lo0 lo1 k13' s13 => ?_⟩
  have hx13 := k13'.tup _ _ hx
  have hx213 := k13'.tup _ _ hx2
  refine ⟨_, rfl, lo, 1, rfl, rfl, _, rfl, _, rfl, pa, _, 1, .ref pb, rfl, rfl, SqT.of hx13, atI_nat (j := 1) rfl, pb, xs, rfl, .inr (SqT.of hx213), _, rfl, _, lo, rfl, rfl, st, c, _, rfl, s13, by omega, by omega, fun d2 H14 d20 d21 k14' s14 => ?_⟩
  refine ⟨_, d2, rfl, rfl, ?_⟩
  obtain ⟨il, rfl⟩ : ∃ il : Nat, lo = (il : Int) := ⟨lo.toNat, by omega⟩
  obtain ⟨ih, eh⟩ : ∃ ih : Nat, (il : Int) + 1 + d2 = (ih : Int) := ⟨((il : Int) + 1 + d2).toNat, by omega⟩
  have hlh : il < ih := by omega
  have hhm : ih ≤ ps.length := by omega
  dsimp only
  rw [eh]
  have k1214 := k13'.trans k14'
  have hx14 := k1214.tup _ _ hx
  have hx214 := k1214.tup _ _ hx2
  have hall14 : AtL MN H14 xs ps := by
    have h1 := At.tup (M := MN) hx2 hall
    have h2 : At MN H14 (.ref pb) (.tuple ps) := by
      have := (At.put (M := MN) (M' := MS st) (fun _ _ z => z) h1 (by simp [noL, formedL_noL ps u _ hfl])).kp k1214
      exact this.mn
    obtain ⟨a', xs', ea, hxa, hal⟩ := h2.tup_of
    injection ea with ea
    subst ea
    rw [hx214] at hxa
    cases hxa
    exact hal
  refine ⟨_, rfl, pa, _, 1, .ref pb, rfl, rfl, SqT.of hx14, atI_nat (j := 1) rfl, _, rfl, (il : Int), rfl, _, rfl, (ih : Int), rfl, ?_⟩
  refine slice_at hx214 hall14 (i := il) (j := ih) (by rw [HT.sIx_nat]; omega) (by rw [HT.sIx_nat]; omega) fun r zs H15 er alr k15' => ?_
  have s15 := s14.kp k15'
  have hT15 := (hT12.kp k1214).kp k15'
  have hx15 := k15'.tup _ _ hx14
  have hx215 := k15'.tup _ _ hx214
  have hall15 := hall14.kp k15'
  have aT15 : At MN H15 vt (tabD RT) := by
    have := (At.put (M := MN) (M' := MS st) (fun _ _ z => z) aT12 (by simp [tabD, noL, noLL_rows])).kp k1214
    exact this.mn.kp k15'
  have hpickl : ∀ S : List PyData, S = pick u ps il ih → S.length ≤ 60 := fun S e => by
    rw [e]
    have h1 := List.length_take_le (ih - il) (ps.drop il)
    unfold pick
    rw [List.length_append, List.length_take, List.length_drop]
    split
    · rw [List.length_take]; split <;> omega
    · simp; omega
  -- behind the if: the parts that are taken
  refine ⟨fun σ' H' => ∃ r zs, σ' = [some (.ref a), some (.ref st), some (.int n), some vt, some (.ref Lo), some (.ref Lb), some (.ref to), x7, x8, x9, some (.ref pa), some (.int (il : Int)), some (.int (ih : Int)), some (.ref r), none, none, none, none] ∧ H' r = some (.tup zs) ∧ AtL MN H' zs (pick u ps il ih) ∧ Kp MN H15 H', ?_, ?_⟩
  · refine ⟨_, rfl, pa, _, 0, .str u, rfl, rfl, SqT.of hx15, atI_nat (j := 0) rfl, rfl, _, rfl, ?_⟩
    refine ite2 (fun cc => ?_) (fun cc => ?_)
    · have c' := of_decide_eq_true cc
      injection c' with c'
      refine ⟨_, rfl, _, rfl, pa, _, 1, .ref pb, rfl, rfl, SqT.of hx15, atI_nat (j := 1) rfl, _, rfl, _, _, rfl, rfl, .inr ⟨_, rfl, _, rfl, ?_⟩⟩
      have ek : (if decide ((1 : Int) < (il : Int)) = true then (1 : Int) else 0) = (((if 1 < il then 1 else 0 : Nat)) : Int) := by
        by_cases z : 1 < il
        · rw [if_pos z, decide_eq_true (show (1 : Int) < (il : Int) by omega), if_pos rfl]; rfl
        · rw [if_neg z, decide_eq_false (show ¬ (1 : Int) < (il : Int) by omega), if_neg Bool.false_ne_true]; rfl
      rw [ek]
      refine slice_at hx215 hall15 (i := 0) (j := if 1 < il then 1 else 0) rfl (by rw [HT.sIx_nat]; split <;> omega) fun r2 zs2 H16 er2 alr2 k16' => ?_
      rw [List.drop_zero, Nat.sub_zero] at alr2
      have hp1 := hpickl (pick u ps il ih) rfl
      unfold pick at hp1
      rw [if_pos c', List.length_append] at hp1
      refine cat_at (k16'.tup _ _ er) er2 (alr.kp k16') alr2 (by omega) (by omega) fun r3 zs3 H17 er3 alr3 k17' => ?_
      refine ⟨r3, zs3, rfl, er3, ?_, k16'.trans k17'⟩
      unfold pick
      rw [if_pos c']
      exact alr3
    · have c' := of_decide_eq_false (Bool.eq_false_iff.mpr cc)
      have nb : u ≠ "beside" := fun z => c' (by rw [z])
      refine ⟨r, zs, rfl, er, ?_, .refl⟩
      unfold pick
      rw [if_neg nb, List.append_nil]
      exact alr
  rintro σ' H16 ⟨r, zs, rfl, er, alr, k16'⟩
  have hzl := alr.length
  have hpl2 := hpickl (pick u ps il ih) rfl
  obtain ⟨pm1, pm2⟩ := pick_mem (u := u) (ps := ps) (lo := il) hhm
  have hpn := pick_nodup (u := u) (lo := il) (hi := ih) hnd
  have hpf : ∀ p ∈ pick u ps il ih, p ∈ ps := fun p hp' => by
    obtain ⟨i, _, h⟩ := pm1 p hp'
    exact List.mem_of_getElem? h
  have hsubT : ∀ x ∈ tlL (pick u ps il ih), x ∈ tlL ps := fun x hx' => by
    obtain ⟨i, p, h1, h2⟩ := mem_tlL hx'
    exact tl_mem (hpf p (List.mem_of_getElem? h1)) x h2
  generalize hS : pick u ps il ih = S at alr hzl hpl2 pm1 pm2 hpn hpf hsubT
  have htS : (tlL S).length ≤ 7 := by
    have h := asc_len (srt (tlL S)) 0 n (le_lt (srt_up _) ((srt_perm _).nodup_iff.mpr hpn)) fun k hk => mem_rng.mp (hp.mem_iff.mp (hsubT k ((srt_perm _).mem_iff.mp hk)))
    rw [srt_len] at h
    omega
  refine ⟨(by show 0 ≤ sizeLine; decide), fun D3 hD3 => ?_⟩
  refine ⟨_, rfl, r, rfl, ⟨_, SqT.of ((Kp.new (M := MN) hD3).tup _ _ er)⟩, ?_⟩
  refine for_tup (K := K) (a := r) (xs := zs) (fun i σ H' => ∃ fa x15 l', σ = [some (.ref a), some (.ref st), some (.int n), some vt, some (.ref Lo), some (.ref Lb), some (.ref to), x7, x8, x9, some (.ref pa), some (.int (il : Int)), some (.int (ih : Int)), some (.ref r), some (.ref fa), x15, none, none] ∧ Kp MN H16 H' ∧ H' fa = some (.lst (l'.map V.int)) ∧ l'.Perm (tlL (S.take i)))
    ⟨D3, none, [], rfl, Kp.new hD3, upd_same, by rw [List.take_zero, tlL_nil]⟩ (fun i σ H' _ p => SqT.of (by obtain ⟨_, _, _, _, k, _⟩ := p; exact k.tup _ _ er)) (fun i x σ H' hi p => ?_) (fun σ H17 p => ?_)
  · obtain ⟨fa, x15, l', rfl, k, e, hpm⟩ := p
    obtain ⟨d', hd', ha'⟩ := alr.get hi
    have hm := hpf d' (List.mem_of_getElem? hd')
    have hsuc := tlL_succ hd'
    have hle := tlL_take_le S (i + 1)
    rw [hsuc, List.length_append] at hle
    refine ⟨_, rfl, _, rfl, x, d', u, rfl, ha'.kp k, hfm d' hm, by have := depth_part hdep hm; omega, by omega, fun b' H5' hb k5'' e5 => ?_⟩
    have eF := k5''.lst fa _ (fun z => z) e
    refine ⟨fa, b', _, _, rfl, rfl, eF, e5, ?_, fun t ht => ?_⟩
    · rw [List.length_map, List.length_map, srt_len, hpm.length_eq]
      exact Nat.le_of_lt (small1000 (by omega))
    · refine ⟨t, _, l' ++ srt (tl d'), rfl, (k.trans k5'').trans (Kp.new ht), by rw [upd_same, List.map_append], ?_⟩
      rw [hsuc]
      exact hpm.append (srt_perm (tl d'))
  obtain ⟨fa, x15, l', rfl, k17', e17, hpm⟩ := p
  rw [hzl, List.take_length] at hpm
  refine ⟨_, rfl, _, rfl, fa, l', rfl, SqL.of e17, by rw [hpm.length_eq]; omega, fun ms pz permz srtz hpz => ?_⟩
  refine ⟨pz, _, rfl, .inl ⟨SqL.of upd_same, fun t2 ht2 => ?_⟩⟩
  have pmS := permz.trans hpm
  have asz : Asc n ms := asc_of srtz (pmS.nodup_iff.mpr hpn) fun k hk => mem_rng.mp (hp.mem_iff.mp (hsubT k (pmS.mem_iff.mp hk)))
  have kz : Kp MN H17 (upd (upd H17 pz (.lst (ms.map V.int))) t2 (.tup (ms.map V.int))) := (Kp.new hpz).trans (Kp.new ht2)
  have aZ : At MN (upd (upd H17 pz (.lst (ms.map V.int))) t2 (.tup (ms.map V.int))) (.ref t2) (.tuple (ms.map PyData.int)) := .tup upd_same (AtL.ints ms)
  have kall := k16'.trans (k17'.trans kz)
  refine ⟨vt, .ref t2, RT, ms, n, rfl, n1, n7, aT15.kp kall, hFT, aZ, asz, hT15.kp kall, fun H18 k18' => ?_⟩
  have hmne : ms ≠ [] := fun z => by
    have h1 := pick_pos (u := u) hlh hhm fun p hp' => tl_pos (hfm p hp')
    have h2 := pmS.length_eq
    rw [hS] at h1
    rw [z] at h2
    simp at h2
    omega
  have eb : bund n RT ms = true := parts_bund hnd hp hcT pick_I (S := S) pm1 pm2 asz hmne pmS
  rw [eb]
  exact ⟨true, true, rfl, rfl, q _⟩
end
end K14

set_option Elab.async false
set_option linter.all false
set_option maxRecDepth 100000
set_option maxHeartbeats 4000000
/-! ### the program's top -/
namespace K14
open PySem L2 GxR GA KD KR KM KJ PyProof.Rows
/-- the def x stands at f, its code at cd -/
structure Stands (K : PySem.W.Frag) (x : Str) (st : Stmt) (f : Addr) (cd : Value) : Prop where
  ns : PySem.W.nsIn K mainGlobals x = some (some (.ref f))
  ex : ∃ (oc : Value) (od : Option Addr) (kV doc pm : Value) (an : Option Addr) (ct : Value) (osl : Array (Option Value)), K.lookup f = some ⟨oc, od, .func (PySem.W.fnOf x x (defArgs st) (defBody st) (defScope st) .none kV doc pm an cd ct), osl⟩
  cd : PySem.W.codeIn K cd x = true
  kp : PySem.W.keepIn K (.ref f) = true
theorem stands_mk {K : PySem.W.Frag} {x : Str} {st : Stmt} {f : Addr} {cd oc kV doc pm ct : Value} {od an : Option Addr} {osl : Array (Option Value)} (a : PySem.W.nsIn K mainGlobals x = some (some (.ref f)))
    (l : K.lookup f = some ⟨oc, od, .func (PySem.W.fnOf x x (defArgs st) (defBody st) (defScope st) .none kV doc pm an cd ct), osl⟩) (c : PySem.W.codeIn K cd x = true) (k : PySem.W.keepIn K (.ref f) = true) : Stands K x st f cd := ⟨a, ⟨oc, od, kV, doc, pm, an, ct, osl, l⟩, c, k⟩
theorem code_mk {K : PySem.W.Frag} {c PT : Addr} {e : Value} {dd : Option Addr} {vs : Array Value} {sl : Array (Option Value)} (l : K.lookup c = some ⟨e, dd, .fields vs, sl⟩) (p : vs[11]? = some (.ref PT)) :
    ∃ (e : Value) (dd : Option Addr) (vs : Array Value) (sl : Array (Option Value)), K.lookup c = some ⟨e, dd, .fields vs, sl⟩ ∧ vs[11]? = some (.ref PT) := ⟨e, dd, vs, sl, l, p⟩
def WordsT (K : PySem.W.Frag) (aw : Addr) : Prop := ∃ (cl : Value) (dd : Option Addr) (n : Nat) (u1 u2 : Tok) (sl : Array (Option Value)), K.lookup aw = some ⟨cl, dd, .seq #[.str "then" u1, .str "beside" u2] n, sl⟩ ∧ cl = .type "tuple"
theorem words_mk {K : PySem.W.Frag} {aw : Addr} {cl : Value} {dd : Option Addr} {n : Nat} {u1 u2 : Tok} {sl : Array (Option Value)} (l : K.lookup aw = some ⟨cl, dd, .seq #[.str "then" u1, .str "beside" u2] n, sl⟩) (p : cl = .type "tuple") : WordsT K aw := ⟨cl, dd, n, u1, u2, sl, l, p⟩
def RelsT (K : PySem.W.Frag) (aw : Addr) : Prop := ∃ (cl : Value) (dd : Option Addr) (n : Nat) (u1 u2 u3 : Tok) (sl : Array (Option Value)), K.lookup aw = some ⟨cl, dd, .seq #[.str "before" u1, .str "beside" u2, .str "after" u3] n, sl⟩ ∧ cl = .type "tuple"
theorem rels_mk {K : PySem.W.Frag} {aw : Addr} {cl : Value} {dd : Option Addr} {n : Nat} {u1 u2 u3 : Tok} {sl : Array (Option Value)} (l : K.lookup aw = some ⟨cl, dd, .seq #[.str "before" u1, .str "beside" u2, .str "after" u3] n, sl⟩) (p : cl = .type "tuple") : RelsT K aw := ⟨cl, dd, n, u1, u2, u3, sl, l, p⟩
def OppsT (K : PySem.W.Frag) (w : World) (a : Addr) : Prop := KDct K w a "before" (.str "after") ∧ KDct K w a "beside" (.str "beside") ∧ KDct K w a "after" (.str "before")
theorem opps_mk {K : PySem.W.Frag} {w : World} {a : Addr} {cl : Value} {dd : Option Addr} {es : Array DictEntry} {n : Nat} {sl : Array (Option Value)} {u1 u2 u3 : Tok} (l : K.lookup a = some ⟨cl, dd, .dict es n, sl⟩) (p1 : cl = .type "dict") (p2 : dd = none) (p3 : sl = #[])
    (k : PySem.W.KeysLit w.params es.toList) (g1 : PySem.W.nsIn K a "before" = some (some (.str "after" u1))) (g2 : PySem.W.nsIn K a "beside" = some (some (.str "beside" u2))) (g3 : PySem.W.nsIn K a "after" = some (some (.str "before" u3))) : OppsT K w a := by
  subst p1 p2 p3
  exact ⟨⟨es, n, _, l, k, g1, _, rfl⟩, ⟨es, n, _, l, k, g2, _, rfl⟩, ⟨es, n, _, l, k, g3, _, rfl⟩⟩
theorem Stands.out {K : PySem.W.Frag} {x : Str} {st : Stmt} {f : Addr} {cd : Value} (S : Stands K x st f cd) {ps : List Str}
    (h : ∀ (kV doc pm : Value) (an : Option Addr) (cdv ct : Value) (us : List Value), us.length = ps.length → bindArgs (PySem.W.fnOf x x (defArgs st) (defBody st) (defScope st) .none kV doc pm an cdv ct) ⟨us, []⟩ = pure (ps.zip us)) :
    ∃ fd : FuncData, Fun K x x st f fd ∧ Binds K fd ps [] ∧ ∀ c, cd = .ref c → FunT K x x st f fd c := by
  obtain ⟨oc, od, kV, doc, pm, an, ct, osl, e⟩ := S.ex
  have F := fun_mk e S.cd S.kp
  refine ⟨_, F, F.binds h, fun c ec => ?_⟩
  subst ec
  exact funT_mk e S.cd S.kp
theorem Stands.mg {K : PySem.W.Frag} {x : Str} {st : Stmt} {f : Addr} {cd : Value} {h : Heap} {mg : Str → Option Value} (S : Stands K x st f cd) (X : K.In h) (G : h.Ns mainGlobals mg) : mg x = some (.ref f) := PySem.W.mg_of X G S.ns
/-- the table of the def nm is empty at the head's end -/
def TabOf (nm : Str) (mg : Str → Option Value) (h : Heap) : Prop := ∃ (a : Addr) (o : Obj) (fd : FuncData) (c P : Addr), mg nm = some (.ref a) ∧ h.get? a = some o ∧ o.data = .func fd ∧ fd.code = .ref c ∧ h.IsCode c P #[] ∧ h.TableAt c P #[]
theorem TabOf.at_ {K : PySem.W.Frag} {x : Str} {st : Stmt} {f c PT : Addr} {h : Heap} {mg : Str → Option Value} (T : TabOf x mg h) (X : K.In h) (G : h.Ns mainGlobals mg) (S : Stands K x st f (.ref c))
    (hc : ∃ (e : Value) (dd : Option Addr) (vs : Array Value) (sl : Array (Option Value)), K.lookup c = some ⟨e, dd, .fields vs, sl⟩ ∧ vs[11]? = some (.ref PT)) : h.get? PT = some { cls := .none, data := .fields #[] } ∧ PySem.W.CodeHd h c PT := by
  obtain ⟨a, o, fd, c', P', h1, h2, h3, h4, h5, h6⟩ := T
  obtain ⟨oc, od, kV, doc, pm, an, ct, osl, e⟩ := S.ex
  rw [S.mg X G] at h1
  cases h1
  rw [X _ _ e] at h2
  cases h2
  cases h3
  cases h4
  obtain ⟨e1, dd, vs, sl, k1, k2⟩ := hc
  have hh := h6
  obtain ⟨⟨o2, v2, g1, g2, g3, g4⟩, hP⟩ := h6
  rw [X _ _ k1] at g1
  cases g1
  cases g3
  rw [k2] at g4
  cases g4
  exact ⟨hP, PySem.W.CodeHd.of h5 hh⟩
theorem walk_tabs {l : PySem.W.OpenLaw} {q : Program} {loose : List Str} {XP : (Str → Option Value) → Heap → Prop} {YP : World → Heap → Prop} {d : DefRec} {K : Params → PySem.W.Frag} {k : Nat} (nms : List Str) (hk : Room k callerA)
    (hn : l.most = some 63) (hdf : d.params.defaults = []) (hrec : (nms.all fun nm => (recsOf q).any fun e => e.name == nm) = true) (hY : ∀ (w : World) (h : Heap), YP w h → (K w.params).In h)
    (F : ∀ (w : World) (mg : Str → Option Value) (fa : Addr) (h : Heap), (K w.params).In h → h.Ns mainGlobals mg → mg d.name = some (.ref fa) → (∀ nm ∈ nms, TabOf nm mg h) → LamX.LawAtS l w (K w.params) CX0 k 63 "script" mg fa h) :
    PySem.W.WalkO q loose XP YP l.row.toRowW d [] (fun f vs => PySem.call f vs) := by
  refine Att.attach_callB hn hdf fun w s₀ s₁ mg mb fa o pm cd doc a vs ns G Y _ _ _ hmg hobj hints hlen hbits hg => ?_
  have tab : ∀ nm ∈ nms, TabOf nm mg s₁.heap := fun nm hnm => by
    obtain ⟨r, hm, hr⟩ := List.any_eq_true.mp (List.all_eq_true.mp hrec nm hnm)
    have er : r.name = nm := beq_iff_eq.mp hr
    have t := G.T.tab r hm
    rw [er] at t
    exact t
  obtain ⟨fd, cs, sp, t1, t2, t3, hb, hsp, hF⟩ := F w mg fa _ (hY w _ Y) G.T.g hmg tab
  exact LamX.law_callTs (hY w _ Y) G.T.g G.T.b G.T.builtins G.T.nolimit hg t1 t2 t3 G.T.bmain hobj hints (Nat.le_trans hlen (by decide)) hk hF hb
    (fun H hH hS => hsp H a ns hlen hbits hH hS) fun _ _ _ z => z
theorem all_mk {l : PySem.W.OpenLaw} {w : World} {K : PySem.W.Frag} {h : Heap} {mg : Str → Option Value} {fa p1 p2 p3 p4 p5 ci cj ce cm ch ga gb gc gd ge gf gg gh gi gj gk gl gm gn gO gp gq gr gs gT gu gv gw gx gY gz gA gB gL ar ao : Addr} {ca cb cc cd cf cg ck cl cn cO cp cq cr cs cT cu cv cw cx cY cz cA cB cL : Value} {t7 : Tok}
    (X : K.In h) (G : h.Ns mainGlobals mg) (hfa : mg "law" = some (.ref fa)) (T : ∀ nm ∈ (["is_square", "entries_fit", "are_indexes", "looks_alike", "is_bundle"] : List Str), TabOf nm mg h)
    (sa : Stands K "require" sRequire ga ca)
    (sb : Stands K "is_integer" sIsInt gb cb)
    (sc : Stands K "is_size" sIsSize gc cc)
    (sd : Stands K "is_index" sIsTask gd cd)
    (se : Stands K "are_indexes" sAreTasks ge (.ref ce))
    (sf : Stands K "is_set" sIsSet gf cf)
    (sg : Stands K "is_table" sIsTable gg cg)
    (sh : Stands K "is_bundle" sIsBundle gh (.ref ch))
    (si : Stands K "is_square" sIsSquare gi (.ref ci))
    (sj : Stands K "entries_fit" sEntriesFit gj (.ref cj))
    (sk : Stands K "entry_fits" sEntryFits gk ck)
    (sl : Stands K "checked_table_size" sCheckedT gl cl)
    (sm : Stands K "looks_alike" sAlike gm (.ref cm))
    (sn : Stands K "_law_stream" sStream gn cn)
    (sO : Stands K "_law_next" sNext gO cO)
    (sp : Stands K "_law_is_integer" sLIsInt gp cp)
    (sq : Stands K "_law_equal" sEqual gq cq)
    (sr : Stands K "_law_shuffled" sShuffled gr cr)
    (ss : Stands K "_law_joined" sJoined gs cs)
    (sT : Stands K "_law_plan" sLPlan gT cT)
    (su : Stands K "_law_tasks" sTasks gu cu)
    (sv : Stands K "_law_relation" sRel gv cv)
    (sw : Stands K "_law_table" sTable gw cw)
    (sx : Stands K "_law_opposite" sOpposite gx cx)
    (sY : Stands K "_law_drawn_table" sDrawn gY cY)
    (sz : Stands K "_law_some_table" sSome gz cz)
    (sA : Stands K "_law_due" sDue gA cA)
    (sB : Stands K "_law_parts" sParts gB cB)
    (sL : Stands K "law" sLaw gL cL)
    (hci : ∃ (e : Value) (dd : Option Addr) (vs : Array Value) (sl : Array (Option Value)), K.lookup ci = some ⟨e, dd, .fields vs, sl⟩ ∧ vs[11]? = some (.ref p1)) (hpi : K.lookup p1 = none)
    (hcj : ∃ (e : Value) (dd : Option Addr) (vs : Array Value) (sl : Array (Option Value)), K.lookup cj = some ⟨e, dd, .fields vs, sl⟩ ∧ vs[11]? = some (.ref p2)) (hpj : K.lookup p2 = none)
    (hce : ∃ (e : Value) (dd : Option Addr) (vs : Array Value) (sl : Array (Option Value)), K.lookup ce = some ⟨e, dd, .fields vs, sl⟩ ∧ vs[11]? = some (.ref p3)) (hpe : K.lookup p3 = none)
    (hcm : ∃ (e : Value) (dd : Option Addr) (vs : Array Value) (sl : Array (Option Value)), K.lookup cm = some ⟨e, dd, .fields vs, sl⟩ ∧ vs[11]? = some (.ref p4)) (hpm : K.lookup p4 = none)
    (hch : ∃ (e : Value) (dd : Option Addr) (vs : Array Value) (sl : Array (Option Value)), K.lookup ch = some ⟨e, dd, .fields vs, sl⟩ ∧ vs[11]? = some (.ref p5)) (hph : K.lookup p5 = none)
    (nM : PySem.W.nsIn K mainGlobals "MOST_TASKS" = some (some (.int 7 t7)))
    (nR : PySem.W.nsIn K mainGlobals "RELATIONS" = some (some (.ref ar))) (lR : RelsT K ar) (nO : PySem.W.nsIn K mainGlobals "OPPOSITES" = some (some (.ref ao))) (lO : OppsT K w ao)
    (z1 : PySem.W.nsIn K mainGlobals "isinstance" = some none)
    (z2 : PySem.W.nsIn K mainGlobals "int" = some none)
    (z3 : PySem.W.nsIn K mainGlobals "bool" = some none)
    (z4 : PySem.W.nsIn K mainGlobals "tuple" = some none)
    (z5 : PySem.W.nsIn K mainGlobals "list" = some none)
    (z6 : PySem.W.nsIn K mainGlobals "str" = some none)
    (z7 : PySem.W.nsIn K mainGlobals "len" = some none)
    (z8 : PySem.W.nsIn K mainGlobals "sorted" = some none)
    (z9 : PySem.W.nsIn K mainGlobals "range" = some none)
    (z10 : PySem.W.nsIn K mainGlobals "all" = some none)
    (z11 : PySem.W.nsIn K mainGlobals "any" = some none)
    (z12 : PySem.W.nsIn K mainGlobals "abs" = some none)
    (z13 : PySem.W.nsIn K mainGlobals "set" = some none) :
    LamX.LawAtS l w K CX0 19 63 "script" mg fa h := by
  have eq := hfa.symm.trans (sL.mg X G)
  cases eq
  obtain ⟨da, Fa, ba, FTa⟩ := sa.out (ps := ["holds", "name"]) fun _ _ _ _ _ _ us hl => match us, hl with | [_, _], _ => rfl
  obtain ⟨db, Fb, bb, FTb⟩ := sb.out (ps := ["value"]) fun _ _ _ _ _ _ us hl => match us, hl with | [_], _ => rfl
  obtain ⟨dc, Fc, bc, FTc⟩ := sc.out (ps := ["value"]) fun _ _ _ _ _ _ us hl => match us, hl with | [_], _ => rfl
  obtain ⟨dd, Fd, bd, FTd⟩ := sd.out (ps := ["value", "many"]) fun _ _ _ _ _ _ us hl => match us, hl with | [_, _], _ => rfl
  obtain ⟨de, Fe, be, FTe⟩ := se.out (ps := ["value", "many"]) fun _ _ _ _ _ _ us hl => match us, hl with | [_, _], _ => rfl
  obtain ⟨df, Ff, bf, FTf⟩ := sf.out (ps := ["value", "many"]) fun _ _ _ _ _ _ us hl => match us, hl with | [_, _], _ => rfl
  obtain ⟨dg, Fg, bg, FTg⟩ := sg.out (ps := ["value", "size"]) fun _ _ _ _ _ _ us hl => match us, hl with | [_, _], _ => rfl
  obtain ⟨dh, Fh, bh, FTh⟩ := sh.out (ps := ["table", "chosen"]) fun _ _ _ _ _ _ us hl => match us, hl with | [_, _], _ => rfl
  obtain ⟨di, Fi, bi, FTi⟩ := si.out (ps := ["value", "size"]) fun _ _ _ _ _ _ us hl => match us, hl with | [_, _], _ => rfl
  obtain ⟨dj, Fj, bj, FTj⟩ := sj.out (ps := ["square"]) fun _ _ _ _ _ _ us hl => match us, hl with | [_], _ => rfl
  obtain ⟨dk, Fk, bk, FTk⟩ := sk.out (ps := ["square", "task", "other"]) fun _ _ _ _ _ _ us hl => match us, hl with | [_, _, _], _ => rfl
  obtain ⟨dl, Fl, bl, FTl⟩ := sl.out (ps := ["table"]) fun _ _ _ _ _ _ us hl => match us, hl with | [_], _ => rfl
  obtain ⟨dm, Fm, bm, FTm⟩ := sm.out (ps := ["row", "chosen"]) fun _ _ _ _ _ _ us hl => match us, hl with | [_, _], _ => rfl
  obtain ⟨dn, Fn, bn, FTn⟩ := sn.out (ps := ["script"]) fun _ _ _ _ _ _ us hl => match us, hl with | [_], _ => rfl
  obtain ⟨dO, FO, bO, FTO⟩ := sO.out (ps := ["stream", "many"]) fun _ _ _ _ _ _ us hl => match us, hl with | [_, _], _ => rfl
  obtain ⟨dp, Fp, bp, FTp⟩ := sp.out (ps := ["actual"]) fun _ _ _ _ _ _ us hl => match us, hl with | [_], _ => rfl
  obtain ⟨dq, Fq, bq, FTq⟩ := sq.out (ps := ["actual", "due"]) fun _ _ _ _ _ _ us hl => match us, hl with | [_, _], _ => rfl
  obtain ⟨dr, Fr, br, FTr⟩ := sr.out (ps := ["stream", "many"]) fun _ _ _ _ _ _ us hl => match us, hl with | [_, _], _ => rfl
  obtain ⟨ds, Fs, bs, FTs⟩ := ss.out (ps := ["word", "first", "second"]) fun _ _ _ _ _ _ us hl => match us, hl with | [_, _, _], _ => rfl
  obtain ⟨dT, FT, bT, FTT⟩ := sT.out (ps := ["stream", "size"]) fun _ _ _ _ _ _ us hl => match us, hl with | [_, _], _ => rfl
  obtain ⟨du, Fu, bu, FTu⟩ := su.out (ps := ["plan"]) fun _ _ _ _ _ _ us hl => match us, hl with | [_], _ => rfl
  obtain ⟨dv, Fv, bv, FTv⟩ := sv.out (ps := ["plan", "x", "y"]) fun _ _ _ _ _ _ us hl => match us, hl with | [_, _, _], _ => rfl
  obtain ⟨dw, Fw, bw, FTw⟩ := sw.out (ps := ["plan"]) fun _ _ _ _ _ _ us hl => match us, hl with | [_], _ => rfl
  obtain ⟨dx, Fx, bx, FTx⟩ := sx.out (ps := ["relation"]) fun _ _ _ _ _ _ us hl => match us, hl with | [_], _ => rfl
  obtain ⟨dY, FY, bY, FTY⟩ := sY.out (ps := ["stream", "size"]) fun _ _ _ _ _ _ us hl => match us, hl with | [_, _], _ => rfl
  obtain ⟨dz, Fz, bz, FTz⟩ := sz.out (ps := ["stream", "size"]) fun _ _ _ _ _ _ us hl => match us, hl with | [_, _], _ => rfl
  obtain ⟨dA, FA, bA, FTA⟩ := sA.out (ps := ["table", "chosen"]) fun _ _ _ _ _ _ us hl => match us, hl with | [_, _], _ => rfl
  obtain ⟨dB, FB, bB, FTB⟩ := sB.out (ps := ["plan"]) fun _ _ _ _ _ _ us hl => match us, hl with | [_], _ => rfl
  obtain ⟨oc, od, kV, doc, pm, an, ct, osl, eL⟩ := sL.ex
  have RL := fun_mk eL sL.cd sL.kp
  have no : ∀ {x : Str}, PySem.W.nsIn K mainGlobals x = some none → mg x = none := fun e => PySem.W.mg_none_of X G e
  have B : Bl K mg := ⟨no z1, no z2, no z3, no z4, no z5, no z6, no z7, no z8, no z9, no z10, no z11, no z12, ⟨t7, PySem.W.mg_of X G nM⟩⟩
  have BT : Bt K w mg := ⟨⟨ar, PySem.W.mg_of X G nR, fun H => by
    obtain ⟨cl, dd, n, u1, u2, u3, sl, k1, k2⟩ := lR
    subst k2
    exact .inr ⟨_, _, n, k1, rfl, rfl, (by show 3 ≤ sizeLine; decide), .cons ⟨_, rfl⟩ (.cons ⟨_, rfl⟩ (.cons ⟨_, rfl⟩ .nil))⟩⟩, ao, PySem.W.mg_of X G nO, lO⟩
  obtain ⟨hPi, hCi⟩ := (T "is_square" (by simp)).at_ X G si hci
  obtain ⟨hPj, hCj⟩ := (T "entries_fit" (by simp)).at_ X G sj hcj
  obtain ⟨hPe, hCe⟩ := (T "are_indexes" (by simp)).at_ X G se hce
  obtain ⟨hPm, hCm⟩ := (T "looks_alike" (by simp)).at_ X G sm hcm
  obtain ⟨hPh, hCh⟩ := (T "is_bundle" (by simp)).at_ X G sh hch
  have each : ∀ (Pp : Addr × Addr → Prop), Pp (ci, p1) → Pp (cj, p2) → Pp (ce, p3) → Pp (cm, p4) → Pp (ch, p5) → ∀ p ∈ ([(ci, p1), (cj, p2), (ce, p3), (cm, p4), (ch, p5)] : List (Addr × Addr)), Pp p := fun Pp q0 q1 q2 q3 q4 p hp => by
    simp only [List.mem_cons, List.not_mem_nil, or_false] at hp
    rcases hp with rfl | rfl | rfl | rfl | rfl
    · exact q0
    · exact q1
    · exact q2
    · exact q3
    · exact q4
  refine ⟨PySem.W.fnOf "law" "law" (defArgs sLaw) (defBody sLaw) (defScope sLaw) .none kV doc pm an cL ct, [(ci, p1), (cj, p2), (ce, p3), (cm, p4), (ch, p5)], spLaw K p1 p2 p3 p4 p5, each _ hPi hPj hPe hPm hPh, each _ hpi hpj hpe hpm hph, each _ hCi hCj hCe hCm hCh, fun s v => .of_eq rfl, fun H a ns hl _ hH hS => ⟨a, ns, rfl, hS, hl, ⟨⟨#[], hH (ci, p1) (by simp), trivial⟩, ⟨#[], hH (cj, p2) (by simp), trivial⟩, ⟨#[], hH (ce, p3) (by simp), trivial⟩, ⟨#[], hH (cm, p4) (by simp), trivial⟩, ⟨#[], hH (ch, p5) (by simp), trivial⟩⟩, fun _ => rfl⟩, fun base _ _ hTB => ?_⟩
  have TBi := hTB (ci, p1) (by simp)
  have TBj := hTB (cj, p2) (by simp)
  have TBe := hTB (ce, p3) (by simp)
  have TBm := hTB (cm, p4) (by simp)
  have TBh := hTB (ch, p5) (by simp)
  have Aa := ok_require (P := l.prog) (w := w) (mg := mg) (base := base) Fa
  have Ab := ok_isInt (P := l.prog) (w := w) (base := base) Fb B
  have Ac := ok_isSize Fc B Ab bb sb.kp (sb.mg X G)
  have Ad := ok_isTask Fd B Ab bb sb.kp (sb.mg X G)
  have Ae := ok_areTasks (FTe _ rfl) ⟨TBe.code, TBe.bm, TBe.gP⟩ B Ad bd sd.kp (sd.mg X G)
  have Af := ok_isSet Ff B (no z13) Ae be se.kp (se.mg X G)
  have Ai := ok_isSquare (P := l.prog) (w := w) (base := base) (FTi _ rfl) ⟨TBi.code, TBi.bm, TBi.gP⟩ B
  have Ak := ok_entryFits (P := l.prog) (base := base) Fk B BT
  have Aj := ok_entriesFit (FTj _ rfl) ⟨TBj.code, TBj.bm, TBj.gP⟩ B Ak bk sk.kp (sk.mg X G)
  have Ag := ok_isTable Fg Aa ba sa.kp (sa.mg X G) Ac bc sc.kp (sc.mg X G) Ai bi si.kp (si.mg X G) Aj bj sj.kp (sj.mg X G)
  have Al := ok_checkedT Fl B Aa ba sa.kp (sa.mg X G) Ac bc sc.kp (sc.mg X G) Ag bg sg.kp (sg.mg X G)
  have Am := ok_alike (P := l.prog) (w := w) (base := base) (FTm _ rfl) ⟨TBm.code, TBm.bm, TBm.gP⟩ B
  have Ah := ok_bundle (FTh _ rfl) ⟨TBh.code, TBh.bm, TBh.gP⟩ B Aa ba sa.kp (sa.mg X G) Al bl sl.kp (sl.mg X G) Af bf sf.kp (sf.mg X G) Am bm sm.kp (sm.mg X G)
  have An := ok_stream (P := l.prog) (w := w) (base := base) Fn B
  have AO := ok_next (P := l.prog) (w := w) (base := base) FO B
  have Ap := ok_lIsInt (P := l.prog) (w := w) (base := base) Fp B
  have Aq := oks_equal Fq B Ap bp sp.kp (sp.mg X G) bq (sq.mg X G) 4
  have Ar := ok_shuffled Fr B AO bO sO.kp (sO.mg X G)
  have As := ok_joined (P := l.prog) (w := w) (base := base) Fs B
  have AT := ok_lplan FT B AO bO sO.kp (sO.mg X G) Ar br sr.kp (sr.mg X G) As bs ss.kp (ss.mg X G)
  have Aus := oks_tasks (P := l.prog) (w := w) (base := base) Fu B bu (su.mg X G)
  have Au := Aus 15
  have Av := oks_lrel Fv B Aus bu su.kp (su.mg X G) bv (sv.mg X G) 15
  have Aw := ok_table Fw B Au bu su.kp (su.mg X G) Av bv sv.kp (sv.mg X G)
  have Ax := ok_opposite (P := l.prog) (w := w) (mg := mg) (base := base) Fx
  have AY := ok_drawn FY B AO bO sO.kp (sO.mg X G) Ax bx sx.kp (sx.mg X G)
  have Az := ok_some Fz B AO bO sO.kp (sO.mg X G) Ax bx sx.kp (sx.mg X G) AY bY sY.kp (sY.mg X G) AT bT sT.kp (sT.mg X G) Aw bw sw.kp (sw.mg X G)
  have AA := ok_due (P := l.prog) (w := w) (base := base) FA B
  have AB := oks_parts (P := l.prog) (w := w) (base := base) FB B bB (sB.mg X G) 15
  exact ok_law RL B An bn sn.kp (sn.mg X G) AO bO sO.kp (sO.mg X G) Az bz sz.kp (sz.mg X G) Aq bq sq.kp (sq.mg X G) Ar br sr.kp (sr.mg X G) AT bT sT.kp (sT.mg X G) Aw bw sw.kp (sw.mg X G) Au bu su.kp (su.mg X G) AB bB sB.kp (sB.mg X G) Ah bh sh.kp (sh.mg X G) AA bA sA.kp (sA.mg X G)
end K14

set_option Elab.async false
set_option linter.all false
open PySem PySem.W PyProof.Rows
set_option maxRecDepth 100000 in
set_option maxHeartbeats 0 in
theorem PySem.Challenge.cw_thenbeside_k14_bundles_holds : PySem.Challenge.rw_thenbeside_k14_bundles.Holds := by
  w_on; o_law; k_head; (case hw => w_witness2)
  k_fill
  refine K14.walk_tabs (l := PySem.Challenge.rw_thenbeside_k14_bundles) (k := 19) ["is_square", "entries_fit", "are_indexes", "looks_alike", "is_bundle"] ⟨rfl, by decide, by decide⟩ rfl rfl (by rfl) (fun w h Y => PySem.W.kIn_of Y) ?F
  case F =>
    intro w mg fa h KX G hmg T
    refine' K14.all_mk KX G hmg T ?sa ?sb ?sc ?sd ?se ?sf ?sg ?sh ?si ?sj ?sk ?sl ?sm ?sn ?sO ?sp ?sq ?sr ?ss ?sT ?su ?sv ?sw ?sx ?sY ?sz ?sA ?sB ?sL ?hci ?hpi ?hcj ?hpj ?hce ?hpe ?hcm ?hpm ?hch ?hph ?nM ?nR ?lR ?nO ?lO ?z1 ?z2 ?z3 ?z4 ?z5 ?z6 ?z7 ?z8 ?z9 ?z10 ?z11 ?z12 ?z13
    (case sa => (refine' K14.stands_mk ?a ?l ?c ?k; (case a => k_is); (case l => k_is); (case c => k_is); (case k => k_is)))
    (case sb => (refine' K14.stands_mk ?a ?l ?c ?k; (case a => k_is); (case l => k_is); (case c => k_is); (case k => k_is)))
    (case sc => (refine' K14.stands_mk ?a ?l ?c ?k; (case a => k_is); (case l => k_is); (case c => k_is); (case k => k_is)))
    (case sd => (refine' K14.stands_mk ?a ?l ?c ?k; (case a => k_is); (case l => k_is); (case c => k_is); (case k => k_is)))
    (case se => (refine' K14.stands_mk ?a ?l ?c ?k; (case a => k_is); (case l => k_is); (case c => k_is); (case k => k_is)))
    (case sf => (refine' K14.stands_mk ?a ?l ?c ?k; (case a => k_is); (case l => k_is); (case c => k_is); (case k => k_is)))
    (case sg => (refine' K14.stands_mk ?a ?l ?c ?k; (case a => k_is); (case l => k_is); (case c => k_is); (case k => k_is)))
    (case sh => (refine' K14.stands_mk ?a ?l ?c ?k; (case a => k_is); (case l => k_is); (case c => k_is); (case k => k_is)))
    (case si => (refine' K14.stands_mk ?a ?l ?c ?k; (case a => k_is); (case l => k_is); (case c => k_is); (case k => k_is)))
    (case sj => (refine' K14.stands_mk ?a ?l ?c ?k; (case a => k_is); (case l => k_is); (case c => k_is); (case k => k_is)))
    (case sk => (refine' K14.stands_mk ?a ?l ?c ?k; (case a => k_is); (case l => k_is); (case c => k_is); (case k => k_is)))
    (case sl => (refine' K14.stands_mk ?a ?l ?c ?k; (case a => k_is); (case l => k_is); (case c => k_is); (case k => k_is)))
    (case sm => (refine' K14.stands_mk ?a ?l ?c ?k; (case a => k_is); (case l => k_is); (case c => k_is); (case k => k_is)))
    (case sn => (refine' K14.stands_mk ?a ?l ?c ?k; (case a => k_is); (case l => k_is); (case c => k_is); (case k => k_is)))
    (case sO => (refine' K14.stands_mk ?a ?l ?c ?k; (case a => k_is); (case l => k_is); (case c => k_is); (case k => k_is)))
    (case sp => (refine' K14.stands_mk ?a ?l ?c ?k; (case a => k_is); (case l => k_is); (case c => k_is); (case k => k_is)))
    (case sq => (refine' K14.stands_mk ?a ?l ?c ?k; (case a => k_is); (case l => k_is); (case c => k_is); (case k => k_is)))
    (case sr => (refine' K14.stands_mk ?a ?l ?c ?k; (case a => k_is); (case l => k_is); (case c => k_is); (case k => k_is)))
    (case ss => (refine' K14.stands_mk ?a ?l ?c ?k; (case a => k_is); (case l => k_is); (case c => k_is); (case k => k_is)))
    (case sT => (refine' K14.stands_mk ?a ?l ?c ?k; (case a => k_is); (case l => k_is); (case c => k_is); (case k => k_is)))
    (case su => (refine' K14.stands_mk ?a ?l ?c ?k; (case a => k_is); (case l => k_is); (case c => k_is); (case k => k_is)))
    (case sv => (refine' K14.stands_mk ?a ?l ?c ?k; (case a => k_is); (case l => k_is); (case c => k_is); (case k => k_is)))
    (case sw => (refine' K14.stands_mk ?a ?l ?c ?k; (case a => k_is); (case l => k_is); (case c => k_is); (case k => k_is)))
    (case sx => (refine' K14.stands_mk ?a ?l ?c ?k; (case a => k_is); (case l => k_is); (case c => k_is); (case k => k_is)))
    (case sY => (refine' K14.stands_mk ?a ?l ?c ?k; (case a => k_is); (case l => k_is); (case c => k_is); (case k => k_is)))
    (case sz => (refine' K14.stands_mk ?a ?l ?c ?k; (case a => k_is); (case l => k_is); (case c => k_is); (case k => k_is)))
    (case sA => (refine' K14.stands_mk ?a ?l ?c ?k; (case a => k_is); (case l => k_is); (case c => k_is); (case k => k_is)))
    (case sB => (refine' K14.stands_mk ?a ?l ?c ?k; (case a => k_is); (case l => k_is); (case c => k_is); (case k => k_is)))
    (case sL => (refine' K14.stands_mk ?a ?l ?c ?k; (case a => k_is); (case l => k_is); (case c => k_is); (case k => k_is)))
    (case hci => (refine' K14.code_mk ?lc1 ?pc1; (case lc1 => k_is); (case pc1 => rfl)))
    (case hpi => kernel_rfl)
    (case hcj => (refine' K14.code_mk ?lc1 ?pc1; (case lc1 => k_is); (case pc1 => rfl)))
    (case hpj => kernel_rfl)
    (case hce => (refine' K14.code_mk ?lc1 ?pc1; (case lc1 => k_is); (case pc1 => rfl)))
    (case hpe => kernel_rfl)
    (case hcm => (refine' K14.code_mk ?lc1 ?pc1; (case lc1 => k_is); (case pc1 => rfl)))
    (case hpm => kernel_rfl)
    (case hch => (refine' K14.code_mk ?lc1 ?pc1; (case lc1 => k_is); (case pc1 => rfl)))
    (case hph => kernel_rfl)
    (case nM => k_is)
    (case nR => k_is)
    (case lR => (refine' K14.rels_mk ?lw1 ?pw1; (case lw1 => k_is); (case pw1 => rfl)))
    (case nO => k_is)
    (case lO => (refine' K14.opps_mk ?ol ?op1 ?op2 ?op3 ?ok ?og1 ?og2 ?og3; (case ol => k_is); (case op1 => rfl); (case op2 => rfl); (case op3 => rfl); (case ok => exact ⟨⟨_, _, rfl, rfl⟩, ⟨_, _, rfl, rfl⟩, ⟨_, _, rfl, rfl⟩, trivial⟩); (case og1 => k_is); (case og2 => k_is); (case og3 => k_is)))
    (case z1 => k_is)
    (case z2 => k_is)
    (case z3 => k_is)
    (case z4 => k_is)
    (case z5 => k_is)
    (case z6 => k_is)
    (case z7 => k_is)
    (case z8 => k_is)
    (case z9 => k_is)
    (case z10 => k_is)
    (case z11 => k_is)
    (case z12 => k_is)
    (case z13 => k_is)
