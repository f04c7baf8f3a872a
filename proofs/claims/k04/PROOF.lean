import PyProof.Rows.All
import Wide.All
import OpenK.AllK
import Wide.FinOn
import HandS.ForMost
import HandS.ForExc
import HandS.AnyAll
import HandS.GenList
import HandS.EndTab
import HandS.Defaults
import HandS.HeadWalk
import HandS.HeadHook4
import HandS.Head2
import HandS.IsInst
import HandS.TupAny
import HandS.Wide
import HandS.Flow
import PySem.Challenge.RW_graft_k04_rules_that_may_be_empty
set_option Elab.async false
set_option linter.all false
set_option maxRecDepth 100000
set_option maxHeartbeats 2000000
/-! generator expressions over anything that is walked, the element any expression that raises nothing -/
namespace GE
open PySem PySem.Spec PyProof.Rows L2 GenW

theorem over_gen {A : Around} {elt : Expr} {gens : List Comprehension} {scope : Scope} {pos : Pos} {it acc : Value} {env : Env} : A.over (.compLoop (.GeneratorExp elt gens scope pos) 0 it acc env) [] = A.deeper env := by
  first
    | rfl
    | (obtain ⟨hd, d, fr, gs, u⟩ := A; simp [Around.over, Around.deeper, marksOver, frameCount, unitsOf, envsOf, guardsOf, pushEnvs, pushGuards, Code.envs, Code.env?, Code.isFrame, Code.guards, Code.isGuard, Code.weight, Code.frames, Code.isCreation, Code.isCaller, Code.cUnits])

/-- the context of a generator expression's frame; B: around it when it is woken -/
abbrev gx (X : Cx) (B : Around) (s : Shared) (H : Hp) (cenv : Env) (fp : List Addr) (pn : List (Addr × Obj)) : Cx :=
  { X with A := B.deeper cenv, s_0 := s, H_0 := H, env := cenv, outer := X.stack, stack := cenv :: X.stack, ex := fp, fn := fun _ => false, calm := true, pn := pn, xe := fun _ _ => False }

section
variable {X : Cx} {pins : List (Addr × Obj)} {σ : L2.St} {H : Hp} {s : Shared}
theorem gx_start {scope : Scope} {own : List (Str × Nat)} {fp : List Addr} {B : Around} {code itv : Value} {h' : Heap} {g' : Array GenState} {tk : Nat} {pn : List (Addr × Obj)}
    (I : Inv X pins σ H s) (ok : BlkOk X.N X.env.scope scope own) (hnc : ∀ y ∈ scope.names, y.2 ≠ .cell) (hN : X.N.Nodup) (hfp : ∀ b ∈ fp, FpOk X pins H b ∧ b < s.heap.objs.size)
    (hfr : B.frames = some X.stack) (hhd : B.handled = none) (hns : h'.Ns s.heap.objs.size (fun y => if y = (".0" : Str) then some itv else none)) (kp : ∀ b o, s.heap.get? b = some o → h'.get? b = some o) (hb : AllBare g')
    (hpn : ∀ p ∈ pn, h'.get? p.1 = some p.2 ∧ s.heap.objs.size < p.1 ∧ ∀ v, p.2.data ≠ .cell v) :
    Inv (gx X B s H (genEnv scope (cloFrom X.env.cells scope.names []) s.heap.objs.size code builtinsNs X.env) fp pn) [] (wipe σ (own.map (·.2))) H { s with heap := h', gens := g', toks := tk } := by
  have hfree : ∀ y ∈ scope.names, y.2 = .free → ∃ c, X.env.cells.lookup y.1 = some c := fun y hy e => by
    rcases ok.free y hy e with k | k
    · exact I.ok.has _ (.inl k)
    · exact I.ok.has _ (.inr k)
  generalize hcenv : genEnv scope (cloFrom X.env.cells scope.names []) s.heap.objs.size code builtinsNs X.env = cenv
  have hL : cenv.locals = s.heap.objs.size := by rw [← hcenv]; rfl
  have hcl : cenv.cells = cloFrom X.env.cells scope.names [] := by rw [← hcenv]; rfl
  have hsc : cenv.scope = scope := by rw [← hcenv]; rfl
  have hfm : cenv.frame = some cenv.locals := by rw [← hcenv]; rfl
  have cm : ∀ {y c}, (y, c) ∈ cloFrom X.env.cells scope.names [] → X.env.cells.lookup y = some c ∧ c < s.heap.objs.size := fun {y c} hm => by
    rcases cloFrom_mem hm with hm | ⟨h1, rfl⟩
    · cases hm
    · obtain ⟨c, hc⟩ := hfree _ h1 rfl
      rw [hc]
      obtain ⟨w, z⟩ := I.cell _ _ hc
      exact ⟨rfl, z.lt⟩
  have mem : ∀ {y c}, cenv.cells.lookup y = some c → (X.env.cells.lookup y = some c ∧ c < s.heap.objs.size) := fun {y c} e => by
    rw [hcl] at e
    exact cm (PySem.mem_of_lookup e)
  have look : ∀ {y}, scope.names.lookup y = some .free → ∃ c, cenv.cells.lookup y = some c ∧ X.env.cells.lookup y = some c := fun {y} hl => by
    have hy : (y, NameKind.free) ∈ scope.names := PySem.mem_of_lookup hl
    obtain ⟨c', e'⟩ := mem_lookup (cloFrom_has (cells := X.env.cells) (acc := []) hy)
    rw [← hcl] at e'
    exact ⟨c', e', (mem e').1⟩
  have okB : (gx X B s H cenv fp pn).Ok := by
    refine ⟨I.ok.mod, by show cenv.scope.kind = _; rw [hsc]; exact ok.kind, by show cenv.globals = _; rw [← hcenv]; exact I.ok.glob, by show cenv.builtins = _; rw [← hcenv]; rfl, by show s.heap.objs.size ≤ cenv.locals; rw [hL]; exact Nat.le_refl _,
      fun y z c e1 e2 => ?_, fun y hy => ?_, fun y c z e => ?_, fun _ => hhd, Around.frames_deeper hfr, .inr ⟨rfl, hfm⟩, fun b hb => ⟨?_, fun y c e z => ?_⟩, I.bs, Nat.le_trans I.ok.bsz I.sz, fun b o e hb => ?_, fun b hb z => ?_, I.stack, I.stkFree⟩
    · have e1 : cenv.cells.lookup y = some c := e1
      have e2 : cenv.cells.lookup z = some c := e2
      exact I.ok.inj y z c (mem e1).1 (mem e2).1
    · show ∃ c, cenv.cells.lookup y = some c
      have key : ∀ k, cenv.kindOf y = some k → (k = .cell ∨ k = .free) → ∃ c, cenv.cells.lookup y = some c := fun k hk hk' => by
        unfold Env.kindOf at hk
        rw [hsc] at hk
        rcases hk' with rfl | rfl
        · exact absurd rfl (hnc _ (PySem.mem_of_lookup hk))
        · obtain ⟨c, h1, _⟩ := look hk
          exact ⟨c, h1⟩
      rcases hy with hy | hy
      · exact key _ hy (.inl rfl)
      · exact key _ hy (.inr rfl)
    · exact absurd z Bool.false_ne_true
    · show b ≠ cenv.locals
      rw [hL]; exact Nat.ne_of_lt (hfp b hb).2
    · have e : cenv.cells.lookup y = some c := e
      exact (hfp b hb).1.2.2.2.2.1 y c (mem e).1 z
    · rcases (hfp b hb).1.2.2.2.1 with z | z
      · exact I.ok.noex b o e z
      · exact absurd (Nat.lt_of_lt_of_le (Heap.lt_size e) (Nat.le_trans I.ok.bsz z)) (Nat.lt_irrefl _)
    · rcases List.mem_cons.mp (I.stkSub b z) with z | z
      · exact (hfp b hb).1.2.1 z
      · exact (hfp b hb).1.2.2.1 z
  refine ⟨okB, rfl, hb, Un.kept kp, ⟨fun y => if y = (".0" : Str) then some itv else none, ?_, fun i y av e1 e2 e3 => ?_⟩, fun y c e => ?_, ?_, fun y c e => ?_, fun p hp => ?_, I.hok.kept kp, by rw [wipe_length]; exact I.len⟩
  · show Heap.Ns _ cenv.locals _
    rw [hL]
    exact hns
  · obtain ⟨e2, hne⟩ := wipe_some e2
    have hfr : scope.names.lookup y = some .free ∧ cenv.kindOf y = some .free := by
      have key : ∀ k, cenv.scope.names.lookup y = some k → k = .local ∨ k = .cell ∨ k = .free → scope.names.lookup y = some .free ∧ cenv.kindOf y = some .free := fun k hk hk' => by
        have hk0 := hk
        rw [hsc] at hk
        have no : ¬ (k = .local ∨ k = .cell) := fun hh => by
          rcases ok.own _ (PySem.mem_of_lookup hk) hh with e' | e'
          · obtain ⟨p, hp, hpy⟩ := List.mem_map.mp e'
            have e3 := ok.ix p hp
            have : p.1 = y := hpy
            rw [this] at e3
            exact hne (List.mem_map.mpr ⟨p, hp, nodup_ix hN e3 e1⟩)
          · exact e' (List.mem_of_getElem? e1)
        rcases hk' with rfl | rfl | rfl
        · exact absurd (.inl rfl) no
        · exact absurd (.inr rfl) no
        · exact ⟨hk, hk0⟩
      have e3 : Vis cenv.scope y := e3
      rcases e3 with e3 | e3 | e3
      · exact key _ e3 (.inl rfl)
      · exact key _ e3 (.inr (.inl rfl))
      · exact key _ e3 (.inr (.inr rfl))
    obtain ⟨m, hn, hl⟩ := I.loc
    have hvis : Vis X.env.scope y := (ok.free _ (PySem.mem_of_lookup hfr.1) rfl).elim (fun k => .inr (.inl k)) (fun k => .inr (.inr k))
    obtain ⟨w, r, q⟩ := hl i y av e1 e2 hvis
    refine ⟨w, r, .inr ⟨.inr hfr.2, ?_⟩⟩
    obtain ⟨c, h1, h2⟩ := look hfr.1
    rcases q with ⟨k, _⟩ | ⟨_, c', e', z⟩
    · have k : X.env.scope.names.lookup y = some .local := k
      rcases ok.free _ (PySem.mem_of_lookup hfr.1) rfl with k' | k' <;> rw [show X.env.scope.names.lookup y = _ from k'] at k <;> cases k
    · rw [h2] at e'; cases e'
      exact ⟨c, h1, z.keeps kp⟩
  · have e : cenv.cells.lookup y = some c := e
    obtain ⟨w, z⟩ := I.cell y c (mem e).1
    exact ⟨w, z.keeps kp⟩
  · show H cenv.locals = none
    rw [hL]; exact I.hok.fresh (Nat.le_refl _)
  · have e : cenv.cells.lookup y = some c := e
    exact I.freeC y c (mem e).1
  · have hp' : p ∈ pn := by simpa using hp
    obtain ⟨h1, h2, h3⟩ := hpn p hp'
    refine ⟨h1, I.hok.fresh (Nat.le_of_lt h2), ?_, ?_, h3⟩
    · show p.1 ≠ cenv.locals
      rw [hL]; exact Nat.ne_of_gt h2
    · intro z
      have z' : p.1 ∈ frs X.stack := z
      rcases List.mem_cons.mp (I.stkSub _ z') with z2 | z2
      · have := I.lt
        rw [← z2] at this
        exact absurd (Nat.lt_trans h2 this) (Nat.lt_irrefl _)
      · exact I.nofs (Nat.le_of_lt h2) z2
end
end GE
set_option Elab.async false
set_option linter.all false
set_option maxRecDepth 100000
set_option maxHeartbeats 2000000
namespace GE
open PySem PySem.Spec PyProof.Rows L2 GenW

/-- while the generator sleeps: all objects are kept -/
structure Slp (s s' : Shared) : Prop where
  os : s'.os = s.os
  bare : AllBare s'.gens
  keep : ∀ b o, s.heap.get? b = some o → s'.heap.get? b = some o

/-- between two turns -/
structure GSt (X' : Cx) (fp : List Addr) (tn : Nat → Heap → Prop) (σ0 : L2.St) (i : Nat) (H : Hp) (s : Shared) : Prop where
  inv : Inv X' [] σ0 H s
  tn : tn i s.heap
  free : ∀ b ∈ fp, H b = none

section
variable {X' : Cx} {fp : List Addr} {tn : Nat → Heap → Prop} {σ0 : L2.St} {N : Nat} {W : Nat → Hp → Prop} {step : Nat → V → Hp → (Hp → Prop) → Prop} {fin : Hp → Prop} {J : It} {g : TG} {te : TE} {tg elt iter : Expr} {it : Addr} {scope : Scope} {pos : Pos} {A : Around} {vs : List Nat}

theorem GSt.slept {i : Nat} {H : Hp} {s s' : Shared} (G : GSt X' fp tn σ0 i H s) (T : Turn X'.prog X'.w X'.K tg J fp it tn) (z : Slp s s') : GSt X' fp tn σ0 i H s' :=
  ⟨G.inv.call' (ch := []) z.os (Un.kept z.keep) (G.inv.hok.kept z.keep) z.bare (fun b hb => absurd hb (by simp)), T.keep _ _ _ G.tn fun b _ o e => z.keep b o e, G.free⟩

def YG (X' : Cx) (fp : List Addr) (tn : Nat → Heap → Prop) (σ0 : L2.St) (N : Nat) (W : Nat → Hp → Prop) (step : Nat → V → Hp → (Hp → Prop) → Prop) : Protocol := fun n _ v s kap =>
  ∃ i y H, (n + i = N ∧ i < N) ∧ RelV y v ∧ GSt X' fp tn σ0 (i + 1) H s ∧ step i y H (W (i + 1)) ∧ ∀ s' H', GSt X' fp tn σ0 (i + 1) H' s' → W (i + 1) H' → kap (.send .none) s'
def PG' (X' : Cx) (fp : List Addr) (tn : Nat → Heap → Prop) (σ0 : L2.St) (fin : Hp → Prop) : Nat → Shared → Shared → Prop := fun n _ s₁ => n = 1 ∧ ∃ H, Inv X' [] σ0 H s₁ ∧ fin H

/-- what each turn asks -/
structure Turns (J : It) (g : TG) (te : TE) (σ0 : L2.St) (vs : List Nat) (N : Nat) (W : Nat → Hp → Prop) (step : Nat → V → Hp → (Hp → Prop) → Prop) (fin : Hp → Prop) : Prop where
  stop : ∀ H, W N H → J.stop N H ∧ fin H
  go : ∀ i H, i < N → W i H → J.go i H ∧ ∀ x H', J.yld i H x H' → g x σ0 H' fun σ2 H2 => wipe σ2 vs = σ0 ∧ te σ2 H2 fun y H3 => step i y H3 (W (i + 1))

theorem seg_gx (pg : PG X' tg g) (pe : PE X' elt te) (T : Turn X'.prog X'.w X'.K tg J fp it tn) (hc : X'.calm = true) (hex : X'.ex = fp) (hpn : ∀ b ∈ fp, ∀ p ∈ X'.pn, p.1 ≠ b)
    (hA : A.over (.compLoop (.GeneratorExp elt [⟨tg, iter, [], 0⟩] scope pos) 0 (.ref it) .none X'.env) [] = X'.A) (hxe : X'.xe = fun _ _ => False) (hco : X'.env.scope.isCoroutine = false)
    (hst : Turns J g te σ0 vs N W step fin) :
    ∀ (k i : Nat) (s₀ s : Shared) (H : Hp), N - i = k → i ≤ N → GSt X' fp tn σ0 i H s → W i H →
      Seg (model X'.prog X'.w) A (fun n s₀ r s₁ => r = .ok .next ∧ PG' X' fp tn σ0 fin n s₀ s₁) (YG X' fp tn σ0 N W step) (k + 1) s₀
        (.compLoop (.GeneratorExp elt [⟨tg, iter, [], 0⟩] scope pos) 0 (.ref it) .none X'.env)
        ((model X'.prog X'.w).den (.compLoop (.GeneratorExp elt [⟨tg, iter, [], 0⟩] scope pos) 0 (.ref it) .none X'.env)) [] s := by
  have stat : ∀ {σ' : L2.St} {H' : Hp} {s' : Shared}, Inv X' [] σ' H' s' → (∀ b ∈ fp, H' b = none) → ∀ b ∈ fp, FpOk X' [] H' b := fun {σ' H' s'} I' hn b hb =>
    have hb' : b ∈ X'.ex := by rw [hex]; exact hb
    ⟨hn b hb, (I'.ok.exf b hb').1, I'.ok.exfs b hb', .inl hb', fun x c e => (I'.ok.exf b hb').2 x c e, fun p hp => hpn b hb p (by simpa using hp)⟩
  intro k
  induction k with
  | zero =>
    intro i s₀ s H hk hi hG hW
    have hin : i = N := by omega
    subst hin
    obtain ⟨hs1, hs2⟩ := hst.stop H hW
    show Seg _ A _ _ _ s₀ _ ((compTurn (.GeneratorExp elt [⟨tg, iter, [], 0⟩] scope pos) 0 (.ref it) .none X'.env).onRaise (leaving X'.env)) [] s
    rw [compTurn_gen, Sem.onRaise_eq_wrap]
    refine seg_bind_wrap (wpAny_standAt ?_)
    refine seg_bind_wrap ?_
    rw [hA]
    refine wpAny_mono (T.done X' rfl rfl rfl hc i [] s _ H (fun _ _ => False) hG.inv (stat hG.inv hG.free) hG.tn hs1) (fun r s1 ⟨hr, I1⟩ => ?_) fun _ _ z => z.elim
    subst hr
    exact seg_end (.ok .next) ⟨rfl, rfl, H, I1, hs2⟩
  | succ k ih =>
    intro i s₀ s H hk hi hG hW
    have hlt : i < N := by omega
    obtain ⟨hgo, hturn⟩ := hst.go i H hlt hW
    show Seg _ A _ _ _ s₀ _ ((compTurn (.GeneratorExp elt [⟨tg, iter, [], 0⟩] scope pos) 0 (.ref it) .none X'.env).onRaise (leaving X'.env)) [] s
    rw [compTurn_gen, Sem.onRaise_eq_wrap]
    refine seg_bind_wrap (wpAny_standAt ?_)
    refine seg_bind_wrap ?_
    rw [hA]
    refine wpAny_mono (T.item X' rfl rfl rfl hc i [] s _ H (fun _ _ => False) hG.inv (stat hG.inv hG.free) hG.tn hgo) (fun r s1 ⟨u, hr, h1⟩ => ?_) fun _ _ z => z.elim
    subst hr
    refine seg_bind_wrap ?_
    rw [hA]
    refine wpAny_mono h1 (fun _ s2 ⟨x, H2, I2, r2, y2, st2, n2⟩ => ?_) fun _ _ z => z.elim
    have I2' := I2.pinned (stat I2 n2) (T.obj _ _ st2)
    refine seg_bind_wrap ?_
    rw [hA]
    refine wpAny_mono (pg.run _ s2 _ H2 x u _ I2' r2 (hturn x H2 y2)) (fun _ s3 ⟨σ3, H3, I3, hw3, q3⟩ => ?_) fun _ _ z => by rw [hxe] at z; exact z.elim
    refine seg_bind_wrap (m := (forIn ([] : List Expr) true _)) ?_
    rw [List.forIn_nil]
    refine wpAny_pure ?_
    simp only [if_true]
    have hy : ∀ v, yieldOut X'.env v = yieldValue v := fun v => by simp only [yieldOut, hco, Bool.false_eq_true, if_false]
    simp only [hy]
    rw [Sem.bind_eq_wrap', Sem.bind_eq_wrap', Sem.wrap_wrap, Sem.wrap_wrap]
    refine seg_wrap ?_
    rw [hA]
    refine wpAny_mono (pe.run _ s3 σ3 H3 _ I3 q3) (fun v s4 ⟨y, H4, I4, r4, q4⟩ => ?_) fun _ _ z => by rw [hxe] at z; exact z.elim
    have pin4 : ∀ b ∈ fp, ∀ o, s2.heap.get? b = some o → s4.heap.get? b = some o ∧ H4 b = none := fun b hb o e =>
      let z := I4.pin (b, o) (List.mem_append_right _ (List.mem_append_right _ (mem_pinsAt hb e)))
      ⟨z.1, z.2.1⟩
    have hl : σ0.length = σ3.length := by rw [← hw3, wipe_length]
    have G4 : GSt X' fp tn σ0 (i + 1) H4 s4 := by
      refine ⟨(I4.unpinned (pins := [])).weak hl (fun j v e => ?_), T.keep _ _ _ st2 fun b hb o e => (pin4 b hb o e).1, fun b hb => ?_⟩
      · rw [← hw3] at e
        exact (wipe_some e).1
      · obtain ⟨o, e, _⟩ := T.obj _ _ st2 b hb
        exact (pin4 b hb o e).2
    refine seg_at (seg_yield rfl rfl rfl ⟨i, y, H4, ⟨by omega, hlt⟩, r4, G4, q4, fun s' H' z hW' => ?_⟩)
    refine seg_again rfl (ih (i + 1) s' s' H' (by omega) hlt z hW')

theorem seg_gx0 (pg : PG X' tg g) (pe : PE X' elt te) (T : Turn X'.prog X'.w X'.K tg J fp it tn) (hc : X'.calm = true) (hex : X'.ex = fp) (hpn : ∀ b ∈ fp, ∀ p ∈ X'.pn, p.1 ≠ b)
    (hA : A.over (.compLoop (.GeneratorExp elt [⟨tg, iter, [], 0⟩] scope pos) 0 (.ref it) .none X'.env) [] = X'.A) (hxe : X'.xe = fun _ _ => False) (hco : X'.env.scope.isCoroutine = false)
    (hst : Turns J g te σ0 vs N W step fin) (s₀ s : Shared) (H : Hp) (hG : GSt X' fp tn σ0 0 H s) (hW : W 0 H) :
      Seg (model X'.prog X'.w) A (fun n s₀ r s₁ => r = .ok .next ∧ PG' X' fp tn σ0 fin n s₀ s₁) (YG X' fp tn σ0 N W step) (N + 1) s₀
        (.compStart (.GeneratorExp elt [⟨tg, iter, [], 0⟩] scope pos) 0 (.ref it) .none X'.env)
        ((model X'.prog X'.w).den (.compStart (.GeneratorExp elt [⟨tg, iter, [], 0⟩] scope pos) 0 (.ref it) .none X'.env)) [] s := by
  have loop := seg_gx pg pe T hc hex hpn hA hxe hco hst N 0 s₀ s H (Nat.sub_zero _) (Nat.zero_le _) hG hW
  show Seg _ A _ _ _ s₀ _ ((compStart (.GeneratorExp elt [⟨tg, iter, [], 0⟩] scope pos) 0 (.ref it) .none X'.env).onRaise (leaving X'.env)) [] s
  unfold compStart
  rw [Sem.onRaise_eq_wrap]
  show Seg _ A _ _ _ s₀ _ ((ask >>= _).wrap _ _ _ _) [] s
  refine seg_bind_wrap (wpAny_askSetting ?_)
  split
  · exact seg_again rfl loop
  · first
      | exact seg_bind_wrap (wpAny_rule (seg_bind_wrap (wpAny_standAt (seg_bind_wrap (T.self _ 0 s _ _ hG.tn (seg_again rfl loop))))))
      | (refine seg_bind_wrap (wpAny_rule ?_); show Seg _ A _ _ _ s₀ _ ((standAt iter.pos >>= _).wrap _ _ _ _) [] s; exact seg_bind_wrap (wpAny_standAt (seg_bind_wrap (T.self _ 0 s _ _ hG.tn (seg_again rfl loop)))))
end
end GE
set_option Elab.async false
set_option linter.all false
set_option maxRecDepth 100000
set_option maxHeartbeats 2000000
namespace GE
open PySem PySem.Spec PyProof.Rows L2 GenW

/-- the generator at a, ready for its turn i; A: around pyNext -/
structure GAt (X' : Cx) (fp : List Addr) (tn : Nat → Heap → Prop) (σ0 : L2.St) (N : Nat) (W : Nat → Hp → Prop) (step : Nat → V → Hp → (Hp → Prop) → Prop) (fin : Hp → Prop) (A : Around) (a : Addr) (g : Nat) (i : Nat) (H : Hp) (s : Shared) : Prop where
  st : GSt X' fp tn σ0 i H s
  le : i ≤ N
  w : W i H
  run : ∃ gs, s.gens[g]? = some gs ∧ ∀ s' H', GSt X' fp tn σ0 i H' s' → W i H' → gs.Goes (model X'.prog X'.w) A.in1 (fun n s₀ r s₁ => r = .ok .next ∧ PG' X' fp tn σ0 fin n s₀ s₁) (YG X' fp tn σ0 N W step) (N - i + 1) (.send .none) s'

/-- what is known of the frame of a generator -/
structure GenX (X' : Cx) (fp : List Addr) (tn : Nat → Heap → Prop) (σ0 : L2.St) (A : Around) (a : Addr) (g : Nat) : Prop where
  hh : A.handled = none
  room : A.depth < recursionLimit
  pn : ∀ H s, Inv X' [] σ0 H s → s.heap.IsGen a g
  keep : ∀ i h h', tn i h → (∀ b ∈ fp, ∀ o, h.get? b = some o → h'.get? b = some o) → tn i h'
  there : ∀ i h, tn i h → ∀ b ∈ fp, ∃ o, h.get? b = some o

section
variable {X' : Cx} {fp : List Addr} {tn : Nat → Heap → Prop} {σ0 : L2.St} {N : Nat} {W : Nat → Hp → Prop} {step : Nat → V → Hp → (Hp → Prop) → Prop} {fin : Hp → Prop} {A : Around} {a : Addr} {g : Nat}

theorem GenX.slept (X : GenX X' fp tn σ0 A a g) {i : Nat} {H : Hp} {s s' : Shared} (G : GSt X' fp tn σ0 i H s) (z : Slp s s') : GSt X' fp tn σ0 i H s' :=
  ⟨G.inv.call' (ch := []) z.os (Un.kept z.keep) (G.inv.hok.kept z.keep) z.bare (fun b hb => absurd hb (by simp)), X.keep _ _ _ G.tn fun b _ o e => z.keep b o e, G.free⟩

/-- one turn: it hands out an item, or it has come to its end -/
theorem next_gx (X : GenX X' fp tn σ0 A a g) {i : Nat} {H : Hp} {s : Shared} (G : GAt X' fp tn σ0 N W step fin A a g i H s)
    {Q : Option Value → Shared → Prop} {E : Value → Shared → Prop}
    (hY : i < N → ∀ y v H' s' gs, RelV y v → step i y H' (W (i + 1)) → GSt X' fp tn σ0 (i + 1) H' s' → s'.gens[g]? = some gs →
      (∀ H2 s2, GSt X' fp tn σ0 (i + 1) H2 s2 → s2.gens[g]? = some gs → W (i + 1) H2 → GAt X' fp tn σ0 N W step fin A a g (i + 1) H2 s2) → Q (some v) s')
    (hP : i = N → ∀ H' s', Inv X' [] σ0 H' s' → fin H' → Q none s') :
    wpAny (model X'.prog X'.w) A (pyNext (.ref a)) Q E s := by
  obtain ⟨gs, hgs, hgo⟩ := G.run
  have hgl : g < s.gens.size := (Array.getElem?_eq_some_iff.mp hgs).1
  have sl : Slp s (s.setGen g .running) := ⟨rfl, allBare_setGen (s := s) G.st.inv.bare rfl, fun _ _ e => e⟩
  have hl : s.heap.NoLimit := G.st.inv.nolimit
  refine wpAny_gsz (n := g + 1) hgl (wpAny_pyNext_genexpQ (P := PG' X' fp tn σ0 fin) X.hh hl X.room (X.pn H s G.st.inv) hgs (hgo _ H (X.slept G.st sl) G.w) (fun v s₁ gs' hbare hv => ?_) (fun s₁ hp h' hk => ?_))
  · intro hsz
    obtain ⟨j, y, H', ⟨hj, hjN⟩, ry, Gj, hstep, hkap⟩ := hv
    have hji : j = i := by have := G.le; omega
    subst hji
    have hsz1 : g < s₁.gens.size := by
      have q : (s₁.setGen g gs').gens.size = s₁.gens.size := setGen_size _ _ _
      have hsz' : g + 1 ≤ (s₁.setGen g gs').gens.size := hsz
      omega
    have sl2 : Slp s₁ (s₁.setGen g gs') := ⟨rfl, allBare_setGen (s := s₁) Gj.inv.bare hbare, fun _ _ e => e⟩
    refine hY hjN y v H' _ gs' ry hstep (X.slept Gj sl2) (setGen_at hsz1) fun H2 s2 G2 hg2 hW => ⟨G2, hjN, hW, gs', hg2, fun s' H3 z hW' => ?_⟩
    have hk := hkap s' H3 z hW'
    have e1 : N - (j + 1) + 1 = N - j := by omega
    rw [e1]
    exact hk
  · intro hsz
    obtain ⟨hn, H', I1, hf⟩ := hp
    have hiN : i = N := by have := G.le; omega
    refine hP hiN H' _ ?_ hf
    exact I1.call' (ch := []) rfl (Un.kept hk) (I1.hok.kept hk) (allBare_setGen (s := s₁) I1.bare rfl) (fun b hb => absurd hb (by simp))

/-! ### the consumers -/
theorem all_loop (X : GenX X' fp tn σ0 A.in1 a g) {R : Result → Shared → Prop}
    (hstep : ∀ i y H nx, step i y H nx → ∃ k, y = .bl k ∧ (k = true → nx H) ∧ (k = false → ∀ s', Inv X' [] σ0 H s' → R (.ok (.ret (.bool false))) s')) (hfin : ∀ H s', fin H → Inv X' [] σ0 H s' → R (.ok (.ret (.bool true))) s') :
    ∀ (k i : Nat) (H : Hp) (s : Shared), N - i = k → GAt X' fp tn σ0 N W step fin A.in1 a g i H s → codeAny (model X'.prog X'.w) A (.builtin "all.loop" ⟨[.ref a], []⟩) R s := by
  intro k
  induction k with
  | zero =>
    intro i H s hk G
    refine codeAny_builtin F.entry_all_loop ?_
    rw [Around.under_plainId F.plain_all_loop _]
    show wpAny _ A.in1 (pyNext (.ref a) >>= _) _ _ s
    refine wpAny_bind (next_gx X G (fun hlt => absurd hlt (by omega)) fun hi H' s' I' hf => ?_)
    exact wpAny_bind (wpAny_rule (wpAny_pure (hfin H' s' hf I')))
  | succ k ih =>
    intro i H s hk G
    refine codeAny_builtin F.entry_all_loop ?_
    rw [Around.under_plainId F.plain_all_loop _]
    show wpAny _ A.in1 (pyNext (.ref a) >>= _) _ _ s
    refine wpAny_bind (next_gx X G (fun hlt y v H' s' gs ry hst G' hgs cont => ?_) fun hi => absurd hi (by omega))
    obtain ⟨b, rfl, h1, h2⟩ := hstep i y H' _ hst
    obtain rfl : v = Value.bool b := ry
    refine wpAny_bind (wpAny_holding (wpAny_truthy_bool ?_))
    refine wpAny_bind (wpAny_letGo ?_)
    cases b with
    | true =>
      simp only [if_true]
      exact wpAny_pure ⟨plainId_quiet F.plain_all_loop _, ih (i + 1) H' s' (by omega) (cont H' s' G' hgs (h1 rfl))⟩
    | false =>
      simp only [Bool.false_eq_true, if_false]
      exact wpAny_bind (wpAny_rule (wpAny_pure (h2 rfl s' G'.inv)))
theorem any_loop (X : GenX X' fp tn σ0 A.in1 a g) {R : Result → Shared → Prop}
    (hstep : ∀ i y H nx, step i y H nx → ∃ k, y = .bl k ∧ (k = false → nx H) ∧ (k = true → ∀ s', Inv X' [] σ0 H s' → R (.ok (.ret (.bool true))) s')) (hfin : ∀ H s', fin H → Inv X' [] σ0 H s' → R (.ok (.ret (.bool false))) s') :
    ∀ (k i : Nat) (H : Hp) (s : Shared), N - i = k → GAt X' fp tn σ0 N W step fin A.in1 a g i H s → codeAny (model X'.prog X'.w) A (.builtin "any.loop" ⟨[.ref a], []⟩) R s := by
  intro k
  induction k with
  | zero =>
    intro i H s hk G
    refine codeAny_builtin F.entry_any_loop ?_
    rw [Around.under_plainId F.plain_any_loop _]
    show wpAny _ A.in1 (pyNext (.ref a) >>= _) _ _ s
    refine wpAny_bind (next_gx X G (fun hlt => absurd hlt (by omega)) fun hi H' s' I' hf => ?_)
    exact wpAny_bind (wpAny_rule (wpAny_pure (hfin H' s' hf I')))
  | succ k ih =>
    intro i H s hk G
    refine codeAny_builtin F.entry_any_loop ?_
    rw [Around.under_plainId F.plain_any_loop _]
    show wpAny _ A.in1 (pyNext (.ref a) >>= _) _ _ s
    refine wpAny_bind (next_gx X G (fun hlt y v H' s' gs ry hst G' hgs cont => ?_) fun hi => absurd hi (by omega))
    obtain ⟨b, rfl, h1, h2⟩ := hstep i y H' _ hst
    obtain rfl : v = Value.bool b := ry
    refine wpAny_bind (wpAny_holding (wpAny_truthy_bool ?_))
    refine wpAny_bind (wpAny_letGo ?_)
    cases b with
    | false =>
      simp only [Bool.false_eq_true, if_false]
      exact wpAny_pure ⟨plainId_quiet F.plain_any_loop _, ih (i + 1) H' s' (by omega) (cont H' s' G' hgs (h1 rfl))⟩
    | true =>
      simp only [if_true]
      exact wpAny_bind (wpAny_rule (wpAny_pure (h2 rfl s' G'.inv)))
theorem sum_loop (X : GenX X' fp tn σ0 A.in1 a g) {R : Result → Shared → Prop} {S : Addr} {val : Nat → Int}
    (hstep : ∀ i y H nx, step i y H nx → y = .int (val i) ∧ H S = some (.lst [.int (preSum val i)]) ∧ nx (upd H S (.lst [.int (preSum val (i + 1))])))
    (hfin : ∀ H s', fin H → Inv X' [] σ0 H s' → ∀ t, R (.ok (.ret (.int (preSum val N) t))) s')
    (hS : ∀ i H, W i H → H S = some (.lst [.int (preSum val i)])) (hfit : ∀ j, j < N → InLong (val j) ∧ InLong (preSum val (j + 1))) (hnf : S ∉ fp) :
    ∀ (k i : Nat) (H : Hp) (s : Shared), N - i = k → GAt X' fp tn σ0 N W step fin A.in1 a g i H s → codeAny (model X'.prog X'.w) A (.builtin "sum.loop" ⟨[.ref a, .ref S, rawInt 0, rawInt 0], []⟩) R s := by
  have lst : ∀ {H : Hp} {s : Shared} {acc : Int}, Inv X' [] σ0 H s → H S = some (.lst [.int acc]) → ∃ t n, s.heap.get? S = some { cls := .type "list", dict := none, data := .seq #[.int acc t] n, slots := #[] } := fun {H s acc} I e => by
    obtain ⟨_, its, n, r, e1⟩ := I.hok S _ e
    cases r with
    | cons r1 r2 =>
      cases r2
      obtain ⟨t, rfl⟩ := r1
      exact ⟨t, n, e1⟩
  intro k
  induction k with
  | zero =>
    intro i H s hk G
    obtain ⟨t, n, hSo⟩ := lst G.st.inv (hS i H G.w)
    refine codeAny_builtin F.entry_sum_loop ?_
    rw [Around.under_plainId F.plain_sum_loop _]
    show wpAny _ A.in1 (seqItems? (.ref S) >>= _) _ _ s
    refine wpAny_bind (wpAny_seqItems hSo rfl ?_)
    show wpAny _ A.in1 (tryCatch (pyNext (.ref a)) _ >>= _) _ _ s
    refine wpAny_bind (wpAny_tryCatch (next_gx X G (fun hlt => absurd hlt (by omega)) fun hi H' s' I' hf => ?_))
    have q := hfin H' s' hf I' t
    rw [← hi] at q
    exact wpAny_pure q
  | succ k ih =>
    intro i H s hk G
    obtain ⟨t, n, hSo⟩ := lst G.st.inv (hS i H G.w)
    have hlt : i < N := by omega
    refine codeAny_builtin F.entry_sum_loop ?_
    rw [Around.under_plainId F.plain_sum_loop _]
    show wpAny _ A.in1 (seqItems? (.ref S) >>= _) _ _ s
    refine wpAny_bind (wpAny_seqItems hSo rfl ?_)
    show wpAny _ A.in1 (tryCatch (pyNext (.ref a)) _ >>= _) _ _ s
    refine wpAny_bind (wpAny_tryCatch (next_gx X G (fun _ y v H' s' gs ry hst G' hgs cont => ?_) fun hi => absurd hi (by omega)))
    obtain ⟨rfl, hS2, hnx⟩ := hstep i y H' _ hst
    obtain ⟨tv, rfl⟩ : ∃ tv, v = Value.int (val i) tv := ry
    obtain ⟨t2, n2, hSo2⟩ := lst G'.inv hS2
    obtain ⟨⟨f1, f2⟩, f3, f4⟩ := hfit i hlt
    have hc : ((decide (-(2 ^ 63) ≤ val i) && decide (val i < 2 ^ 63)) && (decide (-(2 ^ 63) ≤ preSum val i + val i) && decide (preSum val i + val i < 2 ^ 63))) = true := by
      simp only [preSum] at f3 f4
      simp only [Bool.and_eq_true, decide_eq_true_eq]
      exact ⟨⟨f1, f2⟩, f3, f4⟩
    show wpAny _ A.in1 (if (_ : Bool) = true then (mkInt (preSum val i + val i) >>= _) else _) _ _ _
    split
    · refine wpAny_bind (wpAny_mkInt ?_)
      show wpAny _ A.in1 (updateSeq S (fun _ => #[.int (preSum val i + val i) s'.toks]) >>= _) _ _ _
      refine wpAny_bind ?_
      refine wpAny_updateSeq hSo2 rfl (wpAny_pure ⟨plainId_quiet F.plain_sum_loop _, ih (i + 1) _ _ (by omega) (cont _ _ ⟨?_, X.keep _ _ _ G'.tn fun b hb o e => (Heap.get?_update_other _ _ (fun h : S = b => hnf (by rw [h]; exact hb))).trans e, fun b hb => ?_⟩ hgs hnx)⟩)
      · exact G'.inv.write (x := S) (e := S) (t' := s'.toks + 1) (by rw [hS2]; trivial) (.inl rfl) (fun b u hb e => (Heap.get?_update_other _ _ (Ne.symm hb)).trans e) ⟨_, Heap.get?_update_self _ hSo2 rfl⟩
          ⟨by show 1 ≤ sizeLine; decide, [.int (preSum val i + val i) s'.toks], _, .cons ⟨_, rfl⟩ .nil, Heap.get?_update_self _ hSo2 rfl⟩
      · rw [upd_ne (fun h : b = S => hnf (by rw [← h]; exact hb))]
        exact G'.free b hb
    · rename_i hneg
      exact absurd hc hneg
end
end GE
set_option Elab.async false
set_option linter.all false
set_option maxRecDepth 100000
set_option maxHeartbeats 2000000
namespace GE
open PySem PySem.Spec PyProof.Rows L2 GenW

/-- the generator has been made: whatever its turns are to do, it is ready for them -/
structure Made (X : Cx) (pins : List (Addr × Obj)) (σ : L2.St) (tg : Expr) (J : It) (g : TG) (te : TE) (vs : List Nat) (H2 : Hp) (a : Addr) (s5 : Shared) : Prop where
  ex : ∃ (X' : Cx) (fp : List Addr) (tn : Nat → Heap → Prop) (gn : Nat), X'.prog = X.prog ∧ X'.w = X.w ∧ GenX X' fp tn (wipe σ vs) X.A.in1 a gn ∧ s5.heap.IsGen a gn ∧ GSt X' fp tn (wipe σ vs) 0 H2 s5 ∧
    (∀ H' s', Inv X' [] (wipe σ vs) H' s' → Inv X pins σ H' s') ∧
    (∀ N W step fin s', Turns J g te (wipe σ vs) vs N W step fin → s'.gens = s5.gens → ∀ H', GSt X' fp tn (wipe σ vs) 0 H' s' → W 0 H' → GAt X' fp tn (wipe σ vs) N W step fin X.A.in1 a gn 0 H' s')

section
variable {X : Cx} {pins : List (Addr × Obj)} {σ : L2.St} {H : Hp} {s : Shared}

theorem gen_core {c P : Addr} {tg elt iter : Expr} {scope : Scope} {own : List (Str × Nat)} {gpos : Pos} {wi : TI} {g : TG} {te : TE} {k : Nat} {Q' : Value → Shared → Prop} {R : It → Hp → Prop}
    (hr : Room (k + 3) X.A) (hN : X.N.Nodup) (TB : GxR.TabB X.base X.mg c P) (hcode : X.env.code = .ref c) (hi : PI X tg iter wi) (ok : BlkOk X.N X.env.scope scope own) (hnc : ∀ y ∈ scope.names, y.2 ≠ .cell) (hco : scope.isCoroutine = false) (hdot : scope.names.lookup (".0" : Str) = some NameKind.local)
    (hg : ∀ (B : Around) (s : Shared) (H : Hp) (C : Addr) (cl : List (Str × Addr)) (code : Value) (fp : List Addr) (pn : List (Addr × Obj)), PG (gx X B s H (genEnv scope cl C code builtinsNs X.env) fp pn) tg g)
    (he : ∀ (B : Around) (s : Shared) (H : Hp) (C : Addr) (cl : List (Str × Addr)) (code : Value) (fp : List Addr) (pn : List (Addr × Obj)), Room k (B.deeper (genEnv scope cl C code builtinsNs X.env)) → PE (gx X B s H (genEnv scope cl C code builtinsNs X.env) fp pn) elt te)
    (I : Inv X pins σ H s) (h : wi σ H fun J H1 => GxR.TabG H1 P ∧ R J H1)
    (hQ : ∀ J H1 H2 a s5, R J H1 → GxR.Tabbed P H1 H2 → Made X pins σ tg J g te (own.map (·.2)) H2 a s5 → Q' (.ref a) s5)
    (hs : ∀ v, genFold iter X.env v = pure v) :
    wpAny (model X.prog X.w) X.A (eval (.GeneratorExp elt [⟨tg, iter, [], 0⟩] scope gpos) X.env) Q' X.xe s := by
  have hfree : ∀ y ∈ scope.names, y.2 = .free → ∃ c, X.env.cells.lookup y.1 = some c := fun y hy e => by
    rcases ok.free y hy e with k | k
    · exact I.ok.has _ (.inl k)
    · exact I.ok.has _ (.inr k)
  refine wpAny_GeneratorExp_make hco (closure_ok hfree) hnc hdot ok.kind (by have := hr.dp; omega) ?_ hs
  refine thn (hi.run pins s σ H _ I h) fun xv s1 h1 => thn h1 fun itv s2 h2 => ?_
  obtain ⟨it, fp, tn, J, H2, rfl, I2, T, st2, f2, ⟨ps, hP, ht⟩, q⟩ := h2
  refine ⟨I2.nolimit, ?_⟩
  have hPs : s2.heap.get? P = some { cls := .none, data := .fields ps } := I2.hok P _ hP
  have cd : PySem.W.CodeHd s2.heap c P := TB.code.keeps fun b u e => I2.bk b u e
  have sz2 : ∀ b ∈ fp, b < s2.heap.objs.size := fun b hb => by
    obtain ⟨o, e, _⟩ := T.obj _ _ st2 b hb
    exact Heap.lt_size e
  have cont : ∀ (code : Value) (h3 : Heap) (tk : Nat) (ps' : Array Value), Heap.ExtBut P s2.heap h3 → s2.heap.objs.size ≤ h3.objs.size → h3.get? P = some { cls := .none, data := .fields ps' } → (∃ more, ps' = ps ++ more) → TriplesOk ps'.toList →
      wpAny (model X.prog X.w) X.A (builtinsFor X.env.globals X.env.builtins) (fun bi s₄ => ∀ h', h'.Ns s₄.heap.objs.size (fun y => if y = ".0" then some (Value.ref it) else none) → Heap.SameBut s₄.heap.objs.size (s₄.heap.push { cls := .type "frame", data := .dict #[] }) h' →
          Q' (.ref h'.objs.size) { s₄ with
            gens := s₄.gens.push (.fresh (.compStart (.GeneratorExp elt [⟨tg, iter, [], 0⟩] scope gpos) 0 (.ref it) .none (genEnv scope (cloFrom X.env.cells scope.names []) s₄.heap.objs.size code bi X.env))),
            toks := s₄.toks + 1 + 1 + 1,
            heap := h'.push { cls := .type "generator", data := .fields #[.int s₄.gens.size 0, .str "<genexpr>" (s₄.toks + 1), .str (X.env.qual ++ "<genexpr>") (s₄.toks + 1 + 1)] } }) X.xe { s2 with heap := h3, toks := tk } := by
    intro code h3 tk ps' hx hsz hP3 hmore ht3
    obtain ⟨more, em⟩ := hmore
    have I3 : Inv X pins σ (upd H2 P (.tbl (ps ++ more))) { s2 with heap := h3, toks := tk } :=
      GxR.inv_tab (more := more) (h' := h3) (g' := s2.gens) (d' := s2.drawn) (t' := tk) I2 hP (fun b u hb e => hx b u hb e) (by rw [← em]; exact hP3) I2.bare
    generalize hH3 : upd H2 P (.tbl (ps ++ more)) = H3 at I3
    have tabbed : GxR.Tabbed P H2 H3 := by rw [← hH3]; exact ⟨⟨ps ++ more, upd_same, by rw [← em]; exact ht3⟩, fun b hb => upd_ne hb⟩
    generalize hs3 : ({ s2 with heap := h3, toks := tk } : Shared) = s3 at I3 ⊢
    have eh3 : s3.heap = h3 := by rw [← hs3]
    have nP : ∀ b ∈ fp, b ≠ P := fun b hb z => by
      have := (f2 b hb).1
      rw [z, hP] at this; cases this
    have f3 : ∀ b ∈ fp, FpOk X pins H3 b ∧ b < s3.heap.objs.size := fun b hb => by
      refine ⟨⟨?_, (f2 b hb).2⟩, by rw [eh3]; exact Nat.lt_of_lt_of_le (sz2 b hb) hsz⟩
      rw [tabbed.2 b (nP b hb)]
      exact (f2 b hb).1
    have st3 : tn 0 s3.heap := T.keep _ _ _ st2 fun b hb o e => by rw [eh3]; exact hx b o (nP b hb) e
    obtain ⟨bm, ob, e1, e2, e3, e4, e5, e6, e7, e8⟩ := TB.bm
    refine wpAny_builtinsFor (m := X.mg) (by rw [I3.ok.glob]; exact I3.mod.glob.keeps I3.bk) e1 e2 (I3.bk _ _ e5) e6 e7 e8 ?_
    intro h' hn' hs'
    have hsz4 : h'.objs.size = s3.heap.objs.size + 1 := by rw [hs'.1, Heap.size_push]
    have keep4 : ∀ b o, s3.heap.get? b = some o → h'.get? b = some o := fun b o e => hs'.extBut b o (Nat.ne_of_lt (Heap.lt_size e)) (Heap.get?_push_of_some _ e)
    generalize hgo : ({ cls := .type "generator", data := .fields #[.int s3.gens.size 0, .str "<genexpr>" (s3.toks + 1), .str (X.env.qual ++ "<genexpr>") (s3.toks + 1 + 1)] } : Obj) = go
    have hgen : (h'.push go).get? h'.objs.size = some go := by rw [← hgo]; exact Heap.get?_push_size _ rfl
    have isg : ∀ h : Heap, h.get? h'.objs.size = some go → h.IsGen h'.objs.size s3.gens.size := fun h e => by
      rw [← hgo] at e
      exact ⟨_, _, _, e, rfl, rfl, rfl⟩
    have keep5 : ∀ b o, s3.heap.get? b = some o → (h'.push go).get? b = some o := fun b o e => Heap.get?_push_of_some _ (keep4 b o e)
    have hAfr : X.A.in1.in1.frames = some X.stack := I3.ok.frames
    have hcall : X.A.in1.in1.handled = none := hr.hd
    have I5 := gx_start (B := X.A.in1.in1) (code := code) (itv := .ref it) (h' := h'.push go) (g' := s3.gens.push (.fresh (.compStart (.GeneratorExp elt [⟨tg, iter, [], 0⟩] scope gpos) 0 (.ref it) .none (genEnv scope (cloFrom X.env.cells scope.names []) s3.heap.objs.size code builtinsNs X.env))))
      (tk := s3.toks + 1 + 1 + 1) (pn := [(h'.objs.size, go)]) I3 ok hnc hN f3 hAfr hcall (hn'.push _) keep5 (I3.bare.push rfl) (fun p hp => by
        obtain rfl := List.mem_singleton.mp hp
        exact ⟨hgen, by show s3.heap.objs.size < h'.objs.size; rw [hsz4]; exact Nat.lt_succ_self _, fun v z => by rw [← hgo] at z; cases z⟩)
    have pg := hg X.A.in1.in1 s3 H3 s3.heap.objs.size (cloFrom X.env.cells scope.names []) code fp [(h'.objs.size, go)]
    have pe := he X.A.in1.in1 s3 H3 s3.heap.objs.size (cloFrom X.env.cells scope.names []) code fp [(h'.objs.size, go)] (((hr.in1).in1).deeper _)
    generalize hce : genEnv scope (cloFrom X.env.cells scope.names []) s3.heap.objs.size code builtinsNs X.env = cenv at I5 pg pe ⊢
    have hsc : cenv.scope = scope := by rw [← hce]; rfl
    have hpnf : ∀ b ∈ fp, ∀ p ∈ [(h'.objs.size, go)], p.1 ≠ b := fun b hb p hp z => by
      obtain rfl := List.mem_singleton.mp hp
      have h1 : b < s3.heap.objs.size := (f3 b hb).2
      have h2 : b = h'.objs.size := z.symm
      rw [h2, hsz4] at h1
      exact absurd h1 (Nat.not_lt.mpr (Nat.le_succ _))
    refine hQ J H2 H3 h'.objs.size _ q tabbed ⟨gx X X.A.in1.in1 s3 H3 cenv fp [(h'.objs.size, go)], fp, tn, s3.gens.size, rfl, rfl, ⟨hr.hd, by have := hr.dp; show X.A.depth < _; omega, fun H s I => isg _ (I.pin (h'.objs.size, go) (List.mem_append_left _ (List.mem_singleton.mpr rfl))).1, T.keep, fun i h ht b hb => let ⟨o, e, _⟩ := T.obj i h ht b hb; ⟨o, e⟩⟩,
      isg _ hgen, ⟨I5, T.keep _ _ _ st3 fun b _ o e => keep5 b o e, fun b hb => (f3 b hb).1.1⟩, fun H' s' I' => ?_, fun N W step fin s' hT hgs H' G' w' => ?_⟩
    · exact I3.call' (ch := fp) I'.os I'.base I'.hok I'.bare fun b hb => ⟨(f3 b hb).1.2.2.2.1, (f3 b hb).1.2.1, (f3 b hb).1.2.2.2.2.1, (f3 b hb).1.2.2.2.2.2⟩
    · refine ⟨G', Nat.zero_le _, w', .fresh (.compStart (.GeneratorExp elt [⟨tg, iter, [], 0⟩] scope gpos) 0 (.ref it) .none cenv), by rw [hgs]; exact Array.getElem?_push_size .., fun s'' H'' G'' w'' => ⟨rfl, ?_⟩⟩
      have := seg_gx0 (A := X.A.in1.in1) (iter := iter) (scope := scope) (pos := gpos) pg pe T rfl rfl hpnf over_gen rfl (by show cenv.scope.isCoroutine = false; rw [hsc]; exact hco) hT s'' s'' H'' G'' w''
      exact this
  cases hf : codeAmong gpos ps.toList with
  | none =>
    refine wpAny_genexprCodeX hcode (cd.code hPs ht) (cd.tab hPs) hf fun c' h' tk hx hge hlt hco' _ htab' _ => ?_
    obtain ⟨o1, vs, f1, tf, fl, tg, inF, tx, tt, op, _, _, _, _, _, _, _, _, _, htr, _⟩ := hco'
    exact cont _ h' tk _ hx (Nat.le_trans hge (Nat.le_of_lt hlt)) htab'.2 ⟨_, rfl⟩ htr
  | some cv =>
    refine wpAny_genexprCode_hit hcode (cd.code hPs ht) hf ?_
    exact cont cv s2.heap s2.toks ps (Heap.ExtBut.refl _ _) (Nat.le_refl _) hPs ⟨#[], by simp⟩ ht

/-! ### any, all, sum of a generator expression -/
def gStep (b : Bool) (Q : Bool → Hp → Prop) : Nat → V → Hp → (Hp → Prop) → Prop := fun _ y H nx => ∃ k, y = .bl k ∧ (k = b → nx H) ∧ (k = !b → Q (!b) H)
/-- all (b = true), any (b = false): as long as the items are b -/
def tGen (b : Bool) (P : Addr) (wi : TI) (g : TG) (te : TE) (vs : List Nat) : TE := fun σ H Q => wi σ H fun J H1 => GxR.TabG H1 P ∧ ∀ H2, GxR.Tabbed P H1 H2 →
  ∃ (N : Nat) (W : Nat → Hp → Prop), W 0 H2 ∧ Turns J g te (wipe σ vs) vs N W (gStep b fun k H => Q (.bl k) H) (fun H => Q (.bl b) H)
/-- sum: val: the items; S: the list that holds the sum so far -/
def tSumG (P : Addr) (wi : TI) (g : TG) (te : TE) (vs : List Nat) : TE := fun σ H Q => wi σ H fun J H1 => GxR.TabG H1 P ∧ ∀ H2, GxR.Tabbed P H1 H2 →
  ∃ (N : Nat) (val : Nat → Int), (∀ j, j < N → InLong (val j) ∧ InLong (preSum val (j + 1))) ∧ ∀ S, H2 S = none → ∃ W : Nat → Hp → Prop, W 0 (upd H2 S (.lst [.int 0])) ∧ (∀ i H, W i H → H S = some (.lst [.int (preSum val i)])) ∧
    Turns J g te (wipe σ vs) vs N W (fun i y H nx => y = .int (val i) ∧ H S = some (.lst [.int (preSum val i)]) ∧ nx (upd H S (.lst [.int (preSum val (i + 1))]))) (fun H => Q (.int (preSum val N)) H)

theorem pe_allG {c P : Addr} {tg elt iter : Expr} {scope : Scope} {own : List (Str × Nat)} {p pos gpos : Pos} {wi : TI} {g : TG} {te : TE} {k : Nat}
    (hr : Room (k + 3) X.A) (hgl : Gl X "all") (hm : X.mg "all" = none) (hN : X.N.Nodup) (TB : GxR.TabB X.base X.mg c P) (hcode : X.env.code = .ref c) (hi : PI X tg iter wi) (ok : BlkOk X.N X.env.scope scope own) (hnc : ∀ y ∈ scope.names, y.2 ≠ .cell) (hco : scope.isCoroutine = false) (hdot : scope.names.lookup (".0" : Str) = some NameKind.local)
    (hg : ∀ (B : Around) (s : Shared) (H : Hp) (C : Addr) (cl : List (Str × Addr)) (code : Value) (fp : List Addr) (pn : List (Addr × Obj)), PG (gx X B s H (genEnv scope cl C code builtinsNs X.env) fp pn) tg g)
    (he : ∀ (B : Around) (s : Shared) (H : Hp) (C : Addr) (cl : List (Str × Addr)) (code : Value) (fp : List Addr) (pn : List (Addr × Obj)), Room k (B.deeper (genEnv scope cl C code builtinsNs X.env)) → PE (gx X B s H (genEnv scope cl C code builtinsNs X.env) fp pn) elt te)
    (hs : ∀ v, genFold iter X.env v = pure v := by intro _; rfl) (hb : bootBuiltins "all" = some (.builtin "all") := by decide +kernel)
    (hst : starEach [.GeneratorExp elt [⟨tg, iter, [], 0⟩] scope gpos] X.env = (false, eval (.GeneratorExp elt [⟨tg, iter, [], 0⟩] scope gpos) X.env) :: starEach [] X.env := by rfl) :
    PE X (.Call (.Name "all" p) [.GeneratorExp elt [⟨tg, iter, [], 0⟩] scope gpos] [] pos) (tGen true P wi g te (own.map (·.2))) := by
  refine ⟨fun pins s σ H Q I h => ?_⟩
  refine wpAny_Call_Name_kw (ld_blt I hgl hm hb ?_)
  refine PyProof.Rows.callWith_builtin1 ?_ hst (by rfl)
  rw [hst]
  show wpAny _ _ (spliced ((false, eval (.GeneratorExp elt [⟨tg, iter, [], 0⟩] scope gpos) X.env) :: backTo pos (starEach [] X.env))) _ _ s
  refine Calls.spliced_cons (gen_core (own := own) (R := fun J H1 => ∀ H2, GxR.Tabbed P H1 H2 → ∃ (N : Nat) (W : Nat → Hp → Prop), W 0 H2 ∧ Turns J g te (wipe σ (own.map fun q : Str × Nat => q.2)) (own.map fun q : Str × Nat => q.2) N W (gStep true fun k H => Q (.bl k) H) (fun H => Q (.bl true) H))
    hr hN TB hcode hi ok hnc hco hdot hg he I h (fun J H1 H2 a s5 hR htb hM => ?_) hs)
  obtain ⟨N, W, w0, hT⟩ := hR H2 htb
  obtain ⟨X', fp, tn, gn, e1, e2, GX, hgen, G0, back, run⟩ := hM.ex
  refine Calls.spliced_nil ?_
  refine call_function_tree F.kind_all F.plain_all F.entry_all (F.args_all1 _) ?_
  unfold Builtin.«all»
  refine wpAny_bind (m := oneArg "all" _) (wpAny_pure ?_)
  refine wpAny_bind (wpAny_pyIter_gen hgen ?_)
  refine wpAny_pure ⟨plainId_quiet F.plain_all_loop _, ?_⟩
  have L := all_loop (A := X.A) GX (R := fun r s' => match r with | .ok (.ret u) => EP X pins σ Q u s' | _ => False) (step := gStep true fun k H => Q (.bl k) H) (fin := fun H => Q (.bl true) H) (N := N) (W := W)
    (fun i y H nx hst => by
      obtain ⟨k, rfl, h1, h2⟩ := hst
      exact ⟨k, rfl, h1, fun hk s' I' => ⟨.bl false, H, back H s' I', rfl, h2 hk⟩⟩)
    (fun H s' hf I' => ⟨.bl true, H, back H s' I', rfl, hf⟩) N 0 H2 s5 (Nat.sub_zero _) (run N W _ _ s5 hT rfl H2 G0 w0)
  rw [e1, e2] at L
  refine codeAny_mono L fun r s' hq => ?_
  cases r with
  | error e => exact False.elim hq
  | ok fl =>
    cases fl with
    | ret u => exact hq
    | next => exact False.elim hq
    | brk => exact False.elim hq
    | cont => exact False.elim hq
theorem pe_anyG {c P : Addr} {tg elt iter : Expr} {scope : Scope} {own : List (Str × Nat)} {p pos gpos : Pos} {wi : TI} {g : TG} {te : TE} {k : Nat}
    (hr : Room (k + 3) X.A) (hgl : Gl X "any") (hm : X.mg "any" = none) (hN : X.N.Nodup) (TB : GxR.TabB X.base X.mg c P) (hcode : X.env.code = .ref c) (hi : PI X tg iter wi) (ok : BlkOk X.N X.env.scope scope own) (hnc : ∀ y ∈ scope.names, y.2 ≠ .cell) (hco : scope.isCoroutine = false) (hdot : scope.names.lookup (".0" : Str) = some NameKind.local)
    (hg : ∀ (B : Around) (s : Shared) (H : Hp) (C : Addr) (cl : List (Str × Addr)) (code : Value) (fp : List Addr) (pn : List (Addr × Obj)), PG (gx X B s H (genEnv scope cl C code builtinsNs X.env) fp pn) tg g)
    (he : ∀ (B : Around) (s : Shared) (H : Hp) (C : Addr) (cl : List (Str × Addr)) (code : Value) (fp : List Addr) (pn : List (Addr × Obj)), Room k (B.deeper (genEnv scope cl C code builtinsNs X.env)) → PE (gx X B s H (genEnv scope cl C code builtinsNs X.env) fp pn) elt te)
    (hs : ∀ v, genFold iter X.env v = pure v := by intro _; rfl) (hb : bootBuiltins "any" = some (.builtin "any") := by decide +kernel)
    (hst : starEach [.GeneratorExp elt [⟨tg, iter, [], 0⟩] scope gpos] X.env = (false, eval (.GeneratorExp elt [⟨tg, iter, [], 0⟩] scope gpos) X.env) :: starEach [] X.env := by rfl) :
    PE X (.Call (.Name "any" p) [.GeneratorExp elt [⟨tg, iter, [], 0⟩] scope gpos] [] pos) (tGen false P wi g te (own.map (·.2))) := by
  refine ⟨fun pins s σ H Q I h => ?_⟩
  refine wpAny_Call_Name_kw (ld_blt I hgl hm hb ?_)
  refine PyProof.Rows.callWith_builtin1 ?_ hst (by rfl)
  rw [hst]
  show wpAny _ _ (spliced ((false, eval (.GeneratorExp elt [⟨tg, iter, [], 0⟩] scope gpos) X.env) :: backTo pos (starEach [] X.env))) _ _ s
  refine Calls.spliced_cons (gen_core (own := own) (R := fun J H1 => ∀ H2, GxR.Tabbed P H1 H2 → ∃ (N : Nat) (W : Nat → Hp → Prop), W 0 H2 ∧ Turns J g te (wipe σ (own.map fun q : Str × Nat => q.2)) (own.map fun q : Str × Nat => q.2) N W (gStep false fun k H => Q (.bl k) H) (fun H => Q (.bl false) H))
    hr hN TB hcode hi ok hnc hco hdot hg he I h (fun J H1 H2 a s5 hR htb hM => ?_) hs)
  obtain ⟨N, W, w0, hT⟩ := hR H2 htb
  obtain ⟨X', fp, tn, gn, e1, e2, GX, hgen, G0, back, run⟩ := hM.ex
  refine Calls.spliced_nil ?_
  refine call_function_tree F.kind_any F.plain_any F.entry_any (F.args_any1 _) ?_
  unfold Builtin.«any»
  refine wpAny_bind (m := oneArg "any" _) (wpAny_pure ?_)
  refine wpAny_bind (wpAny_pyIter_gen hgen ?_)
  refine wpAny_pure ⟨plainId_quiet F.plain_any_loop _, ?_⟩
  have L := any_loop (A := X.A) GX (R := fun r s' => match r with | .ok (.ret u) => EP X pins σ Q u s' | _ => False) (step := gStep false fun k H => Q (.bl k) H) (fin := fun H => Q (.bl false) H) (N := N) (W := W)
    (fun i y H nx hst => by
      obtain ⟨k, rfl, h1, h2⟩ := hst
      exact ⟨k, rfl, h1, fun hk s' I' => ⟨.bl true, H, back H s' I', rfl, h2 hk⟩⟩)
    (fun H s' hf I' => ⟨.bl false, H, back H s' I', rfl, hf⟩) N 0 H2 s5 (Nat.sub_zero _) (run N W _ _ s5 hT rfl H2 G0 w0)
  rw [e1, e2] at L
  refine codeAny_mono L fun r s' hq => ?_
  cases r with
  | error e => exact False.elim hq
  | ok fl =>
    cases fl with
    | ret u => exact hq
    | next => exact False.elim hq
    | brk => exact False.elim hq
    | cont => exact False.elim hq
theorem pe_sumG {c P : Addr} {tg elt iter : Expr} {scope : Scope} {own : List (Str × Nat)} {p pos gpos : Pos} {wi : TI} {g : TG} {te : TE} {k : Nat}
    (hr : Room (k + 3) X.A) (hgl : Gl X "sum") (hm : X.mg "sum" = none) (hN : X.N.Nodup) (TB : GxR.TabB X.base X.mg c P) (hcode : X.env.code = .ref c) (hi : PI X tg iter wi) (ok : BlkOk X.N X.env.scope scope own) (hnc : ∀ y ∈ scope.names, y.2 ≠ .cell) (hco : scope.isCoroutine = false) (hdot : scope.names.lookup (".0" : Str) = some NameKind.local)
    (hg : ∀ (B : Around) (s : Shared) (H : Hp) (C : Addr) (cl : List (Str × Addr)) (code : Value) (fp : List Addr) (pn : List (Addr × Obj)), PG (gx X B s H (genEnv scope cl C code builtinsNs X.env) fp pn) tg g)
    (he : ∀ (B : Around) (s : Shared) (H : Hp) (C : Addr) (cl : List (Str × Addr)) (code : Value) (fp : List Addr) (pn : List (Addr × Obj)), Room k (B.deeper (genEnv scope cl C code builtinsNs X.env)) → PE (gx X B s H (genEnv scope cl C code builtinsNs X.env) fp pn) elt te)
    (hs : ∀ v, genFold iter X.env v = pure v := by intro _; rfl) (hb : bootBuiltins "sum" = some (.builtin "sum") := by decide +kernel)
    (hst : starEach [.GeneratorExp elt [⟨tg, iter, [], 0⟩] scope gpos] X.env = (false, eval (.GeneratorExp elt [⟨tg, iter, [], 0⟩] scope gpos) X.env) :: starEach [] X.env := by rfl) :
    PE X (.Call (.Name "sum" p) [.GeneratorExp elt [⟨tg, iter, [], 0⟩] scope gpos] [] pos) (tSumG P wi g te (own.map (·.2))) := by
  refine ⟨fun pins s σ H Q I h => ?_⟩
  refine wpAny_Call_Name_kw (ld_blt I hgl hm hb ?_)
  refine PyProof.Rows.callWith_builtin1 ?_ hst (by rfl)
  rw [hst]
  show wpAny _ _ (spliced ((false, eval (.GeneratorExp elt [⟨tg, iter, [], 0⟩] scope gpos) X.env) :: backTo pos (starEach [] X.env))) _ _ s
  refine Calls.spliced_cons (gen_core (own := own) (R := fun J H1 => ∀ H2, GxR.Tabbed P H1 H2 → ∃ (N : Nat) (val : Nat → Int), (∀ j, j < N → InLong (val j) ∧ InLong (preSum val (j + 1))) ∧ ∀ S, H2 S = none → ∃ W : Nat → Hp → Prop, W 0 (upd H2 S (.lst [.int 0])) ∧ (∀ i H, W i H → H S = some (.lst [.int (preSum val i)])) ∧
    Turns J g te (wipe σ (own.map fun q : Str × Nat => q.2)) (own.map fun q : Str × Nat => q.2) N W (fun i y H nx => y = .int (val i) ∧ H S = some (.lst [.int (preSum val i)]) ∧ nx (upd H S (.lst [.int (preSum val (i + 1))]))) (fun H => Q (.int (preSum val N)) H))
    hr hN TB hcode hi ok hnc hco hdot hg he I h (fun J H1 H2 a s5 hR htb hM => ?_) hs)
  obtain ⟨N, val, hfit, hR2⟩ := hR H2 htb
  obtain ⟨X', fp, tn, gn, e1, e2, GX, hgen, G0, back, run⟩ := hM.ex
  have hSn : H2 s5.heap.objs.size = none := G0.inv.hok.fresh (Nat.le_refl _)
  obtain ⟨W, w0, hWS, hT⟩ := hR2 s5.heap.objs.size hSn
  refine Calls.spliced_nil ?_
  refine call_function_tree F.kind_sum F.plain_sum F.entry_sum (F.args_sum1 _) ?_
  unfold Builtin.«sum»
  simp only [List.length_cons, List.length_nil]
  rw [if_neg (by decide)]
  refine wpAny_bind (wpAny_of_eq (show Builtin.Builtins.bindParams "sum" ["start"] 0 { } = pure [none] from rfl) ?_)
  refine wpAny_bind (wpAny_pyIter_gen hgen ?_)
  refine wpAny_bind (wpAny_mkInt ?_)
  refine wpAny_bind (wpAny_pure ?_)
  simp only [List.forIn_cons, List.forIn_nil]
  refine wpAny_bind (wpAny_bind (wpAny_bind (wpAny_isInstance (T := "int") (b := false) (typeIs_int _ _ _) PySem.sub_int_str ?_)))
  simp only [Bool.false_eq_true, if_false]
  refine wpAny_pure (wpAny_bind (wpAny_bind (wpAny_isInstance (T := "int") (b := false) (typeIs_int _ _ _) PySem.sub_int_bytes ?_)))
  simp only [Bool.false_eq_true, if_false]
  refine wpAny_pure (wpAny_bind (wpAny_bind (wpAny_isInstance (T := "int") (b := false) (typeIs_int _ _ _) PySem.sub_int_bytearray ?_)))
  simp only [Bool.false_eq_true, if_false]
  refine wpAny_pure (wpAny_pure ?_)
  refine wpAny_bind (wpAny_newObj_type ?_)
  have keepS : ∀ b o, s5.heap.get? b = some o → (s5.heap.push { cls := .type "list", data := .seq #[.int 0 s5.toks] }).get? b = some o := fun b o e => Heap.get?_push_of_some _ e
  have hnf : s5.heap.objs.size ∉ fp := fun hm => by
    obtain ⟨o, e⟩ := GX.there _ _ G0.tn _ hm
    exact absurd (Heap.lt_size e) (Nat.lt_irrefl _)
  refine wpAny_pure ⟨plainId_quiet F.plain_sum_loop _, ?_⟩
  have G1 : GSt X' fp tn (wipe σ (own.map fun q : Str × Nat => q.2)) 0 (upd H2 s5.heap.objs.size (.lst [.int 0])) { s5 with heap := s5.heap.push { cls := .type "list", data := .seq #[.int 0 s5.toks] }, toks := s5.toks + 1 } := by
    refine ⟨G0.inv.laid (t' := s5.toks + 1) keepS (Nat.le_refl _) ⟨by show 1 ≤ sizeLine; decide, [.int 0 s5.toks], 0, .cons ⟨_, rfl⟩ .nil, Heap.get?_push_size _ rfl⟩, GX.keep _ _ _ G0.tn fun b _ o e => keepS b o e, fun b hb => ?_⟩
    rw [upd_ne (fun h : b = s5.heap.objs.size => hnf (by rw [← h]; exact hb))]
    exact G0.free b hb
  have L := sum_loop (A := X.A) GX (R := fun r s' => match r with | .ok (.ret u) => EP X pins σ Q u s' | _ => False) (S := s5.heap.objs.size) (val := val) (step := fun i y H nx => y = .int (val i) ∧ H s5.heap.objs.size = some (.lst [.int (preSum val i)]) ∧ nx (upd H s5.heap.objs.size (.lst [.int (preSum val (i + 1))]))) (fin := fun H => Q (.int (preSum val N)) H) (N := N) (W := W)
    (fun i y H nx hst => hst)
    (fun H s' hf I' t => ⟨.int (preSum val N), H, back H s' I', ⟨t, rfl⟩, hf⟩) hWS hfit hnf N 0 _ _ (Nat.sub_zero _) (run N W _ _ { s5 with heap := s5.heap.push { cls := .type "list", data := .seq #[.int 0 s5.toks] }, toks := s5.toks + 1 } hT rfl _ G1 w0)
  rw [e1, e2] at L
  refine codeAny_mono L fun r s' hq => ?_
  cases r with
  | error e => exact False.elim hq
  | ok fl =>
    cases fl with
    | ret u => exact hq
    | next => exact False.elim hq
    | brk => exact False.elim hq
    | cont => exact False.elim hq
end
end GE
set_option Elab.async false
set_option linter.all false
set_option maxRecDepth 100000
set_option maxHeartbeats 2000000
namespace LB
open PySem PySem.Spec PyProof.Rows L2 GenW GE

/-! ### a def of the text -/
structure DF (K : PySem.W.Frag) (mg : Str → Option Value) (x : Str) (st : Stmt) (ps : List Str) (f : Addr) (fd : FuncData) : Prop where
  F : FunD K x x (defArgs st) (defBody st) (defScope st) [] [] f fd
  b : Binds K fd ps []
  m : mg x = some (.ref f)
section
variable {P : Program} {w : World} {K : PySem.W.Frag} {mg : Str → Option Value} {base : Heap} {x : Str} {st : Stmt} {ps : List Str} {f : Addr} {fd : FuncData}
/-- a def that raises nothing -/
theorem DF.ok {N : List Str} {k : Nat} {sp : Sp} (D : DF K mg x st ps f fd) (S : FnScope N ps (defScope st)) (len : ∀ vs H Q E, sp vs H Q E → vs.length = ps.length)
    (hbody : ∀ (cdv : Value) (A : Around) (outer : List Env) (s : Shared) (H : Hp) (vs : List V) (Q : VK) (E : XK), Room k (A.deeper (envOfC x (defScope st) s.heap.objs.size f cdv)) → sp vs H Q E →
      ∃ t, PSs (cxOf CX0 P w K mg base N x (defScope st) f cdv A outer s H E).nox (defBody st) t ∧ t { nx := fun _ H' => Q .non H', rt := Q } (start N vs) H) : FnOk P w K mg base CX0 (k + 1) f fd ps sp :=
  D.F.ok S len fun cdv A outer s H vs Q E hr h => by
    obtain ⟨t, h1, h2⟩ := hbody cdv A outer s H vs Q E hr h
    exact ⟨t, h1.nox, h2⟩
/-- the same, its code object known -/
theorem DF.okT {N : List Str} {k : Nat} {sp : Sp} {c : Addr} (D : DF K mg x st ps f fd) (hc : fd.code = .ref c) (S : FnScope N ps (defScope st)) (len : ∀ vs H Q E, sp vs H Q E → vs.length = ps.length)
    (hbody : ∀ (A : Around) (outer : List Env) (s : Shared) (H : Hp) (vs : List V) (Q : VK) (E : XK), Room k (A.deeper (envOfC x (defScope st) s.heap.objs.size f (.ref c))) → sp vs H Q E →
      ∃ t, PSs (cxOf CX0 P w K mg base N x (defScope st) f (.ref c) A outer s H E).nox (defBody st) t ∧ t { nx := fun _ H' => Q .non H', rt := Q } (start N vs) H) : FnOk P w K mg base CX0 (k + 1) f fd ps sp := by
  obtain ⟨oc, od, dV, kV, doc, pm, an, cdv, ct, osl, rfl, lk, hcd, _, _⟩ := D.F.ex
  obtain rfl : cdv = .ref c := hc
  refine fn_of lk hcd S len fun A outer s H vs Q E hr hsp => ?_
  obtain ⟨t, h1, h2⟩ := hbody A outer s H vs Q E hr hsp
  exact ⟨t, h1.nox, h2⟩
end

theorem DF.code {K : PySem.W.Frag} {mg : Str → Option Value} {x : Str} {st : Stmt} {ps : List Str} {fd : FuncData} (D : DF K mg x st ps (He.fAd K (x, none)) fd) : fd.code = .ref (He.cT K (x, none)).1 := by
  obtain ⟨oc, od, dV, kV, doc, pm, an, cdv, ct, osl, rfl, lk, hcd, _, _⟩ := D.F.ex
  obtain ⟨c, e⟩ := He.codeIn_ref hcd
  have e2 : He.codeOf K (x, none) = c := He.codeOf_eq lk (by show cdv = .ref c; exact e)
  show cdv = .ref (He.codeOf K (x, none))
  rw [e2, e]
theorem tabB_of {base : Heap} {mg : Str → Option Value} {c P : Addr} (h : LamX.TabB base mg c P) : GxR.TabB base mg c P := ⟨h.code, h.bm, h.gP⟩
theorem df_mk {K : PySem.W.Frag} {mg : Str → Option Value} {h : Heap} {x : Str} {st : Stmt} {ps : List Str} {fd : FuncData} (X : K.In h) (G : h.Ns mainGlobals mg) (F : FunD K x x (defArgs st) (defBody st) (defScope st) [] [] (He.fAd K (x, none)) fd) (g : (He.Fa.glo x).ok K = true)
    (hb : ∀ (kV doc pm : Value) (an : Option Addr) (cdv ct : Value) (us : List Value), us.length = ps.length → bindArgs (PySem.W.fnOf x x (defArgs st) (defBody st) (defScope st) .none kV doc pm an cdv ct) ⟨us, []⟩ = pure (ps.zip us)) : DF K mg x st ps (He.fAd K (x, none)) fd :=
  ⟨F, F.bindsN hb, He.glo_ok X G g⟩
/-! ### heaps: all is kept, but tables that grow; and the list at r -/
def Grow (u : HO) (u' : Option HO) : Prop := ∃ ps qs, u = .tbl ps ∧ u' = some (.tbl qs) ∧ (TriplesOk ps.toList → TriplesOk qs.toList)
def Ext (H H' : Hp) : Prop := ∀ b u, H b = some u → H' b = some u ∨ Grow u (H' b)
def ExtR (r : Addr) (H H' : Hp) : Prop := ∀ b u, H b = some u → H' b = some u ∨ Grow u (H' b) ∨ (b = r ∧ ∃ xs ys, u = .lst xs ∧ H' b = some (.lst ys))
theorem Ext.refl (H : Hp) : Ext H H := fun _ _ h => .inl h
theorem ExtR.refl (r : Addr) (H : Hp) : ExtR r H H := fun _ _ h => .inl h
theorem Ext.toR {H H' : Hp} (r : Addr) (e : Ext H H') : ExtR r H H' := fun b u h => (e b u h).elim .inl fun g => .inr (.inl g)
theorem Ext.trans {H H1 H2 : Hp} (a : Ext H H1) (b : Ext H1 H2) : Ext H H2 := fun c u h => by
  rcases a c u h with h1 | ⟨ps, qs, rfl, h1, h2⟩
  · exact b c u h1
  · rcases b c _ h1 with h3 | ⟨ps', qs', e, h3, h4⟩
    · exact .inr ⟨ps, qs, rfl, h3, h2⟩
    · cases e
      exact .inr ⟨ps, qs', rfl, h3, fun z => h4 (h2 z)⟩
theorem ExtR.trans {r : Addr} {H H1 H2 : Hp} (a : ExtR r H H1) (b : ExtR r H1 H2) : ExtR r H H2 := fun c u h => by
  rcases a c u h with h1 | ⟨ps, qs, rfl, h1, h2⟩ | ⟨rfl, xs, ys, rfl, h1⟩
  · exact b c u h1
  · rcases b c _ h1 with h3 | ⟨ps', qs', e, h3, h4⟩ | ⟨_, _, _, e, _⟩
    · exact .inr (.inl ⟨ps, qs, rfl, h3, h2⟩)
    · cases e
      exact .inr (.inl ⟨ps, qs', rfl, h3, fun z => h4 (h2 z)⟩)
    · cases e
  · rcases b c _ h1 with h3 | ⟨_, _, e, _⟩ | ⟨_, _, zs, _, h3⟩
    · exact .inr (.inr ⟨rfl, xs, ys, rfl, h3⟩)
    · cases e
    · exact .inr (.inr ⟨rfl, xs, zs, rfl, h3⟩)
theorem Ext.new {H : Hp} {p : Addr} (h : H p = none) (o : HO) : Ext H (upd H p o) := fun b u q => .inl (by rw [upd_ne (ne_of_none q h)]; exact q)
theorem ExtR.new {H : Hp} {p : Addr} (r : Addr) (h : H p = none) (o : HO) : ExtR r H (upd H p o) := (Ext.new h o).toR r
theorem ExtR.set {H : Hp} {r : Addr} {xs : List V} (h : H r = some (.lst xs)) (ys : List V) : ExtR r H (upd H r (.lst ys)) := fun b u q => by
  by_cases e : b = r
  · subst e
    rw [h] at q
    cases q
    exact .inr (.inr ⟨rfl, xs, ys, rfl, upd_same⟩)
  · exact .inl (by rw [upd_ne e]; exact q)
theorem Ext.tab {H H' : Hp} {P : Addr} (h : GxR.TabG H P) (t : GxR.Tabbed P H H') : Ext H H' := fun b u q => by
  by_cases e : b = P
  · subst e
    obtain ⟨ps, h1, h2⟩ := h
    rw [h1] at q
    cases q
    obtain ⟨⟨qs, h3, h4⟩, _⟩ := t
    exact .inr ⟨ps, qs, rfl, h3, fun _ => h4⟩
  · exact .inl (by rw [t.2 b e]; exact q)
theorem ExtR.tabG {H H' : Hp} {r P : Addr} (e : ExtR r H H') (h : GxR.TabG H P) : GxR.TabG H' P := by
  obtain ⟨ps, h1, h2⟩ := h
  rcases e P _ h1 with h3 | ⟨ps', qs, q, h3, h4⟩ | ⟨_, _, _, q, _⟩
  · exact ⟨ps, h3, h2⟩
  · cases q
    exact ⟨qs, h3, h4 h2⟩
  · cases q
theorem Ext.tabG {H H' : Hp} {P : Addr} (e : Ext H H') (h : GxR.TabG H P) : GxR.TabG H' P := (e.toR 0).tabG h
theorem ExtR.tup {H H' : Hp} {r a : Addr} {xs : List V} (e : ExtR r H H') (h : H a = some (.tup xs)) : H' a = some (.tup xs) := by
  rcases e a _ h with h1 | ⟨_, _, q, _⟩ | ⟨_, _, _, q, _⟩
  · exact h1
  · cases q
  · cases q
theorem Ext.tup {H H' : Hp} {a : Addr} {xs : List V} (e : Ext H H') (h : H a = some (.tup xs)) : H' a = some (.tup xs) := (e.toR 0).tup h
theorem ExtR.lst {H H' : Hp} {r a : Addr} {xs : List V} (e : ExtR r H H') (n : a ≠ r) (h : H a = some (.lst xs)) : H' a = some (.lst xs) := by
  rcases e a _ h with h1 | ⟨_, _, q, _⟩ | ⟨z, _⟩
  · exact h1
  · cases q
  · exact absurd z n
theorem Ext.lst {H H' : Hp} {a : Addr} {xs : List V} (e : Ext H H') (h : H a = some (.lst xs)) : H' a = some (.lst xs) := by
  rcases e a _ h with h1 | ⟨_, _, q, _⟩
  · exact h1
  · cases q
theorem Ext.frz {H H' : Hp} {a : Addr} {o : Obj} {u : HO} (e : Ext H H') (h : H a = some (.frz o u)) : H' a = some (.frz o u) := by
  rcases e a _ h with h1 | ⟨_, _, q, _⟩
  · exact h1
  · cases q
theorem ExtR.frz {H H' : Hp} {r a : Addr} {o : Obj} {u : HO} (e : ExtR r H H') (h : H a = some (.frz o u)) : H' a = some (.frz o u) := by
  rcases e a _ h with h1 | ⟨_, _, q, _⟩ | ⟨_, _, _, q, _⟩
  · exact h1
  · cases q
  · cases q
theorem Ext.sqL {K : PySem.W.Frag} {H H' : Hp} {a : Addr} {xs : List V} (e : Ext H H') (h : SqL K H a xs) : SqL K H' a xs := by
  rcases h with (h | ⟨o, h⟩) | h
  · exact .inl (.inl (e.lst h))
  · exact .inl (.inr ⟨o, e.frz h⟩)
  · exact .inr h
theorem Ext.free {H H' : Hp} (e : Ext H H') {l : Addr} (h : H' l = none) : H l = none := by
  cases q : H l with
  | none => rfl
  | some o =>
    rcases e l o q with h1 | ⟨_, _, _, h1, _⟩ <;> rw [h] at h1 <;> cases h1
theorem ExtR.free {H H' : Hp} {r : Addr} (e : ExtR r H H') {l : Addr} (h : H' l = none) : H l = none := by
  cases q : H l with
  | none => rfl
  | some o =>
    rcases e l o q with h1 | ⟨_, _, _, h1, _⟩ | ⟨_, _, _, _, h1⟩ <;> rw [h] at h1 <;> cases h1
/-- what is not the row's is kept when only the row is written -/
theorem ExtR.of_free {H H0 H' : Hp} {r : Addr} (hr : H0 r = none) (e0 : Ext H0 H) (e : ExtR r H H') : Ext H0 H' := fun b u h => by
  have nb : b ≠ r := fun z => by rw [z, hr] at h; cases h
  rcases e0 b u h with h1 | ⟨ps, qs, rfl, h1, h2⟩
  · rcases e b u h1 with h3 | h3 | ⟨z, _⟩
    · exact .inl h3
    · exact .inr h3
    · exact absurd z nb
  · rcases e b _ h1 with h3 | ⟨ps', qs', q, h3, h4⟩ | ⟨z, _⟩
    · exact .inr ⟨ps, qs, rfl, h3, h2⟩
    · cases q
      exact .inr ⟨ps, qs', rfl, h3, fun z => h4 (h2 z)⟩
    · exact absurd z nb

/-! ### data on the heap: none, bools, ints, texts, tuples -/
mutual
def DA (H : Hp) : PyData → V → Prop
  | .none, v => v = .non
  | .bool b, v => v = .bl b
  | .int i, v => v = .int i
  | .str s, v => v = .str s
  | .tuple xs, v => ∃ a vs, v = .ref a ∧ H a = some (.tup vs) ∧ DAs H xs vs
  | .list _, _ => False
  | .dict _, _ => False
def DAs (H : Hp) : List PyData → List V → Prop
  | [], vs => vs = []
  | d :: ds, vs => ∃ v vr, vs = v :: vr ∧ DA H d v ∧ DAs H ds vr
end
mutual
theorem DA.ext {r : Addr} {H H' : Hp} (e : ExtR r H H') : ∀ (d : PyData) (v : V), DA H d v → DA H' d v
  | .none, _, h => h
  | .bool _, _, h => h
  | .int _, _, h => h
  | .str _, _, h => h
  | .tuple xs, _, h => by
    obtain ⟨a, vs, h1, h2, h3⟩ := (by simpa only [DA] using h : ∃ a vs, _ = V.ref a ∧ H a = some (.tup vs) ∧ DAs H xs vs)
    simp only [DA]
    exact ⟨a, vs, h1, e.tup h2, DAs.ext e xs vs h3⟩
  | .list _, _, h => h
  | .dict _, _, h => h
theorem DAs.ext {r : Addr} {H H' : Hp} (e : ExtR r H H') : ∀ (ds : List PyData) (vs : List V), DAs H ds vs → DAs H' ds vs
  | [], _, h => h
  | d :: ds, _, h => by
    obtain ⟨v, vr, h1, h2, h3⟩ := (by simpa only [DAs] using h : ∃ v vr, _ = v :: vr ∧ DA H d v ∧ DAs H ds vr)
    simp only [DAs]
    exact ⟨v, vr, h1, DA.ext e d v h2, DAs.ext e ds vr h3⟩
end
theorem DA.mono {H H' : Hp} {d : PyData} {v : V} (h : DA H d v) (e : Ext H H') : DA H' d v := DA.ext (e.toR 0) d v h
theorem DAs.mono {H H' : Hp} {d : List PyData} {v : List V} (h : DAs H d v) (e : Ext H H') : DAs H' d v := DAs.ext (e.toR 0) d v h
theorem DA.monoR {r : Addr} {H H' : Hp} {d : PyData} {v : V} (h : DA H d v) (e : ExtR r H H') : DA H' d v := DA.ext e d v h
theorem DAs.monoR {r : Addr} {H H' : Hp} {d : List PyData} {v : List V} (h : DAs H d v) (e : ExtR r H H') : DAs H' d v := DAs.ext e d v h
theorem DAs.len {H : Hp} : ∀ {ds : List PyData} {vs : List V}, DAs H ds vs → vs.length = ds.length
  | [], _, h => by simp only [DAs] at h; rw [h]; rfl
  | d :: ds, _, h => by
    simp only [DAs] at h
    obtain ⟨v, vr, rfl, _, h3⟩ := h
    rw [List.length_cons, List.length_cons, DAs.len h3]
theorem DAs.get {H : Hp} : ∀ {ds : List PyData} {vs : List V} {i : Nat} {d : PyData}, DAs H ds vs → ds[i]? = some d → ∃ v, vs[i]? = some v ∧ DA H d v
  | [], _, _, _, h, e => by simp at e
  | d :: ds, _, 0, _, h, e => by
    simp only [DAs] at h
    obtain ⟨v, vr, rfl, h2, _⟩ := h
    cases (by simpa using e : d = _)
    exact ⟨v, rfl, h2⟩
  | d :: ds, _, i + 1, _, h, e => by
    simp only [DAs] at h
    obtain ⟨v, vr, rfl, _, h3⟩ := h
    exact DAs.get (i := i) h3 (by simpa using e)
theorem DAs.get' {H : Hp} : ∀ {ds : List PyData} {vs : List V} {i : Nat} {v : V}, DAs H ds vs → vs[i]? = some v → ∃ d, ds[i]? = some d ∧ DA H d v
  | [], _, _, _, h, e => by simp only [DAs] at h; rw [h] at e; simp at e
  | d :: ds, _, 0, _, h, e => by
    simp only [DAs] at h
    obtain ⟨v, vr, rfl, h2, _⟩ := h
    cases (by simpa using e : v = _)
    exact ⟨d, rfl, h2⟩
  | d :: ds, _, i + 1, _, h, e => by
    simp only [DAs] at h
    obtain ⟨v, vr, rfl, _, h3⟩ := h
    exact DAs.get' (i := i) h3 (by simpa using e)
theorem DAs.nil {H : Hp} : DAs H [] [] := by simp only [DAs]
theorem DAs.cons {H : Hp} {d : PyData} {ds : List PyData} {v : V} {vs : List V} (h : DA H d v) (t : DAs H ds vs) : DAs H (d :: ds) (v :: vs) := by
  simp only [DAs]
  exact ⟨v, vs, rfl, h, t⟩
theorem DA.tup {H : Hp} {xs : List PyData} {a : Addr} {vs : List V} (h : H a = some (.tup vs)) (t : DAs H xs vs) : DA H (.tuple xs) (.ref a) := by
  simp only [DA]
  exact ⟨a, vs, rfl, h, t⟩
theorem DA.str {H : Hp} {x : Str} : DA H (.str x) (.str x) := by simp only [DA]
theorem DA.int {H : Hp} {x : Int} : DA H (.int x) (.int x) := by simp only [DA]
/-- a new tuple of data -/
theorem DA.new {H : Hp} {xs : List PyData} {p : Addr} {vs : List V} (hp : H p = none) (t : DAs H xs vs) : DA (upd H p (.tup vs)) (.tuple xs) (.ref p) :=
  DA.tup upd_same (DAs.ext (ExtR.new 0 hp _) xs vs t)

/-! ### the row of a law -/
def RowOk (H : Hp) (r : Addr) : Prop := ∃ (p : Int) (ds : List Int), H r = some (.lst (V.int p :: ds.map V.int)) ∧ 1 ≤ p ∧ p ≤ (ds.length : Int) + 1 ∧ ds.length ≤ 5000
theorem RowOk.ext {H H' : Hp} {r : Addr} (h : RowOk H r) (e : Ext H H') : RowOk H' r := by
  obtain ⟨p, ds, h1, h2⟩ := h
  exact ⟨p, ds, e.lst h1, h2⟩
def spTake : Sp := fun vs H Q _ => ∃ (r : Addr) (m : Int), vs = [.ref r, .int m] ∧ 0 < m ∧ RowOk H r ∧ ∀ (i : Int) (H' : Hp), 0 ≤ i → i < m → ExtR r H H' → RowOk H' r → Q (.int i) H'
/-- the script: whole numbers of any size -/
def spStream (K : PySem.W.Frag) : Sp := fun vs H Q _ => ∃ (a : Addr) (ns : List Int), vs = [.ref a] ∧ SqL K H a (ns.map V.int) ∧ ns.length ≤ 63 ∧ ∀ (r : Addr) (H' : Hp), Ext H H' → H r = none → RowOk H' r → Q (.ref r) H'
/-- .. seen from a heap in which D is free: writing D's list is nothing -/
theorem ExtR.of_freeR {H H' : Hp} {r D : Addr} {xs ys : List V} (hD : H D = none) (e : ExtR r H H') (h : H' D = some (.lst xs)) : ExtR r H (upd H' D (.lst ys)) := fun b u q => by
  have nb : b ≠ D := fun z => by rw [z, hD] at q; cases q
  rw [upd_ne nb]
  exact e b u q
theorem RowOk.setD {H : Hp} {r D : Addr} {ys : List V} (h : RowOk H r) (n : D ≠ r) : RowOk (upd H D (.lst ys)) r := by
  obtain ⟨p, ds, h1, h2⟩ := h
  exact ⟨p, ds, by rw [upd_ne (Ne.symm n)]; exact h1, h2⟩
theorem DAs.append {H : Hp} : ∀ {ds es : List PyData} {vs us : List V}, DAs H ds vs → DAs H es us → DAs H (ds ++ es) (vs ++ us)
  | [], _, _, _, h, h2 => by simp only [DAs] at h; subst h; exact h2
  | d :: ds, _, _, _, h, h2 => by
    simp only [DAs] at h
    obtain ⟨v, vr, rfl, h3, h4⟩ := h
    exact .cons h3 (DAs.append h4 h2)
/-! ### places -/
theorem ixN_at {n j : Nat} (hj : j < n) {i : Int} (e : i = (j : Int)) : ixN n i = some j := by
  subst e
  unfold ixN
  rw [if_pos (by omega), if_pos (by omega)]
  simp
theorem at0 {α : Type} {x : α} {xs : List α} : atI (x :: xs) 0 = some x := atI_nat (j := 0) rfl
theorem at1 {α : Type} {x y : α} {xs : List α} : atI (x :: y :: xs) 1 = some y := atI_nat (j := 1) rfl
theorem at2 {α : Type} {x y z : α} {xs : List α} : atI (x :: y :: z :: xs) 2 = some z := atI_nat (j := 2) rfl
theorem ite_t {A B : Prop} {b : Bool} (e : b = true) (h : A) : if b = true then A else B := by rw [if_pos e]; exact h
theorem ite_f {A B : Prop} {b : Bool} (e : b = false) (h : B) : if b = true then A else B := by rw [if_neg (by rw [e]; exact Bool.false_ne_true)]; exact h
theorem map_int {ms : List Int} {i : Nat} {x : V} (h : (ms.map V.int)[i]? = some x) : ∃ v, x = .int v := by
  rw [List.getElem?_map] at h
  cases e : ms[i]? with
  | none => rw [e] at h; cases h
  | some v => rw [e] at h; cases h; exact ⟨v, rfl⟩
theorem map_str {ms : List Str} {i : Nat} {x : V} (h : (ms.map V.str)[i]? = some x) : ∃ v, ms[i]? = some v ∧ x = .str v := by
  rw [List.getElem?_map] at h
  cases e : ms[i]? with
  | none => rw [e] at h; cases h
  | some v => rw [e] at h; cases h; exact ⟨v, rfl, rfl⟩
theorem cut_ints (ns : List Int) (lo hi : Option Int) : ∃ ms : List Int, cutV (ns.map V.int) lo hi = ms.map V.int ∧ ms.length ≤ ns.length := by
  refine ⟨(ns.drop (HT.sIx (ns.map V.int).length 0 lo)).take (HT.sIx (ns.map V.int).length (ns.map V.int).length hi - HT.sIx (ns.map V.int).length 0 lo), ?_, ?_⟩
  · unfold cutV
    rw [List.map_take, List.map_drop]
  · rw [List.length_take, List.length_drop]
    omega
theorem small5000 {n : Nat} (h : n ≤ 5000) : n < sizeLine := Nat.lt_of_le_of_lt h (by decide)
theorem atI_ex {α : Type} {xs : List α} {i : Int} (h0 : 0 ≤ i) (h : i < (xs.length : Int)) : ∃ c, atI xs i = some c ∧ xs[i.toNat]? = some c := by
  have hi : i.toNat < xs.length := by omega
  refine ⟨xs[i.toNat], ?_, List.getElem?_eq_getElem hi⟩
  unfold atI
  rw [ixN_at hi (by omega)]
  exact List.getElem?_eq_getElem hi
def chr1 (c : Nat) : Str := ⟨#[c]⟩
/-! ### the turns of a generator expression -/
theorem turns_tup {K : PySem.W.Frag} {b : Addr} {xs : List V} {g : TG} {te : TE} {σ0 : L2.St} {vs : List Nat} {W : Nat → Hp → Prop} {step : Nat → V → Hp → (Hp → Prop) → Prop} {fin : Hp → Prop} (hl : ∀ i H, i ≤ xs.length → W i H → SqT K H b xs)
    (hs : ∀ i x H, xs[i]? = some x → W i H → g x σ0 H fun σ2 H2 => wipe σ2 vs = σ0 ∧ te σ2 H2 fun y H3 => step i y H3 (W (i + 1))) (hd : ∀ H, W xs.length H → fin H) : Turns (Itt K b) g te σ0 vs xs.length W step fin where
  stop := fun H w => ⟨⟨xs, hl _ H (Nat.le_refl _) w, Nat.le_refl _⟩, hd H w⟩
  go := fun i H hi w => by
    have q := hl i H (Nat.le_of_lt hi) w
    refine ⟨⟨xs, xs[i], q, by simp [hi]⟩, fun x H' y => ?_⟩
    obtain ⟨e, y⟩ := y
    subst e
    exact hs i x _ (y xs q) w
theorem turns_list {K : PySem.W.Frag} {b : Addr} {xs : List V} {g : TG} {te : TE} {σ0 : L2.St} {vs : List Nat} {W : Nat → Hp → Prop} {step : Nat → V → Hp → (Hp → Prop) → Prop} {fin : Hp → Prop} (hl : ∀ i H, i ≤ xs.length → W i H → SqL K H b xs)
    (hs : ∀ i x H, xs[i]? = some x → W i H → g x σ0 H fun σ2 H2 => wipe σ2 vs = σ0 ∧ te σ2 H2 fun y H3 => step i y H3 (W (i + 1))) (hd : ∀ H, W xs.length H → fin H) : Turns (Itl K b) g te σ0 vs xs.length W step fin where
  stop := fun H w => ⟨⟨xs, hl _ H (Nat.le_refl _) w, Nat.le_refl _⟩, hd H w⟩
  go := fun i H hi w => by
    have q := hl i H (Nat.le_of_lt hi) w
    refine ⟨⟨xs, xs[i], q, by simp [hi]⟩, fun x H' y => ?_⟩
    obtain ⟨e, y⟩ := y
    subst e
    exact hs i x _ (y xs q) w
theorem turns_range {lo : Int} {n : Nat} {g : TG} {te : TE} {σ0 : L2.St} {vs : List Nat} {W : Nat → Hp → Prop} {step : Nat → V → Hp → (Hp → Prop) → Prop} {fin : Hp → Prop}
    (hs : ∀ i H, i < n → W i H → g (.int (lo + i)) σ0 H fun σ2 H2 => wipe σ2 vs = σ0 ∧ te σ2 H2 fun y H3 => step i y H3 (W (i + 1))) (hd : ∀ H, W n H → fin H) : Turns (Itr lo n) g te σ0 vs n W step fin where
  stop := fun H w => ⟨Nat.le_refl _, hd H w⟩
  go := fun i H hi w => by
    refine ⟨hi, fun x H' y => ?_⟩
    obtain ⟨e, y⟩ := y
    subst e y
    exact hs i _ hi w
/-! ### rules with the written part named (for what stands within a comprehension's own context) -/
section
variable {X : Cx} {K : PySem.W.Frag}
theorem ixT (K : PySem.W.Frag) (h : X.K = K) : IxR X (rIxT K) := by subst h; exact ix_tup
theorem ixL (K : PySem.W.Frag) (h : X.K = K) : IxR X (rIxL K) := by subst h; exact ix_list
theorem inQ (K : PySem.W.Frag) (h : X.K = K) : OpR X (compareOp .In) (rIn K false) := by subst h; exact op_in_seq
theorem ninQ (K : PySem.W.Frag) (h : X.K = K) : OpR X (compareOp .NotIn) (rIn K true) := by subst h; exact op_notIn_seq
def rLenQ (K : PySem.W.Frag) : List V → Hp → VK → Prop := fun xs H Q => ∃ p ys, xs = [.ref p] ∧ (SqL K H p ys ∨ SqT K H p ys) ∧ Q (.int ys.length) H
theorem lenQ (K : PySem.W.Frag) (h : X.K = K) : CallR X (.builtin "len") (rLenQ K) := by subst h; exact call_len_seq
def rListOf (K : PySem.W.Frag) : List V → Hp → VK → Prop := fun xs H Q => ∃ p ys, xs = [.ref p] ∧ (SqL K H p ys ∨ SqT K H p ys) ∧ ∀ l, H l = none → Q (.ref l) (upd H l (.lst ys))
theorem listOf (K : PySem.W.Frag) (h : X.K = K) : CallR X (.type "list") (rListOf K) := by subst h; exact call_list_of
def rTupleOf (K : PySem.W.Frag) : List V → Hp → VK → Prop := fun xs H Q => ∃ p ys, xs = [.ref p] ∧ ((SqL K H p ys ∧ ∀ l, H l = none → Q (.ref l) (upd H l (.tup ys))) ∨ (SqT K H p ys ∧ Q (.ref p) H))
theorem tupleOf (K : PySem.W.Frag) (h : X.K = K) : CallR X (.type "tuple") (rTupleOf K) := by subst h; exact call_tuple_of
theorem slT (K : PySem.W.Frag) (h : X.K = K) : SlR X (rSlA K) := by subst h; exact sl_tupA
theorem slL (K : PySem.W.Frag) (h : X.K = K) : SlR X (rSlL K) := by subst h; exact sl_list
theorem eqDQ (K : PySem.W.Frag) (h : X.K = K) (hu : X.A.units + 64 < cLine) : OpR X (compareOp .Eq) (rEqD K) := by subst h; exact op_eqD hu
theorem neDQ (K : PySem.W.Frag) (h : X.K = K) (hu : X.A.units + 64 < cLine) : OpR X (compareOp .NotEq) (rNeD K) := by subst h; exact op_neD hu
theorem piT (K : PySem.W.Frag) (h : X.K = K) {tg l : Expr} {tl : TE} (hl : PE X l tl) : PI X tg l (iTup K tl) := by subst h; exact pi_tup hl
theorem piL (K : PySem.W.Frag) (h : X.K = K) {tg l : Expr} {tl : TE} (hl : PE X l tl) : PI X tg l (iList K tl) := by subst h; exact pi_list hl
end
mutual
theorem DA.dp {K : PySem.W.Frag} {H : Hp} : ∀ (d : PyData) (v : V), DA H d v → Dp K H v d
  | .none, _, h => by simp only [DA] at h; subst h; exact .non
  | .bool b, _, h => by simp only [DA] at h; subst h; exact .bl b
  | .int i, _, h => by simp only [DA] at h; subst h; exact .int i
  | .str s, _, h => by simp only [DA] at h; subst h; exact .str s
  | .tuple xs, _, h => by
    simp only [DA] at h
    obtain ⟨a, vs, rfl, h2, h3⟩ := h
    exact .tup (SqT.of h2) (DAs.dp xs vs h3)
  | .list _, _, h => by simp only [DA] at h
  | .dict _, _, h => by simp only [DA] at h
theorem DAs.dp {K : PySem.W.Frag} {H : Hp} : ∀ (ds : List PyData) (vs : List V), DAs H ds vs → DpAll K H vs ds
  | [], _, h => by simp only [DAs] at h; subst h; exact .nil
  | d :: ds, _, h => by
    simp only [DAs] at h
    obtain ⟨v, vr, rfl, h2, h3⟩ := h
    exact .cons (DA.dp d v h2) (DAs.dp ds vr h3)
end
end LB
set_option Elab.async false
set_option linter.all false
set_option maxRecDepth 100000
set_option maxHeartbeats 2000000
namespace LB
open PySem PySem.Spec PyProof.Rows L2 GenW GE
/-! ### expressions of grammars -/
inductive Ex where
  | eps | fail | any
  | set (s : Str) | text (s : Str)
  | seq (es : List Ex) | alt (es : List Ex)
  | star (e : Ex) | opt (e : Ex) | nt (e : Ex) | an (e : Ex)
  | call (n : Str) | mark (l : Str) (e : Ex)
def Ex.head : Ex → Str
  | .eps => "eps" | .fail => "fail" | .any => "any" | .set _ => "set" | .text _ => "text" | .seq _ => "seq" | .alt _ => "alt"
  | .star _ => "star" | .opt _ => "opt" | .nt _ => "not" | .an _ => "and" | .call _ => "call" | .mark _ _ => "mark"
mutual
def Ex.py : Ex → PyData
  | .eps => .tuple [.str "eps"]
  | .fail => .tuple [.str "fail"]
  | .any => .tuple [.str "any"]
  | .set s => .tuple [.str "set", .str s]
  | .text s => .tuple [.str "text", .str s]
  | .seq es => .tuple [.str "seq", .tuple (Ex.pys es)]
  | .alt es => .tuple [.str "alt", .tuple (Ex.pys es)]
  | .star e => .tuple [.str "star", e.py]
  | .opt e => .tuple [.str "opt", e.py]
  | .nt e => .tuple [.str "not", e.py]
  | .an e => .tuple [.str "and", e.py]
  | .call n => .tuple [.str "call", .str n]
  | .mark l e => .tuple [.str "mark", .str l, e.py]
def Ex.pys : List Ex → List PyData
  | [] => []
  | e :: r => e.py :: Ex.pys r
end
theorem Ex.pys_len : ∀ es : List Ex, (Ex.pys es).length = es.length
  | [] => rfl
  | _ :: r => by rw [Ex.pys, List.length_cons, List.length_cons, Ex.pys_len r]
theorem Ex.pys_get : ∀ {es : List Ex} {i : Nat} {d : PyData}, (Ex.pys es)[i]? = some d → ∃ e, es[i]? = some e ∧ d = e.py
  | [], _, _, h => by simp [Ex.pys] at h
  | e :: r, 0, d, h => by
    rw [Ex.pys] at h
    exact ⟨e, rfl, (by simpa using h : e.py = d).symm⟩
  | e :: r, i + 1, d, h => by
    rw [Ex.pys] at h
    exact Ex.pys_get (es := r) (i := i) (by simpa using h)
theorem Ex.pys_eq_map : ∀ es : List Ex, Ex.pys es = es.map Ex.py
  | [] => rfl
  | e :: r => by rw [Ex.pys, List.map_cons, Ex.pys_eq_map r]
mutual
def Ex.dep : Ex → Nat
  | .seq es => Ex.deps es + 1
  | .alt es => Ex.deps es + 1
  | .star e => e.dep + 1
  | .opt e => e.dep + 1
  | .nt e => e.dep + 1
  | .an e => e.dep + 1
  | .mark _ e => e.dep + 1
  | .eps => 1 | .fail => 1 | .any => 1 | .set _ => 1 | .text _ => 1 | .call _ => 1
def Ex.deps : List Ex → Nat
  | [] => 0
  | e :: r => max e.dep (Ex.deps r)
end
theorem Ex.dep_pos (e : Ex) : 1 ≤ e.dep := by cases e <;> simp [Ex.dep]
theorem Ex.deps_get : ∀ {es : List Ex} {i : Nat} {e : Ex}, es[i]? = some e → e.dep ≤ Ex.deps es
  | [], _, _, h => by simp at h
  | a :: r, 0, e, h => by
    cases (by simpa using h : a = e)
    rw [Ex.deps]
    exact Nat.le_max_left _ _
  | a :: r, i + 1, e, h => by
    rw [Ex.deps]
    exact Nat.le_trans (Ex.deps_get (es := r) (i := i) (by simpa using h)) (Nat.le_max_right _ _)
theorem Ex.deps_mem {es : List Ex} {e : Ex} (h : e ∈ es) : e.dep ≤ Ex.deps es := by
  obtain ⟨i, hi, rfl⟩ := List.mem_iff_getElem.mp h
  exact Ex.deps_get (List.getElem?_eq_getElem hi)
theorem Ex.deps_le {n : Nat} : ∀ {es : List Ex}, (∀ e ∈ es, e.dep ≤ n) → Ex.deps es ≤ n
  | [], _ => Nat.zero_le _
  | e :: r, h => by
    rw [Ex.deps]
    exact Nat.max_le.mpr ⟨h e (by simp), Ex.deps_le fun x hx => h x (by simp [hx])⟩

/-! what stands on the heap for an expression -/
section
variable {H : Hp} {v : V}
theorem DA.tupI {xs : List PyData} (h : DA H (.tuple xs) v) : ∃ a vs, v = .ref a ∧ H a = some (.tup vs) ∧ DAs H xs vs := by simpa only [DA] using h
theorem DA.strI {x : Str} (h : DA H (.str x) v) : v = .str x := by simpa only [DA] using h
theorem DA.intI {x : Int} (h : DA H (.int x) v) : v = .int x := by simpa only [DA] using h
theorem DAs.nilI {vs : List V} (h : DAs H [] vs) : vs = [] := by simpa only [DAs] using h
theorem DAs.consI {d : PyData} {ds : List PyData} {vs : List V} (h : DAs H (d :: ds) vs) : ∃ v vr, vs = v :: vr ∧ DA H d v ∧ DAs H ds vr := by simpa only [DAs] using h
theorem DA.one {x : Str} (h : DA H (.tuple [.str x]) v) : ∃ a, v = .ref a ∧ H a = some (.tup [.str x]) := by
  obtain ⟨a, vs, rfl, ha, hs⟩ := h.tupI
  obtain ⟨u, vr, rfl, h1, h2⟩ := hs.consI
  cases h1.strI
  cases h2.nilI
  exact ⟨a, rfl, ha⟩
theorem DA.two {x : Str} {d : PyData} (h : DA H (.tuple [.str x, d]) v) : ∃ a u, v = .ref a ∧ H a = some (.tup [.str x, u]) ∧ DA H d u := by
  obtain ⟨a, vs, rfl, ha, hs⟩ := h.tupI
  obtain ⟨u, vr, rfl, h1, h2⟩ := hs.consI
  cases h1.strI
  obtain ⟨u2, vr, rfl, h3, h4⟩ := h2.consI
  cases h4.nilI
  exact ⟨a, u2, rfl, ha, h3⟩
theorem DA.three {x : Str} {d d' : PyData} (h : DA H (.tuple [.str x, d, d']) v) : ∃ a u u', v = .ref a ∧ H a = some (.tup [.str x, u, u']) ∧ DA H d u ∧ DA H d' u' := by
  obtain ⟨a, vs, rfl, ha, hs⟩ := h.tupI
  obtain ⟨u, vr, rfl, h1, h2⟩ := hs.consI
  cases h1.strI
  obtain ⟨u2, vr, rfl, h3, h4⟩ := h2.consI
  obtain ⟨u3, vr, rfl, h5, h6⟩ := h4.consI
  cases h6.nilI
  exact ⟨a, u2, u3, rfl, ha, h3, h5⟩
theorem DA.one_mk {x : Str} {p : Addr} (hp : H p = none) : DA (upd H p (.tup [.str x])) (.tuple [.str x]) (.ref p) := DA.new hp (.cons .str .nil)
theorem DA.two_mk {x : Str} {d : PyData} {u : V} {p : Addr} (hp : H p = none) (h : DA H d u) : DA (upd H p (.tup [.str x, u])) (.tuple [.str x, d]) (.ref p) := DA.new hp (.cons .str (.cons h .nil))
theorem DA.three_mk {x : Str} {d d' : PyData} {u u' : V} {p : Addr} (hp : H p = none) (h : DA H d u) (h' : DA H d' u') : DA (upd H p (.tup [.str x, u, u'])) (.tuple [.str x, d, d']) (.ref p) := DA.new hp (.cons .str (.cons h (.cons h' .nil)))
end

/-! ### point 6: may be empty -/
mutual
def Ex.emp (ns : List Str) : Ex → Bool
  | .eps => true | .star _ => true | .opt _ => true | .nt _ => true | .an _ => true
  | .call n => decide (n ∈ ns)
  | .seq es => Ex.empAll ns es
  | .alt es => Ex.empAny ns es
  | .mark _ e => e.emp ns
  | .fail => false | .any => false | .set _ => false | .text _ => false
def Ex.empAll (ns : List Str) : List Ex → Bool
  | [] => true
  | e :: r => e.emp ns && Ex.empAll ns r
def Ex.empAny (ns : List Str) : List Ex → Bool
  | [] => false
  | e :: r => e.emp ns || Ex.empAny ns r
end
theorem Ex.empAll_eq (ns : List Str) : ∀ es, Ex.empAll ns es = es.all (Ex.emp ns)
  | [] => rfl
  | e :: r => by rw [Ex.empAll, List.all_cons, Ex.empAll_eq ns r]
theorem Ex.empAny_eq (ns : List Str) : ∀ es, Ex.empAny ns es = es.any (Ex.emp ns)
  | [] => rfl
  | e :: r => by rw [Ex.empAny, List.any_cons, Ex.empAny_eq ns r]
theorem all_upto {α : Type} {p : α → Bool} {l : List α} (h : ∀ (j : Nat) x, l[j]? = some x → p x = true) : l.all p = true :=
  List.all_eq_true.mpr fun x hx => by
    obtain ⟨i, hi, rfl⟩ := List.mem_iff_getElem.mp hx
    exact h i _ (List.getElem?_eq_getElem hi)
theorem all_at {α : Type} {p : α → Bool} {l : List α} {j : Nat} {x : α} (h : l[j]? = some x) (e : p x = false) : l.all p = false := by
  cases q : l.all p with
  | false => rfl
  | true => rw [List.all_eq_true.mp q x (List.mem_of_getElem? h)] at e; cases e
theorem any_upto {α : Type} {p : α → Bool} {l : List α} (h : ∀ (j : Nat) x, l[j]? = some x → p x = false) : l.any p = false := by
  cases q : l.any p with
  | false => rfl
  | true =>
    obtain ⟨x, hx, e⟩ := List.any_eq_true.mp q
    obtain ⟨i, hi, rfl⟩ := List.mem_iff_getElem.mp hx
    rw [h i _ (List.getElem?_eq_getElem hi)] at e
    cases e
theorem any_at {α : Type} {p : α → Bool} {l : List α} {j : Nat} {x : α} (h : l[j]? = some x) (e : p x = true) : l.any p = true := List.any_eq_true.mpr ⟨x, List.mem_of_getElem? h, e⟩
theorem inV_str (x : Str) (ns : List Str) : inV (.str x) (ns.map V.str) = decide (x ∈ ns) := by
  induction ns with
  | nil => rfl
  | cons n r ih =>
    have e : inV (.str x) ((n :: r).map V.str) = ((n == x) || inV (.str x) (r.map V.str)) := rfl
    rw [e, ih]
    by_cases h : n = x
    · subst h; simp
    · have h' : x ≠ n := fun z => h z.symm
      simp [h, h']
theorem flat_strs (ns : List Str) : (ns.map V.str).all flatV = true := by
  rw [List.all_eq_true]
  intro x hx
  obtain ⟨n, _, rfl⟩ := List.mem_map.mp hx
  rfl
/-! ### filters, item by item -/
theorem take_at {α : Type} {l : List α} {i : Nat} {x : α} (h : l[i]? = some x) : l.take (i + 1) = l.take i ++ [x] := by
  rw [List.take_add_one, h]; rfl
theorem filter_at {α : Type} (p : α → Bool) {l : List α} {i : Nat} {x : α} (h : l[i]? = some x) : (l.take (i + 1)).filter p = (l.take i).filter p ++ (if p x then [x] else []) := by
  rw [take_at h, List.filter_append]
  by_cases q : p x = true
  · rw [if_pos q, List.filter_cons_of_pos q]; rfl
  · rw [if_neg q, List.filter_cons_of_neg q]; rfl
theorem filter_none {α : Type} {p : α → Bool} {l : List α} : decide ((l.filter p).length = 0) = l.all fun x => !p x := by
  induction l with
  | nil => rfl
  | cons a r ih =>
    cases q : p a with
    | true => simp [q]
    | false =>
      rw [List.filter_cons_of_neg (by simp [q]), ih, List.all_cons, q]; rfl
theorem filter_some {α : Type} {p : α → Bool} {l : List α} : decide (0 < (l.filter p).length) = l.any p := by
  induction l with
  | nil => rfl
  | cons a r ih =>
    cases q : p a with
    | true => simp [q]
    | false =>
      rw [List.filter_cons_of_neg (by simp [q]), ih, List.any_cons, q]; rfl
theorem dec_len0 (n : Nat) : decide (V.int (n : Int) = V.int 0) = decide (n = 0) := by
  by_cases h : n = 0
  · subst h; rfl
  · rw [decide_eq_false h, decide_eq_false fun z => h (by injection z; omega)]
theorem filter_le {α : Type} (p : α → Bool) (l : List α) (i : Nat) : ((l.take i).filter p).length ≤ l.length := by
  have h1 := List.length_filter_le p (l.take i)
  have h2 : (l.take i).length ≤ l.length := by rw [List.length_take]; omega
  omega
theorem dec_pos (n : Nat) : decide ((0 : Int) < (n : Int)) = decide (0 < n) := by
  by_cases h : 0 < n
  · rw [decide_eq_true h, decide_eq_true (by omega)]
  · rw [decide_eq_false h, decide_eq_false (by omega)]
/-! the widest seq or alt -/
mutual
def Ex.wid : Ex → Nat
  | .seq es => max es.length (Ex.wids es)
  | .alt es => max es.length (Ex.wids es)
  | .star e => e.wid
  | .opt e => e.wid
  | .nt e => e.wid
  | .an e => e.wid
  | .mark _ e => e.wid
  | .eps => 0 | .fail => 0 | .any => 0 | .set _ => 0 | .text _ => 0 | .call _ => 0
def Ex.wids : List Ex → Nat
  | [] => 0
  | e :: r => max e.wid (Ex.wids r)
end
theorem Ex.wids_get : ∀ {es : List Ex} {i : Nat} {e : Ex}, es[i]? = some e → e.wid ≤ Ex.wids es
  | [], _, _, h => by simp at h
  | a :: r, 0, e, h => by
    cases (by simpa using h : a = e)
    rw [Ex.wids]
    exact Nat.le_max_left _ _
  | a :: r, i + 1, e, h => by
    rw [Ex.wids]
    exact Nat.le_trans (Ex.wids_get (es := r) (i := i) (by simpa using h)) (Nat.le_max_right _ _)
/-! ### grammars -/
abbrev Gr := List (Str × Ex)
def rulePy (p : Str × Ex) : PyData := .tuple [.str p.1, p.2.py]
def grPy (g : Gr) : PyData := .tuple (g.map rulePy)
theorem map_get {α β : Type} {f : α → β} {l : List α} {i : Nat} {d : β} (h : (l.map f)[i]? = some d) : ∃ x, l[i]? = some x ∧ d = f x := by
  rw [List.getElem?_map] at h
  cases e : l[i]? with
  | none => rw [e] at h; cases h
  | some x => rw [e] at h; cases h; exact ⟨x, rfl, rfl⟩
def Gr.step (g : Gr) (ns : List Str) : List Str := (g.filter fun p => p.2.emp ns).map (·.1)
def Gr.iter (g : Gr) : Nat → List Str
  | 0 => []
  | k + 1 => Gr.step g (Gr.iter g k)
/-- where a grammar stands -/
theorem grI {H : Hp} {g : Gr} {v : V} (h : DA H (grPy g) v) : ∃ a vs, v = .ref a ∧ H a = some (.tup vs) ∧ DAs H (g.map rulePy) vs ∧ vs.length = g.length := by
  obtain ⟨a, vs, h1, h2, h3⟩ := DA.tupI h
  exact ⟨a, vs, h1, h2, h3, by rw [h3.len, List.length_map]⟩
theorem ruleI {H : Hp} {g : Gr} {vs : List V} {i : Nat} {x : V} (h : DAs H (g.map rulePy) vs) (hx : vs[i]? = some x) : ∃ n e a u, g[i]? = some (n, e) ∧ x = .ref a ∧ H a = some (.tup [.str n, u]) ∧ DA H e.py u := by
  obtain ⟨d, hd, hx2⟩ := DAs.get' h hx
  obtain ⟨⟨n, e⟩, hp, rfl⟩ := map_get hd
  obtain ⟨a, u, rfl, h1, h2⟩ := DA.two hx2
  exact ⟨n, e, a, u, hp, rfl, h1, h2⟩
/-- all rules' expressions are of such a depth and width -/
structure Gr.Ok (g : Gr) (n : Nat) : Prop where
  nam : ∀ p ∈ g, PyData.strOk p.1 = true
  dep : ∀ p ∈ g, p.2.dep ≤ n
  wid : ∀ p ∈ g, p.2.wid ≤ 5000
  len : g.length ≤ 1000
/-! ### the least set -/
mutual
theorem Ex.emp_mono {ns ms : List Str} (h : ∀ x ∈ ns, x ∈ ms) : ∀ e : Ex, e.emp ns = true → e.emp ms = true
  | .eps, _ => rfl
  | .star _, _ => rfl
  | .opt _, _ => rfl
  | .nt _, _ => rfl
  | .an _, _ => rfl
  | .call n, q => by
    rw [Ex.emp] at q ⊢
    exact decide_eq_true (h n (of_decide_eq_true q))
  | .seq es, q => by
    rw [Ex.emp] at q ⊢
    exact Ex.empAll_mono h es q
  | .alt es, q => by
    rw [Ex.emp] at q ⊢
    exact Ex.empAny_mono h es q
  | .mark _ e, q => by
    rw [Ex.emp] at q ⊢
    exact Ex.emp_mono h e q
  | .fail, q => by simp [Ex.emp] at q
  | .any, q => by simp [Ex.emp] at q
  | .set _, q => by simp [Ex.emp] at q
  | .text _, q => by simp [Ex.emp] at q
theorem Ex.empAll_mono {ns ms : List Str} (h : ∀ x ∈ ns, x ∈ ms) : ∀ es : List Ex, Ex.empAll ns es = true → Ex.empAll ms es = true
  | [], _ => rfl
  | e :: r, q => by
    rw [Ex.empAll, Bool.and_eq_true] at q ⊢
    exact ⟨Ex.emp_mono h e q.1, Ex.empAll_mono h r q.2⟩
theorem Ex.empAny_mono {ns ms : List Str} (h : ∀ x ∈ ns, x ∈ ms) : ∀ es : List Ex, Ex.empAny ns es = true → Ex.empAny ms es = true
  | [], q => by simp [Ex.empAny] at q
  | e :: r, q => by
    rw [Ex.empAny, Bool.or_eq_true] at q ⊢
    exact q.imp (Ex.emp_mono h e) (Ex.empAny_mono h r)
end
theorem filter_grow {α : Type} {p q : α → Bool} : ∀ {l : List α}, (∀ x ∈ l, p x = true → q x = true) → l.filter q = l.filter p ∨ (l.filter p).length < (l.filter q).length
  | [], _ => .inl rfl
  | a :: r, h => by
    have ih := filter_grow (l := r) fun x hx => h x (by simp [hx])
    cases e : p a with
    | true =>
      rw [List.filter_cons_of_pos e, List.filter_cons_of_pos (h a (by simp) e)]
      rcases ih with ih | ih
      · exact .inl (by rw [ih])
      · exact .inr (by simpa using ih)
    | false =>
      rw [List.filter_cons_of_neg (p := p) (by simp [e])]
      cases e2 : q a with
      | true =>
        rw [List.filter_cons_of_pos (p := q) e2]
        refine .inr ?_
        rcases ih with ih | ih
        · rw [ih]; simp
        · simp; omega
      | false =>
        rw [List.filter_cons_of_neg (p := q) (by simp [e2])]
        exact ih
theorem Gr.step_sub {g : Gr} {ns ms : List Str} (h : ∀ x ∈ ns, x ∈ ms) : ∀ x ∈ g.step ns, x ∈ g.step ms := fun x hx => by
  obtain ⟨p, hp, rfl⟩ := List.mem_map.mp hx
  obtain ⟨h1, h2⟩ := List.mem_filter.mp hp
  exact List.mem_map.mpr ⟨p, List.mem_filter.mpr ⟨h1, Ex.emp_mono h p.2 h2⟩, rfl⟩
theorem Gr.iter_sub (g : Gr) : ∀ k, ∀ x ∈ g.iter k, x ∈ g.iter (k + 1)
  | 0, x, h => by simp [Gr.iter] at h
  | k + 1, x, h => Gr.step_sub (g := g) (Gr.iter_sub g k) x h
theorem Gr.iter_grow (g : Gr) : ∀ k, g.iter (k + 1) = g.iter k ∨ (g.iter k).length < (g.iter (k + 1)).length
  | 0 => by
    cases e : g.iter 1 with
    | nil => exact .inl rfl
    | cons a r => exact .inr (by simp [Gr.iter])
  | k + 1 => by
    have h := filter_grow (l := g) (p := fun p => p.2.emp (g.iter k)) (q := fun p => p.2.emp (g.iter (k + 1))) fun x _ => Ex.emp_mono (Gr.iter_sub g k) x.2
    rcases h with h | h
    · exact .inl (by show (g.filter _).map _ = (g.filter _).map _; rw [h])
    · exact .inr (by show ((g.filter _).map _).length < ((g.filter _).map _).length; rw [List.length_map, List.length_map]; exact h)
theorem Gr.iter_len (g : Gr) : ∀ k, (g.iter k).length ≤ g.length
  | 0 => Nat.zero_le _
  | k + 1 => by
    show ((g.filter _).map _).length ≤ _
    rw [List.length_map]
    exact List.length_filter_le _ _
theorem Gr.iter_fix {g : Gr} {m : Nat} (h : g.iter (m + 1) = g.iter m) : ∀ d, g.iter (m + d) = g.iter m
  | 0 => rfl
  | d + 1 => by
    show g.step (g.iter (m + d)) = _
    rw [Gr.iter_fix h d]
    exact h
theorem Gr.iter_many (g : Gr) : ∀ k, g.iter (k + 1) = g.iter k ∨ k < (g.iter (k + 1)).length
  | 0 => (Gr.iter_grow g 0).imp id fun h => by omega
  | k + 1 => by
    rcases Gr.iter_grow g (k + 1) with h | h
    · exact .inl h
    · rcases Gr.iter_many g k with h2 | h2
      · exact .inl (by show g.step (g.iter (k + 1)) = g.step (g.iter k); rw [h2])
      · exact .inr (by omega)
theorem Gr.iter_end (g : Gr) : g.iter (g.length + 1) = g.iter g.length := by
  rcases Gr.iter_many g g.length with h | h
  · exact h
  · have := Gr.iter_len g (g.length + 1)
    omega
/-- the empty rules -/
def Gr.emps (g : Gr) : List Str := g.iter (g.length + 1)
theorem Gr.iter_the {g : Gr} {m : Nat} (h : g.iter (m + 1) = g.iter m) : g.iter m = g.emps := by
  unfold Gr.emps
  rcases Nat.le_total m (g.length + 1) with z | z
  · rw [show g.length + 1 = m + (g.length + 1 - m) by omega, Gr.iter_fix h]
  · have h2 : g.iter (g.length + 1 + 1) = g.iter (g.length + 1) := by
      show g.step (g.iter (g.length + 1)) = g.step (g.iter g.length)
      rw [Gr.iter_end]
    rw [show m = g.length + 1 + (m - (g.length + 1)) by omega, Gr.iter_fix h2]
theorem Gr.emps_fix (g : Gr) : g.step g.emps = g.emps := by
  show g.step (g.iter (g.length + 1)) = g.step (g.iter g.length)
  rw [Gr.iter_end]
/-! ### lists of names compared -/
theorem names_lay : ∀ {ns : List Str}, (∀ n ∈ ns, PyData.strOk n = true) → PyData.canLayAll0 (ns.map .str) = true
  | [], _ => rfl
  | n :: r, h => by
    rw [List.map_cons, PyData.canLayAll0, PyData.canLay0, h n (by simp), names_lay fun x hx => h x (by simp [hx])]; rfl
theorem names_eqv : ∀ (ns ms : List Str), PyData.eqvAll (ns.map .str) (ms.map .str) = decide (ns = ms)
  | [], [] => rfl
  | [], _ :: _ => rfl
  | _ :: _, [] => rfl
  | n :: r, m :: t => by
    rw [List.map_cons, List.map_cons, PyData.eqvAll, names_eqv r t, PyData.eqv]
    by_cases h : n = m
    · subst h
      by_cases h2 : r = t
      · subst h2; simp
      · simp [h2]
    · simp [h]
theorem Gr.step_nam {g : Gr} {k : Nat} (h : g.Ok k) (ns : List Str) : ∀ n ∈ g.step ns, PyData.strOk n = true := fun n hn => by
  obtain ⟨p, hp, rfl⟩ := List.mem_map.mp hn
  exact h.nam p (List.mem_filter.mp hp).1
theorem Gr.iter_nam {g : Gr} {k : Nat} (h : g.Ok k) : ∀ i, ∀ n ∈ g.iter i, PyData.strOk n = true
  | 0, n, hn => by simp [Gr.iter] at hn
  | i + 1, n, hn => Gr.step_nam h _ n hn
theorem Gr.emps_nam {g : Gr} {k : Nat} (h : g.Ok k) : ∀ n ∈ g.emps, PyData.strOk n = true := Gr.iter_nam h _
theorem DAs_strs {H : Hp} : ∀ ns : List Str, DAs H (ns.map .str) (ns.map V.str)
  | [] => .nil
  | n :: ns => .cons .str (DAs_strs ns)
theorem Dp_names {K : PySem.W.Frag} {H : Hp} {l : Addr} {ns : List Str} (h : H l = some (.lst (ns.map V.str))) : Dp K H (.ref l) (.list (ns.map .str)) := .lst (SqL.of h) (DAs.dp _ _ (DAs_strs ns))
theorem names_dep : ∀ ns : List Str, PyData.depthAll (ns.map .str) = 0
  | [] => rfl
  | n :: r => by rw [List.map_cons, PyData.depthAll, names_dep r, PyData.depth]; rfl
theorem names_shaped {ns : List Str} (h : ∀ n ∈ ns, PyData.strOk n = true) : SeqAt.shaped (.list (ns.map .str)) = true := by
  unfold SeqAt.shaped
  rw [PyData.canLay0, names_lay h, PyData.depth, names_dep]
  rfl
theorem names_eq (ns ms : List Str) : PyData.eqv (.list (ns.map .str)) (.list (ms.map .str)) = decide (ns = ms) := by rw [PyData.eqv, names_eqv]
end LB
set_option Elab.async false
set_option linter.all false
set_option maxRecDepth 100000
set_option maxHeartbeats 4000000
namespace N_k04
open PySem PySem.Spec PyProof.Rows L2 GenW GE LB
def top (i : Nat) : Stmt := PySem.Challenge.pw_graft_k04_rules_that_may_be_empty.main.body.getD i (.Pass ⟨0, 0, 0, 0⟩)
abbrev s_may_be_empty : Stmt := top 2
theorem sc_may_be_empty : FnScope ["expression", "names", "head", "part"] ["expression", "names"] (defScope s_may_be_empty) := ⟨rfl, rfl, rfl, by decide +kernel, rfl, by decide +kernel, by decide +kernel⟩
abbrev s_empty_rules : Stmt := top 3
theorem sc_empty_rules : FnScope ["grammar", "names", "grown", "wider", "name", "expression"] ["grammar"] (defScope s_empty_rules) := ⟨rfl, rfl, rfl, by decide +kernel, rfl, by decide +kernel, by decide +kernel⟩
abbrev s__law_stream : Stmt := top 5
theorem sc__law_stream : FnScope ["script", "row", "cell", "left", "k", "seed"] ["script"] (defScope s__law_stream) := ⟨rfl, rfl, rfl, by decide +kernel, rfl, by decide +kernel, by decide +kernel⟩
abbrev s__law_take : Stmt := top 6
theorem sc__law_take : FnScope ["row", "many"] ["row", "many"] (defScope s__law_take) := ⟨rfl, rfl, rfl, by decide +kernel, rfl, by decide +kernel, by decide +kernel⟩
abbrev s__law_wild : Stmt := top 7
theorem sc__law_wild : FnScope ["row", "depth", "many", "kind", "one", "two"] ["row", "depth", "many"] (defScope s__law_wild) := ⟨rfl, rfl, rfl, by decide +kernel, rfl, by decide +kernel, by decide +kernel⟩
abbrev s__law_empty : Stmt := top 8
theorem sc__law_empty : FnScope ["expression", "names", "head", "part"] ["expression", "names"] (defScope s__law_empty) := ⟨rfl, rfl, rfl, by decide +kernel, rfl, by decide +kernel, by decide +kernel⟩
abbrev s__law_empties : Stmt := top 9
theorem sc__law_empties : FnScope ["grammar", "names", "turn", "rule"] ["grammar"] (defScope s__law_empties) := ⟨rfl, rfl, rfl, by decide +kernel, rfl, by decide +kernel, by decide +kernel⟩
abbrev s_law : Stmt := top 10
theorem sc_law : FnScope ["script", "row", "many", "grammar", "k", "names", "told", "rule", "one", "two"] ["script"] (defScope s_law) := ⟨rfl, rfl, rfl, by decide +kernel, rfl, by decide +kernel, by decide +kernel⟩
structure Txt (K : PySem.W.Frag) (mg : Str → Option Value) (base : Heap) where
  b_abs : mg "abs" = none
  b_all : mg "all" = none
  b_any : mg "any" = none
  b_bool : mg "bool" = none
  b_int : mg "int" = none
  b_isinstance : mg "isinstance" = none
  b_len : mg "len" = none
  b_list : mg "list" = none
  b_range : mg "range" = none
  b_tuple : mg "tuple" = none
  f_may_be_empty : Addr
  d_may_be_empty : FuncData
  D_may_be_empty : DF K mg "may_be_empty" s_may_be_empty ["expression", "names"] f_may_be_empty d_may_be_empty
  f_empty_rules : Addr
  d_empty_rules : FuncData
  D_empty_rules : DF K mg "empty_rules" s_empty_rules ["grammar"] f_empty_rules d_empty_rules
  f__law_stream : Addr
  d__law_stream : FuncData
  D__law_stream : DF K mg "_law_stream" s__law_stream ["script"] f__law_stream d__law_stream
  f__law_take : Addr
  d__law_take : FuncData
  D__law_take : DF K mg "_law_take" s__law_take ["row", "many"] f__law_take d__law_take
  f__law_wild : Addr
  d__law_wild : FuncData
  D__law_wild : DF K mg "_law_wild" s__law_wild ["row", "depth", "many"] f__law_wild d__law_wild
  f__law_empty : Addr
  d__law_empty : FuncData
  D__law_empty : DF K mg "_law_empty" s__law_empty ["expression", "names"] f__law_empty d__law_empty
  f__law_empties : Addr
  d__law_empties : FuncData
  D__law_empties : DF K mg "_law_empties" s__law_empties ["grammar"] f__law_empties d__law_empties
  k_may_be_empty : Addr
  t_may_be_empty : Addr
  TB_may_be_empty : GxR.TabB base mg k_may_be_empty t_may_be_empty
  kc_may_be_empty : d_may_be_empty.code = .ref k_may_be_empty
  a_ALWAYS_EMPTY : Addr
  c_ALWAYS_EMPTY : mg "ALWAYS_EMPTY" = some (.ref a_ALWAYS_EMPTY)
  v_ALWAYS_EMPTY : ∀ H : Hp, SqT K H a_ALWAYS_EMPTY [V.str "eps", V.str "star", V.str "opt", V.str "not", V.str "and"]
  r_ALWAYS_EMPTY : RelV (.ref a_ALWAYS_EMPTY) (.ref a_ALWAYS_EMPTY) := rfl
section
variable {P : Program} {w : World} {K : PySem.W.Frag} {mg : Str → Option Value} {base : Heap} (T : Txt K mg base)
def spEmp (T : Txt K mg base) (n : Nat) : Sp := fun vs H Q _ => ∃ (l : Addr) (e : Ex) (v : V) (ns : List Str), vs = [v, .ref l] ∧ DA H e.py v ∧ H l = some (.lst (ns.map V.str)) ∧ GxR.TabG H T.t_may_be_empty ∧ e.dep ≤ n ∧ ∀ H', Ext H H' → Q (.bl (e.emp ns)) H'
def spEmpties (T : Txt K mg base) (n : Nat) : Sp := fun vs H Q _ => ∃ (g : Gr) (v : V), vs = [v] ∧ DA H (grPy g) v ∧ g.Ok n ∧ GxR.TabG H T.t_may_be_empty ∧ ∀ (l : Addr) (H' : Hp), Ext H H' → H l = none → H' l = some (.lst (g.emps.map V.str)) → Q (.ref l) H'
def spWild (n : Nat) : Sp := fun vs H Q _ => ∃ (r : Addr) (d m : Int), vs = [.ref r, .int d, .int m] ∧ 0 ≤ d ∧ d < (n : Int) ∧ 1 ≤ m ∧ m ≤ 5 ∧ RowOk H r ∧ ∀ (e : Ex) (v : V) (H' : Hp), (e.dep : Int) ≤ d + 1 → e.wid ≤ 2 → ExtR r H H' → RowOk H' r → DA H' e.py v → Q v H'
def spLEmp (n : Nat) : Sp := fun vs H Q _ => ∃ (l : Addr) (e : Ex) (v : V) (ns : List Str), vs = [v, .ref l] ∧ DA H e.py v ∧ H l = some (.lst (ns.map V.str)) ∧ e.dep ≤ n ∧ e.wid ≤ 5000 ∧ ∀ H', Ext H H' → Q (.bl (e.emp ns)) H'
def spLEmpties (n : Nat) : Sp := fun vs H Q _ => ∃ (g : Gr) (v : V), vs = [v] ∧ DA H (grPy g) v ∧ g.Ok n ∧ ∀ (l : Addr) (H' : Hp), Ext H H' → H l = none → H' l = some (.lst (g.emps.map V.str)) → Q (.ref l) H'
end
end N_k04
namespace N_k04
open PySem PySem.Spec PyProof.Rows L2 GenW GE LB
section
variable {P : Program} {w : World} {K : PySem.W.Frag} {mg : Str → Option Value} {base : Heap} (T : Txt K mg base)
theorem ok__law_take : FnOk P w K mg base CX0 1 T.f__law_take T.d__law_take ["row", "many"] spTake := by
  refine T.D__law_take.ok sc__law_take (fun vs H Q E h => ?_) (fun cdv A outer s H vs Q E hr h => ?_)
  · obtain ⟨r, m, rfl, _⟩ := h
    rfl
  obtain ⟨r, m, rfl, hm, ⟨p, ds, hrow, h1, h2, h3⟩, hQ⟩ := h
  refine ⟨_, (pss_cons (ps_if (pt_cmpR op_lt (pe_ix (ixL K rfl) (pv 0) pe_int (fun _ _ => rfl)) (pe_callB (lenQ K rfl) (by rfl) T.b_len PySem.boot_len (pa_cons (pv 0) pa_nil)) (nomark _)) (pss_cons (ps_asg (pe_op op_add (pe_ix (ixL K rfl) (pv 0) pe_int (fun _ _ => rfl)) pe_int) (pg_sub (pv 0) pe_int set_list))
    (pss_one (ps_ret (pe_op op_modN (pe_callTy call_int1 (by rfl) T.b_int (by decide +kernel) (pa_cons (pe_ix (ixL K rfl) (pv 0) (pe_op op_sub (pe_ix (ixL K rfl) (pv 0) pe_int (fun _ _ => rfl)) pe_int) (fun _ _ => rfl)) pa_nil)) (pv 1))))) pss_nil)
    (pss_one (ps_ret pe_int))), ?_⟩
  have hlen : (V.int p :: ds.map V.int).length = ds.length + 1 := by rw [List.length_cons, List.length_map]
  refine ⟨_, rfl, r, _, _, _, rfl, rfl, SqL.of hrow, at0, ?_⟩
  refine ⟨_, rfl, r, _, rfl, .inl (SqL.of hrow), ?_⟩
  refine ⟨_, _, rfl, rfl, _, rfl, ?_⟩
  rw [hlen]
  refine ite2 (fun c => ?_) (fun c => ?_)
  · have c' : p < ((ds.length + 1 : Nat) : Int) := of_decide_eq_true c
    have hp : (p - 1).toNat < ds.length := by omega
    refine ⟨_, rfl, r, _, _, _, rfl, rfl, SqL.of hrow, at0, _, _, rfl, rfl, ?_⟩
    refine ⟨_, rfl, r, _, _, 0, rfl, rfl, hrow, ixN_at (by rw [hlen]; omega) rfl, ?_⟩
    have hset : (V.int p :: ds.map V.int).set 0 (.int (p + 1)) = V.int (p + 1) :: ds.map V.int := rfl
    rw [hset]
    refine ⟨_, rfl, _, rfl, r, _, _, _, rfl, rfl, SqL.of upd_same, at0, _, _, rfl, rfl, ?_⟩
    refine ⟨r, _, _, V.int ds[(p - 1).toNat], rfl, rfl, SqL.of upd_same, at_of (j := p.toNat) (by omega) ?_, ?_⟩
    · rw [show p.toNat = (p - 1).toNat + 1 by omega, List.getElem?_cons_succ, List.getElem?_map, List.getElem?_eq_getElem hp]
      rfl
    · refine .inl ⟨_, rfl, _, rfl, _, _, rfl, rfl, by omega, ?_⟩
      refine hQ _ _ (Int.fmod_nonneg_of_pos _ hm) (Int.fmod_lt_of_pos _ hm) (ExtR.set hrow _) ⟨p + 1, ds, upd_same, by omega, by omega, h3⟩
  · exact hQ 0 H (Int.le_refl 0) hm (ExtR.refl _ _) ⟨p, ds, hrow, h1, h2, h3⟩

end
end N_k04
namespace N_k04
open PySem PySem.Spec PyProof.Rows L2 GenW GE LB
section
variable {P : Program} {w : World} {K : PySem.W.Frag} {mg : Str → Option Value} {base : Heap} (T : Txt K mg base)
theorem ok__law_stream : FnOk P w K mg base CX0 1 T.f__law_stream T.d__law_stream ["script"] (spStream K) := by
  refine T.D__law_stream.ok sc__law_stream (fun vs H Q E h => ?_) (fun cdv A outer s H vs Q E hr h => ?_)
  · obtain ⟨a, ns, rfl, _⟩ := h
    rfl
  obtain ⟨a, ns, rfl, hS, hlen, hQ⟩ := h
  refine ⟨_, (pss_cons (ps_set (i := 1) sc__law_stream.nd rfl (by first | exact Or.inl rfl | exact Or.inr rfl) (pe_lst (pa_cons pe_int pa_nil)))
    (pss_cons (ps_for PassesOwn.never rfl (piL K rfl (pe_slice (slL K rfl) (pv 0) po_none (po_some pe_int))) (pg_name (i := 2) sc__law_stream.nd rfl (by first | exact Or.inl rfl | exact Or.inr rfl)) (pss_cons (ps_set (i := 3) sc__law_stream.nd rfl (by first | exact Or.inl rfl | exact Or.inr rfl) (pe_callB call_abs (by rfl) T.b_abs (by decide +kernel) (pa_cons (pe_callTy call_int1 (by rfl) T.b_int (by decide +kernel) (pa_cons (pv 2) pa_nil)) pa_nil)))
    (pss_one (ps_for PassesOwn.never rfl (pi_range1 (by rfl) T.b_range (pa_cons pe_int pa_nil)) (pg_name (i := 4) sc__law_stream.nd rfl (by first | exact Or.inl rfl | exact Or.inr rfl)) (pss_cons (ps_expr (pe_bm PySem.F.plainAttrs_list PySem.F.slot_list_append PySem.F.type_list_append mt_append (pv 1) (pa_cons (pe_op op_modN (pv 3) pe_int) pa_nil)))
    (pss_cons (ps_set (i := 3) sc__law_stream.nd rfl (by first | exact Or.inl rfl | exact Or.inr rfl) (pe_op op_fdivN (pv 3) pe_int))
    (pss_one (ps_if (pt_cmpR op_eq (pv 3) pe_int (nomark _)) (pss_one ps_break) pss_nil))))))))
    (pss_cons (ps_set (i := 5) sc__law_stream.nd rfl (by first | exact Or.inl rfl | exact Or.inr rfl) pe_int)
    (pss_cons (ps_for PassesOwn.never rfl (piL K rfl (pe_slice (slL K rfl) (pv 0) po_none (po_some pe_int))) (pg_name (i := 2) sc__law_stream.nd rfl (by first | exact Or.inl rfl | exact Or.inr rfl)) (pss_one (ps_set (i := 5) sc__law_stream.nd rfl (by first | exact Or.inl rfl | exact Or.inr rfl) (pe_op op_modN (pe_callTy call_int1 (by rfl) T.b_int (by decide +kernel) (pa_cons (pe_op op_add (pe_op op_add (pe_op op_mul (pv 5) pe_int) (pv 2)) pe_int) pa_nil)) pe_int))))
    (pss_cons (ps_for PassesOwn.never rfl (pi_range1 (by rfl) T.b_range (pa_cons pe_int pa_nil)) (pg_name (i := 4) sc__law_stream.nd rfl (by first | exact Or.inl rfl | exact Or.inr rfl)) (pss_cons (ps_set (i := 5) sc__law_stream.nd rfl (by first | exact Or.inl rfl | exact Or.inr rfl) (pe_op op_modN (pe_callTy call_int1 (by rfl) T.b_int (by decide +kernel) (pa_cons (pe_op op_add (pe_op op_add (pe_op op_mul (pv 5) pe_int) (pe_op op_mul (pv 4) pe_int)) pe_int) pa_nil)) pe_int))
    (pss_one (ps_expr (pe_bm PySem.F.plainAttrs_list PySem.F.slot_list_append PySem.F.type_list_append mt_append (pv 1) (pa_cons (pe_op op_modN (pe_op op_fdivN (pv 5) pe_int) pe_int) pa_nil))))))
    (pss_one (ps_ret (pv 1)))))))), ?_⟩
  -- row = [1]
  refine ⟨by show 1 ≤ sizeLine; decide, fun r hr0 => ?_⟩
  have e1 : Ext H (upd H r (.lst [.int 1])) := Ext.new hr0 _
  -- the first loop
  refine ⟨_, rfl, 63, rfl, a, _, rfl, e1.sqL hS, fun p hp => ?_⟩
  obtain ⟨ms, hcut, hms⟩ := cut_ints ns none (some 63)
  rw [hcut]
  have npr : p ≠ r := fun z => by rw [z, upd_same] at hp; cases hp
  generalize hH2 : upd (upd H r (.lst [.int 1])) p (.lst (ms.map V.int)) = H2
  have e2 : Ext H H2 := by rw [← hH2]; exact e1.trans (Ext.new hp _)
  have hp2 : H2 p = some (.lst (ms.map V.int)) := by rw [← hH2]; exact upd_same
  have hr2 : H2 r = some (.lst (V.int 1 :: ([] : List Int).map V.int)) := by rw [← hH2, upd_ne (Ne.symm npr), upd_same]; rfl
  refine ⟨p, rfl, ⟨_, SqL.of hp2⟩, ?_⟩
  refine for_list (K := K) (a := p) (xs := ms.map V.int) (fun i σ H' => ∃ (ds : List Int) (c l k : Option V), σ = [some (.ref a), some (.ref r), c, l, k, none] ∧ ExtR r H2 H' ∧ H' r = some (.lst (V.int 1 :: ds.map V.int)) ∧ ds.length ≤ 60 * i)
    ⟨[], none, none, none, rfl, ExtR.refl _ _, hr2, Nat.zero_le _⟩ (fun i σ H' _ ⟨ds, c, l, k, _, e, _⟩ => SqL.of (e.lst npr hp2)) (fun i x σ H' hx ⟨ds, c, l, k, hσ, e, hrow, hds⟩ => ?_) (fun σ H' ⟨ds, c, l, k, hσ, e, hrow, hds⟩ => ?_)
  · subst hσ
    obtain ⟨v, rfl⟩ := map_int hx
    refine ⟨_, rfl, .inl ⟨_, rfl, _, rfl, ?_⟩⟩
    refine ⟨60, rfl, by decide, by decide, ?_⟩
    refine for_range (lo := 0) (n := 60) (fun j σ H' => ∃ (ds : List Int) (l : Int) (k : Option V), σ = [some (.ref a), some (.ref r), some (.int v), some (.int l), k, none] ∧ ExtR r H2 H' ∧ H' r = some (.lst (V.int 1 :: ds.map V.int)) ∧ ds.length ≤ 60 * i + j)
      ⟨ds, _, k, rfl, e, hrow, Nat.le_add_right_of_le hds⟩ (fun j σ H' hj ⟨ds, l, k, hσ, e, hrow, hds⟩ => ?_) (fun σ H' ⟨ds, l, k, hσ, e, hrow, hds⟩ => ⟨ds, _, _, k, hσ, e, hrow, hds⟩)
    subst hσ
    have hl : (V.int 1 :: ds.map V.int).length = ds.length + 1 := by rw [List.length_cons, List.length_map]
    have hml : (ms.map V.int).length = ms.length := List.length_map _
    have hi : i < 63 := by
      have := (List.getElem?_eq_some_iff.mp hx).1
      omega
    refine ⟨_, rfl, .inl ⟨rfl, _, SqL.of hrow⟩, _, rfl, _, _, rfl, rfl, (by show (59 : Int) ≠ 0; decide), r, _, _, rfl, rfl, hrow, by rw [hl]; exact small5000 (by omega), ?_⟩
    have hrow' : upd H' r (.lst (V.int 1 :: ds.map V.int ++ [.int (l.fmod 59)])) r = some (.lst (V.int 1 :: (ds ++ [l.fmod 59]).map V.int)) := by
      rw [upd_same, List.map_append]; rfl
    have e' : ExtR r H2 (upd H' r (.lst (V.int 1 :: ds.map V.int ++ [.int (l.fmod 59)]))) := e.trans (ExtR.set hrow _)
    have hd' : (ds ++ [l.fmod 59]).length ≤ 60 * i + (j + 1) := by rw [List.length_append]; exact Nat.add_le_add_right hds 1
    refine ⟨_, rfl, _, _, rfl, rfl, ⟨by decide, by decide⟩, ?_⟩
    refine ⟨_, rfl, rfl, _, rfl, ?_⟩
    refine ite2 (fun _ => ⟨ds ++ [l.fmod 59], _, _, _, rfl, e', hrow', Nat.le_trans hd' (by omega)⟩) (fun _ => ⟨ds ++ [l.fmod 59], _, _, rfl, e', hrow', hd'⟩)
  · subst hσ
    have hds3 : ds.length ≤ 3780 := by
      have hml : (ms.map V.int).length = ms.length := List.length_map _
      omega
    have hp' : H' p = some (.lst (ms.map V.int)) := e.lst npr hp2
    have hS' : SqL K H' a (ns.map V.int) := (ExtR.of_free hr0 e2 e).sqL hS
    have eH : Ext H H' := ExtR.of_free hr0 e2 e
    refine ⟨_, rfl, 63, rfl, a, _, rfl, hS', fun p2 hpp => ?_⟩
    rw [hcut]
    have npr2 : p2 ≠ r := fun z => by rw [z, hrow] at hpp; cases hpp
    generalize hH3 : upd H' p2 (.lst (ms.map V.int)) = H3
    have e3 : Ext H H3 := by rw [← hH3]; exact eH.trans (Ext.new hpp _)
    have hp3 : H3 p2 = some (.lst (ms.map V.int)) := by rw [← hH3]; exact upd_same
    have hr3 : H3 r = some (.lst (V.int 1 :: ds.map V.int)) := by rw [← hH3, upd_ne (Ne.symm npr2)]; exact hrow
    refine ⟨p2, rfl, ⟨_, SqL.of hp3⟩, ?_⟩
    refine for_list (K := K) (a := p2) (xs := ms.map V.int) (fun i σ H' => ∃ (c : Option V) (sd : Int), σ = [some (.ref a), some (.ref r), c, l, k, some (.int sd)] ∧ H' = H3 ∧ 0 ≤ sd ∧ sd < 4000000000)
      ⟨c, 7, rfl, rfl, by decide, by decide⟩ (fun i σ H' _ ⟨c, sd, _, z, _⟩ => by rw [z]; exact SqL.of hp3) (fun i x σ H' hx ⟨c, sd, hσ, z, h1, h2⟩ => ?_) (fun σ H' ⟨c, sd, hσ, z, h1, h2⟩ => ?_)
    · subst hσ
      subst z
      obtain ⟨v, rfl⟩ := map_int hx
      refine ⟨_, rfl, _, _, rfl, rfl, .inl ⟨by omega, by omega⟩, _, rfl, _, _, rfl, rfl, _, _, rfl, rfl, .inl ⟨_, rfl, _, _, rfl, rfl, (by show (1000003 : Int) ≠ 0; decide), ?_⟩⟩
      exact ⟨_, _, rfl, rfl, Int.fmod_nonneg_of_pos _ (by decide), Int.lt_trans (Int.fmod_lt_of_pos _ (by decide)) (by decide)⟩
    · subst hσ
      subst z
      refine ⟨150, rfl, by decide, by decide, ?_⟩
      refine for_range (lo := 0) (n := 150) (fun j σ H4 => ∃ (ds' : List Int) (k : Option V) (sd : Int), σ = [some (.ref a), some (.ref r), c, l, k, some (.int sd)] ∧ ExtR r H' H4 ∧ H4 r = some (.lst (V.int 1 :: ds'.map V.int)) ∧ ds'.length ≤ 3780 + j ∧ 0 ≤ sd ∧ sd < 4000000000)
        ⟨ds, k, sd, rfl, ExtR.refl _ _, hr3, Nat.le_add_right_of_le hds3, h1, h2⟩ (fun j σ H4 hj ⟨ds', k, sd, hσ, e, hrow, hds, h1, h2⟩ => ?_) (fun σ H4 ⟨ds', k, sd, hσ, e, hrow, hds, h1, h2⟩ => ?_)
      · subst hσ
        have hl : (V.int 1 :: ds'.map V.int).length = ds'.length + 1 := by rw [List.length_cons, List.length_map]
        refine ⟨_, rfl, _, _, rfl, rfl, .inl ⟨by omega, by omega⟩, _, rfl, _, _, rfl, rfl, .inl ⟨by omega, by omega⟩, _, _, rfl, rfl, _, _, rfl, rfl, .inl ⟨_, rfl, _, _, rfl, rfl, (by show (2147483647 : Int) ≠ 0; decide), ?_⟩⟩
        refine ⟨_, rfl, .inl ⟨rfl, _, SqL.of hrow⟩, _, rfl, _, _, rfl, rfl, ⟨by decide, by decide⟩, _, _, rfl, rfl, (by show (59 : Int) ≠ 0; decide), r, _, _, rfl, rfl, hrow, by rw [hl]; exact small5000 (by omega), ?_⟩
        refine ⟨ds' ++ [_], _, _, rfl, e.trans (ExtR.set hrow _), by rw [upd_same, List.map_append]; rfl, by rw [List.length_append]; exact Nat.add_le_add_right hds 1, Int.fmod_nonneg_of_pos _ (by decide), Int.lt_trans (Int.fmod_lt_of_pos _ (by decide)) (by decide)⟩
      · subst hσ
        refine ⟨_, rfl, ?_⟩
        exact hQ r H4 (ExtR.of_free hr0 e3 e) hr0 ⟨1, ds', hrow, Int.le_refl 1, by omega, by omega⟩

end
end N_k04
namespace N_k04
open PySem PySem.Spec PyProof.Rows L2 GenW GE LB
section
variable {P : Program} {w : World} {K : PySem.W.Frag} {mg : Str → Option Value} {base : Heap} (T : Txt K mg base)
theorem ok_may_be_empty_step (n : Nat) (G_may_be_empty : FnOk P w K mg base CX0 (4 * n) T.f_may_be_empty T.d_may_be_empty ["expression", "names"] (spEmp T n)) :
    FnOk P w K mg base CX0 (4 * n + 3 + 1) T.f_may_be_empty T.d_may_be_empty ["expression", "names"] (spEmp T (n + 1)) := by
  have TB := T.TB_may_be_empty
  refine T.D_may_be_empty.okT T.kc_may_be_empty sc_may_be_empty (fun vs H Q E h => ?_) (fun A outer s H vs Q E hr h => ?_)
  · obtain ⟨l, e, v, ns, rfl, _⟩ := h
    rfl
  obtain ⟨l, e, v, ns, rfl, hv, hl, htab, hn, hQ⟩ := h
  refine ⟨_, (pss_cons (ps_set (i := 2) sc_may_be_empty.nd rfl (by first | exact Or.inl rfl | exact Or.inr rfl) (pe_ix (ixT K rfl) (pv 0) pe_int (fun _ _ => rfl)))
    (pss_cons (ps_if (pt_cmpR (inQ K rfl) (pv 2) (pe_glob rfl T.c_ALWAYS_EMPTY T.r_ALWAYS_EMPTY) rfl) (pss_one (ps_ret pe_bl)) pss_nil)
    (pss_cons (ps_if (pt_cmpR op_eq (pv 2) pe_str (nomark _)) (pss_one (ps_ret (pe_cmpR (inQ K rfl) (pe_ix (ixT K rfl) (pv 0) pe_int (fun _ _ => rfl)) (pv 1) rfl))) pss_nil)
    (pss_cons (ps_if (pt_cmpR op_eq (pv 2) pe_str (nomark _)) (pss_one (ps_ret (pe_allG (own := [("part", 3)]) (g := gName 3) (k := 4 * n) (hr.mono (by omega)) (by rfl) T.b_all sc_may_be_empty.nd TB rfl (piT K rfl (pe_ix (ixT K rfl) (pv 0) pe_int (fun _ _ => rfl))) (blkOk_by (N := ["expression", "names", "head", "part"]) (sc := defScope s_may_be_empty) (own := [("part", 3)]) (by decide +kernel)) (by decide +kernel) rfl rfl (fun _ _ _ _ _ _ _ _ => (pg_name (i := 3) sc_may_be_empty.nd rfl (by first | exact Or.inl rfl | exact Or.inr rfl))) (fun _ _ _ _ _ _ _ _ hr => (pe_call G_may_be_empty (hr.mono (by first | omega | decide)) rfl T.D_may_be_empty.m T.D_may_be_empty.F.kp T.D_may_be_empty.b .nil pass0 (pa_cons (pv 3) (pa_cons (pv 1) pa_nil))))))) pss_nil)
    (pss_cons (ps_if (pt_cmpR op_eq (pv 2) pe_str (nomark _)) (pss_one (ps_ret (pe_anyG (own := [("part", 3)]) (g := gName 3) (k := 4 * n) (hr.mono (by omega)) (by rfl) T.b_any sc_may_be_empty.nd TB rfl (piT K rfl (pe_ix (ixT K rfl) (pv 0) pe_int (fun _ _ => rfl))) (blkOk_by (N := ["expression", "names", "head", "part"]) (sc := defScope s_may_be_empty) (own := [("part", 3)]) (by decide +kernel)) (by decide +kernel) rfl rfl (fun _ _ _ _ _ _ _ _ => (pg_name (i := 3) sc_may_be_empty.nd rfl (by first | exact Or.inl rfl | exact Or.inr rfl))) (fun _ _ _ _ _ _ _ _ hr => (pe_call G_may_be_empty (hr.mono (by first | omega | decide)) rfl T.D_may_be_empty.m T.D_may_be_empty.F.kp T.D_may_be_empty.b .nil pass0 (pa_cons (pv 3) (pa_cons (pv 1) pa_nil))))))) pss_nil)
    (pss_one (ps_ret (pe_and (pe_cmpR op_eq (pv 2) pe_str (nomark _)) (pe_one (pe_call G_may_be_empty (hr.mono (by first | omega | decide)) rfl T.D_may_be_empty.m T.D_may_be_empty.F.kp T.D_may_be_empty.b .nil pass0 (pa_cons (pe_ix (ixT K rfl) (pv 0) pe_int (fun _ _ => rfl)) (pa_cons (pv 1) pa_nil)))))))))))), ?_⟩
  cases e with
  | eps =>
    obtain ⟨a, rfl, ha⟩ := hv.one
    refine ⟨_, rfl, a, _, _, _, rfl, rfl, SqT.of ha, at0, _, rfl, _, _, rfl, .inr (T.v_ALWAYS_EMPTY _), rfl, rfl, _, rfl, ?_⟩
    exact ite_t (by decide +kernel) (hQ H (Ext.refl H))
  | star e =>
    obtain ⟨a, u, rfl, ha, hu⟩ := hv.two
    refine ⟨_, rfl, a, _, _, _, rfl, rfl, SqT.of ha, at0, _, rfl, _, _, rfl, .inr (T.v_ALWAYS_EMPTY _), rfl, rfl, _, rfl, ?_⟩
    exact ite_t (by decide +kernel) (hQ H (Ext.refl H))
  | opt e =>
    obtain ⟨a, u, rfl, ha, hu⟩ := hv.two
    refine ⟨_, rfl, a, _, _, _, rfl, rfl, SqT.of ha, at0, _, rfl, _, _, rfl, .inr (T.v_ALWAYS_EMPTY _), rfl, rfl, _, rfl, ?_⟩
    exact ite_t (by decide +kernel) (hQ H (Ext.refl H))
  | nt e =>
    obtain ⟨a, u, rfl, ha, hu⟩ := hv.two
    refine ⟨_, rfl, a, _, _, _, rfl, rfl, SqT.of ha, at0, _, rfl, _, _, rfl, .inr (T.v_ALWAYS_EMPTY _), rfl, rfl, _, rfl, ?_⟩
    exact ite_t (by decide +kernel) (hQ H (Ext.refl H))
  | an e =>
    obtain ⟨a, u, rfl, ha, hu⟩ := hv.two
    refine ⟨_, rfl, a, _, _, _, rfl, rfl, SqT.of ha, at0, _, rfl, _, _, rfl, .inr (T.v_ALWAYS_EMPTY _), rfl, rfl, _, rfl, ?_⟩
    exact ite_t (by decide +kernel) (hQ H (Ext.refl H))
  | fail =>
    obtain ⟨a, rfl, ha⟩ := hv.one
    refine ⟨_, rfl, a, _, _, _, rfl, rfl, SqT.of ha, at0, _, rfl, _, _, rfl, .inr (T.v_ALWAYS_EMPTY _), rfl, rfl, _, rfl, ite_f (by decide +kernel) ?_⟩
    refine ⟨_, rfl, rfl, _, rfl, ite_f (by decide +kernel) ⟨_, rfl, rfl, _, rfl, ite_f (by decide +kernel) ⟨_, rfl, rfl, _, rfl, ite_f (by decide +kernel) ?_⟩⟩⟩
    exact ⟨_, rfl, rfl, _, rfl, ite_f (by decide +kernel) (hQ H (Ext.refl H))⟩
  | any =>
    obtain ⟨a, rfl, ha⟩ := hv.one
    refine ⟨_, rfl, a, _, _, _, rfl, rfl, SqT.of ha, at0, _, rfl, _, _, rfl, .inr (T.v_ALWAYS_EMPTY _), rfl, rfl, _, rfl, ite_f (by decide +kernel) ?_⟩
    refine ⟨_, rfl, rfl, _, rfl, ite_f (by decide +kernel) ⟨_, rfl, rfl, _, rfl, ite_f (by decide +kernel) ⟨_, rfl, rfl, _, rfl, ite_f (by decide +kernel) ?_⟩⟩⟩
    exact ⟨_, rfl, rfl, _, rfl, ite_f (by decide +kernel) (hQ H (Ext.refl H))⟩
  | set z =>
    obtain ⟨a, u, rfl, ha, hu⟩ := hv.two
    refine ⟨_, rfl, a, _, _, _, rfl, rfl, SqT.of ha, at0, _, rfl, _, _, rfl, .inr (T.v_ALWAYS_EMPTY _), rfl, rfl, _, rfl, ite_f (by decide +kernel) ?_⟩
    refine ⟨_, rfl, rfl, _, rfl, ite_f (by decide +kernel) ⟨_, rfl, rfl, _, rfl, ite_f (by decide +kernel) ⟨_, rfl, rfl, _, rfl, ite_f (by decide +kernel) ?_⟩⟩⟩
    exact ⟨_, rfl, rfl, _, rfl, ite_f (by decide +kernel) (hQ H (Ext.refl H))⟩
  | text z =>
    obtain ⟨a, u, rfl, ha, hu⟩ := hv.two
    refine ⟨_, rfl, a, _, _, _, rfl, rfl, SqT.of ha, at0, _, rfl, _, _, rfl, .inr (T.v_ALWAYS_EMPTY _), rfl, rfl, _, rfl, ite_f (by decide +kernel) ?_⟩
    refine ⟨_, rfl, rfl, _, rfl, ite_f (by decide +kernel) ⟨_, rfl, rfl, _, rfl, ite_f (by decide +kernel) ⟨_, rfl, rfl, _, rfl, ite_f (by decide +kernel) ?_⟩⟩⟩
    exact ⟨_, rfl, rfl, _, rfl, ite_f (by decide +kernel) (hQ H (Ext.refl H))⟩
  | call z =>
    obtain ⟨a, u, rfl, ha, hu⟩ := hv.two
    cases hu.strI
    refine ⟨_, rfl, a, _, _, _, rfl, rfl, SqT.of ha, at0, _, rfl, _, _, rfl, .inr (T.v_ALWAYS_EMPTY _), rfl, rfl, _, rfl, ite_f (by decide +kernel) ?_⟩
    refine ⟨_, rfl, rfl, _, rfl, ite_t (by decide +kernel) ?_⟩
    refine ⟨_, rfl, a, _, _, _, rfl, rfl, SqT.of ha, at1, _, rfl, l, _, rfl, .inl (SqL.of hl), rfl, flat_strs ns, ?_⟩
    have q := hQ H (Ext.refl H)
    rw [Ex.emp, ← inV_str] at q
    exact q
  | mark z e =>
    obtain ⟨a, u, u2, rfl, ha, hu, hu2⟩ := hv.three
    refine ⟨_, rfl, a, _, _, _, rfl, rfl, SqT.of ha, at0, _, rfl, _, _, rfl, .inr (T.v_ALWAYS_EMPTY _), rfl, rfl, _, rfl, ite_f (by decide +kernel) ?_⟩
    refine ⟨_, rfl, rfl, _, rfl, ite_f (by decide +kernel) ⟨_, rfl, rfl, _, rfl, ite_f (by decide +kernel) ⟨_, rfl, rfl, _, rfl, ite_f (by decide +kernel) ?_⟩⟩⟩
    refine ⟨_, rfl, rfl, _, rfl, ite_t (by decide +kernel) ?_⟩
    refine ⟨_, rfl, a, _, _, _, rfl, rfl, SqT.of ha, at2, _, rfl, ?_⟩
    rw [Ex.dep] at hn
    exact ⟨l, e, u2, ns, rfl, hu2, hl, htab, by omega, fun H' e' => hQ H' e'⟩
  | seq es =>
    obtain ⟨a, u, rfl, ha, hu⟩ := hv.two
    obtain ⟨b, vs, rfl, hb, hs⟩ := hu.tupI
    rw [Ex.dep] at hn
    have hlen : vs.length = es.length := by rw [hs.len, Ex.pys_len]
    refine ⟨_, rfl, a, _, _, _, rfl, rfl, SqT.of ha, at0, _, rfl, _, _, rfl, .inr (T.v_ALWAYS_EMPTY _), rfl, rfl, _, rfl, ite_f (by decide +kernel) ?_⟩
    refine ⟨_, rfl, rfl, _, rfl, ite_f (by decide +kernel) ⟨_, rfl, rfl, _, rfl, ite_t (by decide +kernel) ?_⟩⟩
    refine ⟨_, rfl, a, _, _, _, rfl, rfl, SqT.of ha, at1, b, rfl, ⟨_, SqT.of hb⟩, htab, fun H2 htb => ?_⟩
    have e2 : Ext H H2 := Ext.tab htab htb
    refine ⟨vs.length, fun i H' => Ext H H' ∧ ∀ (j : Nat) x, j < i → es[j]? = some x → x.emp ns = true, ⟨e2, fun j x hj => absurd hj (Nat.not_lt_zero _)⟩, turns_tup (xs := vs) (fun i H' _ w => SqT.of (w.1.tup hb)) (fun i x H' hx ⟨e', w⟩ => ?_) (fun H' ⟨e', w⟩ => ?_)⟩
    · obtain ⟨d, hd, hx2⟩ := DAs.get' (DAs.ext (e'.toR 0) _ _ hs) hx
      obtain ⟨e, he, rfl⟩ := Ex.pys_get hd
      have hdep := Ex.deps_get he
      refine ⟨rfl, _, rfl, _, rfl, l, e, x, ns, rfl, hx2, e'.lst hl, e'.tabG htab, by omega, fun H4 e4 => ?_⟩
      refine ⟨_, rfl, fun q => ⟨e'.trans e4, fun j y hj hy => ?_⟩, fun q => ?_⟩
      · rcases Nat.lt_or_ge j i with z | z
        · exact w j y z hy
        · have : j = i := by omega
          subst this
          rw [he] at hy
          cases hy
          exact q
      · have q2 := hQ H4 (e'.trans e4)
        rw [Ex.emp, Ex.empAll_eq, all_at he q] at q2
        exact q2
    · have q2 := hQ H' e'
      rw [Ex.emp, Ex.empAll_eq, all_upto (fun j x hx => w j x (by rw [hlen]; exact (List.getElem?_eq_some_iff.mp hx).1) hx)] at q2
      exact q2
  | alt es =>
    obtain ⟨a, u, rfl, ha, hu⟩ := hv.two
    obtain ⟨b, vs, rfl, hb, hs⟩ := hu.tupI
    rw [Ex.dep] at hn
    have hlen : vs.length = es.length := by rw [hs.len, Ex.pys_len]
    refine ⟨_, rfl, a, _, _, _, rfl, rfl, SqT.of ha, at0, _, rfl, _, _, rfl, .inr (T.v_ALWAYS_EMPTY _), rfl, rfl, _, rfl, ite_f (by decide +kernel) ?_⟩
    refine ⟨_, rfl, rfl, _, rfl, ite_f (by decide +kernel) ⟨_, rfl, rfl, _, rfl, ite_f (by decide +kernel) ⟨_, rfl, rfl, _, rfl, ite_t (by decide +kernel) ?_⟩⟩⟩
    refine ⟨_, rfl, a, _, _, _, rfl, rfl, SqT.of ha, at1, b, rfl, ⟨_, SqT.of hb⟩, htab, fun H2 htb => ?_⟩
    have e2 : Ext H H2 := Ext.tab htab htb
    refine ⟨vs.length, fun i H' => Ext H H' ∧ ∀ (j : Nat) x, j < i → es[j]? = some x → x.emp ns = false, ⟨e2, fun j x hj => absurd hj (Nat.not_lt_zero _)⟩, turns_tup (xs := vs) (fun i H' _ w => SqT.of (w.1.tup hb)) (fun i x H' hx ⟨e', w⟩ => ?_) (fun H' ⟨e', w⟩ => ?_)⟩
    · obtain ⟨d, hd, hx2⟩ := DAs.get' (DAs.ext (e'.toR 0) _ _ hs) hx
      obtain ⟨e, he, rfl⟩ := Ex.pys_get hd
      have hdep := Ex.deps_get he
      refine ⟨rfl, _, rfl, _, rfl, l, e, x, ns, rfl, hx2, e'.lst hl, e'.tabG htab, by omega, fun H4 e4 => ?_⟩
      refine ⟨_, rfl, fun q => ⟨e'.trans e4, fun j y hj hy => ?_⟩, fun q => ?_⟩
      · rcases Nat.lt_or_ge j i with z | z
        · exact w j y z hy
        · have : j = i := by omega
          subst this
          rw [he] at hy
          cases hy
          exact q
      · have q2 := hQ H4 (e'.trans e4)
        rw [Ex.emp, Ex.empAny_eq, any_at he q] at q2
        exact q2
    · have q2 := hQ H' e'
      rw [Ex.emp, Ex.empAny_eq, any_upto (fun j x hx => w j x (by rw [hlen]; exact (List.getElem?_eq_some_iff.mp hx).1) hx)] at q2
      exact q2
theorem ok_may_be_empty : ∀ n : Nat, FnOk P w K mg base CX0 (4 * n) T.f_may_be_empty T.d_may_be_empty ["expression", "names"] (spEmp T n)
  | 0 => by
    have no : ∀ vs H Q E, ¬ spEmp T 0 vs H Q E := fun vs H Q E h => by
      obtain ⟨l, e, v, ns, _, _, _, _, hn, _⟩ := h
      have := e.dep_pos
      omega
    exact ⟨fun vs H Q E h => absurd h (no vs H Q E), fun A outer s H args us vs Q E _ _ _ _ h => absurd h (no vs H Q E)⟩
  | n + 1 => ok_may_be_empty_step T n (ok_may_be_empty n)

end
end N_k04
namespace N_k04
open PySem PySem.Spec PyProof.Rows L2 GenW GE LB
section
variable {P : Program} {w : World} {K : PySem.W.Frag} {mg : Str → Option Value} {base : Heap} (T : Txt K mg base)
theorem ok__law_empty_step (n : Nat) (G__law_empty : FnOk P w K mg base CX0 n T.f__law_empty T.d__law_empty ["expression", "names"] (spLEmp n)) :
    FnOk P w K mg base CX0 (n + 1) T.f__law_empty T.d__law_empty ["expression", "names"] (spLEmp (n + 1)) := by
  refine T.D__law_empty.ok sc__law_empty (fun vs H Q E h => ?_) (fun cdv A outer s H vs Q E hr h => ?_)
  · obtain ⟨l, e, v, ns, rfl, _⟩ := h
    rfl
  obtain ⟨l, e, v, ns, rfl, hv, hl, hn, hw, hQ⟩ := h
  refine ⟨_, (pss_cons (ps_set (i := 2) sc__law_empty.nd rfl (by first | exact Or.inl rfl | exact Or.inr rfl) (pe_ix (ixT K rfl) (pv 0) pe_int (fun _ _ => rfl)))
    (pss_cons (ps_if (pt_cmpR (inQ K rfl) (pv 2) (pe_tup (pa_cons pe_str (pa_cons pe_str (pa_cons pe_str (pa_cons pe_str (pa_cons pe_str pa_nil)))))) rfl) (pss_one (ps_ret pe_bl)) pss_nil)
    (pss_cons (ps_if (pt_cmpR op_eq (pv 2) pe_str (nomark _)) (pss_one (ps_ret (pe_cmpR (inQ K rfl) (pe_ix (ixT K rfl) (pv 0) pe_int (fun _ _ => rfl)) (pv 1) rfl))) pss_nil)
    (pss_cons (ps_if (pt_cmpR op_eq (pv 2) pe_str (nomark _)) (pss_one (ps_ret (pe_cmpR op_eq (pe_callB (lenQ K rfl) (by rfl) T.b_len PySem.boot_len (pa_cons (pe_lc (own := [("part", 3)]) (g := gName 3) rfl sc__law_empty.nd (piT K rfl (pe_ix (ixT K rfl) (pv 0) pe_int (fun _ _ => rfl))) (blkOk_by (N := ["expression", "names", "head", "part"]) (sc := defScope s__law_empty) (own := [("part", 3)]) (by decide +kernel)) (fun _ _ _ _ _ => (pg_name (i := 3) sc__law_empty.nd rfl (by first | exact Or.inl rfl | exact Or.inr rfl))) (fun _ _ _ _ _ => (pts_one (pt_not (pt_val (pe_call G__law_empty (hr.mono (by first | omega | decide)) rfl T.D__law_empty.m T.D__law_empty.F.kp T.D__law_empty.b .nil pass0 (pa_cons (pv 3) (pa_cons (pv 1) pa_nil))))))) (fun _ _ _ _ _ => (pv 3))) pa_nil)) pe_int (nomark _)))) pss_nil)
    (pss_cons (ps_if (pt_cmpR op_eq (pv 2) pe_str (nomark _)) (pss_one (ps_ret (pe_cmpR op_gt (pe_callB (lenQ K rfl) (by rfl) T.b_len PySem.boot_len (pa_cons (pe_lc (own := [("part", 3)]) (g := gName 3) rfl sc__law_empty.nd (piT K rfl (pe_ix (ixT K rfl) (pv 0) pe_int (fun _ _ => rfl))) (blkOk_by (N := ["expression", "names", "head", "part"]) (sc := defScope s__law_empty) (own := [("part", 3)]) (by decide +kernel)) (fun _ _ _ _ _ => (pg_name (i := 3) sc__law_empty.nd rfl (by first | exact Or.inl rfl | exact Or.inr rfl))) (fun _ _ _ _ _ => (pts_one (pt_val (pe_call G__law_empty (hr.mono (by first | omega | decide)) rfl T.D__law_empty.m T.D__law_empty.F.kp T.D__law_empty.b .nil pass0 (pa_cons (pv 3) (pa_cons (pv 1) pa_nil)))))) (fun _ _ _ _ _ => (pv 3))) pa_nil)) pe_int (nomark _)))) pss_nil)
    (pss_cons (ps_if (pt_cmpR op_eq (pv 2) pe_str (nomark _)) (pss_one (ps_ret (pe_call G__law_empty (hr.mono (by first | omega | decide)) rfl T.D__law_empty.m T.D__law_empty.F.kp T.D__law_empty.b .nil pass0 (pa_cons (pe_ix (ixT K rfl) (pv 0) pe_int (fun _ _ => rfl)) (pa_cons (pv 1) pa_nil))))) pss_nil)
    (pss_one (ps_ret pe_bl)))))))), ?_⟩
  have tup5 : (5 : Nat) ≤ sizeLine := by decide
  cases e with
  | eps =>
    obtain ⟨a, rfl, ha⟩ := hv.one
    refine ⟨_, rfl, a, _, _, _, rfl, rfl, SqT.of ha, at0, _, rfl, tup5, fun p hp => ⟨p, _, rfl, .inr (SqT.of upd_same), rfl, rfl, _, rfl, ite_t (by decide +kernel) ?_⟩⟩
    have e1 := Ext.new hp (.tup [.str "eps", .str "star", .str "opt", .str "not", .str "and"])
    generalize upd H p (.tup [.str "eps", .str "star", .str "opt", .str "not", .str "and"]) = H1 at e1
    exact hQ _ e1
  | star e =>
    obtain ⟨a, u, rfl, ha, hu⟩ := hv.two
    refine ⟨_, rfl, a, _, _, _, rfl, rfl, SqT.of ha, at0, _, rfl, tup5, fun p hp => ⟨p, _, rfl, .inr (SqT.of upd_same), rfl, rfl, _, rfl, ite_t (by decide +kernel) ?_⟩⟩
    have e1 := Ext.new hp (.tup [.str "eps", .str "star", .str "opt", .str "not", .str "and"])
    generalize upd H p (.tup [.str "eps", .str "star", .str "opt", .str "not", .str "and"]) = H1 at e1
    exact hQ _ e1
  | opt e =>
    obtain ⟨a, u, rfl, ha, hu⟩ := hv.two
    refine ⟨_, rfl, a, _, _, _, rfl, rfl, SqT.of ha, at0, _, rfl, tup5, fun p hp => ⟨p, _, rfl, .inr (SqT.of upd_same), rfl, rfl, _, rfl, ite_t (by decide +kernel) ?_⟩⟩
    have e1 := Ext.new hp (.tup [.str "eps", .str "star", .str "opt", .str "not", .str "and"])
    generalize upd H p (.tup [.str "eps", .str "star", .str "opt", .str "not", .str "and"]) = H1 at e1
    exact hQ _ e1
  | nt e =>
    obtain ⟨a, u, rfl, ha, hu⟩ := hv.two
    refine ⟨_, rfl, a, _, _, _, rfl, rfl, SqT.of ha, at0, _, rfl, tup5, fun p hp => ⟨p, _, rfl, .inr (SqT.of upd_same), rfl, rfl, _, rfl, ite_t (by decide +kernel) ?_⟩⟩
    have e1 := Ext.new hp (.tup [.str "eps", .str "star", .str "opt", .str "not", .str "and"])
    generalize upd H p (.tup [.str "eps", .str "star", .str "opt", .str "not", .str "and"]) = H1 at e1
    exact hQ _ e1
  | an e =>
    obtain ⟨a, u, rfl, ha, hu⟩ := hv.two
    refine ⟨_, rfl, a, _, _, _, rfl, rfl, SqT.of ha, at0, _, rfl, tup5, fun p hp => ⟨p, _, rfl, .inr (SqT.of upd_same), rfl, rfl, _, rfl, ite_t (by decide +kernel) ?_⟩⟩
    have e1 := Ext.new hp (.tup [.str "eps", .str "star", .str "opt", .str "not", .str "and"])
    generalize upd H p (.tup [.str "eps", .str "star", .str "opt", .str "not", .str "and"]) = H1 at e1
    exact hQ _ e1
  | fail =>
    obtain ⟨a, rfl, ha⟩ := hv.one
    refine ⟨_, rfl, a, _, _, _, rfl, rfl, SqT.of ha, at0, _, rfl, tup5, fun p hp => ⟨p, _, rfl, .inr (SqT.of upd_same), rfl, rfl, _, rfl, ite_f (by decide +kernel) ?_⟩⟩
    have e1 := Ext.new hp (.tup [.str "eps", .str "star", .str "opt", .str "not", .str "and"])
    generalize upd H p (.tup [.str "eps", .str "star", .str "opt", .str "not", .str "and"]) = H1 at e1
    exact ⟨_, rfl, rfl, _, rfl, ite_f (by decide +kernel) ⟨_, rfl, rfl, _, rfl, ite_f (by decide +kernel) ⟨_, rfl, rfl, _, rfl, ite_f (by decide +kernel) ⟨_, rfl, rfl, _, rfl, ite_f (by decide +kernel) (hQ _ e1)⟩⟩⟩⟩
  | any =>
    obtain ⟨a, rfl, ha⟩ := hv.one
    refine ⟨_, rfl, a, _, _, _, rfl, rfl, SqT.of ha, at0, _, rfl, tup5, fun p hp => ⟨p, _, rfl, .inr (SqT.of upd_same), rfl, rfl, _, rfl, ite_f (by decide +kernel) ?_⟩⟩
    have e1 := Ext.new hp (.tup [.str "eps", .str "star", .str "opt", .str "not", .str "and"])
    generalize upd H p (.tup [.str "eps", .str "star", .str "opt", .str "not", .str "and"]) = H1 at e1
    exact ⟨_, rfl, rfl, _, rfl, ite_f (by decide +kernel) ⟨_, rfl, rfl, _, rfl, ite_f (by decide +kernel) ⟨_, rfl, rfl, _, rfl, ite_f (by decide +kernel) ⟨_, rfl, rfl, _, rfl, ite_f (by decide +kernel) (hQ _ e1)⟩⟩⟩⟩
  | set z =>
    obtain ⟨a, u, rfl, ha, hu⟩ := hv.two
    refine ⟨_, rfl, a, _, _, _, rfl, rfl, SqT.of ha, at0, _, rfl, tup5, fun p hp => ⟨p, _, rfl, .inr (SqT.of upd_same), rfl, rfl, _, rfl, ite_f (by decide +kernel) ?_⟩⟩
    have e1 := Ext.new hp (.tup [.str "eps", .str "star", .str "opt", .str "not", .str "and"])
    generalize upd H p (.tup [.str "eps", .str "star", .str "opt", .str "not", .str "and"]) = H1 at e1
    exact ⟨_, rfl, rfl, _, rfl, ite_f (by decide +kernel) ⟨_, rfl, rfl, _, rfl, ite_f (by decide +kernel) ⟨_, rfl, rfl, _, rfl, ite_f (by decide +kernel) ⟨_, rfl, rfl, _, rfl, ite_f (by decide +kernel) (hQ _ e1)⟩⟩⟩⟩
  | text z =>
    obtain ⟨a, u, rfl, ha, hu⟩ := hv.two
    refine ⟨_, rfl, a, _, _, _, rfl, rfl, SqT.of ha, at0, _, rfl, tup5, fun p hp => ⟨p, _, rfl, .inr (SqT.of upd_same), rfl, rfl, _, rfl, ite_f (by decide +kernel) ?_⟩⟩
    have e1 := Ext.new hp (.tup [.str "eps", .str "star", .str "opt", .str "not", .str "and"])
    generalize upd H p (.tup [.str "eps", .str "star", .str "opt", .str "not", .str "and"]) = H1 at e1
    exact ⟨_, rfl, rfl, _, rfl, ite_f (by decide +kernel) ⟨_, rfl, rfl, _, rfl, ite_f (by decide +kernel) ⟨_, rfl, rfl, _, rfl, ite_f (by decide +kernel) ⟨_, rfl, rfl, _, rfl, ite_f (by decide +kernel) (hQ _ e1)⟩⟩⟩⟩
  | call z =>
    obtain ⟨a, u, rfl, ha, hu⟩ := hv.two
    cases hu.strI
    refine ⟨_, rfl, a, _, _, _, rfl, rfl, SqT.of ha, at0, _, rfl, tup5, fun p hp => ⟨p, _, rfl, .inr (SqT.of upd_same), rfl, rfl, _, rfl, ite_f (by decide +kernel) ?_⟩⟩
    have e1 := Ext.new hp (.tup [.str "eps", .str "star", .str "opt", .str "not", .str "and"])
    generalize upd H p (.tup [.str "eps", .str "star", .str "opt", .str "not", .str "and"]) = H1 at e1
    refine ⟨_, rfl, rfl, _, rfl, ite_t (by decide +kernel) ?_⟩
    refine ⟨_, rfl, a, _, _, _, rfl, rfl, SqT.of (e1.tup ha), at1, _, rfl, l, _, rfl, .inl (SqL.of (e1.lst hl)), rfl, flat_strs ns, ?_⟩
    have q := hQ _ e1
    rw [Ex.emp, ← inV_str] at q
    exact q
  | mark z e =>
    obtain ⟨a, u, u2, rfl, ha, hu, hu2⟩ := hv.three
    refine ⟨_, rfl, a, _, _, _, rfl, rfl, SqT.of ha, at0, _, rfl, tup5, fun p hp => ⟨p, _, rfl, .inr (SqT.of upd_same), rfl, rfl, _, rfl, ite_f (by decide +kernel) ?_⟩⟩
    have e1 := Ext.new hp (.tup [.str "eps", .str "star", .str "opt", .str "not", .str "and"])
    generalize upd H p (.tup [.str "eps", .str "star", .str "opt", .str "not", .str "and"]) = H1 at e1
    rw [Ex.dep] at hn
    rw [Ex.wid] at hw
    refine ⟨_, rfl, rfl, _, rfl, ite_f (by decide +kernel) ⟨_, rfl, rfl, _, rfl, ite_f (by decide +kernel) ⟨_, rfl, rfl, _, rfl, ite_f (by decide +kernel) ⟨_, rfl, rfl, _, rfl, ite_t (by decide +kernel) ?_⟩⟩⟩⟩
    refine ⟨_, rfl, a, _, _, _, rfl, rfl, SqT.of (e1.tup ha), at2, _, rfl, ?_⟩
    exact ⟨l, e, u2, ns, rfl, hu2.ext (e1.toR 0), e1.lst hl, by omega, hw, fun H' e' => hQ H' (e1.trans e')⟩
  | seq es =>
    obtain ⟨a, u, rfl, ha, hu⟩ := hv.two
    obtain ⟨b, vs, rfl, hb, hs⟩ := hu.tupI
    rw [Ex.dep] at hn
    rw [Ex.wid] at hw
    have hlen : vs.length = es.length := by rw [hs.len, Ex.pys_len]
    refine ⟨_, rfl, a, _, _, _, rfl, rfl, SqT.of ha, at0, _, rfl, tup5, fun p hp => ⟨p, _, rfl, .inr (SqT.of upd_same), rfl, rfl, _, rfl, ite_f (by decide +kernel) ?_⟩⟩
    have e1 := Ext.new hp (.tup [.str "eps", .str "star", .str "opt", .str "not", .str "and"])
    generalize upd H p (.tup [.str "eps", .str "star", .str "opt", .str "not", .str "and"]) = H1 at e1
    refine ⟨_, rfl, rfl, _, rfl, ite_f (by decide +kernel) ⟨_, rfl, rfl, _, rfl, ite_t (by decide +kernel) ?_⟩⟩
    refine ⟨_, rfl, a, _, _, _, rfl, rfl, SqT.of (e1.tup ha), at1, b, rfl, ⟨_, SqT.of (e1.tup hb)⟩, fun D hD => ?_⟩
    refine lc_tup (K := K) (a := b) (xs := vs) (fun i H' => ∃ acc : List V, Ext H1 H' ∧ H' D = some (.lst acc) ∧ acc.length = ((es.take i).filter (fun e : Ex => !e.emp ns)).length)
      ⟨[], Ext.new hD _, upd_same, rfl⟩ (fun i H' _ ⟨acc, e', _⟩ => SqT.of (e'.tup (e1.tup hb))) (fun i x H' hx ⟨acc, e', hacc, hal⟩ => ?_) (fun H' ⟨acc, e', hacc, hal⟩ => ?_)
    · obtain ⟨d, hd, hx2⟩ := DAs.get' (DAs.ext ((e1.trans e').toR 0) _ _ hs) hx
      obtain ⟨e, he, rfl⟩ := Ex.pys_get hd
      have hdep := Ex.deps_get he
      have hwid := Ex.wids_get he
      have hle := filter_le (fun e : Ex => !e.emp ns) es i
      refine ⟨rfl, _, rfl, _, rfl, l, e, x, ns, rfl, hx2, e'.lst (e1.lst hl), by omega, by omega, fun H4 e4 => ⟨_, rfl, ?_⟩⟩
      refine ite2 (fun c => ?_) (fun c => ?_)
      · refine ⟨_, rfl, acc, e4.lst hacc, by rw [hal]; exact small5000 (by omega), acc ++ [x], ExtR.of_free hD (e'.trans e4) (ExtR.set (e4.lst hacc) _), upd_same, ?_⟩
        rw [filter_at _ he, if_pos c, List.length_append, List.length_append, hal]; rfl
      · refine ⟨acc, e'.trans e4, e4.lst hacc, ?_⟩
        rw [filter_at _ he, if_neg c, List.append_nil, hal]
    · refine ⟨D, _, rfl, .inl (SqL.of hacc), ?_⟩
      refine ⟨rfl, ?_⟩
      have q := hQ H' (e1.trans e')
      rw [Ex.emp, Ex.empAll_eq] at q
      rw [hlen, List.take_length] at hal
      rw [dec_len0, hal, filter_none]
      simpa using q
  | alt es =>
    obtain ⟨a, u, rfl, ha, hu⟩ := hv.two
    obtain ⟨b, vs, rfl, hb, hs⟩ := hu.tupI
    rw [Ex.dep] at hn
    rw [Ex.wid] at hw
    have hlen : vs.length = es.length := by rw [hs.len, Ex.pys_len]
    refine ⟨_, rfl, a, _, _, _, rfl, rfl, SqT.of ha, at0, _, rfl, tup5, fun p hp => ⟨p, _, rfl, .inr (SqT.of upd_same), rfl, rfl, _, rfl, ite_f (by decide +kernel) ?_⟩⟩
    have e1 := Ext.new hp (.tup [.str "eps", .str "star", .str "opt", .str "not", .str "and"])
    generalize upd H p (.tup [.str "eps", .str "star", .str "opt", .str "not", .str "and"]) = H1 at e1
    refine ⟨_, rfl, rfl, _, rfl, ite_f (by decide +kernel) ⟨_, rfl, rfl, _, rfl, ite_f (by decide +kernel) ⟨_, rfl, rfl, _, rfl, ite_t (by decide +kernel) ?_⟩⟩⟩
    refine ⟨_, rfl, a, _, _, _, rfl, rfl, SqT.of (e1.tup ha), at1, b, rfl, ⟨_, SqT.of (e1.tup hb)⟩, fun D hD => ?_⟩
    refine lc_tup (K := K) (a := b) (xs := vs) (fun i H' => ∃ acc : List V, Ext H1 H' ∧ H' D = some (.lst acc) ∧ acc.length = ((es.take i).filter (fun e : Ex => e.emp ns)).length)
      ⟨[], Ext.new hD _, upd_same, rfl⟩ (fun i H' _ ⟨acc, e', _⟩ => SqT.of (e'.tup (e1.tup hb))) (fun i x H' hx ⟨acc, e', hacc, hal⟩ => ?_) (fun H' ⟨acc, e', hacc, hal⟩ => ?_)
    · obtain ⟨d, hd, hx2⟩ := DAs.get' (DAs.ext ((e1.trans e').toR 0) _ _ hs) hx
      obtain ⟨e, he, rfl⟩ := Ex.pys_get hd
      have hdep := Ex.deps_get he
      have hwid := Ex.wids_get he
      have hle := filter_le (fun e : Ex => e.emp ns) es i
      refine ⟨rfl, _, rfl, _, rfl, l, e, x, ns, rfl, hx2, e'.lst (e1.lst hl), by omega, by omega, fun H4 e4 => ⟨_, rfl, ?_⟩⟩
      refine ite2 (fun c => ?_) (fun c => ?_)
      · refine ⟨_, rfl, acc, e4.lst hacc, by rw [hal]; exact small5000 (by omega), acc ++ [x], ExtR.of_free hD (e'.trans e4) (ExtR.set (e4.lst hacc) _), upd_same, ?_⟩
        rw [filter_at _ he, if_pos c, List.length_append, List.length_append, hal]; rfl
      · refine ⟨acc, e'.trans e4, e4.lst hacc, ?_⟩
        rw [filter_at _ he, if_neg c, List.append_nil, hal]
    · refine ⟨D, _, rfl, .inl (SqL.of hacc), ?_⟩
      refine ⟨_, _, rfl, rfl, ?_⟩
      have q := hQ H' (e1.trans e')
      rw [Ex.emp, Ex.empAny_eq] at q
      rw [hlen, List.take_length] at hal
      show Q (.bl (decide ((0 : Int) < (acc.length : Int)))) H'
      rw [dec_pos, hal, filter_some]
      exact q
theorem ok__law_empty : ∀ n : Nat, FnOk P w K mg base CX0 n T.f__law_empty T.d__law_empty ["expression", "names"] (spLEmp n)
  | 0 => by
    have no : ∀ vs H Q E, ¬ spLEmp 0 vs H Q E := fun vs H Q E h => by
      obtain ⟨l, e, v, ns, _, _, _, hn, _⟩ := h
      have := e.dep_pos
      omega
    exact ⟨fun vs H Q E h => absurd h (no vs H Q E), fun A outer s H args us vs Q E _ _ _ _ h => absurd h (no vs H Q E)⟩
  | n + 1 => ok__law_empty_step T n (ok__law_empty n)

end
end N_k04
namespace N_k04
open PySem PySem.Spec PyProof.Rows L2 GenW GE LB
section
variable {P : Program} {w : World} {K : PySem.W.Frag} {mg : Str → Option Value} {base : Heap} (T : Txt K mg base)
theorem ok__law_empties (n : Nat) (G__law_empty : FnOk P w K mg base CX0 n T.f__law_empty T.d__law_empty ["expression", "names"] (spLEmp n)) :
    FnOk P w K mg base CX0 (n + 1) T.f__law_empties T.d__law_empties ["grammar"] (spLEmpties n) := by
  refine T.D__law_empties.ok sc__law_empties (fun vs H Q E h => ?_) (fun cdv A outer s H vs Q E hr h => ?_)
  · obtain ⟨g, v, rfl, _⟩ := h
    rfl
  obtain ⟨g, v, rfl, hv, hg, hQ⟩ := h
  obtain ⟨ga, gs, rfl, hga, hgs, hgl⟩ := grI hv
  refine ⟨_, (pss_cons (ps_set (i := 1) sc__law_empties.nd rfl (by first | exact Or.inl rfl | exact Or.inr rfl) (pe_lst pa_nil))
    (pss_cons (ps_for PassesOwn.never rfl (pi_range1 (by rfl) T.b_range (pa_cons (pe_op op_add (pe_callB (lenQ K rfl) (by rfl) T.b_len PySem.boot_len (pa_cons (pv 0) pa_nil)) pe_int) pa_nil)) (pg_name (i := 2) sc__law_empties.nd rfl (by first | exact Or.inl rfl | exact Or.inr rfl)) (pss_one (ps_set (i := 1) sc__law_empties.nd rfl (by first | exact Or.inl rfl | exact Or.inr rfl) (pe_lc (own := [("rule", 3)]) (g := gName 3) rfl sc__law_empties.nd (piT K rfl (pv 0)) (blkOk_by (N := ["grammar", "names", "turn", "rule"]) (sc := defScope s__law_empties) (own := [("rule", 3)]) (by decide +kernel)) (fun _ _ _ _ _ => (pg_name (i := 3) sc__law_empties.nd rfl (by first | exact Or.inl rfl | exact Or.inr rfl))) (fun _ _ _ _ _ => (pts_one (pt_val (pe_call G__law_empty (hr.mono (by first | omega | decide)) rfl T.D__law_empty.m T.D__law_empty.F.kp T.D__law_empty.b .nil pass0 (pa_cons (pe_ix (ixT K rfl) (pv 3) pe_int (fun _ _ => rfl)) (pa_cons (pv 1) pa_nil)))))) (fun _ _ _ _ _ => (pe_ix (ixT K rfl) (pv 3) pe_int (fun _ _ => rfl)))))))
    (pss_one (ps_ret (pv 1))))), ?_⟩
  refine ⟨Nat.zero_le _, fun l0 hl0 => ?_⟩
  have e0 := Ext.new hl0 (.lst [])
  refine ⟨_, rfl, ga, _, rfl, .inr (SqT.of (e0.tup hga)), _, _, rfl, rfl, _, rfl, by omega, by have := hg.len; omega, ?_⟩
  have hn : ((gs.length : Int) + 1).toNat = g.length + 1 := by omega
  rw [hn]
  refine for_range (lo := 0) (n := g.length + 1) (fun i σ H' => ∃ (l : Addr) (t u : Option V), σ = [some (.ref ga), some (.ref l), t, u] ∧ Ext H H' ∧ H l = none ∧ H' l = some (.lst ((Gr.iter g i).map V.str)))
    ⟨l0, none, none, rfl, e0, hl0, upd_same⟩ (fun i σ H' hi ⟨l, t, u, hσ, e, hl, hH⟩ => ?_) (fun σ H' ⟨l, t, u, hσ, e, hl, hH⟩ => ?_)
  · subst hσ
    refine ⟨_, rfl, ga, rfl, ⟨_, SqT.of (e.tup hga)⟩, fun D hD => ?_⟩
    refine lc_tup (K := K) (a := ga) (xs := gs) (fun j H2 => Ext H' H2 ∧ H2 D = some (.lst ((((g.take j).filter fun p => p.2.emp (Gr.iter g i)).map (·.1)).map V.str)))
      ⟨Ext.new hD _, upd_same⟩ (fun j H2 _ ⟨e2, _⟩ => SqT.of (e2.tup (e.tup hga))) (fun j x H2 hx ⟨e2, hacc⟩ => ?_) (fun H2 ⟨e2, hacc⟩ => ?_)
    · obtain ⟨nm, ex, ra, ev, hge, rfl, hra, hev⟩ := ruleI (DAs.ext ((e.trans e2).toR 0) _ _ hgs) hx
      have hmem := List.mem_of_getElem? hge
      refine ⟨rfl, ?_⟩
      refine ⟨_, rfl, ra, _, _, _, rfl, rfl, SqT.of hra, at1, _, rfl, l, ex, ev, Gr.iter g i, rfl, hev, e2.lst hH, hg.dep _ hmem, hg.wid _ hmem, fun H4 e4 => ⟨_, rfl, ?_⟩⟩
      have hle := filter_le (fun p : Str × Ex => p.2.emp (Gr.iter g i)) g j
      refine ite2 (fun c => ?_) (fun c => ?_)
      · refine ⟨_, rfl, ra, _, _, _, rfl, rfl, SqT.of (e4.tup hra), at0, _, e4.lst hacc, ?_, ExtR.of_free hD (e2.trans e4) (ExtR.set (e4.lst hacc) _), ?_⟩
        · rw [List.length_map, List.length_map]
          exact small5000 (by have := hg.len; omega)
        · rw [upd_same, filter_at (fun p : Str × Ex => p.2.emp (Gr.iter g i)) hge, if_pos c, List.map_append, List.map_append]; rfl
      · refine ⟨e2.trans e4, ?_⟩
        rw [e4.lst hacc, filter_at (fun p : Str × Ex => p.2.emp (Gr.iter g i)) hge, if_neg c, List.append_nil]
    · rw [hgl, List.take_length] at hacc
      exact ⟨D, _, _, rfl, e.trans e2, e.free hD, hacc⟩
  · subst hσ
    exact ⟨_, rfl, hQ l H' e hl hH⟩

end
end N_k04
namespace N_k04
open PySem PySem.Spec PyProof.Rows L2 GenW GE LB
section
variable {P : Program} {w : World} {K : PySem.W.Frag} {mg : Str → Option Value} {base : Heap} (T : Txt K mg base)
theorem ok_empty_rules (n : Nat) (G_may_be_empty : FnOk P w K mg base CX0 (4 * n) T.f_may_be_empty T.d_may_be_empty ["expression", "names"] (spEmp T n)) :
    FnOk P w K mg base CX0 (4 * n + 1) T.f_empty_rules T.d_empty_rules ["grammar"] (spEmpties T n) := by
  refine T.D_empty_rules.ok sc_empty_rules (fun vs H Q E h => ?_) (fun cdv A outer s H vs Q E hr h => ?_)
  · obtain ⟨g, v, rfl, _⟩ := h
    rfl
  obtain ⟨g, v, rfl, hv, hg, htab, hQ⟩ := h
  obtain ⟨ga, gs, rfl, hga, hgs, hgl⟩ := grI hv
  refine ⟨_, (pss_cons (ps_set (i := 1) sc_empty_rules.nd rfl (by first | exact Or.inl rfl | exact Or.inr rfl) (pe_lst pa_nil))
    (pss_cons (ps_set (i := 2) sc_empty_rules.nd rfl (by first | exact Or.inl rfl | exact Or.inr rfl) pe_bl)
    (pss_cons (ps_while PassesOwn.never (pt_val (pv 2)) (pss_cons (ps_setLc (i := 3) (own := [("name", 4), ("expression", 5)]) (g := gTup K 2 (gCons (gName 4) (gCons (gName 5) gNil))) rfl sc_empty_rules.nd rfl rfl (sw_true rfl rfl rfl (by decide +kernel)) (piT K rfl (pv 0)) (blkOk_by (N := ["grammar", "names", "grown", "wider", "name", "expression"]) (sc := defScope s_empty_rules) (own := [("name", 4), ("expression", 5)]) (by decide +kernel)) (fun _ _ _ _ _ => (pg_tup rfl (pgs_cons (pg_name (i := 4) sc_empty_rules.nd rfl (by first | exact Or.inl rfl | exact Or.inr rfl)) (pgs_cons (pg_name (i := 5) sc_empty_rules.nd rfl (by first | exact Or.inl rfl | exact Or.inr rfl)) pgs_nil)))) (fun _ _ _ _ _ => (pts_one (pt_val (pe_call G_may_be_empty (hr.mono (by first | omega | decide)) rfl T.D_may_be_empty.m T.D_may_be_empty.F.kp T.D_may_be_empty.b .nil pass0 (pa_cons (pv 5) (pa_cons (pv 1) pa_nil)))))) (fun _ _ _ _ _ => (pv 4)))
    (pss_cons (ps_set (i := 2) sc_empty_rules.nd rfl (by first | exact Or.inl rfl | exact Or.inr rfl) (pe_cmpR (neDQ K rfl hr.units) (pv 3) (pv 1) (nomark _)))
    (pss_one (ps_set (i := 1) sc_empty_rules.nd rfl (by first | exact Or.inl rfl | exact Or.inr rfl) (pv 3))))))
    (pss_one (ps_ret (pv 1)))))), ?_⟩
  refine ⟨Nat.zero_le _, fun l0 hl0 => ?_⟩
  have e0 := Ext.new hl0 (.lst [])
  refine ⟨fun m σ H' => ∃ (l : Addr) (b : Bool) (wd x y : Option V) (k : Nat), σ = [some (.ref ga), some (.ref l), some (.bl b), wd, x, y] ∧ Ext H H' ∧ H l = none ∧ H' l = some (.lst ((g.iter k).map V.str)) ∧
      (b = true → k ≤ (g.iter k).length ∧ m = g.length + 1 - k) ∧ (b = false → g.iter (k + 1) = g.iter k), ⟨g.length + 1, l0, true, none, none, none, 0, rfl, e0, hl0, upd_same, fun _ => ⟨Nat.zero_le _, rfl⟩, fun z => by cases z⟩, ?_⟩
  rintro m σ H' ⟨l, b, wd, x, y, k, rfl, e, hl, hH, hb1, hb2⟩
  refine ⟨_, rfl, b, rfl, ?_⟩
  cases b with
  | false =>
    refine iteF ?_
    have q := Gr.iter_the (hb2 rfl)
    rw [q] at hH
    exact ⟨_, rfl, hQ l H' e hl hH⟩
  | true =>
    refine iteT ?_
    obtain ⟨hk, rfl⟩ := hb1 rfl
    have hkl : k ≤ g.length := Nat.le_trans hk (Gr.iter_len g k)
    refine ⟨fun σ2 H2 => ∃ (l2 : Addr) (b2 : Bool) (wd x y : Option V), σ2 = [some (.ref ga), some (.ref l2), some (.bl b2), wd, x, y] ∧ Ext H H2 ∧ H l2 = none ∧ H2 l2 = some (.lst ((g.iter (k + 1)).map V.str)) ∧ b2 = !decide (g.iter (k + 1) = g.iter k), fun σ2 H2 ⟨l2, b2, wd, x, y, h1, h2, h3, h4, h5⟩ => ?_, ?_⟩
    · refine ⟨g.length + 1 - (k + 1), by omega, l2, b2, wd, x, y, k + 1, h1, h2, h3, h4, fun z => ⟨?_, rfl⟩, fun z => ?_⟩
      · rw [z] at h5
        have hne : ¬ g.iter (k + 1) = g.iter k := fun q => by rw [decide_eq_true q] at h5; cases h5
        rcases Gr.iter_grow g k with q | q
        · exact absurd q hne
        · omega
      · rw [z] at h5
        have he : g.iter (k + 1) = g.iter k := by
          by_cases q : g.iter (k + 1) = g.iter k
          · exact q
          · rw [decide_eq_false q] at h5; cases h5
        show g.step (g.iter (k + 1)) = g.iter (k + 1)
        rw [he]
        exact he
    refine ⟨_, rfl, ga, rfl, ⟨_, SqT.of (e.tup hga)⟩, fun D hD => ?_⟩
    refine lc_tup (K := K) (a := ga) (xs := gs) (fun j H2 => Ext H' H2 ∧ H2 D = some (.lst ((((g.take j).filter fun p => p.2.emp (g.iter k)).map (·.1)).map V.str)))
      ⟨Ext.new hD _, upd_same⟩ (fun j H2 _ ⟨e2, _⟩ => SqT.of (e2.tup (e.tup hga))) (fun j x H2 hx ⟨e2, hacc⟩ => ?_) (fun H2 ⟨e2, hacc⟩ => ?_)
    · obtain ⟨nm, ex, ra, ev, hge, rfl, hra, hev⟩ := ruleI (DAs.ext ((e.trans e2).toR 0) _ _ hgs) hx
      have hmem := List.mem_of_getElem? hge
      refine ⟨ra, _, rfl, SqT.of hra, rfl, _, _, rfl, _, _, rfl, rfl, rfl, ?_⟩
      refine ⟨_, rfl, _, rfl, l, ex, ev, g.iter k, rfl, hev, e2.lst hH, (e.trans e2).tabG htab, hg.dep _ hmem, fun H4 e4 => ⟨_, rfl, ?_⟩⟩
      have hle := filter_le (fun p : Str × Ex => p.2.emp (g.iter k)) g j
      refine ite2 (fun c => ?_) (fun c => ?_)
      · refine ⟨_, rfl, _, e4.lst hacc, ?_, ExtR.of_free hD (e2.trans e4) (ExtR.set (e4.lst hacc) _), ?_⟩
        · rw [List.length_map, List.length_map]
          exact small5000 (by have := hg.len; omega)
        · rw [upd_same, filter_at (fun p : Str × Ex => p.2.emp (g.iter k)) hge, if_pos c, List.map_append, List.map_append]; rfl
      · refine ⟨e2.trans e4, ?_⟩
        rw [e4.lst hacc, filter_at (fun p : Str × Ex => p.2.emp (g.iter k)) hge, if_neg c, List.append_nil]
    · rw [hgl, List.take_length] at hacc
      have hacc' : H2 D = some (.lst ((g.iter (k + 1)).map V.str)) := hacc
      refine ⟨_, rfl, _, rfl, .list ((g.iter (k + 1)).map .str), .list ((g.iter k).map .str), Dp_names hacc', Dp_names (e2.lst hH), names_shaped (Gr.iter_nam hg _), names_shaped (Gr.iter_nam hg _), ?_⟩
      refine ⟨_, rfl, D, _, _, _, _, rfl, e.trans e2, e.free hD, hacc', ?_⟩
      rw [names_eq]

end
end N_k04
namespace N_k04
open PySem PySem.Spec PyProof.Rows L2 GenW GE LB
section
variable {P : Program} {w : World} {K : PySem.W.Frag} {mg : Str → Option Value} {base : Heap} (T : Txt K mg base)
theorem ok__law_wild_step (n : Nat) (G__law_take : FnOk P w K mg base CX0 1 T.f__law_take T.d__law_take ["row", "many"] spTake) (G__law_wild : FnOk P w K mg base CX0 (n + 1) T.f__law_wild T.d__law_wild ["row", "depth", "many"] (spWild n)) :
    FnOk P w K mg base CX0 (n + 1 + 1) T.f__law_wild T.d__law_wild ["row", "depth", "many"] (spWild (n + 1)) := by
  refine T.D__law_wild.ok sc__law_wild (fun vs H Q E h => ?_) (fun cdv A outer s H vs Q E hr h => ?_)
  · obtain ⟨r, d, m, rfl, _⟩ := h
    rfl
  obtain ⟨r, d, m, rfl, hd0, hd, hm1, hm5, hrow, hQ⟩ := h
  refine ⟨_, (pss_cons (ps_set (i := 3) sc__law_wild.nd rfl (by first | exact Or.inl rfl | exact Or.inr rfl) (pe_call G__law_take (hr.mono (by first | omega | decide)) rfl T.D__law_take.m T.D__law_take.F.kp T.D__law_take.b .nil pass0 (pa_cons (pv 0) (pa_cons pe_int pa_nil))))
    (pss_cons (ps_if (PW.pt (pw_or (pt_cmpR op_eq (pv 1) pe_int (nomark _)) (pw_or1 (pt_cmpR op_lt (pv 3) pe_int (nomark _))))) (pss_one (ps_ret (pe_ix (ixL K rfl) (pe_lst (pa_cons (pe_tup (pa_cons pe_str (pa_cons pe_str pa_nil))) (pa_cons (pe_tup (pa_cons pe_str pa_nil)) (pa_cons (pe_tup (pa_cons pe_str (pa_cons pe_str pa_nil))) (pa_cons (pe_tup (pa_cons pe_str pa_nil)) (pa_cons (pe_tup (pa_cons pe_str pa_nil)) (pa_cons (pe_tup (pa_cons pe_str (pa_cons (pe_ix ix_str pe_str (pe_call G__law_take (hr.mono (by first | omega | decide)) rfl T.D__law_take.m T.D__law_take.F.kp T.D__law_take.b .nil pass0 (pa_cons (pv 0) (pa_cons (pv 2) pa_nil))) (fun _ _ => rfl)) pa_nil))) pa_nil))))))) (pe_call G__law_take (hr.mono (by first | omega | decide)) rfl T.D__law_take.m T.D__law_take.F.kp T.D__law_take.b .nil pass0 (pa_cons (pv 0) (pa_cons pe_int pa_nil))) (fun _ _ => rfl)))) pss_nil)
    (pss_cons (ps_if (pt_cmpR op_lt (pv 3) pe_int (nomark _)) (pss_one (ps_ret (pe_tup (pa_cons pe_str (pa_cons (pe_ix ix_str pe_str (pe_call G__law_take (hr.mono (by first | omega | decide)) rfl T.D__law_take.m T.D__law_take.F.kp T.D__law_take.b .nil pass0 (pa_cons (pv 0) (pa_cons (pv 2) pa_nil))) (fun _ _ => rfl)) pa_nil))))) pss_nil)
    (pss_cons (ps_set (i := 4) sc__law_wild.nd rfl (by first | exact Or.inl rfl | exact Or.inr rfl) (pe_call G__law_wild (hr.mono (by first | omega | decide)) rfl T.D__law_wild.m T.D__law_wild.F.kp T.D__law_wild.b .nil pass0 (pa_cons (pv 0) (pa_cons (pe_op op_sub (pv 1) pe_int) (pa_cons (pv 2) pa_nil)))))
    (pss_cons (ps_if (pt_cmpR op_lt (pv 3) pe_int (nomark _)) (pss_one (ps_ret (pe_tup (pa_cons (pe_ix (ixL K rfl) (pe_lst (pa_cons pe_str (pa_cons pe_str (pa_cons pe_str (pa_cons pe_str pa_nil))))) (pe_op op_sub (pv 3) pe_int) (fun _ _ => rfl)) (pa_cons (pv 4) pa_nil))))) pss_nil)
    (pss_cons (ps_if (pt_cmpR op_eq (pv 3) pe_int (nomark _)) (pss_one (ps_ret (pe_tup (pa_cons pe_str (pa_cons pe_str (pa_cons (pv 4) pa_nil)))))) pss_nil)
    (pss_cons (ps_set (i := 5) sc__law_wild.nd rfl (by first | exact Or.inl rfl | exact Or.inr rfl) (pe_call G__law_wild (hr.mono (by first | omega | decide)) rfl T.D__law_wild.m T.D__law_wild.F.kp T.D__law_wild.b .nil pass0 (pa_cons (pv 0) (pa_cons (pe_op op_sub (pv 1) pe_int) (pa_cons (pv 2) pa_nil)))))
    (pss_one (ps_ret (pe_tup (pa_cons (pe_ix (ixL K rfl) (pe_lst (pa_cons pe_str (pa_cons pe_str (pa_cons pe_str pa_nil)))) (pe_op op_sub (pv 3) pe_int) (fun _ _ => rfl)) (pa_cons (pe_slice (slT K rfl) (pe_tup (pa_cons (pv 4) (pa_cons (pv 5) pa_nil))) po_none (po_some (pe_op op_sub pe_int (pe_callTy call_int1 (by rfl) T.b_int (by decide +kernel) (pa_cons (pe_cmpR op_eq (pe_call G__law_take (hr.mono (by first | omega | decide)) rfl T.D__law_take.m T.D__law_take.F.kp T.D__law_take.b .nil pass0 (pa_cons (pv 0) (pa_cons pe_int pa_nil))) pe_int (nomark _)) pa_nil))))) pa_nil)))))))))))), ?_⟩
  have abc : ∀ i : Int, 0 ≤ i → i < m → ∃ c, atI (Str.ofString "abcde").cps.toList i = some c := fun i h0 h1 => (atI_ex h0 (by show i < 5; omega)).imp fun _ h => h.1
  -- kind
  refine ⟨_, rfl, r, 13, rfl, by decide, hrow, fun kind H1 hk0 hk13 e1 row1 => ?_⟩
  refine ⟨_, rfl, rfl, _, rfl, (fun (leaf : _ → _) => ite2 (fun c => iteT (leaf trivial)) (fun c => ⟨_, rfl, _, _, rfl, rfl, _, rfl, ite2 (fun c2 => leaf trivial) (fun c2 => ?rest)⟩)) (fun (_ : True) => ?leaf)⟩
  case rest =>
    have hd1 : d ≠ 0 := fun z => c (by subst z; exact decide_eq_true rfl)
    have hk3 : 3 ≤ kind := by
      have c3 : ¬ kind < 3 := fun z => c2 (decide_eq_true z)
      omega
    refine ⟨_, rfl, _, _, rfl, rfl, _, rfl, ite2 (fun _ => ?_) (fun c5 => ?_)⟩
    · refine ⟨_, rfl, _, rfl, r, m, rfl, by omega, row1, fun i H2 hi0 him e2 row2 => ?_⟩
      obtain ⟨ch, hch⟩ := abc i hi0 him
      refine ⟨_, _, ch, rfl, rfl, by decide, hch, by show 2 ≤ sizeLine; decide, fun p hp => ?_⟩
      exact hQ (.call ⟨#[ch]⟩) _ _ (by rw [Ex.dep]; omega) (by rw [Ex.wid]; omega) ((e1.trans e2).trans (ExtR.new r hp _)) (row2.ext (Ext.new hp _)) (DA.two_mk hp .str)
    have hk5 : 5 ≤ kind := by
      have c6 : ¬ kind < 5 := fun z => c5 (decide_eq_true z)
      omega
    refine ⟨_, rfl, _, rfl, _, _, rfl, rfl, _, rfl, r, d - 1, m, rfl, by omega, by omega, hm1, hm5, row1, fun ex1 v1 H2 dep1 wid1 e2 row2 hv1 => ?_⟩
    refine ⟨_, rfl, _, _, rfl, rfl, _, rfl, ite2 (fun c9 => ?_) (fun c9 => ?_)⟩
    · have hk9 : kind < 9 := of_decide_eq_true c9
      refine ⟨by decide, fun p hp => ?_⟩
      have e3 := Ext.new hp (.lst [.str "star", .str "opt", .str "not", .str "and"])
      have row3 := row2.ext e3
      have hv3 := DA.ext (e3.toR r) _ _ hv1
      have fin : ∀ (hd : Str) (ex : Ex), ex.py = .tuple [.str hd, ex1.py] → ex.dep = ex1.dep + 1 → ex.wid = ex1.wid → ∀ q, (upd H2 p (.lst [.str "star", .str "opt", .str "not", .str "and"])) q = none → Q (.ref q) (upd (upd H2 p (.lst [.str "star", .str "opt", .str "not", .str "and"])) q (.tup [.str hd, v1])) := fun hd ex h1 h2 h3 q hq =>
        hQ ex _ _ (by omega) (by omega) ((e1.trans e2).trans ((e3.toR r).trans (ExtR.new r hq _))) (row3.ext (Ext.new hq _)) (by rw [h1]; exact DA.two_mk hq hv3)
      have hk : kind = 5 ∨ kind = 6 ∨ kind = 7 ∨ kind = 8 := by omega
      rcases hk with rfl | rfl | rfl | rfl
      · exact ⟨_, rfl, _, _, rfl, rfl, p, _, _, _, rfl, rfl, SqL.of upd_same, at_of (j := 0) rfl rfl, _, rfl, by show 2 ≤ sizeLine; decide, fin "star" (.star ex1) (by rw [Ex.py]) (by rw [Ex.dep]) (by rw [Ex.wid])⟩
      · exact ⟨_, rfl, _, _, rfl, rfl, p, _, _, _, rfl, rfl, SqL.of upd_same, at_of (j := 1) rfl rfl, _, rfl, by show 2 ≤ sizeLine; decide, fin "opt" (.opt ex1) (by rw [Ex.py]) (by rw [Ex.dep]) (by rw [Ex.wid])⟩
      · exact ⟨_, rfl, _, _, rfl, rfl, p, _, _, _, rfl, rfl, SqL.of upd_same, at_of (j := 2) rfl rfl, _, rfl, by show 2 ≤ sizeLine; decide, fin "not" (.nt ex1) (by rw [Ex.py]) (by rw [Ex.dep]) (by rw [Ex.wid])⟩
      · exact ⟨_, rfl, _, _, rfl, rfl, p, _, _, _, rfl, rfl, SqL.of upd_same, at_of (j := 3) rfl rfl, _, rfl, by show 2 ≤ sizeLine; decide, fin "and" (.an ex1) (by rw [Ex.py]) (by rw [Ex.dep]) (by rw [Ex.wid])⟩
    have hk9 : 9 ≤ kind := by
      have c6 : ¬ kind < 9 := fun z => c9 (decide_eq_true z)
      omega
    refine ⟨_, rfl, rfl, _, rfl, ite2 (fun _ => ?_) (fun c10 => ?_)⟩
    · refine ⟨_, rfl, by show 3 ≤ sizeLine; decide, fun q hq => ?_⟩
      exact hQ (.mark "x" ex1) _ _ (by rw [Ex.dep]; omega) (by rw [Ex.wid]; omega) ((e1.trans e2).trans (ExtR.new r hq _)) (row2.ext (Ext.new hq _)) (by rw [Ex.py]; exact DA.three_mk hq .str hv1)
    have hk10 : kind ≠ 9 := fun z => c10 (by subst z; exact decide_eq_true rfl)
    refine ⟨_, rfl, _, rfl, _, _, rfl, rfl, _, rfl, r, d - 1, m, rfl, by omega, by omega, hm1, hm5, row2, fun ex2 v2 H3 dep2 wid2 e3 row3 hv2 => ?_⟩
    have hv1' := DA.ext e3 _ _ hv1
    -- the list of heads
    refine ⟨by decide, fun p hp => ?_⟩
    have e4 := Ext.new hp (.lst [.str "seq", .str "seq", .str "alt"])
    have row4 := row3.ext e4
    have hw1 := DA.ext (e4.toR r) _ _ hv1'
    have hw2 := DA.ext (e4.toR r) _ _ hv2
    have hp4 : (upd H3 p (.lst [.str "seq", .str "seq", .str "alt"])) p = some (.lst [.str "seq", .str "seq", .str "alt"]) := upd_same
    have e14 := (e1.trans e2).trans (e3.trans (e4.toR r))
    generalize (upd H3 p (.lst [.str "seq", .str "seq", .str "alt"])) = H4 at hp4 e4 row4 hw1 hw2 e14
    have hds : ∀ es : List Ex, (es = [ex1] ∨ es = [ex1, ex2]) → ((Ex.deps es : Nat) : Int) ≤ d ∧ es.length ≤ 2 ∧ Ex.wids es ≤ 2 := fun es h => by
      rcases h with rfl | rfl
      · refine ⟨?_, by show 1 ≤ 2; decide, ?_⟩
        · simp only [Ex.deps]; omega
        · simp only [Ex.wids]; omega
      · refine ⟨?_, by show 2 ≤ 2; decide, ?_⟩
        · simp only [Ex.deps]; omega
        · simp only [Ex.wids]; omega
    have fin : ∀ (hd : Str), (hd = "seq" ∨ hd = "alt") → ∀ (tb : Addr) (vs : List V) (es : List Ex) (H5 : Hp), (es = [ex1] ∨ es = [ex1, ex2]) → ExtR r H4 H5 → RowOk H5 r → H5 tb = some (.tup vs) → DAs H5 (Ex.pys es) vs → ∀ q, H5 q = none → Q (.ref q) (upd H5 q (.tup [.str hd, .ref tb])) := fun hd hh tb vs es H5 hes e5 row5 htb hvs q hq => by
      obtain ⟨h1, h2, h3⟩ := hds es hes
      rcases hh with rfl | rfl
      · exact hQ (.seq es) _ _ (by rw [Ex.dep]; omega) (by rw [Ex.wid]; omega) (e14.trans (e5.trans (ExtR.new r hq _))) (row5.ext (Ext.new hq _)) (by rw [Ex.py]; exact DA.two_mk hq (DA.tup htb hvs))
      · exact hQ (.alt es) _ _ (by rw [Ex.dep]; omega) (by rw [Ex.wid]; omega) (e14.trans (e5.trans (ExtR.new r hq _))) (row5.ext (Ext.new hq _)) (by rw [Ex.py]; exact DA.two_mk hq (DA.tup htb hvs))
    have hat : ∃ hd : Str, (hd = "seq" ∨ hd = "alt") ∧ atI [V.str "seq", V.str "seq", V.str "alt"] (kind - 10) = some (.str hd) := by
      have hk : kind = 10 ∨ kind = 11 ∨ kind = 12 := by omega
      rcases hk with rfl | rfl | rfl
      · exact ⟨"seq", .inl rfl, at_of (j := 0) rfl rfl⟩
      · exact ⟨"seq", .inl rfl, at_of (j := 1) rfl rfl⟩
      · exact ⟨"alt", .inr rfl, at_of (j := 2) rfl rfl⟩
    obtain ⟨hd, hhd, hat⟩ := hat
    refine ⟨_, rfl, _, _, rfl, rfl, p, _, _, _, rfl, rfl, SqL.of hp4, hat, ?_⟩
    refine ⟨_, rfl, _, rfl, by show 2 ≤ sizeLine; decide, fun tb htb => ?_⟩
    have e5 := Ext.new htb (.tup [v1, v2])
    have row5 := row4.ext e5
    have hb5 : (upd H4 tb (.tup [v1, v2])) tb = some (.tup [v1, v2]) := upd_same
    have hx1 := DA.ext (e5.toR r) _ _ hw1
    have hx2 := DA.ext (e5.toR r) _ _ hw2
    generalize (upd H4 tb (.tup [v1, v2])) = H5 at e5 row5 hb5 hx1 hx2
    refine ⟨_, rfl, r, 8, rfl, by decide, row5, fun i H6 hi0 hi8 e6 row6 => ?_⟩
    have hb6 := e6.tup hb5
    have hy1 := DA.ext e6 _ _ hx1
    have hy2 := DA.ext e6 _ _ hx2
    have e46 := (e5.toR r).trans e6
    refine ⟨rfl, .inr ⟨_, rfl, _, _, rfl, rfl, _, rfl, tb, _, rfl, SqT.of hb6, fun whole => ?_, fun part p2 hp2 => ?_⟩⟩
    · refine ⟨by show 2 ≤ sizeLine; decide, fin hd hhd tb _ [ex1, ex2] H6 (.inr rfl) e46 row6 hb6 ?_⟩
      exact .cons hy1 (.cons hy2 .nil)
    · have hcut : ∃ es, (es = [ex1] ∨ es = [ex1, ex2]) ∧ DAs H6 (Ex.pys es) (cutV [v1, v2] none (some (2 - (if decide (V.int i = V.int 0) = true then 1 else 0)))) := by
        by_cases hi : V.int i = V.int 0
        · rw [decide_eq_true hi, if_pos rfl]
          exact ⟨[ex1], .inl rfl, .cons hy1 .nil⟩
        · rw [decide_eq_false hi, if_neg Bool.false_ne_true]
          exact ⟨[ex1, ex2], .inr rfl, .cons hy1 (.cons hy2 .nil)⟩
      obtain ⟨es, hes, hcut⟩ := hcut
      refine ⟨by show 2 ≤ sizeLine; decide, fin hd hhd p2 _ es _ hes (e46.trans (ExtR.new r hp2 _)) (row6.ext (Ext.new hp2 _)) upd_same (DAs.ext (ExtR.new r hp2 _) _ _ hcut)⟩
  case leaf =>
    -- six tuples, one behind the other
    refine ⟨by show 2 ≤ sizeLine; decide, fun p0 hp0 => ⟨by show 1 ≤ sizeLine; decide, fun p1 hp1 => ⟨by show 2 ≤ sizeLine; decide, fun p2 hp2 => ⟨by show 1 ≤ sizeLine; decide, fun p3 hp3 => ⟨by show 1 ≤ sizeLine; decide, fun p4 hp4 => ?_⟩⟩⟩⟩⟩
    have t0 : ∀ (Hx : Hp) (q : Addr) (o : HO) (ex : Ex) (v : V), Hx q = none → DA Hx ex.py v → DA (upd Hx q o) ex.py v := fun Hx q o ex v hq h => DA.ext (ExtR.new r hq o) _ _ h
    have d0 : DA (upd H1 p0 (.tup [.str "text", .str "a"])) (Ex.text "a").py (.ref p0) := DA.two_mk hp0 .str
    have f0 := Ext.new hp0 (.tup [.str "text", .str "a"])
    generalize (upd H1 p0 (.tup [.str "text", .str "a"])) = G0 at hp1 hp2 hp3 hp4 d0 f0 ⊢
    have d1 : DA (upd G0 p1 (.tup [.str "any"])) (Ex.any).py (.ref p1) := DA.one_mk hp1
    have d0 := t0 _ _ (.tup [.str "any"]) _ _ hp1 d0
    have f1 := f0.trans (Ext.new hp1 (.tup [.str "any"]))
    generalize (upd G0 p1 (.tup [.str "any"])) = G1 at hp2 hp3 hp4 d0 d1 f1 ⊢
    have d2 : DA (upd G1 p2 (.tup [.str "set", .str "bc"])) (Ex.set "bc").py (.ref p2) := DA.two_mk hp2 .str
    have d0 := t0 _ _ (.tup [.str "set", .str "bc"]) _ _ hp2 d0
    have d1 := t0 _ _ (.tup [.str "set", .str "bc"]) _ _ hp2 d1
    have f2 := f1.trans (Ext.new hp2 (.tup [.str "set", .str "bc"]))
    generalize (upd G1 p2 (.tup [.str "set", .str "bc"])) = G2 at hp3 hp4 d0 d1 d2 f2 ⊢
    have d3 : DA (upd G2 p3 (.tup [.str "eps"])) (Ex.eps).py (.ref p3) := DA.one_mk hp3
    have d0 := t0 _ _ (.tup [.str "eps"]) _ _ hp3 d0
    have d1 := t0 _ _ (.tup [.str "eps"]) _ _ hp3 d1
    have d2 := t0 _ _ (.tup [.str "eps"]) _ _ hp3 d2
    have f3 := f2.trans (Ext.new hp3 (.tup [.str "eps"]))
    generalize (upd G2 p3 (.tup [.str "eps"])) = G3 at hp4 d0 d1 d2 d3 f3 ⊢
    have d4 : DA (upd G3 p4 (.tup [.str "fail"])) (Ex.fail).py (.ref p4) := DA.one_mk hp4
    have d0 := t0 _ _ (.tup [.str "fail"]) _ _ hp4 d0
    have d1 := t0 _ _ (.tup [.str "fail"]) _ _ hp4 d1
    have d2 := t0 _ _ (.tup [.str "fail"]) _ _ hp4 d2
    have d3 := t0 _ _ (.tup [.str "fail"]) _ _ hp4 d3
    have f4 := f3.trans (Ext.new hp4 (.tup [.str "fail"]))
    generalize (upd G3 p4 (.tup [.str "fail"])) = G4 at d0 d1 d2 d3 d4 f4 ⊢
    refine ⟨_, rfl, _, rfl, r, m, rfl, by omega, row1.ext f4, fun i G5 hi0 him e5 row5 => ?_⟩
    obtain ⟨ch, hch⟩ := abc i hi0 him
    refine ⟨_, _, ch, rfl, rfl, by decide, hch, by show 2 ≤ sizeLine; decide, fun p5 hp5 => ?_⟩
    have d5 : DA (upd G5 p5 (.tup [.str "call", .str ⟨#[ch]⟩])) (Ex.call ⟨#[ch]⟩).py (.ref p5) := DA.two_mk hp5 .str
    have fx := e5.trans (ExtR.new r hp5 (.tup [.str "call", .str ⟨#[ch]⟩]))
    have row6 := row5.ext (Ext.new hp5 (.tup [.str "call", .str ⟨#[ch]⟩]))
    have d0 := DA.ext fx _ _ d0
    have d1 := DA.ext fx _ _ d1
    have d2 := DA.ext fx _ _ d2
    have d3 := DA.ext fx _ _ d3
    have d4 := DA.ext fx _ _ d4
    have f5 := (f4.toR r).trans fx
    generalize (upd G5 p5 (.tup [.str "call", .str ⟨#[ch]⟩])) = G6 at d0 d1 d2 d3 d4 d5 f5 row6 ⊢
    refine ⟨by show 6 ≤ sizeLine; decide, fun pl hpl => ?_⟩
    refine ⟨_, rfl, r, 6, rfl, by decide, row6.ext (Ext.new hpl _), fun j G7 hj0 hj6 e7 row7 => ?_⟩
    have npr : pl ≠ r := fun z => by
      obtain ⟨_, _, z2, _⟩ := row6
      rw [z, z2] at hpl
      cases hpl
    have hl7 := e7.lst npr upd_same
    have f7 := (ExtR.new r hpl (.lst [.ref p0, .ref p1, .ref p2, .ref p3, .ref p4, .ref p5])).trans e7
    have hex : ∃ (ex : Ex) (v : V), atI [V.ref p0, .ref p1, .ref p2, .ref p3, .ref p4, .ref p5] j = some v ∧ DA G7 ex.py v ∧ ex.dep = 1 ∧ ex.wid = 0 := by
      have hj : j = 0 ∨ j = 1 ∨ j = 2 ∨ j = 3 ∨ j = 4 ∨ j = 5 := by omega
      rcases hj with rfl | rfl | rfl | rfl | rfl | rfl
      · exact ⟨_, _, at_of (j := 0) rfl rfl, DA.ext f7 _ _ d0, by rw [Ex.dep], by rw [Ex.wid]⟩
      · exact ⟨_, _, at_of (j := 1) rfl rfl, DA.ext f7 _ _ d1, by rw [Ex.dep], by rw [Ex.wid]⟩
      · exact ⟨_, _, at_of (j := 2) rfl rfl, DA.ext f7 _ _ d2, by rw [Ex.dep], by rw [Ex.wid]⟩
      · exact ⟨_, _, at_of (j := 3) rfl rfl, DA.ext f7 _ _ d3, by rw [Ex.dep], by rw [Ex.wid]⟩
      · exact ⟨_, _, at_of (j := 4) rfl rfl, DA.ext f7 _ _ d4, by rw [Ex.dep], by rw [Ex.wid]⟩
      · exact ⟨_, _, at_of (j := 5) rfl rfl, DA.ext f7 _ _ d5, by rw [Ex.dep], by rw [Ex.wid]⟩
    obtain ⟨ex, v, hat, hv, hdep, hwid⟩ := hex
    exact ⟨pl, _, _, v, rfl, rfl, SqL.of hl7, hat, hQ ex v G7 (by omega) (by omega) (e1.trans (f5.trans f7)) row7 hv⟩
theorem ok__law_wild (G__law_take : FnOk P w K mg base CX0 1 T.f__law_take T.d__law_take ["row", "many"] spTake) : ∀ n : Nat, FnOk P w K mg base CX0 (n + 1) T.f__law_wild T.d__law_wild ["row", "depth", "many"] (spWild n)
  | 0 => by
    have no : ∀ vs H Q E, ¬ spWild 0 vs H Q E := fun vs H Q E h => by
      obtain ⟨r, d, m, _, h0, h1, _⟩ := h
      omega
    exact ⟨fun vs H Q E h => absurd h (no vs H Q E), fun A outer s H args us vs Q E _ _ _ _ h => absurd h (no vs H Q E)⟩
  | n + 1 => ok__law_wild_step T n G__law_take (ok__law_wild G__law_take n)

end
end N_k04
namespace N_k04
open PySem PySem.Spec PyProof.Rows L2 GenW GE LB
section
variable {P : Program} {w : World} {K : PySem.W.Frag} {mg : Str → Option Value} {base : Heap} (T : Txt K mg base)
def spLaw (K : PySem.W.Frag) (ts : List Addr) : Sp := fun vs H Q _ => ∃ (a : Addr) (ns : List Int), vs = [.ref a] ∧ SqL K H a (ns.map V.int) ∧ ns.length ≤ 63 ∧ (∀ t ∈ ts, GxR.TabG H t) ∧ ∀ H', Q (.bl true) H'
theorem ok_law {f : Addr} {fd : FuncData} (D_law : DF K mg "law" s_law ["script"] f fd)
    (G__law_stream : FnOk P w K mg base CX0 1 T.f__law_stream T.d__law_stream ["script"] (spStream K))
    (G__law_take : FnOk P w K mg base CX0 1 T.f__law_take T.d__law_take ["row", "many"] spTake)
    (G__law_wild : FnOk P w K mg base CX0 5 T.f__law_wild T.d__law_wild ["row", "depth", "many"] (spWild 4))
    (G__law_empty : FnOk P w K mg base CX0 4 T.f__law_empty T.d__law_empty ["expression", "names"] (spLEmp 4))
    (G__law_empties : FnOk P w K mg base CX0 5 T.f__law_empties T.d__law_empties ["grammar"] (spLEmpties 4))
    (G_may_be_empty : FnOk P w K mg base CX0 16 T.f_may_be_empty T.d_may_be_empty ["expression", "names"] (spEmp T 4))
    (G_empty_rules : FnOk P w K mg base CX0 17 T.f_empty_rules T.d_empty_rules ["grammar"] (spEmpties T 4)) :
    FnOk P w K mg base CX0 (19 + 1) f fd ["script"] (spLaw K [T.t_may_be_empty]) := by
  refine D_law.ok sc_law (fun vs H Q E h => ?_) (fun cdv A outer s H vs Q E hr h => ?_)
  · obtain ⟨a, ns, rfl, _⟩ := h
    rfl
  obtain ⟨a, ns, rfl, hS, hlen, htabs, hQ⟩ := h
  have htab := htabs _ (List.mem_cons_self)
  refine ⟨_, (pss_cons (ps_set (i := 1) sc_law.nd rfl (by first | exact Or.inl rfl | exact Or.inr rfl) (pe_call G__law_stream (hr.mono (by first | omega | decide)) rfl T.D__law_stream.m T.D__law_stream.F.kp T.D__law_stream.b .nil pass0 (pa_cons (pv 0) pa_nil)))
    (pss_cons (ps_set (i := 2) sc_law.nd rfl (by first | exact Or.inl rfl | exact Or.inr rfl) (pe_op op_add pe_int (pe_call G__law_take (hr.mono (by first | omega | decide)) rfl T.D__law_take.m T.D__law_take.F.kp T.D__law_take.b .nil pass0 (pa_cons (pv 1) (pa_cons pe_int pa_nil)))))
    (pss_cons (ps_set (i := 3) sc_law.nd rfl (by first | exact Or.inl rfl | exact Or.inr rfl) (pe_callTy (tupleOf K rfl) (by rfl) T.b_tuple (by decide +kernel) (pa_cons (pe_lc (own := [("k", 4)]) (g := gName 4) rfl sc_law.nd (pi_range1 (by rfl) T.b_range (pa_cons (pv 2) pa_nil)) (blkOk_by (N := ["script", "row", "many", "grammar", "k", "names", "told", "rule", "one", "two"]) (sc := defScope s_law) (own := [("k", 4)]) (by decide +kernel)) (fun _ _ _ _ _ => (pg_name (i := 4) sc_law.nd rfl (by first | exact Or.inl rfl | exact Or.inr rfl))) (fun _ _ _ _ _ => pts_nil) (fun _ _ _ _ _ => (pe_tup (pa_cons (pe_ix ix_str pe_str (pv 4) (fun _ _ => rfl)) (pa_cons (pe_call G__law_wild (hr.mono (by first | omega | decide)) rfl T.D__law_wild.m T.D__law_wild.F.kp T.D__law_wild.b .nil pass0 (pa_cons (pv 1) (pa_cons (pe_op op_add pe_int (pe_call G__law_take (hr.mono (by first | omega | decide)) rfl T.D__law_take.m T.D__law_take.F.kp T.D__law_take.b .nil pass0 (pa_cons (pv 1) (pa_cons pe_int pa_nil)))) (pa_cons (pv 2) pa_nil)))) pa_nil))))) pa_nil)))
    (pss_cons (ps_set (i := 5) sc_law.nd rfl (by first | exact Or.inl rfl | exact Or.inr rfl) (pe_call G__law_empties (hr.mono (by first | omega | decide)) rfl T.D__law_empties.m T.D__law_empties.F.kp T.D__law_empties.b .nil pass0 (pa_cons (pv 3) pa_nil)))
    (pss_cons (ps_set (i := 6) sc_law.nd rfl (by first | exact Or.inl rfl | exact Or.inr rfl) (pe_call G_empty_rules (hr.mono (by first | omega | decide)) rfl T.D_empty_rules.m T.D_empty_rules.F.kp T.D_empty_rules.b .nil pass0 (pa_cons (pv 3) pa_nil)))
    (pss_cons (ps_if (PW.pt (pw_or (pt_not (pt_val (pe_callB call_isi (by rfl) T.b_isinstance (by decide +kernel) (pa_cons (pv 6) (pa_cons (pe_bltn (v := .ty "list") (u := .type "list") (by rfl) T.b_list (by decide +kernel) rfl) pa_nil))))) (pw_or1 (pt_cmpR (neDQ K rfl hr.units) (pv 6) (pv 5) (nomark _))))) (pss_one (ps_ret pe_bl)) pss_nil)
    (pss_cons (ps_for PassesOwn.never rfl (piT K rfl (pv 3)) (pg_name (i := 7) sc_law.nd rfl (by first | exact Or.inl rfl | exact Or.inr rfl)) (pss_cons (ps_set (i := 8) sc_law.nd rfl (by first | exact Or.inl rfl | exact Or.inr rfl) (pe_call G_may_be_empty (hr.mono (by first | omega | decide)) rfl T.D_may_be_empty.m T.D_may_be_empty.F.kp T.D_may_be_empty.b .nil pass0 (pa_cons (pe_ix (ixT K rfl) (pv 7) pe_int (fun _ _ => rfl)) (pa_cons (pv 5) pa_nil))))
    (pss_cons (ps_set (i := 9) sc_law.nd rfl (by first | exact Or.inl rfl | exact Or.inr rfl) (pe_call G_may_be_empty (hr.mono (by first | omega | decide)) rfl T.D_may_be_empty.m T.D_may_be_empty.F.kp T.D_may_be_empty.b .nil pass0 (pa_cons (pe_ix (ixT K rfl) (pv 7) pe_int (fun _ _ => rfl)) (pa_cons (pe_lst pa_nil) pa_nil))))
    (pss_one (ps_if (PW.pt (pw_or (pt_not (pt_val (pe_callB call_isi (by rfl) T.b_isinstance (by decide +kernel) (pa_cons (pv 8) (pa_cons (pe_bltn (v := .ty "bool") (u := .type "bool") (by rfl) T.b_bool (by decide +kernel) rfl) pa_nil))))) (pw_or (pt_cmpR op_ne (pv 8) (pe_call G__law_empty (hr.mono (by first | omega | decide)) rfl T.D__law_empty.m T.D__law_empty.F.kp T.D__law_empty.b .nil pass0 (pa_cons (pe_ix (ixT K rfl) (pv 7) pe_int (fun _ _ => rfl)) (pa_cons (pv 5) pa_nil))) (nomark _)) (pw_or1 (pt_cmpR op_ne (pv 9) (pe_call G__law_empty (hr.mono (by first | omega | decide)) rfl T.D__law_empty.m T.D__law_empty.F.kp T.D__law_empty.b .nil pass0 (pa_cons (pe_ix (ixT K rfl) (pv 7) pe_int (fun _ _ => rfl)) (pa_cons (pe_lst pa_nil) pa_nil))) (nomark _)))))) (pss_one (ps_ret pe_bl)) pss_nil)))))
    (pss_one (ps_ret pe_bl))))))))), ?_⟩
  -- the row, how many rules
  refine ⟨_, rfl, a, ns, rfl, hS, hlen, fun r H1 e1 hr1 row1 => ?_⟩
  refine ⟨_, rfl, r, 5, rfl, by decide, row1, fun m0 H2 hm0 hm5 e2 row2 => ⟨_, _, rfl, rfl, ?_⟩⟩
  have htab2 := e2.tabG (e1.tabG htab)
  -- the grammar
  refine ⟨_, rfl, _, rfl, by omega, by omega, fun D hD => ?_⟩
  have hDr : D ≠ r := fun z => by
    obtain ⟨_, _, z2, _⟩ := row2
    rw [z, z2] at hD
    cases hD
  refine lc_range (lo := 0) (n := (1 + m0).toNat) (fun j H' => ∃ (g : Gr) (acc : List V), g.length = j ∧ acc.length = j ∧ ExtR r H2 H' ∧ RowOk H' r ∧ H' D = some (.lst acc) ∧ DAs H' (g.map rulePy) acc ∧ (∀ p ∈ g, p.2.dep ≤ 4 ∧ p.2.wid ≤ 5000 ∧ PyData.strOk p.1 = true))
    ⟨[], [], rfl, rfl, ExtR.new r hD _, row2.ext (Ext.new hD _), upd_same, .nil, fun p hp => by simp at hp⟩ (fun j H' hj ⟨g, acc, hgl, hal, e3, row3, hacc, hds, hok⟩ => ?_) (fun H' ⟨g, acc, hgl, hal, e3, row3, hacc, hds, hok⟩ => ?_)
  · refine ⟨rfl, ?_⟩
    obtain ⟨ch, hch, hch2⟩ : ∃ c, atI (Str.ofString "abcde").cps.toList ((0 : Int) + j) = some c ∧ PyData.strOk ⟨#[c]⟩ = true := by
      have hj5 : j = 0 ∨ j = 1 ∨ j = 2 ∨ j = 3 ∨ j = 4 := by omega
      rcases hj5 with rfl | rfl | rfl | rfl | rfl
      · exact ⟨97, rfl, by decide +kernel⟩
      · exact ⟨98, rfl, by decide +kernel⟩
      · exact ⟨99, rfl, by decide +kernel⟩
      · exact ⟨100, rfl, by decide +kernel⟩
      · exact ⟨101, rfl, by decide +kernel⟩
    refine ⟨_, rfl, _, _, ch, rfl, rfl, by decide, hch, ?_⟩
    refine ⟨_, rfl, _, rfl, r, 3, rfl, by decide, row3, fun i H4 hi0 hi3 e4 row4 => ⟨_, _, rfl, rfl, _, rfl, ?_⟩⟩
    refine ⟨r, 1 + i, 1 + m0, rfl, by omega, by omega, by omega, by omega, row4, fun ex v H5 hdep hwid e5 row5 hv => ?_⟩
    refine ⟨by show 2 ≤ sizeLine; decide, fun p hp => ?_⟩
    have e45 := e4.trans e5
    have hacc5 := e45.lst hDr hacc
    have hpD : D ≠ p := fun z => by rw [← z, hacc5] at hp; cases hp
    refine ⟨acc, by rw [upd_ne hpD]; exact hacc5, small5000 (by omega), g ++ [(⟨#[ch]⟩, ex)], acc ++ [.ref p], by rw [List.length_append, hgl]; rfl, by rw [List.length_append, hal]; rfl, ?_, ?_, upd_same, ?_, fun q hq => ?_⟩
    · exact ExtR.of_freeR hD (e3.trans (e45.trans (ExtR.new r hp _))) (by rw [upd_ne hpD]; exact hacc5)
    · have row6 := row5.ext (Ext.new hp (.tup [.str ⟨#[ch]⟩, v]))
      exact row6.setD hDr
    · have hset : ExtR D (upd H5 p (.tup [.str ⟨#[ch]⟩, v])) (upd (upd H5 p (.tup [.str ⟨#[ch]⟩, v])) D (.lst (acc ++ [.ref p]))) := ExtR.set (by rw [upd_ne hpD]; exact hacc5) _
      rw [List.map_append]
      refine DAs.append (((hds.monoR e45).mono (Ext.new hp _)).monoR hset) ?_
      exact .cons ((DA.two_mk hp hv).monoR hset) .nil
    · rcases List.mem_append.mp hq with z | z
      · exact hok q z
      · obtain rfl := List.mem_singleton.mp z
        exact ⟨(by omega : ex.dep ≤ 4), (by omega : ex.wid ≤ 5000), hch2⟩
  · refine ⟨D, acc, rfl, .inl ⟨SqL.of hacc, fun gl hgl0 => ?_⟩⟩
    have hgok : Gr.Ok g 4 := ⟨fun p hp => (hok p hp).2.2, fun p hp => (hok p hp).1, fun p hp => (hok p hp).2.1, by omega⟩
    have hgv : DA (upd H' gl (.tup acc)) (grPy g) (.ref gl) := DA.tup upd_same (hds.mono (Ext.new hgl0 _))
    have htab3 := (ExtR.new r hgl0 (.tup acc)).tabG (e3.tabG htab2)
    generalize (upd H' gl (.tup acc)) = H4 at hgv htab3 ⊢
    refine ⟨_, rfl, g, _, rfl, hgv, hgok, fun l1 H5 e5 _ hl1 => ?_⟩
    refine ⟨_, rfl, g, _, rfl, hgv.mono e5, hgok, e5.tabG htab3, fun l2 H6 e6 _ hl2 => ?_⟩
    have hl1' := e6.lst hl1
    have hgv6 := (hgv.mono e5).mono e6
    have htab6 := e6.tabG (e5.tabG htab3)
    refine ⟨_, rfl, _, _, _, _, _, rfl, .ty _, .base (.lst hl2), kit_ty (by decide +kernel), true, rfl, ite_f rfl ?_⟩
    refine ⟨_, rfl, _, rfl, _, _, Dp_names hl2, Dp_names hl1', names_shaped (Gr.emps_nam hgok), names_shaped (Gr.emps_nam hgok), _, rfl, ite_f (by rw [names_eq, decide_eq_true rfl]; rfl) ?_⟩
    obtain ⟨ga, gs, hg0, hga, hgs, hgl2⟩ := grI hgv6
    cases hg0
    refine ⟨_, rfl, gl, rfl, ⟨_, SqT.of hga⟩, ?_⟩
    refine for_tup (K := K) (a := gl) (xs := gs) (fun j σ H' => ∃ (x y z u : Option V), σ = [some (.ref a), some (.ref r), some (.int (1 + m0)), some (.ref gl), u, some (.ref l1), some (.ref l2), x, y, z] ∧ Ext H6 H')
      ⟨_, _, _, _, rfl, Ext.refl _⟩ (fun j σ H' _ ⟨x, y, z, u, _, e⟩ => SqT.of (e.tup hga)) (fun j v σ H' hv ⟨x, y, z, u, hσ, e⟩ => ?_) (fun σ H' ⟨x, y, z, u, hσ, e⟩ => hQ H')
    subst hσ
    obtain ⟨nm, ex, ra, ev, hge, rfl, hra, hev⟩ := ruleI (hgs.mono e) hv
    have hmem := List.mem_of_getElem? hge
    have hdep := hgok.dep _ hmem
    have hwid := hgok.wid _ hmem
    refine ⟨_, rfl, ra, _, _, _, rfl, rfl, SqT.of hra, at1, _, rfl, l1, ex, ev, g.emps, rfl, hev, e.lst hl1', e.tabG htab6, hdep, fun H7 e7 => ?_⟩
    refine ⟨_, rfl, ra, _, _, _, rfl, rfl, SqT.of (e7.tup hra), at1, Nat.zero_le _, fun p hp => ?_⟩
    have e8 := Ext.new hp (.lst [])
    refine ⟨p, ex, ev, [], rfl, (hev.mono e7).mono e8, upd_same, e8.tabG (e7.tabG (e.tabG htab6)), hdep, fun H9 e9 => ?_⟩
    have e79 := e7.trans (e8.trans e9)
    refine ⟨_, rfl, _, _, _, _, _, rfl, .ty _, .base (.bl _), kit_ty (by decide +kernel), true, rfl, ite_f rfl ?_⟩
    refine ⟨_, rfl, _, rfl, ra, _, _, _, rfl, rfl, SqT.of (e79.tup hra), at1, _, rfl, l1, ex, ev, g.emps, rfl, hev.mono e79, e79.lst (e.lst hl1'), hdep, hwid, fun H10 e10 => ?_⟩
    have e710 := e79.trans e10
    refine ⟨rfl, _, rfl, ite_f (by rw [decide_eq_true rfl]; rfl) ?_⟩
    refine ⟨_, rfl, _, rfl, ra, _, _, _, rfl, rfl, SqT.of (e710.tup hra), at1, Nat.zero_le _, fun p2 hp2 => ?_⟩
    have e11 := Ext.new hp2 (.lst [])
    refine ⟨p2, ex, ev, [], rfl, (hev.mono e710).mono e11, upd_same, hdep, hwid, fun H12 e12 => ?_⟩
    refine ⟨rfl, _, rfl, ite_f (by rw [decide_eq_true rfl]; rfl) ?_⟩
    exact ⟨_, _, _, _, rfl, e.trans (e710.trans (e11.trans e12))⟩

end
end N_k04
namespace N_k04
open PySem PySem.Spec PyProof.Rows L2 GenW GE LB
def dd_may_be_empty : He.DefD := ⟨("may_be_empty", none), "may_be_empty", "may_be_empty", defArgs s_may_be_empty, defBody s_may_be_empty, defScope s_may_be_empty, [], []⟩
def dd_empty_rules : He.DefD := ⟨("empty_rules", none), "empty_rules", "empty_rules", defArgs s_empty_rules, defBody s_empty_rules, defScope s_empty_rules, [], []⟩
def dd__law_stream : He.DefD := ⟨("_law_stream", none), "_law_stream", "_law_stream", defArgs s__law_stream, defBody s__law_stream, defScope s__law_stream, [], []⟩
def dd__law_take : He.DefD := ⟨("_law_take", none), "_law_take", "_law_take", defArgs s__law_take, defBody s__law_take, defScope s__law_take, [], []⟩
def dd__law_wild : He.DefD := ⟨("_law_wild", none), "_law_wild", "_law_wild", defArgs s__law_wild, defBody s__law_wild, defScope s__law_wild, [], []⟩
def dd__law_empty : He.DefD := ⟨("_law_empty", none), "_law_empty", "_law_empty", defArgs s__law_empty, defBody s__law_empty, defScope s__law_empty, [], []⟩
def dd__law_empties : He.DefD := ⟨("_law_empties", none), "_law_empties", "_law_empties", defArgs s__law_empties, defBody s__law_empties, defScope s__law_empties, [], []⟩
def dd_law : He.DefD := ⟨("law", none), "law", "law", defArgs s_law, defBody s_law, defScope s_law, [], []⟩
def fn : List He.DefD := [dd_may_be_empty, dd_empty_rules, dd__law_stream, dd__law_take, dd__law_wild, dd__law_empty, dd__law_empties, dd_law]
def fa : List He.Fa := [.glo "may_be_empty", .glo "empty_rules", .glo "_law_stream", .glo "_law_take", .glo "_law_wild", .glo "_law_empty", .glo "_law_empties", .glo "law", .free "abs", .free "all", .free "any", .free "bool", .free "int", .free "isinstance", .free "len", .free "list", .free "range", .free "tuple", .glo "ALWAYS_EMPTY"]
def tf : List He.Defn := [("may_be_empty", none)]
def exB (K : PySem.W.Frag) : Bool := (He.tupB K "ALWAYS_EMPTY" [.str "eps", .str "star", .str "opt", .str "not", .str "and"])
abbrev R : PySem.W.OpenRow := PySem.W.OpenLaw.row PySem.Challenge.rw_graft_k04_rules_that_may_be_empty
abbrev hk : PySem.W.Hook := He.hookX 5 fa fn [] tf exB
def ob (s : PySem.W.SharedT) : He.AlX := He.obsX 5 fa fn [] tf exB (HandSHeadRun.getT s)
theorem ob_eq (s : PySem.W.SharedT) : ob s = hk.obs s.abs := He.obsX_eq (HandSHeadRun.getT_eq s)
def loose0 : List Str := ["may_be_empty", "empty_rules", "_law_stream", "_law_take", "_law_wild", "_law_empty", "_law_empties", "ALWAYS_EMPTY"]
def looseA : List Str := loose0
set_option maxHeartbeats 0 in
theorem run (w : World) : HandSHeadRun.RunEq R (PySem.W.view R.prog [10]) hk ob 600 looseA w := by
  intro os
  kernel_rfl
theorem facts {P : Program} {w : World} {K : PySem.W.Frag} {h : Heap} {mg : Str → Option Value} {f : Addr} (X : K.In h) (G : h.Ns mainGlobals mg) (hfa : mg ("law" : Str) = some (.ref f)) (c : He.SaysX fa fn [] tf exB w h K) :
    ∃ (fd : FuncData) (cs : List (Addr × Addr)) (sp : Sp), (∀ p ∈ cs, h.get? p.2 = some { cls := .none, data := .fields #[] }) ∧ (∀ p ∈ cs, K.lookup p.2 = none) ∧ (∀ p ∈ cs, PySem.W.CodeHd h p.1 p.2) ∧ (∀ (s : Shared) (u : Value), BindsTo s fd ⟨[u], []⟩ [("script", u)]) ∧
    (∀ (H : Hp) (a : Addr) (ns : List Int), ns.length ≤ 63 → (∀ z ∈ ns, Builtin.Int.intBits z ≤ 1048576) → (∀ p ∈ cs, H p.2 = some (.tbl #[])) → SqL K H a (ns.map V.int) → sp [.ref a] H (fun v _ => v = .bl true) fun _ _ _ => False) ∧
    ∀ base : Heap, K.In base → base.Ns mainGlobals mg → (∀ p ∈ cs, LamX.TabB base mg p.1 p.2) → FnOk P w K mg base CX0 (19 + 1) f fd ["script"] sp := by
  have cd := c.t.d
  obtain ⟨fd_may_be_empty, F_may_be_empty⟩ := cd.def_ 0 (d := dd_may_be_empty) rfl
  have D_may_be_empty : DF K mg "may_be_empty" s_may_be_empty ["expression", "names"] (He.fAd K ("may_be_empty", none)) fd_may_be_empty := df_mk X G F_may_be_empty (cd.fact 0 (f := .glo "may_be_empty") rfl) fun _ _ _ _ _ _ us hl => match us, hl with | [_, _], _ => rfl
  obtain ⟨fd_empty_rules, F_empty_rules⟩ := cd.def_ 1 (d := dd_empty_rules) rfl
  have D_empty_rules : DF K mg "empty_rules" s_empty_rules ["grammar"] (He.fAd K ("empty_rules", none)) fd_empty_rules := df_mk X G F_empty_rules (cd.fact 1 (f := .glo "empty_rules") rfl) fun _ _ _ _ _ _ us hl => match us, hl with | [_], _ => rfl
  obtain ⟨fd__law_stream, F__law_stream⟩ := cd.def_ 2 (d := dd__law_stream) rfl
  have D__law_stream : DF K mg "_law_stream" s__law_stream ["script"] (He.fAd K ("_law_stream", none)) fd__law_stream := df_mk X G F__law_stream (cd.fact 2 (f := .glo "_law_stream") rfl) fun _ _ _ _ _ _ us hl => match us, hl with | [_], _ => rfl
  obtain ⟨fd__law_take, F__law_take⟩ := cd.def_ 3 (d := dd__law_take) rfl
  have D__law_take : DF K mg "_law_take" s__law_take ["row", "many"] (He.fAd K ("_law_take", none)) fd__law_take := df_mk X G F__law_take (cd.fact 3 (f := .glo "_law_take") rfl) fun _ _ _ _ _ _ us hl => match us, hl with | [_, _], _ => rfl
  obtain ⟨fd__law_wild, F__law_wild⟩ := cd.def_ 4 (d := dd__law_wild) rfl
  have D__law_wild : DF K mg "_law_wild" s__law_wild ["row", "depth", "many"] (He.fAd K ("_law_wild", none)) fd__law_wild := df_mk X G F__law_wild (cd.fact 4 (f := .glo "_law_wild") rfl) fun _ _ _ _ _ _ us hl => match us, hl with | [_, _, _], _ => rfl
  obtain ⟨fd__law_empty, F__law_empty⟩ := cd.def_ 5 (d := dd__law_empty) rfl
  have D__law_empty : DF K mg "_law_empty" s__law_empty ["expression", "names"] (He.fAd K ("_law_empty", none)) fd__law_empty := df_mk X G F__law_empty (cd.fact 5 (f := .glo "_law_empty") rfl) fun _ _ _ _ _ _ us hl => match us, hl with | [_, _], _ => rfl
  obtain ⟨fd__law_empties, F__law_empties⟩ := cd.def_ 6 (d := dd__law_empties) rfl
  have D__law_empties : DF K mg "_law_empties" s__law_empties ["grammar"] (He.fAd K ("_law_empties", none)) fd__law_empties := df_mk X G F__law_empties (cd.fact 6 (f := .glo "_law_empties") rfl) fun _ _ _ _ _ _ us hl => match us, hl with | [_], _ => rfl
  obtain ⟨fd_law, F_law⟩ := cd.def_ 7 (d := dd_law) rfl
  have D_law : DF K mg "law" s_law ["script"] (He.fAd K ("law", none)) fd_law := df_mk X G F_law (cd.fact 7 (f := .glo "law") rfl) fun _ _ _ _ _ _ us hl => match us, hl with | [_], _ => rfl
  have e := hfa.symm.trans D_law.m
  cases e
  have hex : exB K = true := c.more
  have hx0 := hex
  have mem : ∀ p ∈ ([He.cT K ("may_be_empty", none)] : List (Addr × Addr)), ∃ z ∈ tf, p = He.cT K z := fun p hp => by
    have e : ([He.cT K ("may_be_empty", none)] : List (Addr × Addr)) = tf.map (He.cT K) := rfl
    rw [e] at hp
    obtain ⟨z, hz, e2⟩ := List.mem_map.mp hp
    exact ⟨z, hz, e2.symm⟩
  refine ⟨fd_law, [He.cT K ("may_be_empty", none)], spLaw K [(He.cT K ("may_be_empty", none)).2], fun p hp => ?_, fun p hp => ?_, fun p hp => ?_, fun s v => (F_law.bindsA (ps := ["script"]) (fun _ _ _ _ _ _ us hl => match us, hl with | [_], _ => rfl)) s [v] rfl, fun H a ns hl _ hT hS => ⟨a, ns, rfl, hS, hl, fun t ht => ?_, fun _ => rfl⟩, fun base KB GB TB => ?_⟩
  · obtain ⟨z, hz, rfl⟩ := mem p hp
    exact c.empty z hz
  · obtain ⟨z, hz, rfl⟩ := mem p hp
    exact c.out z hz
  · obtain ⟨z, hz, rfl⟩ := mem p hp
    exact PySem.W.codeHd_of_K X (c.hd z hz)
  · have e : ([(He.cT K ("may_be_empty", none)).2] : List Addr) = ([He.cT K ("may_be_empty", none)] : List (Addr × Addr)).map (·.2) := rfl
    rw [e] at ht
    obtain ⟨p, hp, rfl⟩ := List.mem_map.mp ht
    exact ⟨#[], hT p hp, by show TriplesOk []; trivial⟩
  let T : Txt K mg base := { b_abs := He.free_ok X G (cd.fact 8 (f := .free "abs") rfl), b_all := He.free_ok X G (cd.fact 9 (f := .free "all") rfl), b_any := He.free_ok X G (cd.fact 10 (f := .free "any") rfl), b_bool := He.free_ok X G (cd.fact 11 (f := .free "bool") rfl), b_int := He.free_ok X G (cd.fact 12 (f := .free "int") rfl), b_isinstance := He.free_ok X G (cd.fact 13 (f := .free "isinstance") rfl), b_len := He.free_ok X G (cd.fact 14 (f := .free "len") rfl), b_list := He.free_ok X G (cd.fact 15 (f := .free "list") rfl), b_range := He.free_ok X G (cd.fact 16 (f := .free "range") rfl), b_tuple := He.free_ok X G (cd.fact 17 (f := .free "tuple") rfl), f_may_be_empty := _, d_may_be_empty := fd_may_be_empty, D_may_be_empty := D_may_be_empty, f_empty_rules := _, d_empty_rules := fd_empty_rules, D_empty_rules := D_empty_rules, f__law_stream := _, d__law_stream := fd__law_stream, D__law_stream := D__law_stream, f__law_take := _, d__law_take := fd__law_take, D__law_take := D__law_take, f__law_wild := _, d__law_wild := fd__law_wild, D__law_wild := D__law_wild, f__law_empty := _, d__law_empty := fd__law_empty, D__law_empty := D__law_empty, f__law_empties := _, d__law_empties := fd__law_empties, D__law_empties := D__law_empties, k_may_be_empty := (He.cT K ("may_be_empty", none)).1, t_may_be_empty := (He.cT K ("may_be_empty", none)).2, TB_may_be_empty := tabB_of (TB (He.cT K ("may_be_empty", none)) (by simp)), kc_may_be_empty := D_may_be_empty.code, a_ALWAYS_EMPTY := He.ga K "ALWAYS_EMPTY", c_ALWAYS_EMPTY := He.glo_ok X G (cd.fact 18 (f := .glo "ALWAYS_EMPTY") rfl), v_ALWAYS_EMPTY := fun H => He.tupB_ok hx0 H }
  have Gt := ok__law_take (P := P) (w := w) T
  have Ge := ok__law_empty (P := P) (w := w) T 4
  have Gm := ok_may_be_empty (P := P) (w := w) T 4
  exact ok_law T D_law (ok__law_stream T) Gt (ok__law_wild T Gt 4) Ge (ok__law_empties T 4 Ge) Gm (ok_empty_rules T 4 Gm)
end N_k04
open PySem PySem.W PySem.Calls PyProof.Rows
set_option maxRecDepth 100000 in
set_option maxHeartbeats 0 in
theorem PySem.Challenge.cw_graft_k04_rules_that_may_be_empty_holds : PySem.Challenge.rw_graft_k04_rules_that_may_be_empty.Holds := by
  w_on; o_law
  refine HandSHeadRun.head_any (r := OpenLaw.row PySem.Challenge.rw_graft_k04_rules_that_may_be_empty) (q := view (OpenLaw.row PySem.Challenge.rw_graft_k04_rules_that_may_be_empty).prog [10]) (H := N_k04.hk) (ob := N_k04.ob) (M := 600) (loose := N_k04.looseA) (d := HandSHeadRun.topDef (OpenLaw.row PySem.Challenge.rw_graft_k04_rules_that_may_be_empty).prog 10) (kwd := []) N_k04.ob_eq
    (by kernel_rfl) (fun s => by kernel_rfl) N_k04.run (by kernel_rfl) (by kernel_rfl) (by kernel_rfl) (by rfl) (by first | assumption | decide +kernel) (by decide +kernel) ⟨rfl, rfl, rfl, rfl, rfl, by decide +kernel⟩ ?hw ?hc
  case hw => w_witness2
  case hc =>
    refine LamX.walk_ofTsE (l := PySem.Challenge.rw_graft_k04_rules_that_may_be_empty) (n := 63) (k := (19 + 1)) (x := "script") (CX := fun _ => L2.CX0) rfl (by decide) (by kernel_rfl) ⟨rfl, by decide, by decide⟩ ?F (fun _ _ _ _ _ z => z)
    intro w mg fa h Y G hmg0
    obtain ⟨K, KX, c⟩ := Y
    have hmg : mg ("law" : PySem.Str) = some (.ref fa) := by
      have e : (HandSHeadRun.topDef (OpenLaw.row PySem.Challenge.rw_graft_k04_rules_that_may_be_empty).prog 10).name = ("law" : PySem.Str) := by kernel_rfl
      rw [← e]
      exact hmg0
    exact ⟨K, KX, N_k04.facts (P := (PySem.Challenge.rw_graft_k04_rules_that_may_be_empty).prog) (w := w) KX G hmg c⟩
#print axioms PySem.Challenge.cw_graft_k04_rules_that_may_be_empty_holds

