import PyProof.Rows.All
import Wide.All
import OpenK.AllK
import Wide.FinOn
import HandS.ForMost
import HandS.ForExc
import HandS.AnyAll
import HandS.GenList
import HandS.EndTab
import HandS.Defaults
import HandS.HeadWalk
import HandS.HeadHook4
import HandS.Head2
import HandS.IsInst
import HandS.TupAny
import HandS.Wide
import HandS.Flow
import HandS.SetBool
import HandS.SetKeys
import PySem.Spec
import HandS.ExcInit
import HandS.ClsMeth
import HandS.FStr
import HandS.ExcField
import HandS.TryOnly
import HandS.Style
import HandS.TupMul
import HandS.Codes
import PySem.Challenge.RW_graft_k01_grammars_and_near_things
set_option Elab.async false
set_option linter.all false
set_option maxRecDepth 100000
set_option maxHeartbeats 2000000
/-! generator expressions over anything that is walked, the element any expression that raises nothing -/
namespace GE
open PySem PySem.Spec PyProof.Rows L2 GenW

theorem over_gen {A : Around} {elt : Expr} {gens : List Comprehension} {scope : Scope} {pos : Pos} {it acc : Value} {env : Env} : A.over (.compLoop (.GeneratorExp elt gens scope pos) 0 it acc env) [] = A.deeper env := by
  first
    | rfl
    | (obtain ⟨hd, d, fr, gs, u⟩ := A; simp [Around.over, Around.deeper, marksOver, frameCount, unitsOf, envsOf, guardsOf, pushEnvs, pushGuards, Code.envs, Code.env?, Code.isFrame, Code.guards, Code.isGuard, Code.weight, Code.frames, Code.isCreation, Code.isCaller, Code.cUnits])

/-- the context of a generator expression's frame; B: around it when it is woken -/
abbrev gx (X : Cx) (B : Around) (s : Shared) (H : Hp) (cenv : Env) (fp : List Addr) (pn : List (Addr × Obj)) : Cx :=
  { X with A := B.deeper cenv, s_0 := s, H_0 := H, env := cenv, outer := X.stack, stack := cenv :: X.stack, ex := fp, fn := fun _ => false, calm := true, pn := pn, xe := fun _ _ => False }

section
variable {X : Cx} {pins : List (Addr × Obj)} {σ : L2.St} {H : Hp} {s : Shared}
theorem gx_start {scope : Scope} {own : List (Str × Nat)} {fp : List Addr} {B : Around} {code itv : Value} {h' : Heap} {g' : Array GenState} {tk : Nat} {pn : List (Addr × Obj)}
    (I : Inv X pins σ H s) (ok : BlkOk X.N X.env.scope scope own) (hnc : ∀ y ∈ scope.names, y.2 ≠ .cell) (hN : X.N.Nodup) (hfp : ∀ b ∈ fp, FpOk X pins H b ∧ b < s.heap.objs.size)
    (hfr : B.frames = some X.stack) (hhd : B.handled = none) (hns : h'.Ns s.heap.objs.size (fun y => if y = (".0" : Str) then some itv else none)) (kp : ∀ b o, s.heap.get? b = some o → h'.get? b = some o) (hb : AllBare g')
    (hpn : ∀ p ∈ pn, h'.get? p.1 = some p.2 ∧ s.heap.objs.size < p.1 ∧ ∀ v, p.2.data ≠ .cell v) :
    Inv (gx X B s H (genEnv scope (cloFrom X.env.cells scope.names []) s.heap.objs.size code builtinsNs X.env) fp pn) [] (wipe σ (own.map (·.2))) H { s with heap := h', gens := g', toks := tk } := by
  have hfree : ∀ y ∈ scope.names, y.2 = .free → ∃ c, X.env.cells.lookup y.1 = some c := fun y hy e => by
    rcases ok.free y hy e with k | k
    · exact I.ok.has _ (.inl k)
    · exact I.ok.has _ (.inr k)
  generalize hcenv : genEnv scope (cloFrom X.env.cells scope.names []) s.heap.objs.size code builtinsNs X.env = cenv
  have hL : cenv.locals = s.heap.objs.size := by rw [← hcenv]; rfl
  have hcl : cenv.cells = cloFrom X.env.cells scope.names [] := by rw [← hcenv]; rfl
  have hsc : cenv.scope = scope := by rw [← hcenv]; rfl
  have hfm : cenv.frame = some cenv.locals := by rw [← hcenv]; rfl
  have cm : ∀ {y c}, (y, c) ∈ cloFrom X.env.cells scope.names [] → X.env.cells.lookup y = some c ∧ c < s.heap.objs.size := fun {y c} hm => by
    rcases cloFrom_mem hm with hm | ⟨h1, rfl⟩
    · cases hm
    · obtain ⟨c, hc⟩ := hfree _ h1 rfl
      rw [hc]
      obtain ⟨w, z⟩ := I.cell _ _ hc
      exact ⟨rfl, z.lt⟩
  have mem : ∀ {y c}, cenv.cells.lookup y = some c → (X.env.cells.lookup y = some c ∧ c < s.heap.objs.size) := fun {y c} e => by
    rw [hcl] at e
    exact cm (PySem.mem_of_lookup e)
  have look : ∀ {y}, scope.names.lookup y = some .free → ∃ c, cenv.cells.lookup y = some c ∧ X.env.cells.lookup y = some c := fun {y} hl => by
    have hy : (y, NameKind.free) ∈ scope.names := PySem.mem_of_lookup hl
    obtain ⟨c', e'⟩ := mem_lookup (cloFrom_has (cells := X.env.cells) (acc := []) hy)
    rw [← hcl] at e'
    exact ⟨c', e', (mem e').1⟩
  have okB : (gx X B s H cenv fp pn).Ok := by
    refine ⟨I.ok.mod, by show cenv.scope.kind = _; rw [hsc]; exact ok.kind, by show cenv.globals = _; rw [← hcenv]; exact I.ok.glob, by show cenv.builtins = _; rw [← hcenv]; rfl, by show s.heap.objs.size ≤ cenv.locals; rw [hL]; exact Nat.le_refl _,
      fun y z c e1 e2 => ?_, fun y hy => ?_, fun y c z e => ?_, fun _ => hhd, Around.frames_deeper hfr, .inr ⟨rfl, hfm⟩, fun b hb => ⟨?_, fun y c e z => ?_⟩, I.bs, Nat.le_trans I.ok.bsz I.sz, fun b o e hb => ?_, fun b hb z => ?_, I.stack, I.stkFree⟩
    · have e1 : cenv.cells.lookup y = some c := e1
      have e2 : cenv.cells.lookup z = some c := e2
      exact I.ok.inj y z c (mem e1).1 (mem e2).1
    · show ∃ c, cenv.cells.lookup y = some c
      have key : ∀ k, cenv.kindOf y = some k → (k = .cell ∨ k = .free) → ∃ c, cenv.cells.lookup y = some c := fun k hk hk' => by
        unfold Env.kindOf at hk
        rw [hsc] at hk
        rcases hk' with rfl | rfl
        · exact absurd rfl (hnc _ (PySem.mem_of_lookup hk))
        · obtain ⟨c, h1, _⟩ := look hk
          exact ⟨c, h1⟩
      rcases hy with hy | hy
      · exact key _ hy (.inl rfl)
      · exact key _ hy (.inr rfl)
    · exact absurd z Bool.false_ne_true
    · show b ≠ cenv.locals
      rw [hL]; exact Nat.ne_of_lt (hfp b hb).2
    · have e : cenv.cells.lookup y = some c := e
      exact (hfp b hb).1.2.2.2.2.1 y c (mem e).1 z
    · rcases (hfp b hb).1.2.2.2.1 with z | z
      · exact I.ok.noex b o e z
      · exact absurd (Nat.lt_of_lt_of_le (Heap.lt_size e) (Nat.le_trans I.ok.bsz z)) (Nat.lt_irrefl _)
    · rcases List.mem_cons.mp (I.stkSub b z) with z | z
      · exact (hfp b hb).1.2.1 z
      · exact (hfp b hb).1.2.2.1 z
  refine ⟨okB, rfl, hb, Un.kept kp, ⟨fun y => if y = (".0" : Str) then some itv else none, ?_, fun i y av e1 e2 e3 => ?_⟩, fun y c e => ?_, ?_, fun y c e => ?_, fun p hp => ?_, I.hok.kept kp, by rw [wipe_length]; exact I.len⟩
  · show Heap.Ns _ cenv.locals _
    rw [hL]
    exact hns
  · obtain ⟨e2, hne⟩ := wipe_some e2
    have hfr : scope.names.lookup y = some .free ∧ cenv.kindOf y = some .free := by
      have key : ∀ k, cenv.scope.names.lookup y = some k → k = .local ∨ k = .cell ∨ k = .free → scope.names.lookup y = some .free ∧ cenv.kindOf y = some .free := fun k hk hk' => by
        have hk0 := hk
        rw [hsc] at hk
        have no : ¬ (k = .local ∨ k = .cell) := fun hh => by
          rcases ok.own _ (PySem.mem_of_lookup hk) hh with e' | e'
          · obtain ⟨p, hp, hpy⟩ := List.mem_map.mp e'
            have e3 := ok.ix p hp
            have : p.1 = y := hpy
            rw [this] at e3
            exact hne (List.mem_map.mpr ⟨p, hp, nodup_ix hN e3 e1⟩)
          · exact e' (List.mem_of_getElem? e1)
        rcases hk' with rfl | rfl | rfl
        · exact absurd (.inl rfl) no
        · exact absurd (.inr rfl) no
        · exact ⟨hk, hk0⟩
      have e3 : Vis cenv.scope y := e3
      rcases e3 with e3 | e3 | e3
      · exact key _ e3 (.inl rfl)
      · exact key _ e3 (.inr (.inl rfl))
      · exact key _ e3 (.inr (.inr rfl))
    obtain ⟨m, hn, hl⟩ := I.loc
    have hvis : Vis X.env.scope y := (ok.free _ (PySem.mem_of_lookup hfr.1) rfl).elim (fun k => .inr (.inl k)) (fun k => .inr (.inr k))
    obtain ⟨w, r, q⟩ := hl i y av e1 e2 hvis
    refine ⟨w, r, .inr ⟨.inr hfr.2, ?_⟩⟩
    obtain ⟨c, h1, h2⟩ := look hfr.1
    rcases q with ⟨k, _⟩ | ⟨_, c', e', z⟩
    · have k : X.env.scope.names.lookup y = some .local := k
      rcases ok.free _ (PySem.mem_of_lookup hfr.1) rfl with k' | k' <;> rw [show X.env.scope.names.lookup y = _ from k'] at k <;> cases k
    · rw [h2] at e'; cases e'
      exact ⟨c, h1, z.keeps kp⟩
  · have e : cenv.cells.lookup y = some c := e
    obtain ⟨w, z⟩ := I.cell y c (mem e).1
    exact ⟨w, z.keeps kp⟩
  · show H cenv.locals = none
    rw [hL]; exact I.hok.fresh (Nat.le_refl _)
  · have e : cenv.cells.lookup y = some c := e
    exact I.freeC y c (mem e).1
  · have hp' : p ∈ pn := by simpa using hp
    obtain ⟨h1, h2, h3⟩ := hpn p hp'
    refine ⟨h1, I.hok.fresh (Nat.le_of_lt h2), ?_, ?_, h3⟩
    · show p.1 ≠ cenv.locals
      rw [hL]; exact Nat.ne_of_gt h2
    · intro z
      have z' : p.1 ∈ frs X.stack := z
      rcases List.mem_cons.mp (I.stkSub _ z') with z2 | z2
      · have := I.lt
        rw [← z2] at this
        exact absurd (Nat.lt_trans h2 this) (Nat.lt_irrefl _)
      · exact I.nofs (Nat.le_of_lt h2) z2
end
end GE
set_option Elab.async false
set_option linter.all false
set_option maxRecDepth 100000
set_option maxHeartbeats 2000000
namespace GE
open PySem PySem.Spec PyProof.Rows L2 GenW

/-- while the generator sleeps: all objects are kept -/
structure Slp (s s' : Shared) : Prop where
  os : s'.os = s.os
  bare : AllBare s'.gens
  keep : ∀ b o, s.heap.get? b = some o → s'.heap.get? b = some o

/-- between two turns -/
structure GSt (X' : Cx) (fp : List Addr) (tn : Nat → Heap → Prop) (σ0 : L2.St) (i : Nat) (H : Hp) (s : Shared) : Prop where
  inv : Inv X' [] σ0 H s
  tn : tn i s.heap
  free : ∀ b ∈ fp, H b = none

section
variable {X' : Cx} {fp : List Addr} {tn : Nat → Heap → Prop} {σ0 : L2.St} {N : Nat} {W : Nat → Hp → Prop} {step : Nat → V → Hp → (Hp → Prop) → Prop} {fin : Hp → Prop} {J : It} {g : TG} {te : TE} {tg elt iter : Expr} {it : Addr} {scope : Scope} {pos : Pos} {A : Around} {vs : List Nat}

theorem GSt.slept {i : Nat} {H : Hp} {s s' : Shared} (G : GSt X' fp tn σ0 i H s) (T : Turn X'.prog X'.w X'.K tg J fp it tn) (z : Slp s s') : GSt X' fp tn σ0 i H s' :=
  ⟨G.inv.call' (ch := []) z.os (Un.kept z.keep) (G.inv.hok.kept z.keep) z.bare (fun b hb => absurd hb (by simp)), T.keep _ _ _ G.tn fun b _ o e => z.keep b o e, G.free⟩

def YG (X' : Cx) (fp : List Addr) (tn : Nat → Heap → Prop) (σ0 : L2.St) (N : Nat) (W : Nat → Hp → Prop) (step : Nat → V → Hp → (Hp → Prop) → Prop) : Protocol := fun n _ v s kap =>
  ∃ i y H, (n + i = N ∧ i < N) ∧ RelV y v ∧ GSt X' fp tn σ0 (i + 1) H s ∧ step i y H (W (i + 1)) ∧ ∀ s' H', GSt X' fp tn σ0 (i + 1) H' s' → W (i + 1) H' → kap (.send .none) s'
def PG' (X' : Cx) (fp : List Addr) (tn : Nat → Heap → Prop) (σ0 : L2.St) (fin : Hp → Prop) : Nat → Shared → Shared → Prop := fun n _ s₁ => n = 1 ∧ ∃ H, Inv X' [] σ0 H s₁ ∧ fin H

/-- what each turn asks -/
structure Turns (J : It) (g : TG) (te : TE) (σ0 : L2.St) (vs : List Nat) (N : Nat) (W : Nat → Hp → Prop) (step : Nat → V → Hp → (Hp → Prop) → Prop) (fin : Hp → Prop) : Prop where
  stop : ∀ H, W N H → J.stop N H ∧ fin H
  go : ∀ i H, i < N → W i H → J.go i H ∧ ∀ x H', J.yld i H x H' → g x σ0 H' fun σ2 H2 => wipe σ2 vs = σ0 ∧ te σ2 H2 fun y H3 => step i y H3 (W (i + 1))

theorem seg_gx (pg : PG X' tg g) (pe : PE X' elt te) (T : Turn X'.prog X'.w X'.K tg J fp it tn) (hc : X'.calm = true) (hex : X'.ex = fp) (hpn : ∀ b ∈ fp, ∀ p ∈ X'.pn, p.1 ≠ b)
    (hA : A.over (.compLoop (.GeneratorExp elt [⟨tg, iter, [], 0⟩] scope pos) 0 (.ref it) .none X'.env) [] = X'.A) (hxe : X'.xe = fun _ _ => False) (hco : X'.env.scope.isCoroutine = false)
    (hst : Turns J g te σ0 vs N W step fin) :
    ∀ (k i : Nat) (s₀ s : Shared) (H : Hp), N - i = k → i ≤ N → GSt X' fp tn σ0 i H s → W i H →
      Seg (model X'.prog X'.w) A (fun n s₀ r s₁ => r = .ok .next ∧ PG' X' fp tn σ0 fin n s₀ s₁) (YG X' fp tn σ0 N W step) (k + 1) s₀
        (.compLoop (.GeneratorExp elt [⟨tg, iter, [], 0⟩] scope pos) 0 (.ref it) .none X'.env)
        ((model X'.prog X'.w).den (.compLoop (.GeneratorExp elt [⟨tg, iter, [], 0⟩] scope pos) 0 (.ref it) .none X'.env)) [] s := by
  have stat : ∀ {σ' : L2.St} {H' : Hp} {s' : Shared}, Inv X' [] σ' H' s' → (∀ b ∈ fp, H' b = none) → ∀ b ∈ fp, FpOk X' [] H' b := fun {σ' H' s'} I' hn b hb =>
    have hb' : b ∈ X'.ex := by rw [hex]; exact hb
    ⟨hn b hb, (I'.ok.exf b hb').1, I'.ok.exfs b hb', .inl hb', fun x c e => (I'.ok.exf b hb').2 x c e, fun p hp => hpn b hb p (by simpa using hp)⟩
  intro k
  induction k with
  | zero =>
    intro i s₀ s H hk hi hG hW
    have hin : i = N := by omega
    subst hin
    obtain ⟨hs1, hs2⟩ := hst.stop H hW
    show Seg _ A _ _ _ s₀ _ ((compTurn (.GeneratorExp elt [⟨tg, iter, [], 0⟩] scope pos) 0 (.ref it) .none X'.env).onRaise (leaving X'.env)) [] s
    rw [compTurn_gen, Sem.onRaise_eq_wrap]
    refine seg_bind_wrap (wpAny_standAt ?_)
    refine seg_bind_wrap ?_
    rw [hA]
    refine wpAny_mono (T.done X' rfl rfl rfl hc i [] s _ H (fun _ _ => False) hG.inv (stat hG.inv hG.free) hG.tn hs1) (fun r s1 ⟨hr, I1⟩ => ?_) fun _ _ z => z.elim
    subst hr
    exact seg_end (.ok .next) ⟨rfl, rfl, H, I1, hs2⟩
  | succ k ih =>
    intro i s₀ s H hk hi hG hW
    have hlt : i < N := by omega
    obtain ⟨hgo, hturn⟩ := hst.go i H hlt hW
    show Seg _ A _ _ _ s₀ _ ((compTurn (.GeneratorExp elt [⟨tg, iter, [], 0⟩] scope pos) 0 (.ref it) .none X'.env).onRaise (leaving X'.env)) [] s
    rw [compTurn_gen, Sem.onRaise_eq_wrap]
    refine seg_bind_wrap (wpAny_standAt ?_)
    refine seg_bind_wrap ?_
    rw [hA]
    refine wpAny_mono (T.item X' rfl rfl rfl hc i [] s _ H (fun _ _ => False) hG.inv (stat hG.inv hG.free) hG.tn hgo) (fun r s1 ⟨u, hr, h1⟩ => ?_) fun _ _ z => z.elim
    subst hr
    refine seg_bind_wrap ?_
    rw [hA]
    refine wpAny_mono h1 (fun _ s2 ⟨x, H2, I2, r2, y2, st2, n2⟩ => ?_) fun _ _ z => z.elim
    have I2' := I2.pinned (stat I2 n2) (T.obj _ _ st2)
    refine seg_bind_wrap ?_
    rw [hA]
    refine wpAny_mono (pg.run _ s2 _ H2 x u _ I2' r2 (hturn x H2 y2)) (fun _ s3 ⟨σ3, H3, I3, hw3, q3⟩ => ?_) fun _ _ z => by rw [hxe] at z; exact z.elim
    refine seg_bind_wrap (m := (forIn ([] : List Expr) true _)) ?_
    rw [List.forIn_nil]
    refine wpAny_pure ?_
    simp only [if_true]
    have hy : ∀ v, yieldOut X'.env v = yieldValue v := fun v => by simp only [yieldOut, hco, Bool.false_eq_true, if_false]
    simp only [hy]
    rw [Sem.bind_eq_wrap', Sem.bind_eq_wrap', Sem.wrap_wrap, Sem.wrap_wrap]
    refine seg_wrap ?_
    rw [hA]
    refine wpAny_mono (pe.run _ s3 σ3 H3 _ I3 q3) (fun v s4 ⟨y, H4, I4, r4, q4⟩ => ?_) fun _ _ z => by rw [hxe] at z; exact z.elim
    have pin4 : ∀ b ∈ fp, ∀ o, s2.heap.get? b = some o → s4.heap.get? b = some o ∧ H4 b = none := fun b hb o e =>
      let z := I4.pin (b, o) (List.mem_append_right _ (List.mem_append_right _ (mem_pinsAt hb e)))
      ⟨z.1, z.2.1⟩
    have hl : σ0.length = σ3.length := by rw [← hw3, wipe_length]
    have G4 : GSt X' fp tn σ0 (i + 1) H4 s4 := by
      refine ⟨(I4.unpinned (pins := [])).weak hl (fun j v e => ?_), T.keep _ _ _ st2 fun b hb o e => (pin4 b hb o e).1, fun b hb => ?_⟩
      · rw [← hw3] at e
        exact (wipe_some e).1
      · obtain ⟨o, e, _⟩ := T.obj _ _ st2 b hb
        exact (pin4 b hb o e).2
    refine seg_at (seg_yield rfl rfl rfl ⟨i, y, H4, ⟨by omega, hlt⟩, r4, G4, q4, fun s' H' z hW' => ?_⟩)
    refine seg_again rfl (ih (i + 1) s' s' H' (by omega) hlt z hW')

theorem seg_gx0 (pg : PG X' tg g) (pe : PE X' elt te) (T : Turn X'.prog X'.w X'.K tg J fp it tn) (hc : X'.calm = true) (hex : X'.ex = fp) (hpn : ∀ b ∈ fp, ∀ p ∈ X'.pn, p.1 ≠ b)
    (hA : A.over (.compLoop (.GeneratorExp elt [⟨tg, iter, [], 0⟩] scope pos) 0 (.ref it) .none X'.env) [] = X'.A) (hxe : X'.xe = fun _ _ => False) (hco : X'.env.scope.isCoroutine = false)
    (hst : Turns J g te σ0 vs N W step fin) (s₀ s : Shared) (H : Hp) (hG : GSt X' fp tn σ0 0 H s) (hW : W 0 H) :
      Seg (model X'.prog X'.w) A (fun n s₀ r s₁ => r = .ok .next ∧ PG' X' fp tn σ0 fin n s₀ s₁) (YG X' fp tn σ0 N W step) (N + 1) s₀
        (.compStart (.GeneratorExp elt [⟨tg, iter, [], 0⟩] scope pos) 0 (.ref it) .none X'.env)
        ((model X'.prog X'.w).den (.compStart (.GeneratorExp elt [⟨tg, iter, [], 0⟩] scope pos) 0 (.ref it) .none X'.env)) [] s := by
  have loop := seg_gx pg pe T hc hex hpn hA hxe hco hst N 0 s₀ s H (Nat.sub_zero _) (Nat.zero_le _) hG hW
  show Seg _ A _ _ _ s₀ _ ((compStart (.GeneratorExp elt [⟨tg, iter, [], 0⟩] scope pos) 0 (.ref it) .none X'.env).onRaise (leaving X'.env)) [] s
  unfold compStart
  rw [Sem.onRaise_eq_wrap]
  show Seg _ A _ _ _ s₀ _ ((ask >>= _).wrap _ _ _ _) [] s
  refine seg_bind_wrap (wpAny_askSetting ?_)
  split
  · exact seg_again rfl loop
  · first
      | exact seg_bind_wrap (wpAny_rule (seg_bind_wrap (wpAny_standAt (seg_bind_wrap (T.self _ 0 s _ _ hG.tn (seg_again rfl loop))))))
      | (refine seg_bind_wrap (wpAny_rule ?_); show Seg _ A _ _ _ s₀ _ ((standAt iter.pos >>= _).wrap _ _ _ _) [] s; exact seg_bind_wrap (wpAny_standAt (seg_bind_wrap (T.self _ 0 s _ _ hG.tn (seg_again rfl loop)))))
end
end GE
set_option Elab.async false
set_option linter.all false
set_option maxRecDepth 100000
set_option maxHeartbeats 2000000
namespace GE
open PySem PySem.Spec PyProof.Rows L2 GenW

/-- the generator at a, ready for its turn i; A: around pyNext -/
structure GAt (X' : Cx) (fp : List Addr) (tn : Nat → Heap → Prop) (σ0 : L2.St) (N : Nat) (W : Nat → Hp → Prop) (step : Nat → V → Hp → (Hp → Prop) → Prop) (fin : Hp → Prop) (A : Around) (a : Addr) (g : Nat) (i : Nat) (H : Hp) (s : Shared) : Prop where
  st : GSt X' fp tn σ0 i H s
  le : i ≤ N
  w : W i H
  run : ∃ gs, s.gens[g]? = some gs ∧ ∀ s' H', GSt X' fp tn σ0 i H' s' → W i H' → gs.Goes (model X'.prog X'.w) A.in1 (fun n s₀ r s₁ => r = .ok .next ∧ PG' X' fp tn σ0 fin n s₀ s₁) (YG X' fp tn σ0 N W step) (N - i + 1) (.send .none) s'

/-- what is known of the frame of a generator -/
structure GenX (X' : Cx) (fp : List Addr) (tn : Nat → Heap → Prop) (σ0 : L2.St) (A : Around) (a : Addr) (g : Nat) : Prop where
  hh : A.handled = none
  room : A.depth < recursionLimit
  pn : ∀ H s, Inv X' [] σ0 H s → s.heap.IsGen a g
  keep : ∀ i h h', tn i h → (∀ b ∈ fp, ∀ o, h.get? b = some o → h'.get? b = some o) → tn i h'
  there : ∀ i h, tn i h → ∀ b ∈ fp, ∃ o, h.get? b = some o

section
variable {X' : Cx} {fp : List Addr} {tn : Nat → Heap → Prop} {σ0 : L2.St} {N : Nat} {W : Nat → Hp → Prop} {step : Nat → V → Hp → (Hp → Prop) → Prop} {fin : Hp → Prop} {A : Around} {a : Addr} {g : Nat}

theorem GenX.slept (X : GenX X' fp tn σ0 A a g) {i : Nat} {H : Hp} {s s' : Shared} (G : GSt X' fp tn σ0 i H s) (z : Slp s s') : GSt X' fp tn σ0 i H s' :=
  ⟨G.inv.call' (ch := []) z.os (Un.kept z.keep) (G.inv.hok.kept z.keep) z.bare (fun b hb => absurd hb (by simp)), X.keep _ _ _ G.tn fun b _ o e => z.keep b o e, G.free⟩

/-- one turn: it hands out an item, or it has come to its end -/
theorem next_gx (X : GenX X' fp tn σ0 A a g) {i : Nat} {H : Hp} {s : Shared} (G : GAt X' fp tn σ0 N W step fin A a g i H s)
    {Q : Option Value → Shared → Prop} {E : Value → Shared → Prop}
    (hY : i < N → ∀ y v H' s' gs, RelV y v → step i y H' (W (i + 1)) → GSt X' fp tn σ0 (i + 1) H' s' → s'.gens[g]? = some gs →
      (∀ H2 s2, GSt X' fp tn σ0 (i + 1) H2 s2 → s2.gens[g]? = some gs → W (i + 1) H2 → GAt X' fp tn σ0 N W step fin A a g (i + 1) H2 s2) → Q (some v) s')
    (hP : i = N → ∀ H' s', Inv X' [] σ0 H' s' → fin H' → Q none s') :
    wpAny (model X'.prog X'.w) A (pyNext (.ref a)) Q E s := by
  obtain ⟨gs, hgs, hgo⟩ := G.run
  have hgl : g < s.gens.size := (Array.getElem?_eq_some_iff.mp hgs).1
  have sl : Slp s (s.setGen g .running) := ⟨rfl, allBare_setGen (s := s) G.st.inv.bare rfl, fun _ _ e => e⟩
  have hl : s.heap.NoLimit := G.st.inv.nolimit
  refine wpAny_gsz (n := g + 1) hgl (wpAny_pyNext_genexpQ (P := PG' X' fp tn σ0 fin) X.hh hl X.room (X.pn H s G.st.inv) hgs (hgo _ H (X.slept G.st sl) G.w) (fun v s₁ gs' hbare hv => ?_) (fun s₁ hp h' hk => ?_))
  · intro hsz
    obtain ⟨j, y, H', ⟨hj, hjN⟩, ry, Gj, hstep, hkap⟩ := hv
    have hji : j = i := by have := G.le; omega
    subst hji
    have hsz1 : g < s₁.gens.size := by
      have q : (s₁.setGen g gs').gens.size = s₁.gens.size := setGen_size _ _ _
      have hsz' : g + 1 ≤ (s₁.setGen g gs').gens.size := hsz
      omega
    have sl2 : Slp s₁ (s₁.setGen g gs') := ⟨rfl, allBare_setGen (s := s₁) Gj.inv.bare hbare, fun _ _ e => e⟩
    refine hY hjN y v H' _ gs' ry hstep (X.slept Gj sl2) (setGen_at hsz1) fun H2 s2 G2 hg2 hW => ⟨G2, hjN, hW, gs', hg2, fun s' H3 z hW' => ?_⟩
    have hk := hkap s' H3 z hW'
    have e1 : N - (j + 1) + 1 = N - j := by omega
    rw [e1]
    exact hk
  · intro hsz
    obtain ⟨hn, H', I1, hf⟩ := hp
    have hiN : i = N := by have := G.le; omega
    refine hP hiN H' _ ?_ hf
    exact I1.call' (ch := []) rfl (Un.kept hk) (I1.hok.kept hk) (allBare_setGen (s := s₁) I1.bare rfl) (fun b hb => absurd hb (by simp))

/-! ### the consumers -/
theorem all_loop (X : GenX X' fp tn σ0 A.in1 a g) {R : Result → Shared → Prop}
    (hstep : ∀ i y H nx, step i y H nx → ∃ k, y = .bl k ∧ (k = true → nx H) ∧ (k = false → ∀ s', Inv X' [] σ0 H s' → R (.ok (.ret (.bool false))) s')) (hfin : ∀ H s', fin H → Inv X' [] σ0 H s' → R (.ok (.ret (.bool true))) s') :
    ∀ (k i : Nat) (H : Hp) (s : Shared), N - i = k → GAt X' fp tn σ0 N W step fin A.in1 a g i H s → codeAny (model X'.prog X'.w) A (.builtin "all.loop" ⟨[.ref a], []⟩) R s := by
  intro k
  induction k with
  | zero =>
    intro i H s hk G
    refine codeAny_builtin F.entry_all_loop ?_
    rw [Around.under_plainId F.plain_all_loop _]
    show wpAny _ A.in1 (pyNext (.ref a) >>= _) _ _ s
    refine wpAny_bind (next_gx X G (fun hlt => absurd hlt (by omega)) fun hi H' s' I' hf => ?_)
    exact wpAny_bind (wpAny_rule (wpAny_pure (hfin H' s' hf I')))
  | succ k ih =>
    intro i H s hk G
    refine codeAny_builtin F.entry_all_loop ?_
    rw [Around.under_plainId F.plain_all_loop _]
    show wpAny _ A.in1 (pyNext (.ref a) >>= _) _ _ s
    refine wpAny_bind (next_gx X G (fun hlt y v H' s' gs ry hst G' hgs cont => ?_) fun hi => absurd hi (by omega))
    obtain ⟨b, rfl, h1, h2⟩ := hstep i y H' _ hst
    obtain rfl : v = Value.bool b := ry
    refine wpAny_bind (wpAny_holding (wpAny_truthy_bool ?_))
    refine wpAny_bind (wpAny_letGo ?_)
    cases b with
    | true =>
      simp only [if_true]
      exact wpAny_pure ⟨plainId_quiet F.plain_all_loop _, ih (i + 1) H' s' (by omega) (cont H' s' G' hgs (h1 rfl))⟩
    | false =>
      simp only [Bool.false_eq_true, if_false]
      exact wpAny_bind (wpAny_rule (wpAny_pure (h2 rfl s' G'.inv)))
theorem any_loop (X : GenX X' fp tn σ0 A.in1 a g) {R : Result → Shared → Prop}
    (hstep : ∀ i y H nx, step i y H nx → ∃ k, y = .bl k ∧ (k = false → nx H) ∧ (k = true → ∀ s', Inv X' [] σ0 H s' → R (.ok (.ret (.bool true))) s')) (hfin : ∀ H s', fin H → Inv X' [] σ0 H s' → R (.ok (.ret (.bool false))) s') :
    ∀ (k i : Nat) (H : Hp) (s : Shared), N - i = k → GAt X' fp tn σ0 N W step fin A.in1 a g i H s → codeAny (model X'.prog X'.w) A (.builtin "any.loop" ⟨[.ref a], []⟩) R s := by
  intro k
  induction k with
  | zero =>
    intro i H s hk G
    refine codeAny_builtin F.entry_any_loop ?_
    rw [Around.under_plainId F.plain_any_loop _]
    show wpAny _ A.in1 (pyNext (.ref a) >>= _) _ _ s
    refine wpAny_bind (next_gx X G (fun hlt => absurd hlt (by omega)) fun hi H' s' I' hf => ?_)
    exact wpAny_bind (wpAny_rule (wpAny_pure (hfin H' s' hf I')))
  | succ k ih =>
    intro i H s hk G
    refine codeAny_builtin F.entry_any_loop ?_
    rw [Around.under_plainId F.plain_any_loop _]
    show wpAny _ A.in1 (pyNext (.ref a) >>= _) _ _ s
    refine wpAny_bind (next_gx X G (fun hlt y v H' s' gs ry hst G' hgs cont => ?_) fun hi => absurd hi (by omega))
    obtain ⟨b, rfl, h1, h2⟩ := hstep i y H' _ hst
    obtain rfl : v = Value.bool b := ry
    refine wpAny_bind (wpAny_holding (wpAny_truthy_bool ?_))
    refine wpAny_bind (wpAny_letGo ?_)
    cases b with
    | false =>
      simp only [Bool.false_eq_true, if_false]
      exact wpAny_pure ⟨plainId_quiet F.plain_any_loop _, ih (i + 1) H' s' (by omega) (cont H' s' G' hgs (h1 rfl))⟩
    | true =>
      simp only [if_true]
      exact wpAny_bind (wpAny_rule (wpAny_pure (h2 rfl s' G'.inv)))
theorem sum_loop (X : GenX X' fp tn σ0 A.in1 a g) {R : Result → Shared → Prop} {S : Addr} {val : Nat → Int}
    (hstep : ∀ i y H nx, step i y H nx → y = .int (val i) ∧ H S = some (.lst [.int (preSum val i)]) ∧ nx (upd H S (.lst [.int (preSum val (i + 1))])))
    (hfin : ∀ H s', fin H → Inv X' [] σ0 H s' → ∀ t, R (.ok (.ret (.int (preSum val N) t))) s')
    (hS : ∀ i H, W i H → H S = some (.lst [.int (preSum val i)])) (hfit : ∀ j, j < N → InLong (val j) ∧ InLong (preSum val (j + 1))) (hnf : S ∉ fp) :
    ∀ (k i : Nat) (H : Hp) (s : Shared), N - i = k → GAt X' fp tn σ0 N W step fin A.in1 a g i H s → codeAny (model X'.prog X'.w) A (.builtin "sum.loop" ⟨[.ref a, .ref S, rawInt 0, rawInt 0], []⟩) R s := by
  have lst : ∀ {H : Hp} {s : Shared} {acc : Int}, Inv X' [] σ0 H s → H S = some (.lst [.int acc]) → ∃ t n, s.heap.get? S = some { cls := .type "list", dict := none, data := .seq #[.int acc t] n, slots := #[] } := fun {H s acc} I e => by
    obtain ⟨_, its, n, r, e1⟩ := I.hok S _ e
    cases r with
    | cons r1 r2 =>
      cases r2
      obtain ⟨t, rfl⟩ := r1
      exact ⟨t, n, e1⟩
  intro k
  induction k with
  | zero =>
    intro i H s hk G
    obtain ⟨t, n, hSo⟩ := lst G.st.inv (hS i H G.w)
    refine codeAny_builtin F.entry_sum_loop ?_
    rw [Around.under_plainId F.plain_sum_loop _]
    show wpAny _ A.in1 (seqItems? (.ref S) >>= _) _ _ s
    refine wpAny_bind (wpAny_seqItems hSo rfl ?_)
    show wpAny _ A.in1 (tryCatch (pyNext (.ref a)) _ >>= _) _ _ s
    refine wpAny_bind (wpAny_tryCatch (next_gx X G (fun hlt => absurd hlt (by omega)) fun hi H' s' I' hf => ?_))
    have q := hfin H' s' hf I' t
    rw [← hi] at q
    exact wpAny_pure q
  | succ k ih =>
    intro i H s hk G
    obtain ⟨t, n, hSo⟩ := lst G.st.inv (hS i H G.w)
    have hlt : i < N := by omega
    refine codeAny_builtin F.entry_sum_loop ?_
    rw [Around.under_plainId F.plain_sum_loop _]
    show wpAny _ A.in1 (seqItems? (.ref S) >>= _) _ _ s
    refine wpAny_bind (wpAny_seqItems hSo rfl ?_)
    show wpAny _ A.in1 (tryCatch (pyNext (.ref a)) _ >>= _) _ _ s
    refine wpAny_bind (wpAny_tryCatch (next_gx X G (fun _ y v H' s' gs ry hst G' hgs cont => ?_) fun hi => absurd hi (by omega)))
    obtain ⟨rfl, hS2, hnx⟩ := hstep i y H' _ hst
    obtain ⟨tv, rfl⟩ : ∃ tv, v = Value.int (val i) tv := ry
    obtain ⟨t2, n2, hSo2⟩ := lst G'.inv hS2
    obtain ⟨⟨f1, f2⟩, f3, f4⟩ := hfit i hlt
    have hc : ((decide (-(2 ^ 63) ≤ val i) && decide (val i < 2 ^ 63)) && (decide (-(2 ^ 63) ≤ preSum val i + val i) && decide (preSum val i + val i < 2 ^ 63))) = true := by
      simp only [preSum] at f3 f4
      simp only [Bool.and_eq_true, decide_eq_true_eq]
      exact ⟨⟨f1, f2⟩, f3, f4⟩
    show wpAny _ A.in1 (if (_ : Bool) = true then (mkInt (preSum val i + val i) >>= _) else _) _ _ _
    split
    · refine wpAny_bind (wpAny_mkInt ?_)
      show wpAny _ A.in1 (updateSeq S (fun _ => #[.int (preSum val i + val i) s'.toks]) >>= _) _ _ _
      refine wpAny_bind ?_
      refine wpAny_updateSeq hSo2 rfl (wpAny_pure ⟨plainId_quiet F.plain_sum_loop _, ih (i + 1) _ _ (by omega) (cont _ _ ⟨?_, X.keep _ _ _ G'.tn fun b hb o e => (Heap.get?_update_other _ _ (fun h : S = b => hnf (by rw [h]; exact hb))).trans e, fun b hb => ?_⟩ hgs hnx)⟩)
      · exact G'.inv.write (x := S) (e := S) (t' := s'.toks + 1) (by rw [hS2]; trivial) (.inl rfl) (fun b u hb e => (Heap.get?_update_other _ _ (Ne.symm hb)).trans e) ⟨_, Heap.get?_update_self _ hSo2 rfl⟩
          ⟨by show 1 ≤ sizeLine; decide, [.int (preSum val i + val i) s'.toks], _, .cons ⟨_, rfl⟩ .nil, Heap.get?_update_self _ hSo2 rfl⟩
      · rw [upd_ne (fun h : b = S => hnf (by rw [← h]; exact hb))]
        exact G'.free b hb
    · rename_i hneg
      exact absurd hc hneg
end
end GE
set_option Elab.async false
set_option linter.all false
set_option maxRecDepth 100000
set_option maxHeartbeats 2000000
namespace GE
open PySem PySem.Spec PyProof.Rows L2 GenW

/-- the generator has been made: whatever its turns are to do, it is ready for them -/
structure Made (X : Cx) (pins : List (Addr × Obj)) (σ : L2.St) (tg : Expr) (J : It) (g : TG) (te : TE) (vs : List Nat) (H2 : Hp) (a : Addr) (s5 : Shared) : Prop where
  ex : ∃ (X' : Cx) (fp : List Addr) (tn : Nat → Heap → Prop) (gn : Nat), X'.prog = X.prog ∧ X'.w = X.w ∧ GenX X' fp tn (wipe σ vs) X.A.in1 a gn ∧ s5.heap.IsGen a gn ∧ GSt X' fp tn (wipe σ vs) 0 H2 s5 ∧
    (∀ H' s', Inv X' [] (wipe σ vs) H' s' → Inv X pins σ H' s') ∧
    (∀ N W step fin s', Turns J g te (wipe σ vs) vs N W step fin → s'.gens = s5.gens → ∀ H', GSt X' fp tn (wipe σ vs) 0 H' s' → W 0 H' → GAt X' fp tn (wipe σ vs) N W step fin X.A.in1 a gn 0 H' s')

section
variable {X : Cx} {pins : List (Addr × Obj)} {σ : L2.St} {H : Hp} {s : Shared}

theorem gen_core {c P : Addr} {tg elt iter : Expr} {scope : Scope} {own : List (Str × Nat)} {gpos : Pos} {wi : TI} {g : TG} {te : TE} {k : Nat} {Q' : Value → Shared → Prop} {R : It → Hp → Prop}
    (hr : Room (k + 3) X.A) (hN : X.N.Nodup) (TB : GxR.TabB X.base X.mg c P) (hcode : X.env.code = .ref c) (hi : PI X tg iter wi) (ok : BlkOk X.N X.env.scope scope own) (hnc : ∀ y ∈ scope.names, y.2 ≠ .cell) (hco : scope.isCoroutine = false) (hdot : scope.names.lookup (".0" : Str) = some NameKind.local)
    (hg : ∀ (B : Around) (s : Shared) (H : Hp) (C : Addr) (cl : List (Str × Addr)) (code : Value) (fp : List Addr) (pn : List (Addr × Obj)), PG (gx X B s H (genEnv scope cl C code builtinsNs X.env) fp pn) tg g)
    (he : ∀ (B : Around) (s : Shared) (H : Hp) (C : Addr) (cl : List (Str × Addr)) (code : Value) (fp : List Addr) (pn : List (Addr × Obj)), Room k (B.deeper (genEnv scope cl C code builtinsNs X.env)) → PE (gx X B s H (genEnv scope cl C code builtinsNs X.env) fp pn) elt te)
    (I : Inv X pins σ H s) (h : wi σ H fun J H1 => GxR.TabG H1 P ∧ R J H1)
    (hQ : ∀ J H1 H2 a s5, R J H1 → GxR.Tabbed P H1 H2 → Made X pins σ tg J g te (own.map (·.2)) H2 a s5 → Q' (.ref a) s5)
    (hs : ∀ v, genFold iter X.env v = pure v) :
    wpAny (model X.prog X.w) X.A (eval (.GeneratorExp elt [⟨tg, iter, [], 0⟩] scope gpos) X.env) Q' X.xe s := by
  have hfree : ∀ y ∈ scope.names, y.2 = .free → ∃ c, X.env.cells.lookup y.1 = some c := fun y hy e => by
    rcases ok.free y hy e with k | k
    · exact I.ok.has _ (.inl k)
    · exact I.ok.has _ (.inr k)
  refine wpAny_GeneratorExp_make hco (closure_ok hfree) hnc hdot ok.kind (by have := hr.dp; omega) ?_ hs
  refine thn (hi.run pins s σ H _ I h) fun xv s1 h1 => thn h1 fun itv s2 h2 => ?_
  obtain ⟨it, fp, tn, J, H2, rfl, I2, T, st2, f2, ⟨ps, hP, ht⟩, q⟩ := h2
  refine ⟨I2.nolimit, ?_⟩
  have hPs : s2.heap.get? P = some { cls := .none, data := .fields ps } := I2.hok P _ hP
  have cd : PySem.W.CodeHd s2.heap c P := TB.code.keeps fun b u e => I2.bk b u e
  have sz2 : ∀ b ∈ fp, b < s2.heap.objs.size := fun b hb => by
    obtain ⟨o, e, _⟩ := T.obj _ _ st2 b hb
    exact Heap.lt_size e
  have cont : ∀ (code : Value) (h3 : Heap) (tk : Nat) (ps' : Array Value), Heap.ExtBut P s2.heap h3 → s2.heap.objs.size ≤ h3.objs.size → h3.get? P = some { cls := .none, data := .fields ps' } → (∃ more, ps' = ps ++ more) → TriplesOk ps'.toList →
      wpAny (model X.prog X.w) X.A (builtinsFor X.env.globals X.env.builtins) (fun bi s₄ => ∀ h', h'.Ns s₄.heap.objs.size (fun y => if y = ".0" then some (Value.ref it) else none) → Heap.SameBut s₄.heap.objs.size (s₄.heap.push { cls := .type "frame", data := .dict #[] }) h' →
          Q' (.ref h'.objs.size) { s₄ with
            gens := s₄.gens.push (.fresh (.compStart (.GeneratorExp elt [⟨tg, iter, [], 0⟩] scope gpos) 0 (.ref it) .none (genEnv scope (cloFrom X.env.cells scope.names []) s₄.heap.objs.size code bi X.env))),
            toks := s₄.toks + 1 + 1 + 1,
            heap := h'.push { cls := .type "generator", data := .fields #[.int s₄.gens.size 0, .str "<genexpr>" (s₄.toks + 1), .str (X.env.qual ++ "<genexpr>") (s₄.toks + 1 + 1)] } }) X.xe { s2 with heap := h3, toks := tk } := by
    intro code h3 tk ps' hx hsz hP3 hmore ht3
    obtain ⟨more, em⟩ := hmore
    have I3 : Inv X pins σ (upd H2 P (.tbl (ps ++ more))) { s2 with heap := h3, toks := tk } :=
      GxR.inv_tab (more := more) (h' := h3) (g' := s2.gens) (d' := s2.drawn) (t' := tk) I2 hP (fun b u hb e => hx b u hb e) (by rw [← em]; exact hP3) I2.bare
    generalize hH3 : upd H2 P (.tbl (ps ++ more)) = H3 at I3
    have tabbed : GxR.Tabbed P H2 H3 := by rw [← hH3]; exact ⟨⟨ps ++ more, upd_same, by rw [← em]; exact ht3⟩, fun b hb => upd_ne hb⟩
    generalize hs3 : ({ s2 with heap := h3, toks := tk } : Shared) = s3 at I3 ⊢
    have eh3 : s3.heap = h3 := by rw [← hs3]
    have nP : ∀ b ∈ fp, b ≠ P := fun b hb z => by
      have := (f2 b hb).1
      rw [z, hP] at this; cases this
    have f3 : ∀ b ∈ fp, FpOk X pins H3 b ∧ b < s3.heap.objs.size := fun b hb => by
      refine ⟨⟨?_, (f2 b hb).2⟩, by rw [eh3]; exact Nat.lt_of_lt_of_le (sz2 b hb) hsz⟩
      rw [tabbed.2 b (nP b hb)]
      exact (f2 b hb).1
    have st3 : tn 0 s3.heap := T.keep _ _ _ st2 fun b hb o e => by rw [eh3]; exact hx b o (nP b hb) e
    obtain ⟨bm, ob, e1, e2, e3, e4, e5, e6, e7, e8⟩ := TB.bm
    refine wpAny_builtinsFor (m := X.mg) (by rw [I3.ok.glob]; exact I3.mod.glob.keeps I3.bk) e1 e2 (I3.bk _ _ e5) e6 e7 e8 ?_
    intro h' hn' hs'
    have hsz4 : h'.objs.size = s3.heap.objs.size + 1 := by rw [hs'.1, Heap.size_push]
    have keep4 : ∀ b o, s3.heap.get? b = some o → h'.get? b = some o := fun b o e => hs'.extBut b o (Nat.ne_of_lt (Heap.lt_size e)) (Heap.get?_push_of_some _ e)
    generalize hgo : ({ cls := .type "generator", data := .fields #[.int s3.gens.size 0, .str "<genexpr>" (s3.toks + 1), .str (X.env.qual ++ "<genexpr>") (s3.toks + 1 + 1)] } : Obj) = go
    have hgen : (h'.push go).get? h'.objs.size = some go := by rw [← hgo]; exact Heap.get?_push_size _ rfl
    have isg : ∀ h : Heap, h.get? h'.objs.size = some go → h.IsGen h'.objs.size s3.gens.size := fun h e => by
      rw [← hgo] at e
      exact ⟨_, _, _, e, rfl, rfl, rfl⟩
    have keep5 : ∀ b o, s3.heap.get? b = some o → (h'.push go).get? b = some o := fun b o e => Heap.get?_push_of_some _ (keep4 b o e)
    have hAfr : X.A.in1.in1.frames = some X.stack := I3.ok.frames
    have hcall : X.A.in1.in1.handled = none := hr.hd
    have I5 := gx_start (B := X.A.in1.in1) (code := code) (itv := .ref it) (h' := h'.push go) (g' := s3.gens.push (.fresh (.compStart (.GeneratorExp elt [⟨tg, iter, [], 0⟩] scope gpos) 0 (.ref it) .none (genEnv scope (cloFrom X.env.cells scope.names []) s3.heap.objs.size code builtinsNs X.env))))
      (tk := s3.toks + 1 + 1 + 1) (pn := [(h'.objs.size, go)]) I3 ok hnc hN f3 hAfr hcall (hn'.push _) keep5 (I3.bare.push rfl) (fun p hp => by
        obtain rfl := List.mem_singleton.mp hp
        exact ⟨hgen, by show s3.heap.objs.size < h'.objs.size; rw [hsz4]; exact Nat.lt_succ_self _, fun v z => by rw [← hgo] at z; cases z⟩)
    have pg := hg X.A.in1.in1 s3 H3 s3.heap.objs.size (cloFrom X.env.cells scope.names []) code fp [(h'.objs.size, go)]
    have pe := he X.A.in1.in1 s3 H3 s3.heap.objs.size (cloFrom X.env.cells scope.names []) code fp [(h'.objs.size, go)] (((hr.in1).in1).deeper _)
    generalize hce : genEnv scope (cloFrom X.env.cells scope.names []) s3.heap.objs.size code builtinsNs X.env = cenv at I5 pg pe ⊢
    have hsc : cenv.scope = scope := by rw [← hce]; rfl
    have hpnf : ∀ b ∈ fp, ∀ p ∈ [(h'.objs.size, go)], p.1 ≠ b := fun b hb p hp z => by
      obtain rfl := List.mem_singleton.mp hp
      have h1 : b < s3.heap.objs.size := (f3 b hb).2
      have h2 : b = h'.objs.size := z.symm
      rw [h2, hsz4] at h1
      exact absurd h1 (Nat.not_lt.mpr (Nat.le_succ _))
    refine hQ J H2 H3 h'.objs.size _ q tabbed ⟨gx X X.A.in1.in1 s3 H3 cenv fp [(h'.objs.size, go)], fp, tn, s3.gens.size, rfl, rfl, ⟨hr.hd, by have := hr.dp; show X.A.depth < _; omega, fun H s I => isg _ (I.pin (h'.objs.size, go) (List.mem_append_left _ (List.mem_singleton.mpr rfl))).1, T.keep, fun i h ht b hb => let ⟨o, e, _⟩ := T.obj i h ht b hb; ⟨o, e⟩⟩,
      isg _ hgen, ⟨I5, T.keep _ _ _ st3 fun b _ o e => keep5 b o e, fun b hb => (f3 b hb).1.1⟩, fun H' s' I' => ?_, fun N W step fin s' hT hgs H' G' w' => ?_⟩
    · exact I3.call' (ch := fp) I'.os I'.base I'.hok I'.bare fun b hb => ⟨(f3 b hb).1.2.2.2.1, (f3 b hb).1.2.1, (f3 b hb).1.2.2.2.2.1, (f3 b hb).1.2.2.2.2.2⟩
    · refine ⟨G', Nat.zero_le _, w', .fresh (.compStart (.GeneratorExp elt [⟨tg, iter, [], 0⟩] scope gpos) 0 (.ref it) .none cenv), by rw [hgs]; exact Array.getElem?_push_size .., fun s'' H'' G'' w'' => ⟨rfl, ?_⟩⟩
      have := seg_gx0 (A := X.A.in1.in1) (iter := iter) (scope := scope) (pos := gpos) pg pe T rfl rfl hpnf over_gen rfl (by show cenv.scope.isCoroutine = false; rw [hsc]; exact hco) hT s'' s'' H'' G'' w''
      exact this
  cases hf : codeAmong gpos ps.toList with
  | none =>
    refine wpAny_genexprCodeX hcode (cd.code hPs ht) (cd.tab hPs) hf fun c' h' tk hx hge hlt hco' _ htab' _ => ?_
    obtain ⟨o1, vs, f1, tf, fl, tg, inF, tx, tt, op, _, _, _, _, _, _, _, _, _, htr, _⟩ := hco'
    exact cont _ h' tk _ hx (Nat.le_trans hge (Nat.le_of_lt hlt)) htab'.2 ⟨_, rfl⟩ htr
  | some cv =>
    refine wpAny_genexprCode_hit hcode (cd.code hPs ht) hf ?_
    exact cont cv s2.heap s2.toks ps (Heap.ExtBut.refl _ _) (Nat.le_refl _) hPs ⟨#[], by simp⟩ ht

/-! ### any, all, sum of a generator expression -/
def gStep (b : Bool) (Q : Bool → Hp → Prop) : Nat → V → Hp → (Hp → Prop) → Prop := fun _ y H nx => ∃ k, y = .bl k ∧ (k = b → nx H) ∧ (k = !b → Q (!b) H)
/-- all (b = true), any (b = false): as long as the items are b -/
def tGen (b : Bool) (P : Addr) (wi : TI) (g : TG) (te : TE) (vs : List Nat) : TE := fun σ H Q => wi σ H fun J H1 => GxR.TabG H1 P ∧ ∀ H2, GxR.Tabbed P H1 H2 →
  ∃ (N : Nat) (W : Nat → Hp → Prop), W 0 H2 ∧ Turns J g te (wipe σ vs) vs N W (gStep b fun k H => Q (.bl k) H) (fun H => Q (.bl b) H)
/-- sum: val: the items; S: the list that holds the sum so far -/
def tSumG (P : Addr) (wi : TI) (g : TG) (te : TE) (vs : List Nat) : TE := fun σ H Q => wi σ H fun J H1 => GxR.TabG H1 P ∧ ∀ H2, GxR.Tabbed P H1 H2 →
  ∃ (N : Nat) (val : Nat → Int), (∀ j, j < N → InLong (val j) ∧ InLong (preSum val (j + 1))) ∧ ∀ S, H2 S = none → ∃ W : Nat → Hp → Prop, W 0 (upd H2 S (.lst [.int 0])) ∧ (∀ i H, W i H → H S = some (.lst [.int (preSum val i)])) ∧
    Turns J g te (wipe σ vs) vs N W (fun i y H nx => y = .int (val i) ∧ H S = some (.lst [.int (preSum val i)]) ∧ nx (upd H S (.lst [.int (preSum val (i + 1))]))) (fun H => Q (.int (preSum val N)) H)

theorem pe_allG {c P : Addr} {tg elt iter : Expr} {scope : Scope} {own : List (Str × Nat)} {p pos gpos : Pos} {wi : TI} {g : TG} {te : TE} {k : Nat}
    (hr : Room (k + 3) X.A) (hgl : Gl X "all") (hm : X.mg "all" = none) (hN : X.N.Nodup) (TB : GxR.TabB X.base X.mg c P) (hcode : X.env.code = .ref c) (hi : PI X tg iter wi) (ok : BlkOk X.N X.env.scope scope own) (hnc : ∀ y ∈ scope.names, y.2 ≠ .cell) (hco : scope.isCoroutine = false) (hdot : scope.names.lookup (".0" : Str) = some NameKind.local)
    (hg : ∀ (B : Around) (s : Shared) (H : Hp) (C : Addr) (cl : List (Str × Addr)) (code : Value) (fp : List Addr) (pn : List (Addr × Obj)), PG (gx X B s H (genEnv scope cl C code builtinsNs X.env) fp pn) tg g)
    (he : ∀ (B : Around) (s : Shared) (H : Hp) (C : Addr) (cl : List (Str × Addr)) (code : Value) (fp : List Addr) (pn : List (Addr × Obj)), Room k (B.deeper (genEnv scope cl C code builtinsNs X.env)) → PE (gx X B s H (genEnv scope cl C code builtinsNs X.env) fp pn) elt te)
    (hs : ∀ v, genFold iter X.env v = pure v := by intro _; rfl) (hb : bootBuiltins "all" = some (.builtin "all") := by decide +kernel)
    (hst : starEach [.GeneratorExp elt [⟨tg, iter, [], 0⟩] scope gpos] X.env = (false, eval (.GeneratorExp elt [⟨tg, iter, [], 0⟩] scope gpos) X.env) :: starEach [] X.env := by rfl) :
    PE X (.Call (.Name "all" p) [.GeneratorExp elt [⟨tg, iter, [], 0⟩] scope gpos] [] pos) (tGen true P wi g te (own.map (·.2))) := by
  refine ⟨fun pins s σ H Q I h => ?_⟩
  refine wpAny_Call_Name_kw (ld_blt I hgl hm hb ?_)
  refine PyProof.Rows.callWith_builtin1 ?_ hst (by rfl)
  rw [hst]
  show wpAny _ _ (spliced ((false, eval (.GeneratorExp elt [⟨tg, iter, [], 0⟩] scope gpos) X.env) :: backTo pos (starEach [] X.env))) _ _ s
  refine Calls.spliced_cons (gen_core (own := own) (R := fun J H1 => ∀ H2, GxR.Tabbed P H1 H2 → ∃ (N : Nat) (W : Nat → Hp → Prop), W 0 H2 ∧ Turns J g te (wipe σ (own.map fun q : Str × Nat => q.2)) (own.map fun q : Str × Nat => q.2) N W (gStep true fun k H => Q (.bl k) H) (fun H => Q (.bl true) H))
    hr hN TB hcode hi ok hnc hco hdot hg he I h (fun J H1 H2 a s5 hR htb hM => ?_) hs)
  obtain ⟨N, W, w0, hT⟩ := hR H2 htb
  obtain ⟨X', fp, tn, gn, e1, e2, GX, hgen, G0, back, run⟩ := hM.ex
  refine Calls.spliced_nil ?_
  refine call_function_tree F.kind_all F.plain_all F.entry_all (F.args_all1 _) ?_
  unfold Builtin.«all»
  refine wpAny_bind (m := oneArg "all" _) (wpAny_pure ?_)
  refine wpAny_bind (wpAny_pyIter_gen hgen ?_)
  refine wpAny_pure ⟨plainId_quiet F.plain_all_loop _, ?_⟩
  have L := all_loop (A := X.A) GX (R := fun r s' => match r with | .ok (.ret u) => EP X pins σ Q u s' | _ => False) (step := gStep true fun k H => Q (.bl k) H) (fin := fun H => Q (.bl true) H) (N := N) (W := W)
    (fun i y H nx hst => by
      obtain ⟨k, rfl, h1, h2⟩ := hst
      exact ⟨k, rfl, h1, fun hk s' I' => ⟨.bl false, H, back H s' I', rfl, h2 hk⟩⟩)
    (fun H s' hf I' => ⟨.bl true, H, back H s' I', rfl, hf⟩) N 0 H2 s5 (Nat.sub_zero _) (run N W _ _ s5 hT rfl H2 G0 w0)
  rw [e1, e2] at L
  refine codeAny_mono L fun r s' hq => ?_
  cases r with
  | error e => exact False.elim hq
  | ok fl =>
    cases fl with
    | ret u => exact hq
    | next => exact False.elim hq
    | brk => exact False.elim hq
    | cont => exact False.elim hq
theorem pe_anyG {c P : Addr} {tg elt iter : Expr} {scope : Scope} {own : List (Str × Nat)} {p pos gpos : Pos} {wi : TI} {g : TG} {te : TE} {k : Nat}
    (hr : Room (k + 3) X.A) (hgl : Gl X "any") (hm : X.mg "any" = none) (hN : X.N.Nodup) (TB : GxR.TabB X.base X.mg c P) (hcode : X.env.code = .ref c) (hi : PI X tg iter wi) (ok : BlkOk X.N X.env.scope scope own) (hnc : ∀ y ∈ scope.names, y.2 ≠ .cell) (hco : scope.isCoroutine = false) (hdot : scope.names.lookup (".0" : Str) = some NameKind.local)
    (hg : ∀ (B : Around) (s : Shared) (H : Hp) (C : Addr) (cl : List (Str × Addr)) (code : Value) (fp : List Addr) (pn : List (Addr × Obj)), PG (gx X B s H (genEnv scope cl C code builtinsNs X.env) fp pn) tg g)
    (he : ∀ (B : Around) (s : Shared) (H : Hp) (C : Addr) (cl : List (Str × Addr)) (code : Value) (fp : List Addr) (pn : List (Addr × Obj)), Room k (B.deeper (genEnv scope cl C code builtinsNs X.env)) → PE (gx X B s H (genEnv scope cl C code builtinsNs X.env) fp pn) elt te)
    (hs : ∀ v, genFold iter X.env v = pure v := by intro _; rfl) (hb : bootBuiltins "any" = some (.builtin "any") := by decide +kernel)
    (hst : starEach [.GeneratorExp elt [⟨tg, iter, [], 0⟩] scope gpos] X.env = (false, eval (.GeneratorExp elt [⟨tg, iter, [], 0⟩] scope gpos) X.env) :: starEach [] X.env := by rfl) :
    PE X (.Call (.Name "any" p) [.GeneratorExp elt [⟨tg, iter, [], 0⟩] scope gpos] [] pos) (tGen false P wi g te (own.map (·.2))) := by
  refine ⟨fun pins s σ H Q I h => ?_⟩
  refine wpAny_Call_Name_kw (ld_blt I hgl hm hb ?_)
  refine PyProof.Rows.callWith_builtin1 ?_ hst (by rfl)
  rw [hst]
  show wpAny _ _ (spliced ((false, eval (.GeneratorExp elt [⟨tg, iter, [], 0⟩] scope gpos) X.env) :: backTo pos (starEach [] X.env))) _ _ s
  refine Calls.spliced_cons (gen_core (own := own) (R := fun J H1 => ∀ H2, GxR.Tabbed P H1 H2 → ∃ (N : Nat) (W : Nat → Hp → Prop), W 0 H2 ∧ Turns J g te (wipe σ (own.map fun q : Str × Nat => q.2)) (own.map fun q : Str × Nat => q.2) N W (gStep false fun k H => Q (.bl k) H) (fun H => Q (.bl false) H))
    hr hN TB hcode hi ok hnc hco hdot hg he I h (fun J H1 H2 a s5 hR htb hM => ?_) hs)
  obtain ⟨N, W, w0, hT⟩ := hR H2 htb
  obtain ⟨X', fp, tn, gn, e1, e2, GX, hgen, G0, back, run⟩ := hM.ex
  refine Calls.spliced_nil ?_
  refine call_function_tree F.kind_any F.plain_any F.entry_any (F.args_any1 _) ?_
  unfold Builtin.«any»
  refine wpAny_bind (m := oneArg "any" _) (wpAny_pure ?_)
  refine wpAny_bind (wpAny_pyIter_gen hgen ?_)
  refine wpAny_pure ⟨plainId_quiet F.plain_any_loop _, ?_⟩
  have L := any_loop (A := X.A) GX (R := fun r s' => match r with | .ok (.ret u) => EP X pins σ Q u s' | _ => False) (step := gStep false fun k H => Q (.bl k) H) (fin := fun H => Q (.bl false) H) (N := N) (W := W)
    (fun i y H nx hst => by
      obtain ⟨k, rfl, h1, h2⟩ := hst
      exact ⟨k, rfl, h1, fun hk s' I' => ⟨.bl true, H, back H s' I', rfl, h2 hk⟩⟩)
    (fun H s' hf I' => ⟨.bl false, H, back H s' I', rfl, hf⟩) N 0 H2 s5 (Nat.sub_zero _) (run N W _ _ s5 hT rfl H2 G0 w0)
  rw [e1, e2] at L
  refine codeAny_mono L fun r s' hq => ?_
  cases r with
  | error e => exact False.elim hq
  | ok fl =>
    cases fl with
    | ret u => exact hq
    | next => exact False.elim hq
    | brk => exact False.elim hq
    | cont => exact False.elim hq
theorem pe_sumG {c P : Addr} {tg elt iter : Expr} {scope : Scope} {own : List (Str × Nat)} {p pos gpos : Pos} {wi : TI} {g : TG} {te : TE} {k : Nat}
    (hr : Room (k + 3) X.A) (hgl : Gl X "sum") (hm : X.mg "sum" = none) (hN : X.N.Nodup) (TB : GxR.TabB X.base X.mg c P) (hcode : X.env.code = .ref c) (hi : PI X tg iter wi) (ok : BlkOk X.N X.env.scope scope own) (hnc : ∀ y ∈ scope.names, y.2 ≠ .cell) (hco : scope.isCoroutine = false) (hdot : scope.names.lookup (".0" : Str) = some NameKind.local)
    (hg : ∀ (B : Around) (s : Shared) (H : Hp) (C : Addr) (cl : List (Str × Addr)) (code : Value) (fp : List Addr) (pn : List (Addr × Obj)), PG (gx X B s H (genEnv scope cl C code builtinsNs X.env) fp pn) tg g)
    (he : ∀ (B : Around) (s : Shared) (H : Hp) (C : Addr) (cl : List (Str × Addr)) (code : Value) (fp : List Addr) (pn : List (Addr × Obj)), Room k (B.deeper (genEnv scope cl C code builtinsNs X.env)) → PE (gx X B s H (genEnv scope cl C code builtinsNs X.env) fp pn) elt te)
    (hs : ∀ v, genFold iter X.env v = pure v := by intro _; rfl) (hb : bootBuiltins "sum" = some (.builtin "sum") := by decide +kernel)
    (hst : starEach [.GeneratorExp elt [⟨tg, iter, [], 0⟩] scope gpos] X.env = (false, eval (.GeneratorExp elt [⟨tg, iter, [], 0⟩] scope gpos) X.env) :: starEach [] X.env := by rfl) :
    PE X (.Call (.Name "sum" p) [.GeneratorExp elt [⟨tg, iter, [], 0⟩] scope gpos] [] pos) (tSumG P wi g te (own.map (·.2))) := by
  refine ⟨fun pins s σ H Q I h => ?_⟩
  refine wpAny_Call_Name_kw (ld_blt I hgl hm hb ?_)
  refine PyProof.Rows.callWith_builtin1 ?_ hst (by rfl)
  rw [hst]
  show wpAny _ _ (spliced ((false, eval (.GeneratorExp elt [⟨tg, iter, [], 0⟩] scope gpos) X.env) :: backTo pos (starEach [] X.env))) _ _ s
  refine Calls.spliced_cons (gen_core (own := own) (R := fun J H1 => ∀ H2, GxR.Tabbed P H1 H2 → ∃ (N : Nat) (val : Nat → Int), (∀ j, j < N → InLong (val j) ∧ InLong (preSum val (j + 1))) ∧ ∀ S, H2 S = none → ∃ W : Nat → Hp → Prop, W 0 (upd H2 S (.lst [.int 0])) ∧ (∀ i H, W i H → H S = some (.lst [.int (preSum val i)])) ∧
    Turns J g te (wipe σ (own.map fun q : Str × Nat => q.2)) (own.map fun q : Str × Nat => q.2) N W (fun i y H nx => y = .int (val i) ∧ H S = some (.lst [.int (preSum val i)]) ∧ nx (upd H S (.lst [.int (preSum val (i + 1))]))) (fun H => Q (.int (preSum val N)) H))
    hr hN TB hcode hi ok hnc hco hdot hg he I h (fun J H1 H2 a s5 hR htb hM => ?_) hs)
  obtain ⟨N, val, hfit, hR2⟩ := hR H2 htb
  obtain ⟨X', fp, tn, gn, e1, e2, GX, hgen, G0, back, run⟩ := hM.ex
  have hSn : H2 s5.heap.objs.size = none := G0.inv.hok.fresh (Nat.le_refl _)
  obtain ⟨W, w0, hWS, hT⟩ := hR2 s5.heap.objs.size hSn
  refine Calls.spliced_nil ?_
  refine call_function_tree F.kind_sum F.plain_sum F.entry_sum (F.args_sum1 _) ?_
  unfold Builtin.«sum»
  simp only [List.length_cons, List.length_nil]
  rw [if_neg (by decide)]
  refine wpAny_bind (wpAny_of_eq (show Builtin.Builtins.bindParams "sum" ["start"] 0 { } = pure [none] from rfl) ?_)
  refine wpAny_bind (wpAny_pyIter_gen hgen ?_)
  refine wpAny_bind (wpAny_mkInt ?_)
  refine wpAny_bind (wpAny_pure ?_)
  simp only [List.forIn_cons, List.forIn_nil]
  refine wpAny_bind (wpAny_bind (wpAny_bind (wpAny_isInstance (T := "int") (b := false) (typeIs_int _ _ _) PySem.sub_int_str ?_)))
  simp only [Bool.false_eq_true, if_false]
  refine wpAny_pure (wpAny_bind (wpAny_bind (wpAny_isInstance (T := "int") (b := false) (typeIs_int _ _ _) PySem.sub_int_bytes ?_)))
  simp only [Bool.false_eq_true, if_false]
  refine wpAny_pure (wpAny_bind (wpAny_bind (wpAny_isInstance (T := "int") (b := false) (typeIs_int _ _ _) PySem.sub_int_bytearray ?_)))
  simp only [Bool.false_eq_true, if_false]
  refine wpAny_pure (wpAny_pure ?_)
  refine wpAny_bind (wpAny_newObj_type ?_)
  have keepS : ∀ b o, s5.heap.get? b = some o → (s5.heap.push { cls := .type "list", data := .seq #[.int 0 s5.toks] }).get? b = some o := fun b o e => Heap.get?_push_of_some _ e
  have hnf : s5.heap.objs.size ∉ fp := fun hm => by
    obtain ⟨o, e⟩ := GX.there _ _ G0.tn _ hm
    exact absurd (Heap.lt_size e) (Nat.lt_irrefl _)
  refine wpAny_pure ⟨plainId_quiet F.plain_sum_loop _, ?_⟩
  have G1 : GSt X' fp tn (wipe σ (own.map fun q : Str × Nat => q.2)) 0 (upd H2 s5.heap.objs.size (.lst [.int 0])) { s5 with heap := s5.heap.push { cls := .type "list", data := .seq #[.int 0 s5.toks] }, toks := s5.toks + 1 } := by
    refine ⟨G0.inv.laid (t' := s5.toks + 1) keepS (Nat.le_refl _) ⟨by show 1 ≤ sizeLine; decide, [.int 0 s5.toks], 0, .cons ⟨_, rfl⟩ .nil, Heap.get?_push_size _ rfl⟩, GX.keep _ _ _ G0.tn fun b _ o e => keepS b o e, fun b hb => ?_⟩
    rw [upd_ne (fun h : b = s5.heap.objs.size => hnf (by rw [← h]; exact hb))]
    exact G0.free b hb
  have L := sum_loop (A := X.A) GX (R := fun r s' => match r with | .ok (.ret u) => EP X pins σ Q u s' | _ => False) (S := s5.heap.objs.size) (val := val) (step := fun i y H nx => y = .int (val i) ∧ H s5.heap.objs.size = some (.lst [.int (preSum val i)]) ∧ nx (upd H s5.heap.objs.size (.lst [.int (preSum val (i + 1))]))) (fin := fun H => Q (.int (preSum val N)) H) (N := N) (W := W)
    (fun i y H nx hst => hst)
    (fun H s' hf I' t => ⟨.int (preSum val N), H, back H s' I', ⟨t, rfl⟩, hf⟩) hWS hfit hnf N 0 _ _ (Nat.sub_zero _) (run N W _ _ { s5 with heap := s5.heap.push { cls := .type "list", data := .seq #[.int 0 s5.toks] }, toks := s5.toks + 1 } hT rfl _ G1 w0)
  rw [e1, e2] at L
  refine codeAny_mono L fun r s' hq => ?_
  cases r with
  | error e => exact False.elim hq
  | ok fl =>
    cases fl with
    | ret u => exact hq
    | next => exact False.elim hq
    | brk => exact False.elim hq
    | cont => exact False.elim hq
end
end GE
set_option Elab.async false
set_option linter.all false
set_option maxRecDepth 100000
set_option maxHeartbeats 2000000
namespace LB
open PySem PySem.Spec PyProof.Rows L2 GenW GE

/-! ### a def of the text -/
structure DF (K : PySem.W.Frag) (mg : Str → Option Value) (x : Str) (st : Stmt) (ps : List Str) (f : Addr) (fd : FuncData) : Prop where
  F : FunD K x x (defArgs st) (defBody st) (defScope st) [] [] f fd
  b : Binds K fd ps []
  m : mg x = some (.ref f)
section
variable {P : Program} {w : World} {K : PySem.W.Frag} {mg : Str → Option Value} {base : Heap} {x : Str} {st : Stmt} {ps : List Str} {f : Addr} {fd : FuncData}
/-- a def that raises nothing -/
theorem DF.ok {N : List Str} {k : Nat} {sp : Sp} (D : DF K mg x st ps f fd) (S : FnScope N ps (defScope st)) (len : ∀ vs H Q E, sp vs H Q E → vs.length = ps.length)
    (hbody : ∀ (cdv : Value) (A : Around) (outer : List Env) (s : Shared) (H : Hp) (vs : List V) (Q : VK) (E : XK), Room k (A.deeper (envOfC x (defScope st) s.heap.objs.size f cdv)) → sp vs H Q E →
      ∃ t, PSs (cxOf CX0 P w K mg base N x (defScope st) f cdv A outer s H E).nox (defBody st) t ∧ t { nx := fun _ H' => Q .non H', rt := Q } (start N vs) H) : FnOk P w K mg base CX0 (k + 1) f fd ps sp :=
  D.F.ok S len fun cdv A outer s H vs Q E hr h => by
    obtain ⟨t, h1, h2⟩ := hbody cdv A outer s H vs Q E hr h
    exact ⟨t, h1.nox, h2⟩
/-- the same, its code object known -/
theorem DF.okT {N : List Str} {k : Nat} {sp : Sp} {c : Addr} (D : DF K mg x st ps f fd) (hc : fd.code = .ref c) (S : FnScope N ps (defScope st)) (len : ∀ vs H Q E, sp vs H Q E → vs.length = ps.length)
    (hbody : ∀ (A : Around) (outer : List Env) (s : Shared) (H : Hp) (vs : List V) (Q : VK) (E : XK), Room k (A.deeper (envOfC x (defScope st) s.heap.objs.size f (.ref c))) → sp vs H Q E →
      ∃ t, PSs (cxOf CX0 P w K mg base N x (defScope st) f (.ref c) A outer s H E).nox (defBody st) t ∧ t { nx := fun _ H' => Q .non H', rt := Q } (start N vs) H) : FnOk P w K mg base CX0 (k + 1) f fd ps sp := by
  obtain ⟨oc, od, dV, kV, doc, pm, an, cdv, ct, osl, rfl, lk, hcd, _, _⟩ := D.F.ex
  obtain rfl : cdv = .ref c := hc
  refine fn_of lk hcd S len fun A outer s H vs Q E hr hsp => ?_
  obtain ⟨t, h1, h2⟩ := hbody A outer s H vs Q E hr hsp
  exact ⟨t, h1.nox, h2⟩
end

theorem DF.code {K : PySem.W.Frag} {mg : Str → Option Value} {x : Str} {st : Stmt} {ps : List Str} {fd : FuncData} (D : DF K mg x st ps (He.fAd K (x, none)) fd) : fd.code = .ref (He.cT K (x, none)).1 := by
  obtain ⟨oc, od, dV, kV, doc, pm, an, cdv, ct, osl, rfl, lk, hcd, _, _⟩ := D.F.ex
  obtain ⟨c, e⟩ := He.codeIn_ref hcd
  have e2 : He.codeOf K (x, none) = c := He.codeOf_eq lk (by show cdv = .ref c; exact e)
  show cdv = .ref (He.codeOf K (x, none))
  rw [e2, e]
theorem tabB_of {base : Heap} {mg : Str → Option Value} {c P : Addr} (h : LamX.TabB base mg c P) : GxR.TabB base mg c P := ⟨h.code, h.bm, h.gP⟩
theorem df_mk {K : PySem.W.Frag} {mg : Str → Option Value} {h : Heap} {x : Str} {st : Stmt} {ps : List Str} {fd : FuncData} (X : K.In h) (G : h.Ns mainGlobals mg) (F : FunD K x x (defArgs st) (defBody st) (defScope st) [] [] (He.fAd K (x, none)) fd) (g : (He.Fa.glo x).ok K = true)
    (hb : ∀ (kV doc pm : Value) (an : Option Addr) (cdv ct : Value) (us : List Value), us.length = ps.length → bindArgs (PySem.W.fnOf x x (defArgs st) (defBody st) (defScope st) .none kV doc pm an cdv ct) ⟨us, []⟩ = pure (ps.zip us)) : DF K mg x st ps (He.fAd K (x, none)) fd :=
  ⟨F, F.bindsN hb, He.glo_ok X G g⟩
/-! ### heaps: all is kept, but tables that grow; and the list at r -/
def Grow (u : HO) (u' : Option HO) : Prop := ∃ ps qs, u = .tbl ps ∧ u' = some (.tbl qs) ∧ (TriplesOk ps.toList → TriplesOk qs.toList)
def Ext (H H' : Hp) : Prop := ∀ b u, H b = some u → H' b = some u ∨ Grow u (H' b)
def ExtR (r : Addr) (H H' : Hp) : Prop := ∀ b u, H b = some u → H' b = some u ∨ Grow u (H' b) ∨ (b = r ∧ ∃ xs ys, u = .lst xs ∧ H' b = some (.lst ys))
theorem Ext.refl (H : Hp) : Ext H H := fun _ _ h => .inl h
theorem ExtR.refl (r : Addr) (H : Hp) : ExtR r H H := fun _ _ h => .inl h
theorem Ext.toR {H H' : Hp} (r : Addr) (e : Ext H H') : ExtR r H H' := fun b u h => (e b u h).elim .inl fun g => .inr (.inl g)
theorem Ext.trans {H H1 H2 : Hp} (a : Ext H H1) (b : Ext H1 H2) : Ext H H2 := fun c u h => by
  rcases a c u h with h1 | ⟨ps, qs, rfl, h1, h2⟩
  · exact b c u h1
  · rcases b c _ h1 with h3 | ⟨ps', qs', e, h3, h4⟩
    · exact .inr ⟨ps, qs, rfl, h3, h2⟩
    · cases e
      exact .inr ⟨ps, qs', rfl, h3, fun z => h4 (h2 z)⟩
theorem ExtR.trans {r : Addr} {H H1 H2 : Hp} (a : ExtR r H H1) (b : ExtR r H1 H2) : ExtR r H H2 := fun c u h => by
  rcases a c u h with h1 | ⟨ps, qs, rfl, h1, h2⟩ | ⟨rfl, xs, ys, rfl, h1⟩
  · exact b c u h1
  · rcases b c _ h1 with h3 | ⟨ps', qs', e, h3, h4⟩ | ⟨_, _, _, e, _⟩
    · exact .inr (.inl ⟨ps, qs, rfl, h3, h2⟩)
    · cases e
      exact .inr (.inl ⟨ps, qs', rfl, h3, fun z => h4 (h2 z)⟩)
    · cases e
  · rcases b c _ h1 with h3 | ⟨_, _, e, _⟩ | ⟨_, _, zs, _, h3⟩
    · exact .inr (.inr ⟨rfl, xs, ys, rfl, h3⟩)
    · cases e
    · exact .inr (.inr ⟨rfl, xs, zs, rfl, h3⟩)
theorem Ext.new {H : Hp} {p : Addr} (h : H p = none) (o : HO) : Ext H (upd H p o) := fun b u q => .inl (by rw [upd_ne (ne_of_none q h)]; exact q)
theorem ExtR.new {H : Hp} {p : Addr} (r : Addr) (h : H p = none) (o : HO) : ExtR r H (upd H p o) := (Ext.new h o).toR r
theorem ExtR.set {H : Hp} {r : Addr} {xs : List V} (h : H r = some (.lst xs)) (ys : List V) : ExtR r H (upd H r (.lst ys)) := fun b u q => by
  by_cases e : b = r
  · subst e
    rw [h] at q
    cases q
    exact .inr (.inr ⟨rfl, xs, ys, rfl, upd_same⟩)
  · exact .inl (by rw [upd_ne e]; exact q)
theorem Ext.tab {H H' : Hp} {P : Addr} (h : GxR.TabG H P) (t : GxR.Tabbed P H H') : Ext H H' := fun b u q => by
  by_cases e : b = P
  · subst e
    obtain ⟨ps, h1, h2⟩ := h
    rw [h1] at q
    cases q
    obtain ⟨⟨qs, h3, h4⟩, _⟩ := t
    exact .inr ⟨ps, qs, rfl, h3, fun _ => h4⟩
  · exact .inl (by rw [t.2 b e]; exact q)
theorem ExtR.tabG {H H' : Hp} {r P : Addr} (e : ExtR r H H') (h : GxR.TabG H P) : GxR.TabG H' P := by
  obtain ⟨ps, h1, h2⟩ := h
  rcases e P _ h1 with h3 | ⟨ps', qs, q, h3, h4⟩ | ⟨_, _, _, q, _⟩
  · exact ⟨ps, h3, h2⟩
  · cases q
    exact ⟨qs, h3, h4 h2⟩
  · cases q
theorem Ext.tabG {H H' : Hp} {P : Addr} (e : Ext H H') (h : GxR.TabG H P) : GxR.TabG H' P := (e.toR 0).tabG h
theorem ExtR.tup {H H' : Hp} {r a : Addr} {xs : List V} (e : ExtR r H H') (h : H a = some (.tup xs)) : H' a = some (.tup xs) := by
  rcases e a _ h with h1 | ⟨_, _, q, _⟩ | ⟨_, _, _, q, _⟩
  · exact h1
  · cases q
  · cases q
theorem Ext.tup {H H' : Hp} {a : Addr} {xs : List V} (e : Ext H H') (h : H a = some (.tup xs)) : H' a = some (.tup xs) := (e.toR 0).tup h
theorem ExtR.lst {H H' : Hp} {r a : Addr} {xs : List V} (e : ExtR r H H') (n : a ≠ r) (h : H a = some (.lst xs)) : H' a = some (.lst xs) := by
  rcases e a _ h with h1 | ⟨_, _, q, _⟩ | ⟨z, _⟩
  · exact h1
  · cases q
  · exact absurd z n
theorem Ext.lst {H H' : Hp} {a : Addr} {xs : List V} (e : Ext H H') (h : H a = some (.lst xs)) : H' a = some (.lst xs) := by
  rcases e a _ h with h1 | ⟨_, _, q, _⟩
  · exact h1
  · cases q
theorem Ext.frz {H H' : Hp} {a : Addr} {o : Obj} {u : HO} (e : Ext H H') (h : H a = some (.frz o u)) : H' a = some (.frz o u) := by
  rcases e a _ h with h1 | ⟨_, _, q, _⟩
  · exact h1
  · cases q
theorem ExtR.frz {H H' : Hp} {r a : Addr} {o : Obj} {u : HO} (e : ExtR r H H') (h : H a = some (.frz o u)) : H' a = some (.frz o u) := by
  rcases e a _ h with h1 | ⟨_, _, q, _⟩ | ⟨_, _, _, q, _⟩
  · exact h1
  · cases q
  · cases q
theorem Ext.sqL {K : PySem.W.Frag} {H H' : Hp} {a : Addr} {xs : List V} (e : Ext H H') (h : SqL K H a xs) : SqL K H' a xs := by
  rcases h with (h | ⟨o, h⟩) | h
  · exact .inl (.inl (e.lst h))
  · exact .inl (.inr ⟨o, e.frz h⟩)
  · exact .inr h
theorem Ext.free {H H' : Hp} (e : Ext H H') {l : Addr} (h : H' l = none) : H l = none := by
  cases q : H l with
  | none => rfl
  | some o =>
    rcases e l o q with h1 | ⟨_, _, _, h1, _⟩ <;> rw [h] at h1 <;> cases h1
theorem ExtR.free {H H' : Hp} {r : Addr} (e : ExtR r H H') {l : Addr} (h : H' l = none) : H l = none := by
  cases q : H l with
  | none => rfl
  | some o =>
    rcases e l o q with h1 | ⟨_, _, _, h1, _⟩ | ⟨_, _, _, _, h1⟩ <;> rw [h] at h1 <;> cases h1
/-- what is not the row's is kept when only the row is written -/
theorem ExtR.of_free {H H0 H' : Hp} {r : Addr} (hr : H0 r = none) (e0 : Ext H0 H) (e : ExtR r H H') : Ext H0 H' := fun b u h => by
  have nb : b ≠ r := fun z => by rw [z, hr] at h; cases h
  rcases e0 b u h with h1 | ⟨ps, qs, rfl, h1, h2⟩
  · rcases e b u h1 with h3 | h3 | ⟨z, _⟩
    · exact .inl h3
    · exact .inr h3
    · exact absurd z nb
  · rcases e b _ h1 with h3 | ⟨ps', qs', q, h3, h4⟩ | ⟨z, _⟩
    · exact .inr ⟨ps, qs, rfl, h3, h2⟩
    · cases q
      exact .inr ⟨ps, qs', rfl, h3, fun z => h4 (h2 z)⟩
    · exact absurd z nb

/-! ### data on the heap: none, bools, ints, texts, tuples -/
mutual
def DA (H : Hp) : PyData → V → Prop
  | .none, v => v = .non
  | .bool b, v => v = .bl b
  | .int i, v => v = .int i
  | .str s, v => v = .str s
  | .tuple xs, v => ∃ a vs, v = .ref a ∧ H a = some (.tup vs) ∧ DAs H xs vs
  | .list _, _ => False
  | .dict _, _ => False
def DAs (H : Hp) : List PyData → List V → Prop
  | [], vs => vs = []
  | d :: ds, vs => ∃ v vr, vs = v :: vr ∧ DA H d v ∧ DAs H ds vr
end
mutual
theorem DA.ext {r : Addr} {H H' : Hp} (e : ExtR r H H') : ∀ (d : PyData) (v : V), DA H d v → DA H' d v
  | .none, _, h => h
  | .bool _, _, h => h
  | .int _, _, h => h
  | .str _, _, h => h
  | .tuple xs, _, h => by
    obtain ⟨a, vs, h1, h2, h3⟩ := (by simpa only [DA] using h : ∃ a vs, _ = V.ref a ∧ H a = some (.tup vs) ∧ DAs H xs vs)
    simp only [DA]
    exact ⟨a, vs, h1, e.tup h2, DAs.ext e xs vs h3⟩
  | .list _, _, h => h
  | .dict _, _, h => h
theorem DAs.ext {r : Addr} {H H' : Hp} (e : ExtR r H H') : ∀ (ds : List PyData) (vs : List V), DAs H ds vs → DAs H' ds vs
  | [], _, h => h
  | d :: ds, _, h => by
    obtain ⟨v, vr, h1, h2, h3⟩ := (by simpa only [DAs] using h : ∃ v vr, _ = v :: vr ∧ DA H d v ∧ DAs H ds vr)
    simp only [DAs]
    exact ⟨v, vr, h1, DA.ext e d v h2, DAs.ext e ds vr h3⟩
end
theorem DA.mono {H H' : Hp} {d : PyData} {v : V} (h : DA H d v) (e : Ext H H') : DA H' d v := DA.ext (e.toR 0) d v h
theorem DAs.mono {H H' : Hp} {d : List PyData} {v : List V} (h : DAs H d v) (e : Ext H H') : DAs H' d v := DAs.ext (e.toR 0) d v h
theorem DA.monoR {r : Addr} {H H' : Hp} {d : PyData} {v : V} (h : DA H d v) (e : ExtR r H H') : DA H' d v := DA.ext e d v h
theorem DAs.monoR {r : Addr} {H H' : Hp} {d : List PyData} {v : List V} (h : DAs H d v) (e : ExtR r H H') : DAs H' d v := DAs.ext e d v h
theorem DAs.len {H : Hp} : ∀ {ds : List PyData} {vs : List V}, DAs H ds vs → vs.length = ds.length
  | [], _, h => by simp only [DAs] at h; rw [h]; rfl
  | d :: ds, _, h => by
    simp only [DAs] at h
    obtain ⟨v, vr, rfl, _, h3⟩ := h
    rw [List.length_cons, List.length_cons, DAs.len h3]
theorem DAs.get {H : Hp} : ∀ {ds : List PyData} {vs : List V} {i : Nat} {d : PyData}, DAs H ds vs → ds[i]? = some d → ∃ v, vs[i]? = some v ∧ DA H d v
  | [], _, _, _, h, e => by simp at e
  | d :: ds, _, 0, _, h, e => by
    simp only [DAs] at h
    obtain ⟨v, vr, rfl, h2, _⟩ := h
    cases (by simpa using e : d = _)
    exact ⟨v, rfl, h2⟩
  | d :: ds, _, i + 1, _, h, e => by
    simp only [DAs] at h
    obtain ⟨v, vr, rfl, _, h3⟩ := h
    exact DAs.get (i := i) h3 (by simpa using e)
theorem DAs.get' {H : Hp} : ∀ {ds : List PyData} {vs : List V} {i : Nat} {v : V}, DAs H ds vs → vs[i]? = some v → ∃ d, ds[i]? = some d ∧ DA H d v
  | [], _, _, _, h, e => by simp only [DAs] at h; rw [h] at e; simp at e
  | d :: ds, _, 0, _, h, e => by
    simp only [DAs] at h
    obtain ⟨v, vr, rfl, h2, _⟩ := h
    cases (by simpa using e : v = _)
    exact ⟨d, rfl, h2⟩
  | d :: ds, _, i + 1, _, h, e => by
    simp only [DAs] at h
    obtain ⟨v, vr, rfl, _, h3⟩ := h
    exact DAs.get' (i := i) h3 (by simpa using e)
theorem DAs.nil {H : Hp} : DAs H [] [] := by simp only [DAs]
theorem DAs.cons {H : Hp} {d : PyData} {ds : List PyData} {v : V} {vs : List V} (h : DA H d v) (t : DAs H ds vs) : DAs H (d :: ds) (v :: vs) := by
  simp only [DAs]
  exact ⟨v, vs, rfl, h, t⟩
theorem DA.tup {H : Hp} {xs : List PyData} {a : Addr} {vs : List V} (h : H a = some (.tup vs)) (t : DAs H xs vs) : DA H (.tuple xs) (.ref a) := by
  simp only [DA]
  exact ⟨a, vs, rfl, h, t⟩
theorem DA.str {H : Hp} {x : Str} : DA H (.str x) (.str x) := by simp only [DA]
theorem DA.int {H : Hp} {x : Int} : DA H (.int x) (.int x) := by simp only [DA]
/-- a new tuple of data -/
theorem DA.new {H : Hp} {xs : List PyData} {p : Addr} {vs : List V} (hp : H p = none) (t : DAs H xs vs) : DA (upd H p (.tup vs)) (.tuple xs) (.ref p) :=
  DA.tup upd_same (DAs.ext (ExtR.new 0 hp _) xs vs t)

/-! ### the row of a law -/
def RowOk (H : Hp) (r : Addr) : Prop := ∃ (p : Int) (ds : List Int), H r = some (.lst (V.int p :: ds.map V.int)) ∧ 1 ≤ p ∧ p ≤ (ds.length : Int) + 1 ∧ ds.length ≤ 5000
theorem RowOk.ext {H H' : Hp} {r : Addr} (h : RowOk H r) (e : Ext H H') : RowOk H' r := by
  obtain ⟨p, ds, h1, h2⟩ := h
  exact ⟨p, ds, e.lst h1, h2⟩
def spTake : Sp := fun vs H Q _ => ∃ (r : Addr) (m : Int), vs = [.ref r, .int m] ∧ 0 < m ∧ RowOk H r ∧ ∀ (i : Int) (H' : Hp), 0 ≤ i → i < m → ExtR r H H' → RowOk H' r → Q (.int i) H'
/-- the script: whole numbers of any size -/
def spStream (K : PySem.W.Frag) : Sp := fun vs H Q _ => ∃ (a : Addr) (ns : List Int), vs = [.ref a] ∧ SqL K H a (ns.map V.int) ∧ ns.length ≤ 63 ∧ ∀ (r : Addr) (H' : Hp), Ext H H' → H r = none → RowOk H' r → Q (.ref r) H'
/-- .. seen from a heap in which D is free: writing D's list is nothing -/
theorem ExtR.of_freeR {H H' : Hp} {r D : Addr} {xs ys : List V} (hD : H D = none) (e : ExtR r H H') (h : H' D = some (.lst xs)) : ExtR r H (upd H' D (.lst ys)) := fun b u q => by
  have nb : b ≠ D := fun z => by rw [z, hD] at q; cases q
  rw [upd_ne nb]
  exact e b u q
theorem RowOk.setD {H : Hp} {r D : Addr} {ys : List V} (h : RowOk H r) (n : D ≠ r) : RowOk (upd H D (.lst ys)) r := by
  obtain ⟨p, ds, h1, h2⟩ := h
  exact ⟨p, ds, by rw [upd_ne (Ne.symm n)]; exact h1, h2⟩
theorem DAs.append {H : Hp} : ∀ {ds es : List PyData} {vs us : List V}, DAs H ds vs → DAs H es us → DAs H (ds ++ es) (vs ++ us)
  | [], _, _, _, h, h2 => by simp only [DAs] at h; subst h; exact h2
  | d :: ds, _, _, _, h, h2 => by
    simp only [DAs] at h
    obtain ⟨v, vr, rfl, h3, h4⟩ := h
    exact .cons h3 (DAs.append h4 h2)
/-! ### places -/
theorem ixN_at {n j : Nat} (hj : j < n) {i : Int} (e : i = (j : Int)) : ixN n i = some j := by
  subst e
  unfold ixN
  rw [if_pos (by omega), if_pos (by omega)]
  simp
theorem at0 {α : Type} {x : α} {xs : List α} : atI (x :: xs) 0 = some x := atI_nat (j := 0) rfl
theorem at1 {α : Type} {x y : α} {xs : List α} : atI (x :: y :: xs) 1 = some y := atI_nat (j := 1) rfl
theorem at2 {α : Type} {x y z : α} {xs : List α} : atI (x :: y :: z :: xs) 2 = some z := atI_nat (j := 2) rfl
theorem ite_t {A B : Prop} {b : Bool} (e : b = true) (h : A) : if b = true then A else B := by rw [if_pos e]; exact h
theorem ite_f {A B : Prop} {b : Bool} (e : b = false) (h : B) : if b = true then A else B := by rw [if_neg (by rw [e]; exact Bool.false_ne_true)]; exact h
theorem map_int {ms : List Int} {i : Nat} {x : V} (h : (ms.map V.int)[i]? = some x) : ∃ v, x = .int v := by
  rw [List.getElem?_map] at h
  cases e : ms[i]? with
  | none => rw [e] at h; cases h
  | some v => rw [e] at h; cases h; exact ⟨v, rfl⟩
theorem map_str {ms : List Str} {i : Nat} {x : V} (h : (ms.map V.str)[i]? = some x) : ∃ v, ms[i]? = some v ∧ x = .str v := by
  rw [List.getElem?_map] at h
  cases e : ms[i]? with
  | none => rw [e] at h; cases h
  | some v => rw [e] at h; cases h; exact ⟨v, rfl, rfl⟩
theorem cut_ints (ns : List Int) (lo hi : Option Int) : ∃ ms : List Int, cutV (ns.map V.int) lo hi = ms.map V.int ∧ ms.length ≤ ns.length := by
  refine ⟨(ns.drop (HT.sIx (ns.map V.int).length 0 lo)).take (HT.sIx (ns.map V.int).length (ns.map V.int).length hi - HT.sIx (ns.map V.int).length 0 lo), ?_, ?_⟩
  · unfold cutV
    rw [List.map_take, List.map_drop]
  · rw [List.length_take, List.length_drop]
    omega
theorem small5000 {n : Nat} (h : n ≤ 5000) : n < sizeLine := Nat.lt_of_le_of_lt h (by decide)
theorem atI_ex {α : Type} {xs : List α} {i : Int} (h0 : 0 ≤ i) (h : i < (xs.length : Int)) : ∃ c, atI xs i = some c ∧ xs[i.toNat]? = some c := by
  have hi : i.toNat < xs.length := by omega
  refine ⟨xs[i.toNat], ?_, List.getElem?_eq_getElem hi⟩
  unfold atI
  rw [ixN_at hi (by omega)]
  exact List.getElem?_eq_getElem hi
def chr1 (c : Nat) : Str := ⟨#[c]⟩
/-! ### the turns of a generator expression -/
theorem turns_tup {K : PySem.W.Frag} {b : Addr} {xs : List V} {g : TG} {te : TE} {σ0 : L2.St} {vs : List Nat} {W : Nat → Hp → Prop} {step : Nat → V → Hp → (Hp → Prop) → Prop} {fin : Hp → Prop} (hl : ∀ i H, i ≤ xs.length → W i H → SqT K H b xs)
    (hs : ∀ i x H, xs[i]? = some x → W i H → g x σ0 H fun σ2 H2 => wipe σ2 vs = σ0 ∧ te σ2 H2 fun y H3 => step i y H3 (W (i + 1))) (hd : ∀ H, W xs.length H → fin H) : Turns (Itt K b) g te σ0 vs xs.length W step fin where
  stop := fun H w => ⟨⟨xs, hl _ H (Nat.le_refl _) w, Nat.le_refl _⟩, hd H w⟩
  go := fun i H hi w => by
    have q := hl i H (Nat.le_of_lt hi) w
    refine ⟨⟨xs, xs[i], q, by simp [hi]⟩, fun x H' y => ?_⟩
    obtain ⟨e, y⟩ := y
    subst e
    exact hs i x _ (y xs q) w
theorem turns_list {K : PySem.W.Frag} {b : Addr} {xs : List V} {g : TG} {te : TE} {σ0 : L2.St} {vs : List Nat} {W : Nat → Hp → Prop} {step : Nat → V → Hp → (Hp → Prop) → Prop} {fin : Hp → Prop} (hl : ∀ i H, i ≤ xs.length → W i H → SqL K H b xs)
    (hs : ∀ i x H, xs[i]? = some x → W i H → g x σ0 H fun σ2 H2 => wipe σ2 vs = σ0 ∧ te σ2 H2 fun y H3 => step i y H3 (W (i + 1))) (hd : ∀ H, W xs.length H → fin H) : Turns (Itl K b) g te σ0 vs xs.length W step fin where
  stop := fun H w => ⟨⟨xs, hl _ H (Nat.le_refl _) w, Nat.le_refl _⟩, hd H w⟩
  go := fun i H hi w => by
    have q := hl i H (Nat.le_of_lt hi) w
    refine ⟨⟨xs, xs[i], q, by simp [hi]⟩, fun x H' y => ?_⟩
    obtain ⟨e, y⟩ := y
    subst e
    exact hs i x _ (y xs q) w
theorem turns_range {lo : Int} {n : Nat} {g : TG} {te : TE} {σ0 : L2.St} {vs : List Nat} {W : Nat → Hp → Prop} {step : Nat → V → Hp → (Hp → Prop) → Prop} {fin : Hp → Prop}
    (hs : ∀ i H, i < n → W i H → g (.int (lo + i)) σ0 H fun σ2 H2 => wipe σ2 vs = σ0 ∧ te σ2 H2 fun y H3 => step i y H3 (W (i + 1))) (hd : ∀ H, W n H → fin H) : Turns (Itr lo n) g te σ0 vs n W step fin where
  stop := fun H w => ⟨Nat.le_refl _, hd H w⟩
  go := fun i H hi w => by
    refine ⟨hi, fun x H' y => ?_⟩
    obtain ⟨e, y⟩ := y
    subst e y
    exact hs i _ hi w
/-! ### rules with the written part named (for what stands within a comprehension's own context) -/
section
variable {X : Cx} {K : PySem.W.Frag}
theorem ixT (K : PySem.W.Frag) (h : X.K = K) : IxR X (rIxT K) := by subst h; exact ix_tup
theorem ixL (K : PySem.W.Frag) (h : X.K = K) : IxR X (rIxL K) := by subst h; exact ix_list
theorem inQ (K : PySem.W.Frag) (h : X.K = K) : OpR X (compareOp .In) (rIn K false) := by subst h; exact op_in_seq
theorem ninQ (K : PySem.W.Frag) (h : X.K = K) : OpR X (compareOp .NotIn) (rIn K true) := by subst h; exact op_notIn_seq
def rLenQ (K : PySem.W.Frag) : List V → Hp → VK → Prop := fun xs H Q => ∃ p ys, xs = [.ref p] ∧ (SqL K H p ys ∨ SqT K H p ys) ∧ Q (.int ys.length) H
theorem lenQ (K : PySem.W.Frag) (h : X.K = K) : CallR X (.builtin "len") (rLenQ K) := by subst h; exact call_len_seq
def rListOf (K : PySem.W.Frag) : List V → Hp → VK → Prop := fun xs H Q => ∃ p ys, xs = [.ref p] ∧ (SqL K H p ys ∨ SqT K H p ys) ∧ ∀ l, H l = none → Q (.ref l) (upd H l (.lst ys))
theorem listOf (K : PySem.W.Frag) (h : X.K = K) : CallR X (.type "list") (rListOf K) := by subst h; exact call_list_of
def rTupleOf (K : PySem.W.Frag) : List V → Hp → VK → Prop := fun xs H Q => ∃ p ys, xs = [.ref p] ∧ ((SqL K H p ys ∧ ∀ l, H l = none → Q (.ref l) (upd H l (.tup ys))) ∨ (SqT K H p ys ∧ Q (.ref p) H))
theorem tupleOf (K : PySem.W.Frag) (h : X.K = K) : CallR X (.type "tuple") (rTupleOf K) := by subst h; exact call_tuple_of
theorem slT (K : PySem.W.Frag) (h : X.K = K) : SlR X (rSlA K) := by subst h; exact sl_tupA
theorem slL (K : PySem.W.Frag) (h : X.K = K) : SlR X (rSlL K) := by subst h; exact sl_list
theorem eqDQ (K : PySem.W.Frag) (h : X.K = K) (hu : X.A.units + 64 < cLine) : OpR X (compareOp .Eq) (rEqD K) := by subst h; exact op_eqD hu
theorem neDQ (K : PySem.W.Frag) (h : X.K = K) (hu : X.A.units + 64 < cLine) : OpR X (compareOp .NotEq) (rNeD K) := by subst h; exact op_neD hu
theorem piT (K : PySem.W.Frag) (h : X.K = K) {tg l : Expr} {tl : TE} (hl : PE X l tl) : PI X tg l (iTup K tl) := by subst h; exact pi_tup hl
theorem piL (K : PySem.W.Frag) (h : X.K = K) {tg l : Expr} {tl : TE} (hl : PE X l tl) : PI X tg l (iList K tl) := by subst h; exact pi_list hl
end
mutual
theorem DA.dp {K : PySem.W.Frag} {H : Hp} : ∀ (d : PyData) (v : V), DA H d v → Dp K H v d
  | .none, _, h => by simp only [DA] at h; subst h; exact .non
  | .bool b, _, h => by simp only [DA] at h; subst h; exact .bl b
  | .int i, _, h => by simp only [DA] at h; subst h; exact .int i
  | .str s, _, h => by simp only [DA] at h; subst h; exact .str s
  | .tuple xs, _, h => by
    simp only [DA] at h
    obtain ⟨a, vs, rfl, h2, h3⟩ := h
    exact .tup (SqT.of h2) (DAs.dp xs vs h3)
  | .list _, _, h => by simp only [DA] at h
  | .dict _, _, h => by simp only [DA] at h
theorem DAs.dp {K : PySem.W.Frag} {H : Hp} : ∀ (ds : List PyData) (vs : List V), DAs H ds vs → DpAll K H vs ds
  | [], _, h => by simp only [DAs] at h; subst h; exact .nil
  | d :: ds, _, h => by
    simp only [DAs] at h
    obtain ⟨v, vr, rfl, h2, h3⟩ := h
    exact .cons (DA.dp d v h2) (DAs.dp ds vr h3)
end
end LB
set_option Elab.async false
set_option linter.all false
set_option maxRecDepth 100000
set_option maxHeartbeats 2000000
namespace LB
open PySem PySem.Spec PyProof.Rows L2 GenW GE
/-! ### expressions of grammars -/
inductive Ex where
  | eps | fail | any
  | set (s : Str) | text (s : Str)
  | seq (es : List Ex) | alt (es : List Ex)
  | star (e : Ex) | opt (e : Ex) | nt (e : Ex) | an (e : Ex)
  | call (n : Str) | mark (l : Str) (e : Ex)
def Ex.head : Ex → Str
  | .eps => "eps" | .fail => "fail" | .any => "any" | .set _ => "set" | .text _ => "text" | .seq _ => "seq" | .alt _ => "alt"
  | .star _ => "star" | .opt _ => "opt" | .nt _ => "not" | .an _ => "and" | .call _ => "call" | .mark _ _ => "mark"
mutual
def Ex.py : Ex → PyData
  | .eps => .tuple [.str "eps"]
  | .fail => .tuple [.str "fail"]
  | .any => .tuple [.str "any"]
  | .set s => .tuple [.str "set", .str s]
  | .text s => .tuple [.str "text", .str s]
  | .seq es => .tuple [.str "seq", .tuple (Ex.pys es)]
  | .alt es => .tuple [.str "alt", .tuple (Ex.pys es)]
  | .star e => .tuple [.str "star", e.py]
  | .opt e => .tuple [.str "opt", e.py]
  | .nt e => .tuple [.str "not", e.py]
  | .an e => .tuple [.str "and", e.py]
  | .call n => .tuple [.str "call", .str n]
  | .mark l e => .tuple [.str "mark", .str l, e.py]
def Ex.pys : List Ex → List PyData
  | [] => []
  | e :: r => e.py :: Ex.pys r
end
theorem Ex.pys_len : ∀ es : List Ex, (Ex.pys es).length = es.length
  | [] => rfl
  | _ :: r => by rw [Ex.pys, List.length_cons, List.length_cons, Ex.pys_len r]
theorem Ex.pys_get : ∀ {es : List Ex} {i : Nat} {d : PyData}, (Ex.pys es)[i]? = some d → ∃ e, es[i]? = some e ∧ d = e.py
  | [], _, _, h => by simp [Ex.pys] at h
  | e :: r, 0, d, h => by
    rw [Ex.pys] at h
    exact ⟨e, rfl, (by simpa using h : e.py = d).symm⟩
  | e :: r, i + 1, d, h => by
    rw [Ex.pys] at h
    exact Ex.pys_get (es := r) (i := i) (by simpa using h)
theorem Ex.pys_eq_map : ∀ es : List Ex, Ex.pys es = es.map Ex.py
  | [] => rfl
  | e :: r => by rw [Ex.pys, List.map_cons, Ex.pys_eq_map r]
mutual
def Ex.dep : Ex → Nat
  | .seq es => Ex.deps es + 1
  | .alt es => Ex.deps es + 1
  | .star e => e.dep + 1
  | .opt e => e.dep + 1
  | .nt e => e.dep + 1
  | .an e => e.dep + 1
  | .mark _ e => e.dep + 1
  | .eps => 1 | .fail => 1 | .any => 1 | .set _ => 1 | .text _ => 1 | .call _ => 1
def Ex.deps : List Ex → Nat
  | [] => 0
  | e :: r => max e.dep (Ex.deps r)
end
theorem Ex.dep_pos (e : Ex) : 1 ≤ e.dep := by cases e <;> simp [Ex.dep]
theorem Ex.deps_get : ∀ {es : List Ex} {i : Nat} {e : Ex}, es[i]? = some e → e.dep ≤ Ex.deps es
  | [], _, _, h => by simp at h
  | a :: r, 0, e, h => by
    cases (by simpa using h : a = e)
    rw [Ex.deps]
    exact Nat.le_max_left _ _
  | a :: r, i + 1, e, h => by
    rw [Ex.deps]
    exact Nat.le_trans (Ex.deps_get (es := r) (i := i) (by simpa using h)) (Nat.le_max_right _ _)
theorem Ex.deps_mem {es : List Ex} {e : Ex} (h : e ∈ es) : e.dep ≤ Ex.deps es := by
  obtain ⟨i, hi, rfl⟩ := List.mem_iff_getElem.mp h
  exact Ex.deps_get (List.getElem?_eq_getElem hi)
theorem Ex.deps_le {n : Nat} : ∀ {es : List Ex}, (∀ e ∈ es, e.dep ≤ n) → Ex.deps es ≤ n
  | [], _ => Nat.zero_le _
  | e :: r, h => by
    rw [Ex.deps]
    exact Nat.max_le.mpr ⟨h e (by simp), Ex.deps_le fun x hx => h x (by simp [hx])⟩

/-! what stands on the heap for an expression -/
section
variable {H : Hp} {v : V}
theorem DA.tupI {xs : List PyData} (h : DA H (.tuple xs) v) : ∃ a vs, v = .ref a ∧ H a = some (.tup vs) ∧ DAs H xs vs := by simpa only [DA] using h
theorem DA.strI {x : Str} (h : DA H (.str x) v) : v = .str x := by simpa only [DA] using h
theorem DA.intI {x : Int} (h : DA H (.int x) v) : v = .int x := by simpa only [DA] using h
theorem DAs.nilI {vs : List V} (h : DAs H [] vs) : vs = [] := by simpa only [DAs] using h
theorem DAs.consI {d : PyData} {ds : List PyData} {vs : List V} (h : DAs H (d :: ds) vs) : ∃ v vr, vs = v :: vr ∧ DA H d v ∧ DAs H ds vr := by simpa only [DAs] using h
theorem DA.one {x : Str} (h : DA H (.tuple [.str x]) v) : ∃ a, v = .ref a ∧ H a = some (.tup [.str x]) := by
  obtain ⟨a, vs, rfl, ha, hs⟩ := h.tupI
  obtain ⟨u, vr, rfl, h1, h2⟩ := hs.consI
  cases h1.strI
  cases h2.nilI
  exact ⟨a, rfl, ha⟩
theorem DA.two {x : Str} {d : PyData} (h : DA H (.tuple [.str x, d]) v) : ∃ a u, v = .ref a ∧ H a = some (.tup [.str x, u]) ∧ DA H d u := by
  obtain ⟨a, vs, rfl, ha, hs⟩ := h.tupI
  obtain ⟨u, vr, rfl, h1, h2⟩ := hs.consI
  cases h1.strI
  obtain ⟨u2, vr, rfl, h3, h4⟩ := h2.consI
  cases h4.nilI
  exact ⟨a, u2, rfl, ha, h3⟩
theorem DA.three {x : Str} {d d' : PyData} (h : DA H (.tuple [.str x, d, d']) v) : ∃ a u u', v = .ref a ∧ H a = some (.tup [.str x, u, u']) ∧ DA H d u ∧ DA H d' u' := by
  obtain ⟨a, vs, rfl, ha, hs⟩ := h.tupI
  obtain ⟨u, vr, rfl, h1, h2⟩ := hs.consI
  cases h1.strI
  obtain ⟨u2, vr, rfl, h3, h4⟩ := h2.consI
  obtain ⟨u3, vr, rfl, h5, h6⟩ := h4.consI
  cases h6.nilI
  exact ⟨a, u2, u3, rfl, ha, h3, h5⟩
theorem DA.one_mk {x : Str} {p : Addr} (hp : H p = none) : DA (upd H p (.tup [.str x])) (.tuple [.str x]) (.ref p) := DA.new hp (.cons .str .nil)
theorem DA.two_mk {x : Str} {d : PyData} {u : V} {p : Addr} (hp : H p = none) (h : DA H d u) : DA (upd H p (.tup [.str x, u])) (.tuple [.str x, d]) (.ref p) := DA.new hp (.cons .str (.cons h .nil))
theorem DA.three_mk {x : Str} {d d' : PyData} {u u' : V} {p : Addr} (hp : H p = none) (h : DA H d u) (h' : DA H d' u') : DA (upd H p (.tup [.str x, u, u'])) (.tuple [.str x, d, d']) (.ref p) := DA.new hp (.cons .str (.cons h (.cons h' .nil)))
end

/-! ### point 6: may be empty -/
mutual
def Ex.emp (ns : List Str) : Ex → Bool
  | .eps => true | .star _ => true | .opt _ => true | .nt _ => true | .an _ => true
  | .call n => decide (n ∈ ns)
  | .seq es => Ex.empAll ns es
  | .alt es => Ex.empAny ns es
  | .mark _ e => e.emp ns
  | .fail => false | .any => false | .set _ => false | .text _ => false
def Ex.empAll (ns : List Str) : List Ex → Bool
  | [] => true
  | e :: r => e.emp ns && Ex.empAll ns r
def Ex.empAny (ns : List Str) : List Ex → Bool
  | [] => false
  | e :: r => e.emp ns || Ex.empAny ns r
end
theorem Ex.empAll_eq (ns : List Str) : ∀ es, Ex.empAll ns es = es.all (Ex.emp ns)
  | [] => rfl
  | e :: r => by rw [Ex.empAll, List.all_cons, Ex.empAll_eq ns r]
theorem Ex.empAny_eq (ns : List Str) : ∀ es, Ex.empAny ns es = es.any (Ex.emp ns)
  | [] => rfl
  | e :: r => by rw [Ex.empAny, List.any_cons, Ex.empAny_eq ns r]
theorem all_upto {α : Type} {p : α → Bool} {l : List α} (h : ∀ (j : Nat) x, l[j]? = some x → p x = true) : l.all p = true :=
  List.all_eq_true.mpr fun x hx => by
    obtain ⟨i, hi, rfl⟩ := List.mem_iff_getElem.mp hx
    exact h i _ (List.getElem?_eq_getElem hi)
theorem all_at {α : Type} {p : α → Bool} {l : List α} {j : Nat} {x : α} (h : l[j]? = some x) (e : p x = false) : l.all p = false := by
  cases q : l.all p with
  | false => rfl
  | true => rw [List.all_eq_true.mp q x (List.mem_of_getElem? h)] at e; cases e
theorem any_upto {α : Type} {p : α → Bool} {l : List α} (h : ∀ (j : Nat) x, l[j]? = some x → p x = false) : l.any p = false := by
  cases q : l.any p with
  | false => rfl
  | true =>
    obtain ⟨x, hx, e⟩ := List.any_eq_true.mp q
    obtain ⟨i, hi, rfl⟩ := List.mem_iff_getElem.mp hx
    rw [h i _ (List.getElem?_eq_getElem hi)] at e
    cases e
theorem any_at {α : Type} {p : α → Bool} {l : List α} {j : Nat} {x : α} (h : l[j]? = some x) (e : p x = true) : l.any p = true := List.any_eq_true.mpr ⟨x, List.mem_of_getElem? h, e⟩
theorem inV_str (x : Str) (ns : List Str) : inV (.str x) (ns.map V.str) = decide (x ∈ ns) := by
  induction ns with
  | nil => rfl
  | cons n r ih =>
    have e : inV (.str x) ((n :: r).map V.str) = ((n == x) || inV (.str x) (r.map V.str)) := rfl
    rw [e, ih]
    by_cases h : n = x
    · subst h; simp
    · have h' : x ≠ n := fun z => h z.symm
      simp [h, h']
theorem flat_strs (ns : List Str) : (ns.map V.str).all flatV = true := by
  rw [List.all_eq_true]
  intro x hx
  obtain ⟨n, _, rfl⟩ := List.mem_map.mp hx
  rfl
/-! ### filters, item by item -/
theorem take_at {α : Type} {l : List α} {i : Nat} {x : α} (h : l[i]? = some x) : l.take (i + 1) = l.take i ++ [x] := by
  rw [List.take_add_one, h]; rfl
theorem filter_at {α : Type} (p : α → Bool) {l : List α} {i : Nat} {x : α} (h : l[i]? = some x) : (l.take (i + 1)).filter p = (l.take i).filter p ++ (if p x then [x] else []) := by
  rw [take_at h, List.filter_append]
  by_cases q : p x = true
  · rw [if_pos q, List.filter_cons_of_pos q]; rfl
  · rw [if_neg q, List.filter_cons_of_neg q]; rfl
theorem filter_none {α : Type} {p : α → Bool} {l : List α} : decide ((l.filter p).length = 0) = l.all fun x => !p x := by
  induction l with
  | nil => rfl
  | cons a r ih =>
    cases q : p a with
    | true => simp [q]
    | false =>
      rw [List.filter_cons_of_neg (by simp [q]), ih, List.all_cons, q]; rfl
theorem filter_some {α : Type} {p : α → Bool} {l : List α} : decide (0 < (l.filter p).length) = l.any p := by
  induction l with
  | nil => rfl
  | cons a r ih =>
    cases q : p a with
    | true => simp [q]
    | false =>
      rw [List.filter_cons_of_neg (by simp [q]), ih, List.any_cons, q]; rfl
theorem dec_len0 (n : Nat) : decide (V.int (n : Int) = V.int 0) = decide (n = 0) := by
  by_cases h : n = 0
  · subst h; rfl
  · rw [decide_eq_false h, decide_eq_false fun z => h (by injection z; omega)]
theorem filter_le {α : Type} (p : α → Bool) (l : List α) (i : Nat) : ((l.take i).filter p).length ≤ l.length := by
  have h1 := List.length_filter_le p (l.take i)
  have h2 : (l.take i).length ≤ l.length := by rw [List.length_take]; omega
  omega
theorem dec_pos (n : Nat) : decide ((0 : Int) < (n : Int)) = decide (0 < n) := by
  by_cases h : 0 < n
  · rw [decide_eq_true h, decide_eq_true (by omega)]
  · rw [decide_eq_false h, decide_eq_false (by omega)]
/-! the widest seq or alt -/
mutual
def Ex.wid : Ex → Nat
  | .seq es => max es.length (Ex.wids es)
  | .alt es => max es.length (Ex.wids es)
  | .star e => e.wid
  | .opt e => e.wid
  | .nt e => e.wid
  | .an e => e.wid
  | .mark _ e => e.wid
  | .eps => 0 | .fail => 0 | .any => 0 | .set _ => 0 | .text _ => 0 | .call _ => 0
def Ex.wids : List Ex → Nat
  | [] => 0
  | e :: r => max e.wid (Ex.wids r)
end
theorem Ex.wids_get : ∀ {es : List Ex} {i : Nat} {e : Ex}, es[i]? = some e → e.wid ≤ Ex.wids es
  | [], _, _, h => by simp at h
  | a :: r, 0, e, h => by
    cases (by simpa using h : a = e)
    rw [Ex.wids]
    exact Nat.le_max_left _ _
  | a :: r, i + 1, e, h => by
    rw [Ex.wids]
    exact Nat.le_trans (Ex.wids_get (es := r) (i := i) (by simpa using h)) (Nat.le_max_right _ _)
/-! ### grammars -/
abbrev Gr := List (Str × Ex)
def rulePy (p : Str × Ex) : PyData := .tuple [.str p.1, p.2.py]
def grPy (g : Gr) : PyData := .tuple (g.map rulePy)
theorem map_get {α β : Type} {f : α → β} {l : List α} {i : Nat} {d : β} (h : (l.map f)[i]? = some d) : ∃ x, l[i]? = some x ∧ d = f x := by
  rw [List.getElem?_map] at h
  cases e : l[i]? with
  | none => rw [e] at h; cases h
  | some x => rw [e] at h; cases h; exact ⟨x, rfl, rfl⟩
def Gr.step (g : Gr) (ns : List Str) : List Str := (g.filter fun p => p.2.emp ns).map (·.1)
def Gr.iter (g : Gr) : Nat → List Str
  | 0 => []
  | k + 1 => Gr.step g (Gr.iter g k)
/-- where a grammar stands -/
theorem grI {H : Hp} {g : Gr} {v : V} (h : DA H (grPy g) v) : ∃ a vs, v = .ref a ∧ H a = some (.tup vs) ∧ DAs H (g.map rulePy) vs ∧ vs.length = g.length := by
  obtain ⟨a, vs, h1, h2, h3⟩ := DA.tupI h
  exact ⟨a, vs, h1, h2, h3, by rw [h3.len, List.length_map]⟩
theorem ruleI {H : Hp} {g : Gr} {vs : List V} {i : Nat} {x : V} (h : DAs H (g.map rulePy) vs) (hx : vs[i]? = some x) : ∃ n e a u, g[i]? = some (n, e) ∧ x = .ref a ∧ H a = some (.tup [.str n, u]) ∧ DA H e.py u := by
  obtain ⟨d, hd, hx2⟩ := DAs.get' h hx
  obtain ⟨⟨n, e⟩, hp, rfl⟩ := map_get hd
  obtain ⟨a, u, rfl, h1, h2⟩ := DA.two hx2
  exact ⟨n, e, a, u, hp, rfl, h1, h2⟩
/-- all rules' expressions are of such a depth and width -/
structure Gr.Ok (g : Gr) (n : Nat) : Prop where
  nam : ∀ p ∈ g, PyData.strOk p.1 = true
  dep : ∀ p ∈ g, p.2.dep ≤ n
  wid : ∀ p ∈ g, p.2.wid ≤ 5000
  len : g.length ≤ 1000
/-! ### the least set -/
mutual
theorem Ex.emp_mono {ns ms : List Str} (h : ∀ x ∈ ns, x ∈ ms) : ∀ e : Ex, e.emp ns = true → e.emp ms = true
  | .eps, _ => rfl
  | .star _, _ => rfl
  | .opt _, _ => rfl
  | .nt _, _ => rfl
  | .an _, _ => rfl
  | .call n, q => by
    rw [Ex.emp] at q ⊢
    exact decide_eq_true (h n (of_decide_eq_true q))
  | .seq es, q => by
    rw [Ex.emp] at q ⊢
    exact Ex.empAll_mono h es q
  | .alt es, q => by
    rw [Ex.emp] at q ⊢
    exact Ex.empAny_mono h es q
  | .mark _ e, q => by
    rw [Ex.emp] at q ⊢
    exact Ex.emp_mono h e q
  | .fail, q => by simp [Ex.emp] at q
  | .any, q => by simp [Ex.emp] at q
  | .set _, q => by simp [Ex.emp] at q
  | .text _, q => by simp [Ex.emp] at q
theorem Ex.empAll_mono {ns ms : List Str} (h : ∀ x ∈ ns, x ∈ ms) : ∀ es : List Ex, Ex.empAll ns es = true → Ex.empAll ms es = true
  | [], _ => rfl
  | e :: r, q => by
    rw [Ex.empAll, Bool.and_eq_true] at q ⊢
    exact ⟨Ex.emp_mono h e q.1, Ex.empAll_mono h r q.2⟩
theorem Ex.empAny_mono {ns ms : List Str} (h : ∀ x ∈ ns, x ∈ ms) : ∀ es : List Ex, Ex.empAny ns es = true → Ex.empAny ms es = true
  | [], q => by simp [Ex.empAny] at q
  | e :: r, q => by
    rw [Ex.empAny, Bool.or_eq_true] at q ⊢
    exact q.imp (Ex.emp_mono h e) (Ex.empAny_mono h r)
end
theorem filter_grow {α : Type} {p q : α → Bool} : ∀ {l : List α}, (∀ x ∈ l, p x = true → q x = true) → l.filter q = l.filter p ∨ (l.filter p).length < (l.filter q).length
  | [], _ => .inl rfl
  | a :: r, h => by
    have ih := filter_grow (l := r) fun x hx => h x (by simp [hx])
    cases e : p a with
    | true =>
      rw [List.filter_cons_of_pos e, List.filter_cons_of_pos (h a (by simp) e)]
      rcases ih with ih | ih
      · exact .inl (by rw [ih])
      · exact .inr (by simpa using ih)
    | false =>
      rw [List.filter_cons_of_neg (p := p) (by simp [e])]
      cases e2 : q a with
      | true =>
        rw [List.filter_cons_of_pos (p := q) e2]
        refine .inr ?_
        rcases ih with ih | ih
        · rw [ih]; simp
        · simp; omega
      | false =>
        rw [List.filter_cons_of_neg (p := q) (by simp [e2])]
        exact ih
theorem Gr.step_sub {g : Gr} {ns ms : List Str} (h : ∀ x ∈ ns, x ∈ ms) : ∀ x ∈ g.step ns, x ∈ g.step ms := fun x hx => by
  obtain ⟨p, hp, rfl⟩ := List.mem_map.mp hx
  obtain ⟨h1, h2⟩ := List.mem_filter.mp hp
  exact List.mem_map.mpr ⟨p, List.mem_filter.mpr ⟨h1, Ex.emp_mono h p.2 h2⟩, rfl⟩
theorem Gr.iter_sub (g : Gr) : ∀ k, ∀ x ∈ g.iter k, x ∈ g.iter (k + 1)
  | 0, x, h => by simp [Gr.iter] at h
  | k + 1, x, h => Gr.step_sub (g := g) (Gr.iter_sub g k) x h
theorem Gr.iter_grow (g : Gr) : ∀ k, g.iter (k + 1) = g.iter k ∨ (g.iter k).length < (g.iter (k + 1)).length
  | 0 => by
    cases e : g.iter 1 with
    | nil => exact .inl rfl
    | cons a r => exact .inr (by simp [Gr.iter])
  | k + 1 => by
    have h := filter_grow (l := g) (p := fun p => p.2.emp (g.iter k)) (q := fun p => p.2.emp (g.iter (k + 1))) fun x _ => Ex.emp_mono (Gr.iter_sub g k) x.2
    rcases h with h | h
    · exact .inl (by show (g.filter _).map _ = (g.filter _).map _; rw [h])
    · exact .inr (by show ((g.filter _).map _).length < ((g.filter _).map _).length; rw [List.length_map, List.length_map]; exact h)
theorem Gr.iter_len (g : Gr) : ∀ k, (g.iter k).length ≤ g.length
  | 0 => Nat.zero_le _
  | k + 1 => by
    show ((g.filter _).map _).length ≤ _
    rw [List.length_map]
    exact List.length_filter_le _ _
theorem Gr.iter_fix {g : Gr} {m : Nat} (h : g.iter (m + 1) = g.iter m) : ∀ d, g.iter (m + d) = g.iter m
  | 0 => rfl
  | d + 1 => by
    show g.step (g.iter (m + d)) = _
    rw [Gr.iter_fix h d]
    exact h
theorem Gr.iter_many (g : Gr) : ∀ k, g.iter (k + 1) = g.iter k ∨ k < (g.iter (k + 1)).length
  | 0 => (Gr.iter_grow g 0).imp id fun h => by omega
  | k + 1 => by
    rcases Gr.iter_grow g (k + 1) with h | h
    · exact .inl h
    · rcases Gr.iter_many g k with h2 | h2
      · exact .inl (by show g.step (g.iter (k + 1)) = g.step (g.iter k); rw [h2])
      · exact .inr (by omega)
theorem Gr.iter_end (g : Gr) : g.iter (g.length + 1) = g.iter g.length := by
  rcases Gr.iter_many g g.length with h | h
  · exact h
  · have := Gr.iter_len g (g.length + 1)
    omega
/-- the empty rules -/
def Gr.emps (g : Gr) : List Str := g.iter (g.length + 1)
theorem Gr.iter_the {g : Gr} {m : Nat} (h : g.iter (m + 1) = g.iter m) : g.iter m = g.emps := by
  unfold Gr.emps
  rcases Nat.le_total m (g.length + 1) with z | z
  · rw [show g.length + 1 = m + (g.length + 1 - m) by omega, Gr.iter_fix h]
  · have h2 : g.iter (g.length + 1 + 1) = g.iter (g.length + 1) := by
      show g.step (g.iter (g.length + 1)) = g.step (g.iter g.length)
      rw [Gr.iter_end]
    rw [show m = g.length + 1 + (m - (g.length + 1)) by omega, Gr.iter_fix h2]
theorem Gr.emps_fix (g : Gr) : g.step g.emps = g.emps := by
  show g.step (g.iter (g.length + 1)) = g.step (g.iter g.length)
  rw [Gr.iter_end]
/-! ### lists of names compared -/
theorem names_lay : ∀ {ns : List Str}, (∀ n ∈ ns, PyData.strOk n = true) → PyData.canLayAll0 (ns.map .str) = true
  | [], _ => rfl
  | n :: r, h => by
    rw [List.map_cons, PyData.canLayAll0, PyData.canLay0, h n (by simp), names_lay fun x hx => h x (by simp [hx])]; rfl
theorem names_eqv : ∀ (ns ms : List Str), PyData.eqvAll (ns.map .str) (ms.map .str) = decide (ns = ms)
  | [], [] => rfl
  | [], _ :: _ => rfl
  | _ :: _, [] => rfl
  | n :: r, m :: t => by
    rw [List.map_cons, List.map_cons, PyData.eqvAll, names_eqv r t, PyData.eqv]
    by_cases h : n = m
    · subst h
      by_cases h2 : r = t
      · subst h2; simp
      · simp [h2]
    · simp [h]
theorem Gr.step_nam {g : Gr} {k : Nat} (h : g.Ok k) (ns : List Str) : ∀ n ∈ g.step ns, PyData.strOk n = true := fun n hn => by
  obtain ⟨p, hp, rfl⟩ := List.mem_map.mp hn
  exact h.nam p (List.mem_filter.mp hp).1
theorem Gr.iter_nam {g : Gr} {k : Nat} (h : g.Ok k) : ∀ i, ∀ n ∈ g.iter i, PyData.strOk n = true
  | 0, n, hn => by simp [Gr.iter] at hn
  | i + 1, n, hn => Gr.step_nam h _ n hn
theorem Gr.emps_nam {g : Gr} {k : Nat} (h : g.Ok k) : ∀ n ∈ g.emps, PyData.strOk n = true := Gr.iter_nam h _
theorem DAs_strs {H : Hp} : ∀ ns : List Str, DAs H (ns.map .str) (ns.map V.str)
  | [] => .nil
  | n :: ns => .cons .str (DAs_strs ns)
theorem Dp_names {K : PySem.W.Frag} {H : Hp} {l : Addr} {ns : List Str} (h : H l = some (.lst (ns.map V.str))) : Dp K H (.ref l) (.list (ns.map .str)) := .lst (SqL.of h) (DAs.dp _ _ (DAs_strs ns))
theorem names_dep : ∀ ns : List Str, PyData.depthAll (ns.map .str) = 0
  | [] => rfl
  | n :: r => by rw [List.map_cons, PyData.depthAll, names_dep r, PyData.depth]; rfl
theorem names_shaped {ns : List Str} (h : ∀ n ∈ ns, PyData.strOk n = true) : SeqAt.shaped (.list (ns.map .str)) = true := by
  unfold SeqAt.shaped
  rw [PyData.canLay0, names_lay h, PyData.depth, names_dep]
  rfl
theorem names_eq (ns ms : List Str) : PyData.eqv (.list (ns.map .str)) (.list (ms.map .str)) = decide (ns = ms) := by rw [PyData.eqv, names_eqv]
end LB
set_option Elab.async false
set_option linter.all false
set_option maxRecDepth 100000
set_option maxHeartbeats 4000000
namespace XG
open PySem PySem.Spec PyProof.Rows L2
/-- a def run at one around only -/
structure FnAt (P : Program) (w : World) (K : PySem.W.Frag) (mg : Str → Option Value) (base : Heap) (CX : CXT) (A : Around) (f : Addr) (fd : FuncData) (ps : List Str) (sp : Sp) : Prop where
  run : ∀ (outer : List Env) (s : Shared) (H : Hp) (args : Args) (us : List Value) (vs : List V) (Q : VK) (E : XK), Env0 P w K mg base A outer s H → BindsTo s fd args (ps.zip us) → Vals vs us → sp vs H Q E →
    codeAny (model P w) A (.call (.ref f) args) (CR CX outer P w H s Q E) s

theorem fn_at {CX : CXT} {P : Program} {w : World} {K : PySem.W.Frag} {mg : Str → Option Value} {base : Heap} {f : Addr} {name qual : Str} {params : Arguments} {body : List Stmt} {scope : PySem.Scope} {dV kV doc pm cdv ct oc : Value} {an od : Option Addr} {osl : Array (Option Value)} {N ps : List Str} {sp : Sp} {A : Around}
    (lk : K.lookup f = some ⟨oc, od, .func (PySem.W.fnOf name qual params body scope dV kV doc pm an cdv ct), osl⟩) (hcd : PySem.W.codeIn K cdv qual = true) (S : FnScope N ps scope) (len : ∀ vs H Q E, sp vs H Q E → vs.length = ps.length) (hr : Room 0 A)
    (hbody : ∀ (outer : List Env) (s : Shared) (H : Hp) (vs : List V) (Q : VK) (E : XK), sp vs H Q E →
      ∃ t : TS, PSs (cxOf CX P w K mg base N qual scope f cdv A outer s H E) body t ∧ t { nx := fun _ H' => Q .non H', rt := Q } (start N vs) H) :
    FnAt P w K mg base CX A f (PySem.W.fnOf name qual params body scope dV kV doc pm an cdv ct) ps sp := by
  refine ⟨fun outer s H args us vs Q E e0 hb r hsp => ?_⟩
  have hl := len vs H Q E hsp
  have KX := PySem.W.Frag.In.keeps e0.mod.kin fun b o e => (e0.bs b o e).1
  have lim := Heap.NoLimit.keeps e0.mod.nolimit fun b o e => (e0.bs b o e).1
  refine codeAny_call_function (Room.depth hr) (KX f _ lk) rfl S.co S.gen rfl (PySem.W.codeRec_of KX hcd) (hb _ _ _ _ (wpAny_newFunctionEnv_cells S.kind (fun x hy => match x, hy with | (n, v), hy => (S.par n (List.of_mem_zip hy).1).elim (fun q => Or.inl q) fun q => Or.inr ⟨q, PySem.W.cellsFrom_some scope.names (s.heap.objs.size + 1) [] (Or.inl q)⟩) fun env he s1 x => ?_))
  subst he
  refine ⟨Heap.NoLimit.keeps lim x.toInCall.keep, codeAny_func ?_⟩
  obtain ⟨t, ht, hq⟩ := hbody outer s H vs Q E hsp
  have I := inv_start (CX := CX) (E := E) S hr.hd e0 hl r x
  refine wpAny_mono (ht.run [] s1 (start N vs) H { nx := fun _ H' => Q .non H', rt := Q } I hq) (fun fl s' hs => ?_) fun e s' hs => hs
  have fin : ∀ {σ' : L2.St} {H' : Hp} {v : V} {u : Value}, Inv (cxOf CX P w K mg base N qual scope f cdv A outer s H E) [] σ' H' s' → RelV v u → Q v H' → CE outer P w H s Q u s' := fun {σ' H' v u} J rv q => ⟨v, H', J.os, J.bare, J.base, J.hok, rv, q⟩
  cases fl with
  | next => obtain ⟨σ', H', J, q⟩ := hs; exact fin (v := .non) (u := .none) J rfl q
  | brk => obtain ⟨_, _, _, q⟩ := hs; exact q.elim
  | cont => obtain ⟨_, _, _, q⟩ := hs; exact q.elim
  | ret u => obtain ⟨v, σ', H', J, rv, q⟩ := hs; exact fin J rv q

theorem law_callG {P : Program} {w : World} {K : PySem.W.Frag} {mg mb : Str → Option Value} {CX : CXT} {fa a : Addr} {cs : List (Addr × Addr)} {fd : FuncData} {x : Str} {sp : Sp} {s₁ : Shared} {vs : List Value} {ns : List Int}
    (KX : K.In s₁.heap) (hns : s₁.heap.Ns mainGlobals mg) (hb : s₁.heap.Ns builtinsNs mb) (hbb : ∀ x, x ≠ ("__name__" : Str) → mb x = bootBuiltins x) (hlim : s₁.heap.NoLimit) (hg : s₁.gens = #[])
    (hT : ∀ p ∈ cs, s₁.heap.get? p.2 = some { cls := .none, data := .fields #[] }) (nT : ∀ p ∈ cs, K.lookup p.2 = none) (C : ∀ p ∈ cs, PySem.W.CodeHd s₁.heap p.1 p.2)
    (hbm : ∃ bm ob, mg ("__builtins__" : Str) = some (.ref bm) ∧ bm ≠ builtinsNs ∧ s₁.heap.get? bm = some ob ∧ ob.cls = .type "module" ∧ ob.dict = some builtinsNs ∧ ob.data = .plain)
    (ha : s₁.heap.get? a = some { cls := .type "list", data := .seq vs.toArray }) (hi : IntsAre vs ns) (hl : ns.length ≤ sizeLine)
    (F : ∀ base : Heap, K.In base → base.Ns mainGlobals mg → (∀ p ∈ cs, LamX.TabB base mg p.1 p.2) → FnAt P w K mg base CX callerA fa fd [x] sp)
    (hbind : ∀ (s : Shared) (u : Value), BindsTo s fd ⟨[u], []⟩ [(x, u)])
    (hsp : ∀ H : Hp, (∀ p ∈ cs, H p.2 = some (.tbl #[])) → SqL K H a (ns.map V.int) → sp [.ref a] H (fun v _ => v = .bl true) fun _ _ _ => False)
    (hCX : ∀ (H : Hp) (e : Value) (s' : Shared), CX [] H s₁ (fun _ _ _ => False) e s' → False) :
    codeAny (model P w) callerA (.call (.ref fa) ⟨[.ref a], []⟩) (fun r s' => r = .ok (.ret (.bool true)) ∧ OldK s₁.heap s'.heap ∧ s'.os = s₁.os ∧ AllBare s'.gens) s₁ := by
  have rv := vals_ints hi
  have lenV := IntsAre.length hi
  have isT : ∀ b ∈ cs.map (·.2), s₁.heap.get? b = some { cls := .none, data := .fields #[] } := fun b hb => by
    obtain ⟨p, hp, rfl⟩ := List.mem_map.mp hb
    exact hT p hp
  have aT : a ∉ cs.map (·.2) := fun z => by
    have q := isT a z
    rw [ha] at q
    cases q
  have memT : ∀ p ∈ cs, p.2 ∈ cs.map (·.2) := fun p hp => List.mem_map.mpr ⟨p, hp, rfl⟩
  have core : ∀ H : Hp, (∀ p ∈ cs, H p.2 = some (.tbl #[])) → (∀ b, H b = none ∨ b ∈ cs.map (·.2) ∨ ∃ ob xs, H b = some (.frz ob (.lst xs))) → SqL K H a (ns.map V.int) → HOk P w H s₁.heap →
      (∀ b, H b ≠ none → b = a ∨ b ∈ cs.map (·.2)) → (H a ≠ none → K.lookup a = none) →
      codeAny (model P w) callerA (.call (.ref fa) ⟨[.ref a], []⟩) (fun r s' => r = .ok (.ret (.bool true)) ∧ OldK s₁.heap s'.heap ∧ s'.os = s₁.os ∧ AllBare s'.gens) s₁ := by
    intro H hH hO hS hok hA hK
    have base_of : ∀ {b o}, s₁.heap.get? b = some o → H b = none → (hidT s₁.heap H).get? b = some o := fun e n => hidT_get e n
    have noD : ∀ {b : Addr} {o : Obj}, s₁.heap.get? b = some o → (∀ vs n, o.data ≠ .seq vs n) → o.data ≠ .fields #[] → H b = none := fun {b o} e h1 h2 => by
      cases q : H b with
      | none => rfl
      | some u =>
        rcases hA b (by rw [q]; exact fun z => by cases z) with rfl | e'
        · rw [ha] at e
          cases e
          exact (h1 _ _ rfl).elim
        · rw [isT b e'] at e
          cases e
          exact (h2 rfl).elim
    have nsK : ∀ {b : Addr} {m : Str → Option Value}, s₁.heap.Ns b m → (hidT s₁.heap H).Ns b m := fun {b m} ⟨o, es, ep, e, d, r⟩ => ⟨o, es, ep, base_of e (noD e (fun vs n z => by rw [d] at z; cases z) (fun z => by rw [d] at z; cases z)), d, r⟩
    have hKb : K.In (hidT s₁.heap H) := fun b o e => base_of (KX b o e) (by
      cases q : H b with
      | none => rfl
      | some u =>
        rcases hA b (by rw [q]; exact fun z => by cases z) with rfl | e'
        · rw [hK (by rw [q]; exact fun z => by cases z)] at e
          cases e
        · obtain ⟨p, hp, rfl⟩ := List.mem_map.mp e'
          rw [nT p hp] at e
          cases e)
    have hM : L2.Mod K mg (hidT s₁.heap H) := ⟨hKb, nsK hns, ⟨mb, nsK hb, hbb⟩, by obtain ⟨mc, h1, h2⟩ := hlim; exact ⟨mc, nsK h1, h2⟩⟩
    have TB : ∀ p ∈ cs, LamX.TabB (hidT s₁.heap H) mg p.1 p.2 := fun p hp => by
      have hTp := hT p hp
      refine ⟨?_, ?_, ?_⟩
      · obtain ⟨o, us, file, tf, flags, tg, inF, text, tt, e1, r1, r2, r3, r4⟩ := C p hp
        refine ⟨o, us, file, tf, flags, tg, inF, text, tt, base_of e1 (noD e1 (fun vs n z => by rw [r2] at z; cases z) fun z => ?_), r1, r2, r3, r4⟩
        rw [r2] at z
        cases z
        cases r3
      · obtain ⟨bm, ob, b1, b2, b3, b4, b5, b6⟩ := hbm
        refine ⟨bm, ob, b1, b2, fun q => ?_, fun q => ?_, base_of b3 (noD b3 (fun vs n z => by rw [b6] at z; cases z) fun z => by rw [b6] at z; cases z), b4, b5, b6⟩
        · obtain ⟨o, es, ep, e, hd, _⟩ := hns
          rw [q, e] at b3
          cases b3
          rw [hd] at b6
          cases b6
        · rw [q, hTp] at b3
          cases b3
          cases b6
      · intro z
        obtain ⟨o, es, ep, e, hd, _⟩ := hns
        rw [z, hTp] at e
        cases e
        cases hd
    have e0 : Env0 P w K mg (hidT s₁.heap H) callerA [] s₁ H := ⟨rfl, hM, fun b o e => of_hidT e, Nat.le_of_eq (hidT_size _ _), trivial, fun b hb => absurd hb (by show b ∉ ([] : List Addr); simp), hok, AllBare.of_eq hg⟩
    refine codeAny_mono ((F _ hKb (nsK hns) TB).run [] s₁ H ⟨[.ref a], []⟩ [.ref a] [.ref a] (fun v _ => v = .bl true) (fun _ _ _ => False) e0 (hbind s₁ (.ref a)) (.cons rfl .nil) (hsp H hH hS)) fun r s' h => ?_
    cases r with
    | error e => exact (hCX H e s' h).elim
    | ok fl =>
      cases fl with
      | next => exact (h : False).elim
      | brk => exact (h : False).elim
      | cont => exact (h : False).elim
      | ret u =>
        obtain ⟨v, H', os, bare, un, hok', r', q⟩ := h
        have q' : v = .bl true := q
        subst q'
        obtain rfl : u = .bool true := r'
        have key : ∀ b o, b ∉ cs.map (·.2) → s₁.heap.get? b = some o → s'.heap.get? b = some o := fun b o nb e => by
          cases q : H b with
          | none => exact un.keep b o e q (by show b ∉ ([] : List Addr); simp) (by simp)
          | some u =>
            rcases hO b with z | z | ⟨ob, xs, z⟩
            · rw [q] at z; cases z
            · exact absurd z nb
            · have z2 := un.frzs b ob (.lst xs) z
              obtain ⟨e1, _⟩ := hok b (.frz ob (.lst xs)) z
              obtain ⟨e2, _⟩ := hok' b (.frz ob (.lst xs)) z2
              rw [e] at e1
              cases e1
              exact e2
        have grown : ∀ p ∈ cs, ∃ more : Array Value, s'.heap.get? p.2 = some { cls := .none, data := .fields more } := fun p hp => by
          obtain ⟨more, z⟩ := un.tbls p.2 #[] (hH p hp)
          have z2 := hok' p.2 (.tbl (#[] ++ more)) z
          rw [Array.empty_append] at z2
          exact ⟨more, z2⟩
        refine ⟨rfl, ⟨fun b o e => ?_, fun b o e => ?_⟩, os, bare⟩
        · by_cases hb : b ∈ cs.map (·.2)
          · obtain ⟨p, hp, rfl⟩ := List.mem_map.mp hb
            obtain ⟨more, hm⟩ := grown p hp
            rw [hT p hp] at e
            cases e
            refine .inr (.inl ⟨Heap.TableAt.isCodeTable (PySem.W.CodeHd.tab (C p hp) (hT p hp)), rfl, #[], more, rfl, ?_⟩)
            rw [Array.empty_append]
            exact hm
          · exact .inl (key b o hb e)
        · by_cases hb : b ∈ cs.map (·.2)
          · obtain ⟨p, hp, rfl⟩ := List.mem_map.mp hb
            obtain ⟨more, hm⟩ := grown p hp
            exact ⟨_, hm⟩
          · exact ⟨o, key b o hb e⟩
  cases hk : K.lookup a with
  | none =>
    refine core (fun b => if b = a then some (.frz { cls := .type "list", data := .seq vs.toArray } (.lst (ns.map V.int))) else if b ∈ cs.map (·.2) then some (.tbl #[]) else none) (fun p hp => ?_) (fun b => ?_) (.inl (.inr ⟨_, if_pos rfl⟩)) (fun b u z => ?_) (fun b z => ?_) fun _ => hk
    · show (if p.2 = a then _ else _) = _
      rw [if_neg (fun z : p.2 = a => aT (by rw [← z]; exact memT p hp)), if_pos (memT p hp)]
    · by_cases h1 : b = a
      · exact .inr (.inr ⟨_, _, if_pos h1⟩)
      · by_cases h2 : b ∈ cs.map (·.2)
        · exact .inr (.inl h2)
        · exact .inl (by show (if b = a then _ else _) = _; rw [if_neg h1, if_neg h2])
    · by_cases h1 : b = a
      · have z' := (if_pos h1).symm.trans z
        cases z'
        subst h1
        exact ⟨ha, by rw [List.length_map]; exact hl, vs, 0, rv, ha⟩
      · have z' := (if_neg h1).symm.trans z
        by_cases h2 : b ∈ cs.map (·.2)
        · have z2 := (if_pos h2).symm.trans z'
          cases z2
          exact isT b h2
        · have z2 := (if_neg h2).symm.trans z'
          cases z2
    · by_cases h1 : b = a
      · exact .inl h1
      · by_cases h2 : b ∈ cs.map (·.2)
        · exact .inr h2
        · exact absurd (by show (if b = a then _ else _) = _; rw [if_neg h1, if_neg h2]) z
  | some o =>
    have e := KX a o hk
    rw [ha] at e
    cases e
    refine core (fun b => if b ∈ cs.map (·.2) then some (.tbl #[]) else none) (fun p hp => if_pos (memT p hp)) (fun b => ?_) (.inr ⟨_, vs.toArray, 0, hk, rfl, rfl, rfl, by rw [List.size_toArray, lenV]; exact hl, rv⟩) (fun b u z => ?_) (fun b z => ?_) fun z => absurd (if_neg aT) z
    · by_cases h2 : b ∈ cs.map (·.2)
      · exact .inr (.inl h2)
      · exact .inl (if_neg h2)
    · by_cases h2 : b ∈ cs.map (·.2)
      · have z2 := (if_pos h2).symm.trans z
        cases z2
        exact isT b h2
      · have z2 := (if_neg h2).symm.trans z
        cases z2
    · by_cases h2 : b ∈ cs.map (·.2)
      · exact .inr h2
      · exact absurd (if_neg h2) z
/-- the end of a law row, the law's own frame known -/
theorem walk_G {l : PySem.W.OpenLaw} {n : Nat} {q : Program} {loose : List Str} {XP : (Str → Option Value) → Heap → Prop} {YP : World → Heap → Prop} {d : DefRec} {x : Str}
    (hn : l.most = some n) (hn2 : n ≤ sizeLine) (hdf : d.params.defaults = [])
    (F : ∀ (w : World) (mg : Str → Option Value) (fa : Addr) (h : Heap), YP w h → h.Ns mainGlobals mg → mg d.name = some (.ref fa) → ∃ K : PySem.W.Frag, K.In h ∧
      ∃ (fd : FuncData) (cs : List (Addr × Addr)) (sp : Sp), (∀ p ∈ cs, h.get? p.2 = some { cls := .none, data := .fields #[] }) ∧ (∀ p ∈ cs, K.lookup p.2 = none) ∧ (∀ p ∈ cs, PySem.W.CodeHd h p.1 p.2) ∧ (∀ (s : Shared) (u : Value), BindsTo s fd ⟨[u], []⟩ [(x, u)]) ∧
      (∀ (H : Hp) (a : Addr) (ns : List Int), ns.length ≤ n → (∀ z ∈ ns, Builtin.Int.intBits z ≤ 1048576) → (∀ p ∈ cs, H p.2 = some (.tbl #[])) → SqL K H a (ns.map V.int) → sp [.ref a] H (fun v _ => v = .bl true) fun _ _ _ => False) ∧
      ∀ base : Heap, K.In base → base.Ns mainGlobals mg → (∀ p ∈ cs, LamX.TabB base mg p.1 p.2) → FnAt l.prog w K mg base CX0 callerA fa fd [x] sp) :
    PySem.W.WalkO q loose XP YP l.row.toRowW d [] fun f vs => call f vs :=
  Att.attach_callB hn hdf fun w s₀ s₁ mg mb fa o pm cd doc a vs ns G Y ho hd hcd hmg hobj hints hlen hbits hg => by
    obtain ⟨K, KX, fd, cs, sp, hT, nT, C, hb, hsp, hF⟩ := F w mg fa s₁.heap Y G.T.g hmg
    exact law_callG KX G.T.g G.T.b G.T.builtins G.T.nolimit hg hT nT C G.T.bmain hobj hints (Nat.le_trans hlen hn2) hF hb (fun H hH hS => hsp H a ns hlen hbits hH hS) fun H e s' z => z
open LB in
/-- the law's own def, at its own frame -/
theorem df_at {P : Program} {w : World} {K : PySem.W.Frag} {mg : Str → Option Value} {base : Heap} {x : Str} {st : Stmt} {ps : List Str} {f : Addr} {fd : FuncData} {N : List Str} {sp : Sp} (D : DF K mg x st ps f fd) (S : FnScope N ps (defScope st)) (len : ∀ vs H Q E, sp vs H Q E → vs.length = ps.length)
    (hbody : ∀ (cdv : Value) (outer : List Env) (s : Shared) (H : Hp) (vs : List V) (Q : VK) (E : XK), sp vs H Q E →
      ∃ t, PSs (cxOf CX0 P w K mg base N x (defScope st) f cdv callerA outer s H E).nox (defBody st) t ∧ t { nx := fun _ H' => Q .non H', rt := Q } (start N vs) H) : FnAt P w K mg base CX0 callerA f fd ps sp := by
  obtain ⟨oc, od, dV, kV, doc, pm, an, cdv, ct, osl, rfl, lk, hcd, _, _⟩ := D.F.ex
  refine fn_at lk hcd S len ⟨rfl, by decide, by decide⟩ fun outer s H vs Q E hsp => ?_
  obtain ⟨t, h1, h2⟩ := hbody cdv outer s H vs Q E hsp
  exact ⟨t, h1.nox, h2⟩
/-- what raises nothing passes -/
theorem passX {X : Cx} : Passes (CX X.prog X.w) X E0 := by
  intro pins σ H s e s' I h
  obtain ⟨a, B, H', cls, d, _, _, _, _, _, _, _, z⟩ := h
  exact False.elim z
end XG
set_option Elab.async false
set_option linter.all false
set_option maxRecDepth 100000
set_option maxHeartbeats 4000000
namespace XS
open PySem PySem.Spec PyProof.Rows L2
def tScK (P : Program) (w : World) (wi : TI) (g : TG) (tt : TT) (te : TE) (vs : List Nat) : TE := fun σ H Q =>
  wi σ H fun J H1 => ∀ D, H1 D = none → ∃ W : Nat → Nat → Hp → Prop, (∃ m, W 0 m (upd H1 D (SetK P w D (fun _ => false) 0))) ∧
    ∀ i m H, W i m H → (J.stop i H ∧ Q (.ref D) H) ∨ (J.go i H ∧ ∃ Nx : Hp → Prop, (∀ H', Nx H' → ∃ m', m' < m ∧ W (i + 1) m' H') ∧
      ∀ x H', J.yld i H x H' → g x (wipe σ vs) H' fun σ2 H2 => wipe σ2 vs = wipe σ vs ∧ tt σ2 H2 fun b H3 => if b = true then
        te σ2 H3 fun y H4 => ∃ (k : Key) (S : Key → Bool) (n : Nat), y = kV k ∧ H4 D = some (SetK P w D S n) ∧ n + 1 < scanBound ∧
          Nx (upd H4 D (SetK P w D (fun j => S j || decide (j = k)) (if S k = true then n else n + 1))) else Nx H3)
theorem setK_fresh {P : Program} (w : World) (h : Heap) : Heap.SetOf (mixKind P w) (h.push { cls := .type "set", data := .set #[] 0 (SetTable.fresh 0 0 !w.params.followText "set-order") }) h.objs.size (fun _ : Key => false) 0 := by
  refine ⟨_, #[], 0, _, Heap.get?_push_size _ rfl, ⟨rfl, rfl, rfl⟩, rfl, fun e he => by simp at he, fun k => ⟨fun q => (Bool.false_ne_true q).elim, fun ⟨e, q, _⟩ => by simp at q⟩, by decide, by simp [SetTable.fits, SetTable.fresh, SetTable.fill], rfl⟩
/-- a set comprehension of ints or texts -/
theorem pe_scK {X : Cx} {elt tg iter : Expr} {ifs : List Expr} {scope : PySem.Scope} {own : List (Str × Nat)} {pos : Pos} {wi : TI} {g : TG} {tt : TT} {te : TE}
    (hc : X.calm = true) (hN : X.N.Nodup) (hi : PI X tg iter wi) (ok : BlkOk X.N X.env.scope scope own)
    (hg : ∀ (s : Shared) (H : Hp) (C : Addr) (cl : List (Str × Addr)) (fp : List Addr), PG (X.blk s H scope (compEnvC scope cl C X.env) fp) tg g)
    (ht : ∀ (s : Shared) (H : Hp) (C : Addr) (cl : List (Str × Addr)) (fp : List Addr), PTs (X.blk s H scope (compEnvC scope cl C X.env) fp) ifs tt)
    (he : ∀ (s : Shared) (H : Hp) (C : Addr) (cl : List (Str × Addr)) (fp : List Addr), PE (X.blk s H scope (compEnvC scope cl C X.env) fp) elt te)
    (hs : ∀ x : Value, foldedSetIterable iter X.env x = pure x := by intro x; rfl) :
    PE X (.SetComp elt [⟨tg, iter, ifs, 0⟩] scope pos) (tScK X.prog X.w wi g tt te (own.map (·.2))) := by
  refine ⟨fun pins s σ H Q I h => ?_⟩
  rw [PpSet.eval_SetComp]
  have hfree : ∀ y ∈ scope.names, y.2 = NameKind.free → ∃ c, List.lookup y.1 X.env.cells = some c := fun y hy e => (ok.free y hy e).elim (fun k => I.ok.has y.1 (.inl k)) fun k => I.ok.has y.1 (.inr k)
  refine wpAny_comprehension_free rfl hs (closure_ok hfree) ok.kind (fun y hy e => by rw [ok.uniq y hy, e]) ?_
  refine thn (hi.run pins s σ H _ I h) fun xv s1 hx => thn hx fun itv s2 h2 => ?_
  obtain ⟨it, fp, tn, J, H2, e, I2, T, st2, f2, q⟩ := h2
  subst e
  refine PpSet.newSet_ok (newEnv_comp ?_)
  have hDn := HOk.fresh I2.hok (Nat.le_refl s2.heap.objs.size)
  obtain ⟨W, ⟨m0, w0⟩, turn⟩ := q _ hDn
  have I3 : Inv X pins σ _ { heap := _, gens := s2.gens, drawn := s2.drawn, toks := s2.toks, os := s2.os } := I2.laid (a := s2.heap.objs.size) (o := SetK X.prog X.w s2.heap.objs.size (fun _ => false) 0) (fun b o e => Heap.get?_push_of_some { cls := .type "set", data := .set #[] 0 (SetTable.fresh 0 0 !X.w.params.followText "set-order") } e) (Nat.le_refl _) (setK_new (setK_fresh X.w s2.heap))
  have sz : ∀ b ∈ fp, b < s2.heap.objs.size := fun b hb => by
    obtain ⟨o, e, _⟩ := T.obj 0 _ st2 b hb
    exact Heap.lt_size e
  have f3 : ∀ b ∈ fp, FpOk X pins (upd H2 s2.heap.objs.size (SetK X.prog X.w s2.heap.objs.size (fun _ => false) 0)) b ∧ b < (s2.heap.push { cls := .type "set", data := .set #[] 0 (SetTable.fresh 0 0 !X.w.params.followText "set-order") }).objs.size := fun b hb => by
    have hlt := sz b hb
    refine ⟨⟨?_, (f2 b hb).2⟩, ?_⟩
    · rw [upd_ne (Nat.ne_of_lt hlt)]; exact (f2 b hb).1
    · rw [Heap.size_push]; exact Nat.lt_succ_of_lt hlt
  have st3 := T.keep 0 _ (s2.heap.push { cls := .type "set", data := .set #[] 0 (SetTable.fresh 0 0 !X.w.params.followText "set-order") }) st2 fun b _ o e => Heap.get?_push_of_some _ e
  revert I3 f3 st3 w0 turn
  generalize s2.heap.objs.size = D
  generalize s2.heap.push { cls := .type "set", data := .set #[] 0 (SetTable.fresh 0 0 !X.w.params.followText "set-order") } = h3
  generalize upd H2 D (SetK X.prog X.w D (fun _ => false) 0) = H3
  intro turn w0 I3 f3 st3
  have I4 := block_start I3 ok hN f3
  have nfp : ∀ b ∈ fp, H3 b = none := fun b hb => (f3 b hb).1.1
  have pg := hg { heap := h3, gens := s2.gens, drawn := s2.drawn, toks := s2.toks, os := s2.os } H3 h3.objs.size (cellsFrom (h3.objs.size + 1) scope.names (cloFrom X.env.cells scope.names [])) fp
  have pt := ht { heap := h3, gens := s2.gens, drawn := s2.drawn, toks := s2.toks, os := s2.os } H3 h3.objs.size (cellsFrom (h3.objs.size + 1) scope.names (cloFrom X.env.cells scope.names [])) fp
  have pe := he { heap := h3, gens := s2.gens, drawn := s2.drawn, toks := s2.toks, os := s2.os } H3 h3.objs.size (cellsFrom (h3.objs.size + 1) scope.names (cloFrom X.env.cells scope.names [])) fp
  have st4 := T.keep 0 _ (pushCells (h3.push { cls := .type "dict", data := .dict #[] }) scope.names) st3 fun b _ o e => pushCells_keeps _ _ _ _ (Heap.get?_push_of_some _ e)
  show codeAny _ _ (.compStart _ 0 (.ref it) (.ref D) (compEnvC scope (cellsFrom (h3.objs.size + 1) scope.names (cloFrom X.env.cells scope.names [])) h3.objs.size X.env)) _ _
  have cL : (compEnvC scope (cellsFrom (h3.objs.size + 1) scope.names (cloFrom X.env.cells scope.names [])) h3.objs.size X.env).locals = h3.objs.size := rfl
  revert I4 pg pt pe cL
  generalize compEnvC scope (cellsFrom (h3.objs.size + 1) scope.names (cloFrom X.env.cells scope.names [])) h3.objs.size X.env = ce
  intro I4 pg pt pe cL
  have stat : ∀ {σ' : L2.St} {H' : Hp} {s' : Shared}, Inv (X.blk { heap := h3, gens := s2.gens, drawn := s2.drawn, toks := s2.toks, os := s2.os } H3 scope ce fp) [] σ' H' s' → (∀ b ∈ fp, H' b = none) → ∀ b ∈ fp, FpOk (X.blk { heap := h3, gens := s2.gens, drawn := s2.drawn, toks := s2.toks, os := s2.os } H3 scope ce fp) [] H' b := fun {σ' H' s'} I' hn b hb =>
    ⟨hn b hb, (I'.ok.exf b hb).1, I'.ok.exfs b hb, .inl hb, fun x c e => (I'.ok.exf b hb).2 x c e, fun p hp => by simp at hp⟩
  suffices loop : codeAny (model X.prog X.w) X.A (.compLoop (.SetComp elt [⟨tg, iter, ifs, 0⟩] scope pos) 0 (.ref it) (.ref D) ce) (compPost (model X.prog X.w) X.A X.xe none (EP X pins σ Q) (.ref D) h3.objs.size)
      { heap := pushCells (h3.push { cls := .type "dict", data := .dict #[] }) scope.names, gens := s2.gens, drawn := s2.drawn, toks := s2.toks, os := s2.os } by
    exact PpSet.codeAny_compStart_set loop (T.self X.A 0 _ _ _ st4 loop)
  refine PpSet.compLoopS_any (fun n s' => ∃ i H', Inv (X.blk { heap := h3, gens := s2.gens, drawn := s2.drawn, toks := s2.toks, os := s2.os } H3 scope ce fp) [] (wipe σ (own.map (·.2))) H' s' ∧ tn i s'.heap ∧ (∀ b ∈ fp, H' b = none) ∧ W i n H') ?_ m0 ⟨0, H3, I4, st4, nfp, w0⟩
  rintro n s5 ⟨i, H5, I5, st5, n5, w5⟩
  rcases turn i n H5 w5 with ⟨hstop, qq⟩ | ⟨go, Nx, hNx, step⟩
  · refine thnF (T.done (X.blk _ H3 scope ce fp) rfl rfl rfl hc i [] s5 _ H5 (fun _ _ => False) I5 (stat I5 n5) st5 hstop) fun r s6 ⟨hr, I6⟩ => ?_
    subst hr
    have I7 : Inv X pins σ H5 s6 := I3.call' I6.os I6.base I6.hok I6.bare fun b hb => ⟨(f3 b hb).1.2.2.2.1, (f3 b hb).1.2.1, (f3 b hb).1.2.2.2.2.1, (f3 b hb).1.2.2.2.2.2⟩
    have nC : H5 h3.objs.size = none := by
      have z := I6.free
      rwa [show (X.blk { heap := h3, gens := s2.gens, drawn := s2.drawn, toks := s2.toks, os := s2.os } H3 scope ce fp).env.locals = h3.objs.size from cL] at z
    obtain ⟨m, hn, _⟩ := I6.loc
    have hn' : s6.heap.Ns h3.objs.size m := by
      have hn2 : s6.heap.Ns ce.locals m := hn
      rwa [cL] at hn2
    have fpc := Inv.fpOk I3 (Nat.le_refl h3.objs.size) nC
    show ∃ m : Str → Option Value, s6.heap.Ns h3.objs.size m ∧ ∀ h', Heap.SameBut h3.objs.size s6.heap h' → EP X pins σ Q (.ref D) _
    refine ⟨m, hn', fun h' hsb => ⟨.ref D, H5, ?_, rfl, qq⟩⟩
    refine I7.turned (it := h3.objs.size) (fun b o hb e => ?_) fpc.1 fpc.2.1 fpc.2.2.2.1 fpc.2.2.2.2.1 fpc.2.2.2.2.2
    exact (hsb.2 b hb).trans e
  · refine thnF (T.item (X.blk _ H3 scope ce fp) rfl rfl rfl hc i [] s5 _ H5 (fun _ _ => False) I5 (stat I5 n5) st5 go) fun r s6 ⟨u, hr, h6⟩ => ?_
    subst hr
    refine thnF h6 fun _ s7 ⟨x, H7, I7, r7, y7, st7, n7⟩ => ?_
    have I7' := I7.pinned (stat I7 n7) (T.obj (i + 1) _ st7)
    refine thnF (pg.run _ s7 _ H7 x u _ I7' r7 (step x H7 y7)) fun _ s8 ⟨σ8, H8, I8, hw8, q8⟩ => ?_
    refine thnF (pt.run _ s8 σ8 H8 _ I8 q8) fun b s9 ⟨H9, I9, q9⟩ => ?_
    have fin : ∀ {s' : Shared} {H' : Hp}, Inv (X.blk { heap := h3, gens := s2.gens, drawn := s2.drawn, toks := s2.toks, os := s2.os } H3 scope ce fp) ([] ++ pinsAt fp s7.heap) σ8 H' s' → Nx H' → ∃ m', m' < n ∧ ∃ i H', Inv (X.blk { heap := h3, gens := s2.gens, drawn := s2.drawn, toks := s2.toks, os := s2.os } H3 scope ce fp) [] (wipe σ (own.map (·.2))) H' s' ∧ tn i s'.heap ∧ (∀ b ∈ fp, H' b = none) ∧ W i m' H' := fun {s' H'} I' nx => by
      obtain ⟨m', hm, w'⟩ := hNx H' nx
      have pin' : ∀ b ∈ fp, ∀ o, s7.heap.get? b = some o → s'.heap.get? b = some o ∧ H' b = none := fun b hb o e =>
        let z := I'.pin (b, o) (List.mem_append_right _ (List.mem_append_right _ (mem_pinsAt hb e)))
        ⟨z.1, z.2.1⟩
      have hl : (wipe σ (own.map (·.2))).length = σ8.length := by rw [← hw8, wipe_length]
      refine ⟨m', hm, i + 1, H', (I'.unpinned (pins := [])).weak hl (fun j v e => ?_), T.keep _ _ _ st7 fun b hb o e => (pin' b hb o e).1, fun b hb => ?_, w'⟩
      · rw [← hw8] at e
        exact (wipe_some e).1
      · obtain ⟨o, e, _⟩ := T.obj _ _ st7 b hb
        exact (pin' b hb o e).2
    cases b with
    | false => exact fin I9 q9
    | true =>
      simp only [if_true] at q9 ⊢
      refine thnF (pe.run _ s9 σ8 H9 _ I9 q9) fun v s10 ⟨y, H10, I10, r10, k, S, c, hy, hS, hlt, nx⟩ => ?_
      subst hy
      refine thnF ((mt_saddK (X := X.blk { heap := h3, gens := s2.gens, drawn := s2.drawn, toks := s2.toks, os := s2.os } H3 scope ce fp)) _ s10 σ8 H10 (.ref D) [kV k] (.ref D) [v] (fun _ H' => Nx H') I10 rfl (.cons r10 .nil) ⟨D, k, S, c, rfl, rfl, hS, hlt, nx⟩) fun _ s11 ⟨_, H11, I11, _, nx'⟩ => ?_
      exact fin I11 nx'
/-- len of a set of keys -/
def rLenK (P : Program) (w : World) : List V → Hp → VK → Prop := fun xs H Q => ∃ p S n, xs = [.ref p] ∧ H p = some (SetK P w p S n) ∧ Q (.int (n : Int)) H
theorem call_lenK {X : Cx} : CallR X (.builtin "len") (rLenK X.prog X.w) := by
  intro pins s σ H xs us Q I hv ⟨p, S, n, hx, hS, hq⟩
  subst hx
  cases hv with
  | cons r rs =>
    cases rs
    obtain rfl : _ = Value.ref p := r
    obtain ⟨o, es, ep, t, h1, h2, h3, _, _, h6, h7, h8⟩ := setK_get I hS
    subst h8
    exact call_len_set h1 h2 h3 h7 (by have := h6; have : scanBound ≤ 2 ^ 40 := by decide +kernel
                                       omega) ⟨.int es.size, H, I.tok _, ⟨_, rfl⟩, hq⟩
end XS
set_option Elab.async false
set_option linter.all false
set_option maxRecDepth 100000
set_option maxHeartbeats 4000000
namespace XC
open PySem PySem.Spec PyProof.Rows L2
/-- the base's own __init__ handed on: B.__init__(self, e, ..), B an own class over ValueError without one -/
theorem pe_oinit {X : Cx} {e : Expr} {es : List Expr} {ta : TA} {nm : Str} {C : Addr} {p1 p2 pos : Pos} {pl : Sem Bool} (hg : Gl X nm) (hm : X.mg nm = some (.ref C)) (R : ClX.CRead X.K C (.type "type")) (ht : W.typeIn X.K (.ref C) = some (.type "type"))
    (V : W.findCls X.K (.ref C) (.type "type") "__init__" = some (.val (.builtin "ValueError.__init__"))) (ha : PA X (e :: es) ta) (hd : (nm == ("__debug__" : Str)) = false := by decide)
    (h1 : eval (.Call (.Attribute (.Name nm p1) "__init__" p2) (e :: es) [] pos) X.env = (do
        let ov ← eval (.Name nm p1) X.env
        standAt p2.atName
        let __x ← holding [ov] (getMethod ov "__init__" pl)
        match __x with
        | (f, first) => callWith pos f first (backTo pos (starEach (e :: es) X.env)) (backToKw pos (keywordEach [] X.env))) := by rfl)
    (h2 : starEach (e :: es) X.env = (false, eval e X.env) :: starEach es X.env := by rfl)
    (h3 : ((backTo pos (starEach es X.env)).any fun x => x.fst) = false := by rfl) : PE X (.Call (.Attribute (.Name nm p1) "__init__" p2) (e :: es) [] pos) (tVeI X.K ta) := by
  refine ⟨fun pins s σ H Q I hq => ?_⟩
  refine W.methodCall_KW ?_ h1
  refine thn ((pe_glob (v := .ref C) hg hm rfl hd).run pins s σ H (fun v H1 => v = .ref C ∧ tVeI X.K ta σ H1 Q) I ⟨rfl, hq⟩) fun u s1 ⟨v, H1, I1, rv, e1, q1⟩ => ?_
  subst e1
  have e2 : u = .ref C := rv
  subst e2
  obtain ⟨m, fr⟩ := I1.fr
  have kin := I1.ok.mod.kin
  refine W.method_of_cls fr kin R.ga ?_
  refine W.cls_val fr kin ht R.rd V (by rfl) ?_
  refine callWith_method1 (thn (ha.run pos pins _ σ H1 _ (I1.tok _) q1) fun us s2 ⟨vs, H2, I2, rvs, q2⟩ => ?_) h2 h3
  obtain ⟨a, D, ws, rfl, hl, T, hH, q⟩ := q2
  cases rvs with
  | cons r rs =>
    have e3 : _ = Value.ref a := r
    subst e3
    have ln := rs.length
    exact oinit_ok T I2 hH (by rw [sizeLine_eq]; omega) fun s' I' => ⟨.non, H2, I', rfl, q⟩
def clsBody : Stmt → List Stmt
  | .ClassDef _ _ _ b _ _ _ _ _ _ _ => b
  | _ => []
/-- an own error class with its own __init__ -/
structure ErrC (K : PySem.W.Frag) (mg : Str → Option Value) (x f : Str) (C fI : Addr) : Prop where
  m : mg x = some (.ref C)
  oex : OexC K C
  iC : PySem.W.findIn K (.ref C) "__init__" = some (some (.ref fI))
  tI : PySem.W.typeIn K (.ref fI) = some (.type "function")
  noN : PySem.W.findIn K (.ref C) f = some none
  xf : XfC K C
  te : PySem.W.exmOne K (.ref C) (.ref C) = some true
/-- the base, without one -/
structure BaseC (K : PySem.W.Frag) (mg : Str → Option Value) (x : Str) (C : Addr) : Prop where
  m : mg x = some (.ref C)
  R : ClX.CRead K C (.type "type")
  t : PySem.W.typeIn K (.ref C) = some (.type "type")
  V : PySem.W.findCls K (.ref C) (.type "type") "__init__" = some (.val (.builtin "ValueError.__init__"))
/-- what such an __init__ leaves: one field -/
def spErr (K : PySem.W.Frag) (f : Str) : Sp := fun vs H Q _ => ∃ (a C : Addr) (n : Str), vs = [.ref a, .str n] ∧ OexC K C ∧ PySem.W.findIn K (.ref C) f = some none ∧ H a = some (exo a C none) ∧ n.length ≤ 1000 ∧ ∀ dx, H dx = none → dx ≠ a → Q .non (upd (upd H dx (exd dx [(f, .str n)])) a (exo a C (some dx)))
end XC
set_option Elab.async false
set_option linter.all false
set_option maxRecDepth 100000
set_option maxHeartbeats 4000000
namespace XR
open PySem PySem.Spec PyProof.Rows L2
/-! ### repr of data -/
def rRepr (K : PySem.W.Frag) : List V → Hp → VK → Prop := fun xs H Q => ∃ x d, xs = [x] ∧ Dp K H x d ∧ (x = .non ∨ ∃ a, x = .ref a) ∧ d.showable = true ∧ d.hasDict = false ∧ d.depth ≤ 64 ∧ d.shown.length ≤ sizeLine ∧ Q (.str d.shown) H
theorem call_repr {X : Cx} (K : PySem.W.Frag) (hK : X.K = K) (hg : X.A.guards = some []) (hu : X.A.units + 65 < cLine) : CallR X (.builtin "repr") (rRepr K) := by
  subst hK
  intro pins s σ H xs us Q I hv ⟨x, d, hx, hd, hxx, h1, h2, h3, h4, hq⟩
  subst hx
  cases hv with
  | cons r rs =>
    cases rs
    rcases hxx with rfl | ⟨a, rfl⟩
    · cases r
      cases hd
      exact P.repr_of_none ⟨.str PyData.none.shown, H, I.tok _, ⟨s.toks, rfl⟩, hq⟩
    · obtain ⟨as, hr⟩ := Dp.reads I d _ _ hd r
      cases r
      exact repr_of_reads' hr h1 (fun z => by rw [h2] at z; cases z) hg (by omega) (fun _ _ e => e) (fun h' u tk hk => ⟨.str d.shown, H, I.kept hk, ⟨u, rfl⟩, hq⟩) h4
/-! ### a written dict of texts to ints -/
structure ITab (K : PySem.W.Frag) (w : World) (d : Addr) (kvs : List (Str × Int)) : Prop where
  D : ∃ es n, KDict K w d es n
  at_ : ∀ z : Str, ∃ r, PySem.W.nsIn K d z = some r ∧ (match kvs.lookup z with | none => r = none | some i => ∃ t, r = some (.int i t))
def tKGet (d : Addr) (kvs : List (Str × Int)) (td ty tx : TE) : TE := fun σ H Q => td σ H fun x H1 => x = .ref d ∧ ty σ H1 fun y H2 => tx σ H2 fun z H3 => ∃ (k : Str) (j : Int), y = .str k ∧ z = .int j ∧ Q (.int ((kvs.lookup k).getD j)) H3
theorem pe_kget2 {X : Cx} {o e f : Expr} {td ty tx : TE} {apos cpos : Pos} {d : Addr} {kvs : List (Str × Int)} (T : ITab X.K X.w d kvs) (ho : PE X o td) (he : PE X e ty) (hf : PE X f tx) (m : M2 X o "get" apos e f cpos) :
    PE X (.Call (.Attribute o "get" apos) [e, f] [] cpos) (tKGet d kvs td ty tx) := by
  obtain ⟨es, n, D⟩ := T.D
  refine ⟨fun pins s σ H Q I h => ?_⟩
  refine wpAny_Call_method m.base m.few m.line F.plainAttrs_dict F.slot_dict_get F.type_dict_get (thn (ho.run pins s σ H _ I h) fun u s1 ⟨x, H1, I1, rx, ex, q1⟩ => ?_)
  subst ex
  cases rx
  have hget := I1.kIn d _ D.at_
  refine ⟨?_, fun b hb => ?_, ?_⟩
  · exact Heap.MapOf.typeIs (PySem.W.mapOf_K (prog := X.prog) I1.kIn D.at_ D.lit)
  · cases hb
    exact ⟨_, hget, rfl⟩
  · rw [m.trees]
    refine Calls.callWith_builtin rfl (Calls.evalArgs_plain (Calls.spliced_cons (thn (he.run pins s1 σ H1 _ I1 q1) fun iv s2 ⟨y, H2, I2, ry, q2⟩ => Calls.spliced_cons (thn (hf.run pins s2 σ H2 _ I2 q2) fun fv s3 ⟨z, H3, I3, rz, k, j, ek, ej, q3⟩ => Calls.spliced_nil ?_))))
    subst ek ej
    obtain ⟨t, rfl⟩ := ry
    obtain ⟨r, hr, hm⟩ := T.at_ k
    have mp := PySem.W.mapOf_K (prog := X.prog) I3.kIn D.at_ D.lit
    refine call_meetsIn F.slot_dict_get (Heap.MapOf.typeIs mp) F.entry_dict_get (F.args_dict_get_3 (.ref d) (.str k t) fv) (meets_dict_get_default (strKind X.prog X.w) (k := k) d (strKind_is _ _ k t) D.low fv) ⟨_, mp, ?_⟩
    rw [PySem.W.find_K D.at_ hr]
    cases hl : kvs.lookup k with
    | none =>
      rw [hl] at hm q3
      subst hm
      exact ⟨.int j, H3, I3.tok _, rz, q3⟩
    | some i =>
      rw [hl] at hm q3
      obtain ⟨t2, rfl⟩ := hm
      exact ⟨.int i, H3, I3.tok _, ⟨t2, rfl⟩, q3⟩
/-! ### the signs of a text -/
theorem turns_text {z : Str} {g : TG} {te : TE} {σ0 : L2.St} {vs : List Nat} {W : Nat → Hp → Prop} {step : Nat → V → Hp → (Hp → Prop) → Prop} {fin : Hp → Prop}
    (hs : ∀ (i : Nat) (c : Nat) (H : Hp), z.cps.toList[i]? = some c → W i H → g (.str ⟨#[c]⟩) σ0 H fun σ2 H2 => wipe σ2 vs = σ0 ∧ te σ2 H2 fun y H3 => step i y H3 (W (i + 1))) (hd : ∀ H, W z.cps.toList.length H → fin H) : GE.Turns (Its z) g te σ0 vs z.cps.toList.length W step fin where
  stop := fun H w => ⟨Nat.le_refl _, hd H w⟩
  go := fun i H hi w => by
    refine ⟨hi, fun x H' y => ?_⟩
    obtain ⟨e, c, hc, rfl⟩ := y
    subst e
    exact hs i c _ (by rw [Array.getElem?_toList]; exact hc) w
/-! ### the facts of a written dict -/
def keyVal (e : DictEntry) : Option (Str × Int) := match e.key, e.val with | .str x _, .int i _ => some (x, i) | _, _ => none
def itabB (K : PySem.W.Frag) (d : Addr) (kvs : List (Str × Int)) : Bool := match K.lookup d with | some ⟨_, _, .dict es _, _⟩ => decide (es.toList.map keyVal = kvs.map some) | _ => false
theorem keyVal_find : ∀ (l : List DictEntry) (kvs : List (Str × Int)) (z : Str), l.map keyVal = kvs.map some → (match l.find? (fun e => e.key.isStr z) with | some e => ∃ i t, kvs.lookup z = some i ∧ e.val = .int i t | none => kvs.lookup z = none ∧ l.any (fun e => e.refKey) = false)
  | [], [], z, _ => ⟨rfl, rfl⟩
  | [], _ :: _, z, h => by simp at h
  | _ :: _, [], z, h => by simp at h
  | e :: l, (x, i) :: kvs, z, h => by
    rw [List.map_cons, List.map_cons, List.cons.injEq] at h
    obtain ⟨h1, h2⟩ := h
    have ih := keyVal_find l kvs z h2
    obtain ⟨hh, ky, vl⟩ := e
    unfold keyVal at h1
    split at h1
    case h_1 x' t' i' t2' e1 e2 =>
      cases h1
      simp only at e1 e2
      subst e1 e2
      rw [List.find?_cons]
      have e3 : Value.isStr (.str x t') z = (x == z) := rfl
      simp only [e3]
      cases hz : x == z with
      | true =>
        have : x = z := eq_of_beq hz
        subst this
        exact ⟨i, t2', by rw [List.lookup_cons_self], rfl⟩
      | false =>
        have hz2 : (z == x) = false := by rw [← hz]; exact BEq.comm
        simp only [List.lookup_cons, hz2]
        have ih2 := ih
        cases hf : l.find? (fun e => e.key.isStr z) with
        | some e => rw [hf] at ih2; exact ih2
        | none => rw [hf] at ih2; exact ⟨ih2.1, by rw [List.any_cons, ih2.2]; rfl⟩
    case h_2 => cases h1
theorem itab_mk {K : PySem.W.Frag} {w : World} {d : Addr} {kvs : List (Str × Int)} (h : itabB K d kvs = true) (D : ∃ es n, KDict K w d es n) : ITab K w d kvs := by
  obtain ⟨es, n, D⟩ := D
  refine ⟨⟨es, n, D⟩, fun z => ?_⟩
  unfold itabB at h
  rw [D.at_] at h
  have q := keyVal_find es.toList kvs z (of_decide_eq_true h)
  unfold PySem.W.nsIn
  rw [D.at_]
  simp only
  cases hf : es.toList.find? (fun e => e.key.isStr z) with
  | some e =>
    rw [hf] at q
    obtain ⟨i, t, h1, h2⟩ := q
    exact ⟨_, rfl, by rw [h1]; exact ⟨t, by rw [h2]⟩⟩
  | none =>
    rw [hf] at q
    exact ⟨none, by simp only [q.2]; rfl, by rw [q.1]⟩
/-! ### a text many times over -/
def rRepS : V → V → Hp → VK → Prop := fun x y H Q => ∃ (z : Str) (k : Int), x = .str z ∧ y = .int k ∧ 2 ≤ k ∧ k ≤ 1000 ∧ z.length ≠ 0 ∧ z.length ≤ 1000 ∧ ∀ y : Str, y = ⟨List.foldl (fun a b => a ++ b) #[] (List.replicate k.toNat z.cps)⟩ → Q (.str y) H
theorem fold_size (a : Array Nat) : ∀ (n : Nat) (acc : Array Nat), (List.foldl (fun x y => x ++ y) acc (List.replicate n a)).size = acc.size + n * a.size
  | 0, acc => by simp
  | n + 1, acc => by
    rw [List.replicate_succ, List.foldl_cons, fold_size a n, Array.size_append, Nat.add_mul]
    omega
theorem op_repS {X : Cx} : OpR X (binaryOp .Mult) rRepS := by
  intro pins s σ H x y v u Q I rx ry ⟨z, k, ex, ey, h2, hk, hz, hz2, q⟩
  subst ex ey
  obtain ⟨t, rfl⟩ := rx
  obtain ⟨t2, rfl⟩ := ry
  have c1 : ¬ k < 1 := by omega
  have c2 : (k == 1 || z.length == 0) = false := by
    have a : (k == 1) = false := beq_eq_false_iff_ne.mpr (by omega)
    have b : (z.length == 0) = false := beq_eq_false_iff_ne.mpr hz
    rw [a, b]; rfl
  refine P.mul_str ?_ (fun _ _ => ?_) (fun _ _ => ?_) ?_
  · rw [decide_eq_false (by omega), decide_eq_false (by omega)]; rfl
  · have : (1000 : Int) ≤ (2 ^ 63 - 1) / k := by
      refine Int.le_ediv_of_mul_le (by omega) ?_
      omega
    omega
  · have h3 : z.length * k.toNat ≤ 1000 * 1000 := Nat.mul_le_mul hz2 (by omega)
    unfold Builtin.Str.tooLong
    exact decide_eq_false (by rw [sizeLine_eq]; omega)
  · rw [if_neg c1, c2]
    refine ⟨?_, .str ⟨_⟩, H, I.tok _, ⟨_, rfl⟩, q _ rfl⟩
    have h3 : z.length * k.toNat ≤ 1000 * 1000 := Nat.mul_le_mul hz2 (by omega)
    have h4 := fold_size z.cps k.toNat #[]
    rw [sizeLine_eq]
    show Array.size _ ≤ _
    rw [h4]
    have h5 : z.cps.size = z.length := rfl
    rw [h5, Nat.mul_comm]
    have : (#[] : Array Nat).size = 0 := rfl
    omega
end XR
set_option Elab.async false
set_option linter.all false
set_option maxRecDepth 100000
set_option maxHeartbeats 4000000
namespace LB
open PySem PySem.Spec PyProof.Rows L2 GenW GE
/-! ### data on the heap, lists among them (none of them the row at r) -/
mutual
def DL (r : Addr) (H : Hp) : PyData → V → Prop
  | .none, v => v = .non
  | .bool b, v => v = .bl b
  | .int i, v => v = .int i
  | .str s, v => v = .str s
  | .tuple xs, v => ∃ a vs, v = .ref a ∧ H a = some (.tup vs) ∧ DLs r H xs vs
  | .list xs, v => ∃ a vs, v = .ref a ∧ a ≠ r ∧ H a = some (.lst vs) ∧ DLs r H xs vs
  | .dict _, _ => False
def DLs (r : Addr) (H : Hp) : List PyData → List V → Prop
  | [], vs => vs = []
  | d :: ds, vs => ∃ v vr, vs = v :: vr ∧ DL r H d v ∧ DLs r H ds vr
end
section
variable {r : Addr} {H H' : Hp} {v : V}
theorem DL.tupI {xs : List PyData} (h : DL r H (.tuple xs) v) : ∃ a vs, v = .ref a ∧ H a = some (.tup vs) ∧ DLs r H xs vs := by simpa only [DL] using h
theorem DL.lstI {xs : List PyData} (h : DL r H (.list xs) v) : ∃ a vs, v = .ref a ∧ a ≠ r ∧ H a = some (.lst vs) ∧ DLs r H xs vs := by simpa only [DL] using h
theorem DL.strI {x : Str} (h : DL r H (.str x) v) : v = .str x := by simpa only [DL] using h
theorem DL.intI {x : Int} (h : DL r H (.int x) v) : v = .int x := by simpa only [DL] using h
theorem DL.blI {x : Bool} (h : DL r H (.bool x) v) : v = .bl x := by simpa only [DL] using h
theorem DL.nonI (h : DL r H .none v) : v = .non := by simpa only [DL] using h
theorem DLs.nilI {vs : List V} (h : DLs r H [] vs) : vs = [] := by simpa only [DLs] using h
theorem DLs.consI {d : PyData} {ds : List PyData} {vs : List V} (h : DLs r H (d :: ds) vs) : ∃ v vr, vs = v :: vr ∧ DL r H d v ∧ DLs r H ds vr := by simpa only [DLs] using h
theorem DL.tup {xs : List PyData} {a : Addr} {vs : List V} (h : H a = some (.tup vs)) (t : DLs r H xs vs) : DL r H (.tuple xs) (.ref a) := by
  simp only [DL]; exact ⟨a, vs, rfl, h, t⟩
theorem DL.lst {xs : List PyData} {a : Addr} {vs : List V} (n : a ≠ r) (h : H a = some (.lst vs)) (t : DLs r H xs vs) : DL r H (.list xs) (.ref a) := by
  simp only [DL]; exact ⟨a, vs, rfl, n, h, t⟩
theorem DL.str {x : Str} : DL r H (.str x) (.str x) := by simp only [DL]
theorem DL.int {x : Int} : DL r H (.int x) (.int x) := by simp only [DL]
theorem DL.non : DL r H .none .non := by simp only [DL]
theorem DLs.nil : DLs r H [] [] := by simp only [DLs]
theorem DLs.cons {d : PyData} {ds : List PyData} {vs : List V} (h : DL r H d v) (t : DLs r H ds vs) : DLs r H (d :: ds) (v :: vs) := by
  simp only [DLs]; exact ⟨v, vs, rfl, h, t⟩
end
mutual
theorem DL.ext {r : Addr} {H H' : Hp} (e : ExtR r H H') : ∀ (d : PyData) (v : V), DL r H d v → DL r H' d v
  | .none, _, h => by rw [h.nonI]; exact .non
  | .bool _, _, h => by rw [h.blI]; simp only [DL]
  | .int _, _, h => by rw [h.intI]; exact .int
  | .str _, _, h => by rw [h.strI]; exact .str
  | .tuple xs, _, h => by
    obtain ⟨a, vs, rfl, h2, h3⟩ := h.tupI
    exact .tup (e.tup h2) (DLs.ext e xs vs h3)
  | .list xs, _, h => by
    obtain ⟨a, vs, rfl, n, h2, h3⟩ := h.lstI
    exact .lst n (e.lst n h2) (DLs.ext e xs vs h3)
  | .dict _, _, h => by simp only [DL] at h
theorem DLs.ext {r : Addr} {H H' : Hp} (e : ExtR r H H') : ∀ (ds : List PyData) (vs : List V), DLs r H ds vs → DLs r H' ds vs
  | [], _, h => by rw [h.nilI]; exact .nil
  | d :: ds, _, h => by
    obtain ⟨v, vr, rfl, h2, h3⟩ := h.consI
    exact .cons (DL.ext e d v h2) (DLs.ext e ds vr h3)
theorem DL.of_da {r : Addr} {H : Hp} : ∀ (d : PyData) (v : V), DA H d v → DL r H d v
  | .none, _, h => by simp only [DA] at h; rw [h]; exact .non
  | .bool _, _, h => by simp only [DA] at h; rw [h]; simp only [DL]
  | .int _, _, h => by rw [h.intI]; exact .int
  | .str _, _, h => by rw [h.strI]; exact .str
  | .tuple xs, _, h => by
    obtain ⟨a, vs, rfl, h2, h3⟩ := h.tupI
    exact .tup h2 (DLs.of_da xs vs h3)
  | .list xs, _, h => by simp only [DA] at h
  | .dict _, _, h => by simp only [DA] at h
theorem DLs.of_da {r : Addr} {H : Hp} : ∀ (ds : List PyData) (vs : List V), DAs H ds vs → DLs r H ds vs
  | [], _, h => by rw [h.nilI]; exact .nil
  | d :: ds, _, h => by
    obtain ⟨v, vr, rfl, h2, h3⟩ := h.consI
    exact .cons (DL.of_da d v h2) (DLs.of_da ds vr h3)
theorem DL.dp {r : Addr} {K : PySem.W.Frag} {H : Hp} : ∀ (d : PyData) (v : V), DL r H d v → Dp K H v d
  | .none, _, h => by rw [h.nonI]; exact .non
  | .bool b, _, h => by rw [h.blI]; exact .bl b
  | .int i, _, h => by rw [h.intI]; exact .int i
  | .str s, _, h => by rw [h.strI]; exact .str s
  | .tuple xs, _, h => by
    obtain ⟨a, vs, rfl, h2, h3⟩ := h.tupI
    exact .tup (SqT.of h2) (DLs.dp xs vs h3)
  | .list xs, _, h => by
    obtain ⟨a, vs, rfl, n, h2, h3⟩ := h.lstI
    exact .lst (SqL.of h2) (DLs.dp xs vs h3)
  | .dict _, _, h => by simp only [DL] at h
theorem DLs.dp {r : Addr} {K : PySem.W.Frag} {H : Hp} : ∀ (ds : List PyData) (vs : List V), DLs r H ds vs → DpAll K H vs ds
  | [], _, h => by rw [h.nilI]; exact .nil
  | d :: ds, _, h => by
    obtain ⟨v, vr, rfl, h2, h3⟩ := h.consI
    exact .cons (DL.dp d v h2) (DLs.dp ds vr h3)
end
section
variable {r : Addr} {H H' : Hp} {v : V}
theorem DL.mono {d : PyData} (h : DL r H d v) (e : Ext H H') : DL r H' d v := DL.ext (e.toR r) d v h
theorem DLs.mono {d : List PyData} {vs : List V} (h : DLs r H d vs) (e : Ext H H') : DLs r H' d vs := DLs.ext (e.toR r) d vs h
theorem DL.monoR {d : PyData} (h : DL r H d v) (e : ExtR r H H') : DL r H' d v := DL.ext e d v h
theorem DLs.monoR {d : List PyData} {vs : List V} (h : DLs r H d vs) (e : ExtR r H H') : DLs r H' d vs := DLs.ext e d vs h
theorem DLs.len : ∀ {ds : List PyData} {vs : List V}, DLs r H ds vs → vs.length = ds.length
  | [], _, h => by rw [h.nilI]; rfl
  | d :: ds, _, h => by
    obtain ⟨v, vr, rfl, _, h3⟩ := h.consI
    rw [List.length_cons, List.length_cons, DLs.len h3]
theorem DLs.get' : ∀ {ds : List PyData} {vs : List V} {i : Nat} {v : V}, DLs r H ds vs → vs[i]? = some v → ∃ d, ds[i]? = some d ∧ DL r H d v
  | [], _, _, _, h, e => by rw [h.nilI] at e; simp at e
  | d :: ds, _, 0, _, h, e => by
    obtain ⟨v, vr, rfl, h2, _⟩ := h.consI
    cases (by simpa using e : v = _)
    exact ⟨d, rfl, h2⟩
  | d :: ds, _, i + 1, _, h, e => by
    obtain ⟨v, vr, rfl, _, h3⟩ := h.consI
    exact DLs.get' (i := i) h3 (by simpa using e)
theorem DLs.append : ∀ {ds es : List PyData} {vs us : List V}, DLs r H ds vs → DLs r H es us → DLs r H (ds ++ es) (vs ++ us)
  | [], _, _, _, h, h2 => by rw [h.nilI]; exact h2
  | d :: ds, _, _, _, h, h2 => by
    obtain ⟨v, vr, rfl, h3, h4⟩ := h.consI
    exact .cons h3 (DLs.append h4 h2)
theorem DL.new {xs : List PyData} {p : Addr} {vs : List V} (hp : H p = none) (t : DLs r H xs vs) : DL r (upd H p (.tup vs)) (.tuple xs) (.ref p) := .tup upd_same (t.mono (Ext.new hp _))
theorem DL.newL {xs : List PyData} {p : Addr} {vs : List V} (hp : H p = none) (n : p ≠ r) (t : DLs r H xs vs) : DL r (upd H p (.lst vs)) (.list xs) (.ref p) := .lst n upd_same (t.mono (Ext.new hp _))
end
/-! ### plain data: short texts, small ints -/
mutual
def tame : PyData → Bool
  | .none => true | .bool _ => true
  | .int i => decide (i.natAbs < 10 ^ 12)
  | .str s => PyData.strOk s && decide (s.length ≤ 25)
  | .tuple xs => tames xs
  | .list xs => tames xs
  | .dict _ => false
def tames : List PyData → Bool
  | [] => true
  | d :: ds => tame d && tames ds
end
mutual
def psz : PyData → Nat
  | .tuple xs => pszs xs + 1
  | .list xs => pszs xs + 1
  | .none => 1 | .bool _ => 1 | .int _ => 1 | .str _ => 1 | .dict _ => 1
def pszs : List PyData → Nat
  | [] => 0
  | d :: ds => psz d + pszs ds
end
theorem pszs_append : ∀ (a b : List PyData), pszs (a ++ b) = pszs a + pszs b
  | [], b => by rw [List.nil_append, pszs]; omega
  | d :: a, b => by rw [List.cons_append, pszs, pszs, pszs_append a b]; omega
theorem tames_append : ∀ (a b : List PyData), tames (a ++ b) = (tames a && tames b)
  | [], b => by rw [List.nil_append, tames]; rfl
  | d :: a, b => by rw [List.cons_append, tames, tames, tames_append a b, Bool.and_assoc]
theorem tames_all : ∀ (a : List PyData), tames a = a.all tame
  | [] => rfl
  | d :: a => by rw [tames, List.all_cons, tames_all a]
mutual
theorem tame_show : ∀ (d : PyData), tame d = true → d.showable = true ∧ d.hasDict = false ∧ d.canLay0 = true ∧ PyData.leavesShort 13 d = true ∧ d.weight + 1 ≤ 50 * psz d
  | .none, _ => ⟨rfl, rfl, rfl, by rw [PyData.leavesShort], by rw [PyData.weight, psz]; omega⟩
  | .bool b, _ => ⟨rfl, rfl, rfl, by rw [PyData.leavesShort], by rw [PyData.weight, psz]; omega⟩
  | .int i, h => by
    rw [tame] at h
    have h2 : i.natAbs < 10 ^ 12 := of_decide_eq_true h
    have h3 : i.natAbs.log2 ≤ 40 := by
      by_cases z : i.natAbs = 0
      · rw [z]; decide
      · exact Nat.le_of_lt ((Nat.log2_lt z).mpr (Nat.lt_trans h2 (by decide)))
    refine ⟨?_, rfl, rfl, ?_, ?_⟩
    · rw [PyData.showable]; exact decide_eq_true (by omega)
    · rw [PyData.leavesShort]; exact decide_eq_true (PyData.shown_int_le h2)
    · rw [PyData.weight, psz]; split <;> omega
  | .str s, h => by
    rw [tame, Bool.and_eq_true] at h
    have h2 : s.length ≤ 25 := of_decide_eq_true h.2
    refine ⟨rfl, rfl, ?_, ?_, ?_⟩
    · rw [PyData.canLay0]; exact h.1
    · rw [PyData.leavesShort, List.all_eq_true]
      intro c hc
      have h4 := h.1
      unfold PyData.strOk at h4
      rw [← Array.all_toList, List.all_eq_true] at h4
      have h5 := of_decide_eq_true (h4 c hc)
      exact decide_eq_true (by omega)
    · rw [PyData.weight, psz]; have : s.cps.size = s.length := rfl; omega
  | .tuple xs, h => by
    rw [tame] at h
    obtain ⟨h1, h2, h3, h4, h5⟩ := tames_show xs h
    refine ⟨?_, ?_, ?_, ?_, ?_⟩
    · rw [PyData.showable]; exact h1
    · rw [PyData.hasDict]; exact h2
    · rw [PyData.canLay0]; exact h3
    · rw [PyData.leavesShort]; exact h4
    · rw [PyData.weight, psz]; omega
  | .list xs, h => by
    rw [tame] at h
    obtain ⟨h1, h2, h3, h4, h5⟩ := tames_show xs h
    refine ⟨?_, ?_, ?_, ?_, ?_⟩
    · rw [PyData.showable]; exact h1
    · rw [PyData.hasDict]; exact h2
    · rw [PyData.canLay0]; exact h3
    · rw [PyData.leavesShort]; exact h4
    · rw [PyData.weight, psz]; omega
  | .dict _, h => by rw [tame] at h; cases h
theorem tames_show : ∀ (ds : List PyData), tames ds = true → PyData.showableAll ds = true ∧ PyData.hasDictAll ds = false ∧ PyData.canLayAll0 ds = true ∧ PyData.leavesShortAll 13 ds = true ∧ PyData.weightAll ds ≤ 50 * pszs ds
  | [], _ => ⟨rfl, rfl, rfl, rfl, by rw [PyData.weightAll, pszs]; omega⟩
  | d :: ds, h => by
    rw [tames, Bool.and_eq_true] at h
    obtain ⟨a1, a2, a3, a4, a5⟩ := tame_show d h.1
    obtain ⟨b1, b2, b3, b4, b5⟩ := tames_show ds h.2
    refine ⟨?_, ?_, ?_, ?_, ?_⟩
    · rw [PyData.showableAll, a1, b1]; rfl
    · rw [PyData.hasDictAll, a2, b2]; rfl
    · rw [PyData.canLayAll0, a3, b3]; rfl
    · rw [PyData.leavesShortAll, a4, b4]; rfl
    · rw [PyData.weightAll, pszs]; omega
end
theorem tame_fits {d : PyData} (h : tame d = true) (hs : psz d ≤ 20000) : d.shown.length ≤ sizeLine := by
  obtain ⟨_, _, _, h4, h5⟩ := tame_show d h
  have q := PyData.shown_le 13 (by omega) d h4
  rw [sizeLine_eq]
  omega
theorem tame_shaped {d : PyData} (h : tame d = true) (hs : d.depth ≤ 64) : SeqAt.shaped d = true := by
  obtain ⟨_, _, h3, _⟩ := tame_show d h
  unfold SeqAt.shaped
  rw [h3, decide_eq_true hs]; rfl
end LB
set_option Elab.async false
set_option linter.all false
set_option maxRecDepth 100000
set_option maxHeartbeats 4000000
namespace LB
open PySem PySem.Spec PyProof.Rows L2 GenW GE
/-! ### point 2: what is a grammar -/
def CH : Str := " !\"#$&'()*+,-./0123456789:;<=>?@ABCDEFGHIJKLMNOPQRSTUVWXYZ[\\]^_`abcdefghijklmnopqrstuvwxyz{|}~"
def LENS : List (Str × Int) := [("eps", 1), ("fail", 1), ("any", 1), ("set", 2), ("text", 2), ("seq", 2), ("alt", 2), ("star", 2), ("opt", 2), ("not", 2), ("and", 2), ("call", 2), ("mark", 3)]
def lowB (c : Nat) : Bool := !decide ([c] < ("a" : Str).cps.toList) && !decide (("z" : Str).cps.toList < [c])
def inCH (c : Nat) : Bool := decide (c ∈ CH.cps.toList)
def ascB : List Nat → Bool
  | a :: b :: l => decide ([a] < [b]) && ascB (b :: l)
  | _ => true
def nameB : PyData → Bool
  | .str s => decide (1 ≤ (s.length : Int)) && decide ((s.length : Int) ≤ 12) && s.cps.toList.all lowB
  | _ => false
def csetB : PyData → Bool
  | .str s => !decide (s.length = 0) && s.cps.toList.all inCH && ascB s.cps.toList
  | _ => false
def ctextB : PyData → Bool
  | .str s => decide (1 ≤ (s.length : Int)) && decide ((s.length : Int) ≤ 20) && s.cps.toList.all inCH
  | _ => false
def partsB (p : PyData → Bool) : PyData → Bool
  | .tuple xs => decide (xs.length ≤ 16) && xs.all p
  | _ => false
def bodyB (p : PyData → Bool) (h : Str) (rest : List PyData) : Bool :=
  if h = "seq" ∨ h = "alt" then match rest with | d :: _ => partsB p d | [] => false
  else if h = "mark" then match rest with | d :: e :: _ => nameB d && p e | _ => false
  else if h = "star" ∨ h = "opt" ∨ h = "not" ∨ h = "and" then match rest with | d :: _ => p d | [] => false
  else if h = "call" then match rest with | d :: _ => nameB d | [] => false
  else if h = "set" then match rest with | d :: _ => csetB d | [] => false
  else if h = "text" then match rest with | d :: _ => ctextB d | [] => false
  else true
def exprB : Nat → PyData → Bool
  | 0, _ => false
  | n + 1, .tuple (.str h :: rest) => decide ((LENS.lookup h).getD 0 = ((rest.length + 1 : Nat) : Int)) && bodyB (exprB n) h rest
  | _ + 1, _ => false
def ruleB : PyData → Bool
  | .tuple [a, b] => nameB a && exprB 12 b
  | _ => false
def dsz : List Str → Nat
  | [] => 0
  | x :: l => dsz l + if x ∈ l then 0 else 1
def ruleName : PyData → Str
  | .tuple (.str s :: _) => s
  | _ => Str.empty
def gramB : PyData → Bool
  | .tuple xs => decide (1 ≤ (xs.length : Int)) && decide ((xs.length : Int) ≤ 16) && xs.all ruleB && decide (dsz (xs.map ruleName).reverse = xs.length)
  | _ => false
theorem dsz_le : ∀ l : List Str, dsz l ≤ l.length
  | [] => Nat.le_refl _
  | x :: l => by
    rw [dsz, List.length_cons]
    have := dsz_le l
    split <;> omega
theorem dsz_nodup : ∀ {l : List Str}, l.Nodup → dsz l = l.length
  | [], _ => rfl
  | x :: l, h => by
    rw [List.nodup_cons] at h
    rw [dsz, List.length_cons, if_neg h.1, dsz_nodup h.2]
theorem dsz_dup {x : Str} {l : List Str} (h : x ∈ l) : dsz (x :: l) < (x :: l).length := by
  rw [dsz, if_pos h, List.length_cons]
  have := dsz_le l
  omega
/-! ### what the law's expressions are -/
mutual
def Ex.fine : Ex → Bool
  | .eps => true | .fail => true | .any => true
  | .set s => csetB (.str s)
  | .text s => ctextB (.str s)
  | .call s => nameB (.str s)
  | .seq es => decide (es.length ≤ 16) && Ex.fines es
  | .alt es => decide (es.length ≤ 16) && Ex.fines es
  | .star e => e.fine | .opt e => e.fine | .nt e => e.fine | .an e => e.fine
  | .mark l e => nameB (.str l) && e.fine
def Ex.fines : List Ex → Bool
  | [] => true
  | e :: r => e.fine && Ex.fines r
end
mutual
theorem Ex.expr_ok : ∀ (e : Ex) (n : Nat), e.dep ≤ n → e.fine = true → exprB n e.py = true
  | .eps, n + 1, _, _ => rfl
  | .fail, n + 1, _, _ => rfl
  | .any, n + 1, _, _ => rfl
  | .set s, n + 1, _, h => by rw [Ex.fine] at h; rw [Ex.py]; exact h
  | .text s, n + 1, _, h => by rw [Ex.fine] at h; rw [Ex.py]; exact h
  | .call s, n + 1, _, h => by rw [Ex.fine] at h; rw [Ex.py]; exact h
  | .seq es, n + 1, hd, h => by
    rw [Ex.fine, Bool.and_eq_true] at h
    rw [Ex.dep] at hd
    rw [Ex.py]
    show (decide ((Ex.pys es).length ≤ 16) && (Ex.pys es).all (exprB n)) = true
    rw [Ex.pys_len, h.1, Ex.exprs_ok es n (by omega) h.2]; rfl
  | .alt es, n + 1, hd, h => by
    rw [Ex.fine, Bool.and_eq_true] at h
    rw [Ex.dep] at hd
    rw [Ex.py]
    show (decide ((Ex.pys es).length ≤ 16) && (Ex.pys es).all (exprB n)) = true
    rw [Ex.pys_len, h.1, Ex.exprs_ok es n (by omega) h.2]; rfl
  | .star e, n + 1, hd, h => by rw [Ex.fine] at h; rw [Ex.dep] at hd; rw [Ex.py]; exact Ex.expr_ok e n (by omega) h
  | .opt e, n + 1, hd, h => by rw [Ex.fine] at h; rw [Ex.dep] at hd; rw [Ex.py]; exact Ex.expr_ok e n (by omega) h
  | .nt e, n + 1, hd, h => by rw [Ex.fine] at h; rw [Ex.dep] at hd; rw [Ex.py]; exact Ex.expr_ok e n (by omega) h
  | .an e, n + 1, hd, h => by rw [Ex.fine] at h; rw [Ex.dep] at hd; rw [Ex.py]; exact Ex.expr_ok e n (by omega) h
  | .mark l e, n + 1, hd, h => by
    rw [Ex.fine, Bool.and_eq_true] at h
    rw [Ex.dep] at hd
    rw [Ex.py]
    show (nameB (.str l) && exprB n e.py) = true
    rw [h.1, Ex.expr_ok e n (by omega) h.2]; rfl
  | e, 0, hd, _ => by have := e.dep_pos; omega
theorem Ex.exprs_ok : ∀ (es : List Ex) (n : Nat), Ex.deps es ≤ n → Ex.fines es = true → (Ex.pys es).all (exprB n) = true
  | [], _, _, _ => rfl
  | e :: r, n, hd, h => by
    rw [Ex.fines, Bool.and_eq_true] at h
    rw [Ex.deps] at hd
    rw [Ex.pys, List.all_cons, Ex.expr_ok e n (Nat.le_trans (Nat.le_max_left _ _) hd) h.1, Ex.exprs_ok r n (Nat.le_trans (Nat.le_max_right _ _) hd) h.2]; rfl
end
/-! ### a thing put into an expression -/
mutual
def Ex.size : Ex → Nat
  | .eps => 1 | .fail => 1 | .any => 1 | .set _ => 1 | .text _ => 1 | .call _ => 1
  | .seq es => 1 + Ex.sizes es | .alt es => 1 + Ex.sizes es
  | .star e => 1 + e.size | .opt e => 1 + e.size | .nt e => 1 + e.size | .an e => 1 + e.size | .mark _ e => 1 + e.size
def Ex.sizes : List Ex → Nat
  | [] => 0
  | e :: r => e.size + Ex.sizes r
end
mutual
/-- what _law_put makes -/
def Ex.put (o : PyData) : Ex → Nat → PyData
  | _, 0 => o
  | .seq es, n + 1 => .tuple [.str "seq", .tuple (Ex.puts o es n)]
  | .alt es, n + 1 => .tuple [.str "alt", .tuple (Ex.puts o es n)]
  | .star e, n + 1 => .tuple [.str "star", Ex.put o e n]
  | .opt e, n + 1 => .tuple [.str "opt", Ex.put o e n]
  | .nt e, n + 1 => .tuple [.str "not", Ex.put o e n]
  | .an e, n + 1 => .tuple [.str "and", Ex.put o e n]
  | .mark l e, n + 1 => .tuple [.str "mark", .str l, Ex.put o e n]
  | e, _ + 1 => o
def Ex.puts (o : PyData) : List Ex → Nat → List PyData
  | [], _ => []
  | e :: r, n => if n < e.size then Ex.put o e n :: Ex.pys r else e.py :: Ex.puts o r (n - e.size)
end
mutual
theorem Ex.put_bad {o : PyData} (ho : ∀ n, exprB n o = false) : ∀ (e : Ex) (k n : Nat), k < e.size → exprB n (Ex.put o e k) = false
  | e, k, 0, _ => rfl
  | e, 0, n + 1, _ => by rw [Ex.put]; exact ho _
  | .seq es, k + 1, n + 1, h => by
    rw [Ex.size] at h
    rw [Ex.put]
    show (decide ((Ex.puts o es k).length ≤ 16) && (Ex.puts o es k).all (exprB n)) = false
    rw [Ex.puts_bad ho es k n (by omega), Bool.and_false]
  | .alt es, k + 1, n + 1, h => by
    rw [Ex.size] at h
    rw [Ex.put]
    show (decide ((Ex.puts o es k).length ≤ 16) && (Ex.puts o es k).all (exprB n)) = false
    rw [Ex.puts_bad ho es k n (by omega), Bool.and_false]
  | .star e, k + 1, n + 1, h => by rw [Ex.size] at h; rw [Ex.put]; exact Ex.put_bad ho e k n (by omega)
  | .opt e, k + 1, n + 1, h => by rw [Ex.size] at h; rw [Ex.put]; exact Ex.put_bad ho e k n (by omega)
  | .nt e, k + 1, n + 1, h => by rw [Ex.size] at h; rw [Ex.put]; exact Ex.put_bad ho e k n (by omega)
  | .an e, k + 1, n + 1, h => by rw [Ex.size] at h; rw [Ex.put]; exact Ex.put_bad ho e k n (by omega)
  | .mark l e, k + 1, n + 1, h => by
    rw [Ex.size] at h; rw [Ex.put]
    show (nameB (.str l) && exprB n (Ex.put o e k)) = false
    rw [Ex.put_bad ho e k n (by omega), Bool.and_false]
  | .eps, k + 1, n + 1, h => by rw [Ex.size] at h; omega
  | .fail, k + 1, n + 1, h => by rw [Ex.size] at h; omega
  | .any, k + 1, n + 1, h => by rw [Ex.size] at h; omega
  | .set _, k + 1, n + 1, h => by rw [Ex.size] at h; omega
  | .text _, k + 1, n + 1, h => by rw [Ex.size] at h; omega
  | .call _, k + 1, n + 1, h => by rw [Ex.size] at h; omega
theorem Ex.puts_bad {o : PyData} (ho : ∀ n, exprB n o = false) : ∀ (es : List Ex) (k n : Nat), k < Ex.sizes es → (Ex.puts o es k).all (exprB n) = false
  | [], k, n, h => by rw [Ex.sizes] at h; omega
  | e :: r, k, n, h => by
    rw [Ex.sizes] at h
    rw [Ex.puts]
    by_cases c : k < e.size
    · rw [if_pos c, List.all_cons, Ex.put_bad ho e k n c]; rfl
    · rw [if_neg c, List.all_cons, Ex.puts_bad ho r (k - e.size) n (by omega), Bool.and_false]
end
/-! ### the faults -/
def faultsD : List PyData := [.tuple [], .none, .int 3, .list [.str "eps"], .tuple [.str "eps", .int 1], .tuple [.str "set", .str ""], .tuple [.str "set", .str "ba"], .tuple [.str "set", .str "aa"], .tuple [.str "set", .int 5], .tuple [.str "text", .str ""], .tuple [.str "text", .str "aaaaaaaaaaaaaaaaaaaaa"],
  .tuple [.str "text", .str "a\n"], .tuple [.str "call", .str "A"], .tuple [.str "call", .str ""], .tuple [.str "call", .str "abcdefghijklm"], .tuple [.str "seq", .list [.tuple [.str "eps"]]], .tuple [.str "alt"],
  .tuple [.str "seq", .tuple (List.replicate 17 (.tuple [.str "eps"]))], .tuple [.str "star"], .tuple [.str "star", .tuple [.str "eps"], .int 1], .tuple [.str "plus", .tuple [.str "any"]], .tuple [.str "mark", .tuple [.str "any"]],
  .tuple [.str "mark", .str "X", .tuple [.str "any"]], .tuple [.str "not", .none], .tuple [.str "any", .str "a"], .tuple [.str "seq", .tuple [.tuple [.str "eps"], .int 0]], .tuple [.str "set", .str "a\t"], .tuple [.int 1, .int 2]]
theorem faults_bad : ∀ d ∈ faultsD, ∀ n, exprB n d = false := by
  intro d hd n
  cases n with
  | zero => rfl
  | succ n =>
    cases n with
    | zero =>
      have h : faultsD.all (fun d => !exprB 1 d) = true := by decide +kernel
      have := List.all_eq_true.mp h d hd
      simpa using this
    | succ n =>
      revert d
      unfold faultsD
      simp only [List.forall_mem_cons]
      repeat (refine ⟨by kernel_rfl, ?_⟩)
      intro d hd
      cases hd
theorem lookup_in {α : Type} {k : Str} {v : α} : ∀ {l : List (Str × α)}, l.lookup k = some v → (k, v) ∈ l
  | [], h => by simp at h
  | (x, y) :: l, h => by
    rw [List.lookup_cons] at h
    cases hb : k == x with
    | true =>
      rw [hb] at h
      cases eq_of_beq hb
      cases h
      simp
    | false =>
      rw [hb] at h
      exact List.mem_cons_of_mem _ (lookup_in h)
theorem LENS_cases {h : Str} {i : Int} (e : LENS.lookup h = some i) : (h = "eps" ∧ i = 1) ∨ (h = "fail" ∧ i = 1) ∨ (h = "any" ∧ i = 1) ∨ (h = "set" ∧ i = 2) ∨ (h = "text" ∧ i = 2) ∨ (h = "seq" ∧ i = 2) ∨ (h = "alt" ∧ i = 2) ∨ (h = "star" ∧ i = 2) ∨ (h = "opt" ∧ i = 2) ∨ (h = "not" ∧ i = 2) ∨ (h = "and" ∧ i = 2) ∨ (h = "call" ∧ i = 2) ∨ (h = "mark" ∧ i = 3) := by
  have q := lookup_in e
  simpa only [LENS, List.mem_cons, Prod.mk.injEq, List.not_mem_nil, or_false] using q
/-! ### isinstance of data -/
def tyn : PyData → String
  | .none => "NoneType" | .bool _ => "bool" | .int _ => "int" | .str _ => "str" | .tuple _ => "tuple" | .list _ => "list" | .dict _ => "dict"
def isS : PyData → Bool | .str _ => true | _ => false
def isT : PyData → Bool | .tuple _ => true | _ => false
theorem DL.ty {r : Addr} {K : PySem.W.Frag} {H : Hp} {d : PyData} {v : V} (h : DL r H d v) : TyX K H v (.type (tyn d)) := by
  cases d with
  | none => rw [h.nonI]; exact .base .non
  | bool b => rw [h.blI]; exact .base (.bl b)
  | int i => rw [h.intI]; exact .base (.int i)
  | str s => rw [h.strI]; exact .base (.str s)
  | tuple xs => obtain ⟨a, vs, rfl, ha, _⟩ := h.tupI; exact .base (.tup ha)
  | list xs => obtain ⟨a, vs, rfl, _, ha, _⟩ := h.lstI; exact .base (.lst ha)
  | dict _ => simp only [DL] at h
theorem kitS {K : PySem.W.Frag} (d : PyData) : PySem.W.kitOne K (.type (tyn d)) (.type "str") = some (isS d) := by
  cases d
  all_goals first
    | exact kit_ty (a := "NoneType") (r := false) (by decide +kernel) | exact kit_ty (a := "bool") (r := false) (by decide +kernel) | exact kit_ty (a := "int") (r := false) (by decide +kernel) | exact kit_ty (a := "str") (r := true) (by decide +kernel)
    | exact kit_ty (a := "tuple") (r := false) (by decide +kernel) | exact kit_ty (a := "list") (r := false) (by decide +kernel) | exact kit_ty (a := "dict") (r := false) (by decide +kernel)
theorem kitT {K : PySem.W.Frag} (d : PyData) : PySem.W.kitOne K (.type (tyn d)) (.type "tuple") = some (isT d) := by
  cases d
  all_goals first
    | exact kit_ty (a := "NoneType") (r := false) (by decide +kernel) | exact kit_ty (a := "bool") (r := false) (by decide +kernel) | exact kit_ty (a := "int") (r := false) (by decide +kernel) | exact kit_ty (a := "str") (r := false) (by decide +kernel)
    | exact kit_ty (a := "tuple") (r := true) (by decide +kernel) | exact kit_ty (a := "list") (r := false) (by decide +kernel) | exact kit_ty (a := "dict") (r := false) (by decide +kernel)
/-- all(.. for sign in text), each answer p of the sign -/
theorem all_text {z : Str} {p : Nat → Bool} {Qb : Bool → Hp → Prop} {H H2 : Hp} {g : TG} {te : TE} {σ : L2.St} {vs : List Nat} (e2 : Ext H H2)
    (hs : ∀ (c : Nat) (H' : Hp), Ext H H' → ∀ R : VK, (∀ H4, Ext H H4 → R (.bl (p c)) H4) → g (.str ⟨#[c]⟩) (wipe σ vs) H' fun σ2 H3 => wipe σ2 vs = wipe σ vs ∧ te σ2 H3 R) (hQ : ∀ H', Ext H H' → Qb (z.cps.toList.all p) H') :
    ∃ (N : Nat) (W : Nat → Hp → Prop), W 0 H2 ∧ GE.Turns (Its z) g te (wipe σ vs) vs N W (gStep true Qb) (fun H => Qb true H) := by
  refine ⟨_, fun i H' => Ext H H' ∧ ∀ (j : Nat) x, j < i → z.cps.toList[j]? = some x → p x = true, ⟨e2, fun j x hj => absurd hj (Nat.not_lt_zero _)⟩, XR.turns_text (fun i c H' hc ⟨e', w⟩ => ?_) (fun H' ⟨e', w⟩ => ?_)⟩
  · refine hs c H' e' _ fun H4 e4 => ⟨_, rfl, fun q => ⟨e4, fun j y hj hy => ?_⟩, fun q => ?_⟩
    · rcases Nat.lt_or_ge j i with x | x
      · exact w j y x hy
      · have : j = i := by omega
        subst this
        rw [hc] at hy
        cases hy
        exact q
    · have q2 := hQ H4 e4
      rw [all_at hc q] at q2
      exact q2
  · have q2 := hQ H' e'
    rw [all_upto (fun j x hx => w j x (List.getElem?_eq_some_iff.mp hx).1 hx)] at q2
    exact q2
/-- all(.. for x in a tuple), each answer p of the thing -/
theorem all_tup {K : PySem.W.Frag} {b : Addr} {r : Addr} {xs : List PyData} {us : List V} {p : PyData → Bool} {Qb : Bool → Hp → Prop} {H H2 : Hp} {g : TG} {te : TE} {σ : L2.St} {vs : List Nat} (hb : H b = some (.tup us)) (hd : DLs r H xs us) (e2 : Ext H H2)
    (hs : ∀ (i : Nat) (d : PyData) (x : V) (H' : Hp), xs[i]? = some d → DL r H' d x → Ext H H' → ∀ R : VK, (∀ H4, Ext H H4 → R (.bl (p d)) H4) → g x (wipe σ vs) H' fun σ2 H3 => wipe σ2 vs = wipe σ vs ∧ te σ2 H3 R) (hQ : ∀ H', Ext H H' → Qb (xs.all p) H') :
    ∃ (N : Nat) (W : Nat → Hp → Prop), W 0 H2 ∧ GE.Turns (Itt K b) g te (wipe σ vs) vs N W (gStep true Qb) (fun H => Qb true H) := by
  refine ⟨us.length, fun i H' => Ext H H' ∧ ∀ (j : Nat) x, j < i → xs[j]? = some x → p x = true, ⟨e2, fun j x hj => absurd hj (Nat.not_lt_zero _)⟩, turns_tup (xs := us) (fun i H' _ w => SqT.of (w.1.tup hb)) (fun i c H' hc ⟨e', w⟩ => ?_) (fun H' ⟨e', w⟩ => ?_)⟩
  · obtain ⟨d, hd1, hd2⟩ := DLs.get' (hd.mono e') hc
    refine hs i d c H' hd1 hd2 e' _ fun H4 e4 => ⟨_, rfl, fun q => ⟨e4, fun j y hj hy => ?_⟩, fun q => ?_⟩
    · rcases Nat.lt_or_ge j i with x | x
      · exact w j y x hy
      · have : j = i := by omega
        subst this
        rw [hd1] at hy
        cases hy
        exact q
    · have q2 := hQ H4 e4
      rw [all_at hd1 q] at q2
      exact q2
  · have q2 := hQ H' e'
    rw [all_upto (fun j x hx => w j x (by rw [hd.len]; exact (List.getElem?_eq_some_iff.mp hx).1) hx)] at q2
    exact q2
theorem Ext.setAny {H H' : Hp} {D : Addr} {o : HO} (hD : H D = none) (e : Ext H H') : Ext H (upd H' D o) := fun b u q => by
  have nb : b ≠ D := fun z => by rw [z, hD] at q; cases q
  rw [upd_ne nb]
  exact e b u q
theorem scK_tup {P : Program} {w : World} {K : PySem.W.Frag} {a : Addr} {xs : List V} {g : TG} {tt : TT} {te : TE} {vs : List Nat} {σ : L2.St} {H1 : Hp} {D : Addr} {Qd : Hp → Prop} (Pv : Nat → Hp → Prop)
    (h0 : Pv 0 (upd H1 D (SetK P w D (fun _ => false) 0))) (hl : ∀ i H, i ≤ xs.length → Pv i H → SqT K H a xs)
    (hs : ∀ (i : Nat) (x : V) (H : Hp), xs[i]? = some x → Pv i H → g x (wipe σ vs) H fun σ2 H2 => wipe σ2 vs = wipe σ vs ∧ tt σ2 H2 fun b H3 => if b = true then
        te σ2 H3 fun y H4 => ∃ (k : Key) (S : Key → Bool) (n : Nat), y = kV k ∧ H4 D = some (SetK P w D S n) ∧ n + 1 < scanBound ∧ Pv (i + 1) (upd H4 D (SetK P w D (fun j => S j || decide (j = k)) (if S k = true then n else n + 1))) else Pv (i + 1) H3)
    (hd : ∀ H, Pv xs.length H → Qd H) :
    ∃ W : Nat → Nat → Hp → Prop, (∃ m, W 0 m (upd H1 D (SetK P w D (fun _ => false) 0))) ∧
    ∀ i m H, W i m H → ((Itt K a).stop i H ∧ Qd H) ∨ ((Itt K a).go i H ∧ ∃ Nx : Hp → Prop, (∀ H', Nx H' → ∃ m', m' < m ∧ W (i + 1) m' H') ∧
      ∀ x H', (Itt K a).yld i H x H' → g x (wipe σ vs) H' fun σ2 H2 => wipe σ2 vs = wipe σ vs ∧ tt σ2 H2 fun b H3 => if b = true then
        te σ2 H3 fun y H4 => ∃ (k : Key) (S : Key → Bool) (n : Nat), y = kV k ∧ H4 D = some (SetK P w D S n) ∧ n + 1 < scanBound ∧
          Nx (upd H4 D (SetK P w D (fun j => S j || decide (j = k)) (if S k = true then n else n + 1))) else Nx H3) := by
  refine ⟨fun i m H => Pv i H ∧ i ≤ xs.length ∧ m = xs.length - i, ⟨_, h0, Nat.zero_le _, rfl⟩, fun i m H ⟨hp, hi, hm⟩ => ?_⟩
  have q := hl i H hi hp
  by_cases c : i = xs.length
  · subst c
    exact .inl ⟨⟨xs, q, Nat.le_refl _⟩, hd H hp⟩
  · have hlt : i < xs.length := by omega
    refine .inr ⟨⟨xs, xs[i], q, by simp [hlt]⟩, fun H' => Pv (i + 1) H', fun H' h => ⟨xs.length - (i + 1), by omega, h, by omega, rfl⟩, fun x H' y => ?_⟩
    obtain ⟨e, y⟩ := y
    subst e
    exact hs i x _ (y xs q) hp
theorem rule_is {d : PyData} (h : ruleB d = true) : ∃ s e, d = .tuple [.str s, e] := by
  unfold ruleB at h
  split at h
  · rw [Bool.and_eq_true] at h
    have h1 := h.1
    unfold nameB at h1
    split at h1
    · exact ⟨_, _, rfl⟩
    · cases h1
  · cases h
def keyIn (l : List Str) : Key → Bool
  | .inr s => decide (s ∈ l)
  | .inl _ => false
theorem keyIn_nil : keyIn [] = fun _ => false := by
  funext k
  cases k with
  | inl i => rfl
  | inr s =>
    show decide (s ∈ ([] : List Str)) = false
    exact decide_eq_false (fun z => by cases z)
theorem keyIn_add (l : List Str) (s : Str) : (fun j => keyIn l j || decide (j = (.inr s : Key))) = keyIn (l ++ [s]) := by
  funext k
  cases k with
  | inl i => simp [keyIn]
  | inr x => simp [keyIn, Bool.decide_or]
theorem scan100 : 100 < scanBound := by decide +kernel
end LB
set_option Elab.async false
set_option linter.all false
set_option maxRecDepth 100000
set_option maxHeartbeats 4000000
namespace LB
open PySem PySem.Spec PyProof.Rows L2 GenW GE
def Ex.parts : Ex → List Ex
  | .seq es => es | .alt es => es
  | .star e => [e] | .opt e => [e] | .nt e => [e] | .an e => [e] | .mark _ e => [e]
  | .eps => [] | .fail => [] | .any => [] | .set _ => [] | .text _ => [] | .call _ => []
theorem Ex.parts_dep {e : Ex} {i : Nat} {p : Ex} (h : e.parts[i]? = some p) : p.dep + 1 ≤ e.dep := by
  cases e with
  | seq es => have h2 : es[i]? = some p := h; have := Ex.deps_get h2; rw [Ex.dep]; omega
  | alt es => have h2 : es[i]? = some p := h; have := Ex.deps_get h2; rw [Ex.dep]; omega
  | star e => have h2 : [e][i]? = some p := h; have := Ex.deps_get h2; rw [Ex.dep]; rw [Ex.deps, Ex.deps] at this; omega
  | opt e => have h2 : [e][i]? = some p := h; have := Ex.deps_get h2; rw [Ex.dep]; rw [Ex.deps, Ex.deps] at this; omega
  | nt e => have h2 : [e][i]? = some p := h; have := Ex.deps_get h2; rw [Ex.dep]; rw [Ex.deps, Ex.deps] at this; omega
  | an e => have h2 : [e][i]? = some p := h; have := Ex.deps_get h2; rw [Ex.dep]; rw [Ex.deps, Ex.deps] at this; omega
  | mark l e => have h2 : [e][i]? = some p := h; have := Ex.deps_get h2; rw [Ex.dep]; rw [Ex.deps, Ex.deps] at this; omega
  | _ => simp [Ex.parts] at h
/-! ### sizes -/
theorem Ex.sizes_eq : ∀ es : List Ex, Ex.sizes es = (es.map Ex.size).sum
  | [] => rfl
  | e :: r => by rw [Ex.sizes, List.map_cons, List.sum_cons, Ex.sizes_eq r]
theorem Ex.size_parts (e : Ex) : e.size = 1 + Ex.sizes e.parts := by cases e <;> simp [Ex.size, Ex.parts, Ex.sizes]
theorem Ex.size_pos (e : Ex) : 1 ≤ e.size := by rw [Ex.size_parts]; omega
mutual
theorem Ex.size_psz : ∀ e : Ex, e.size ≤ psz e.py
  | .eps => by rw [Ex.size, Ex.py, psz]; omega
  | .fail => by rw [Ex.size, Ex.py, psz]; omega
  | .any => by rw [Ex.size, Ex.py, psz]; omega
  | .set _ => by rw [Ex.size, Ex.py, psz]; omega
  | .text _ => by rw [Ex.size, Ex.py, psz]; omega
  | .call _ => by rw [Ex.size, Ex.py, psz]; omega
  | .seq es => by rw [Ex.size, Ex.py, psz, pszs, pszs, psz, psz, pszs]; have := Ex.sizes_psz es; omega
  | .alt es => by rw [Ex.size, Ex.py, psz, pszs, pszs, psz, psz, pszs]; have := Ex.sizes_psz es; omega
  | .star e => by rw [Ex.size, Ex.py, psz, pszs, pszs, psz, pszs]; have := Ex.size_psz e; omega
  | .opt e => by rw [Ex.size, Ex.py, psz, pszs, pszs, psz, pszs]; have := Ex.size_psz e; omega
  | .nt e => by rw [Ex.size, Ex.py, psz, pszs, pszs, psz, pszs]; have := Ex.size_psz e; omega
  | .an e => by rw [Ex.size, Ex.py, psz, pszs, pszs, psz, pszs]; have := Ex.size_psz e; omega
  | .mark _ e => by rw [Ex.size, Ex.py, psz, pszs, pszs, pszs, psz, psz, pszs]; have := Ex.size_psz e; omega
theorem Ex.sizes_psz : ∀ es : List Ex, Ex.sizes es ≤ pszs (Ex.pys es)
  | [] => Nat.zero_le _
  | e :: r => by rw [Ex.sizes, Ex.pys, pszs]; have := Ex.size_psz e; have := Ex.sizes_psz r; omega
end
theorem Ex.sizes_get : ∀ {es : List Ex} {i : Nat} {e : Ex}, es[i]? = some e → e.size ≤ Ex.sizes es
  | [], _, _, h => by simp at h
  | a :: r, 0, e, h => by
    cases (by simpa using h : a = e)
    rw [Ex.sizes]; omega
  | a :: r, i + 1, e, h => by
    have := Ex.sizes_get (es := r) (i := i) (by simpa using h)
    rw [Ex.sizes]; omega
theorem Ex.parts_size {e : Ex} {i : Nat} {p : Ex} (h : e.parts[i]? = some p) : p.size + 1 ≤ e.size := by
  have := Ex.sizes_get h
  rw [e.size_parts]; omega
theorem Ex.sizes_take : ∀ (es : List Ex) (i : Nat), Ex.sizes (es.take i) ≤ Ex.sizes es
  | [], i => by rw [List.take_nil]; omega
  | e :: r, 0 => by rw [List.take_zero, Ex.sizes]; omega
  | e :: r, i + 1 => by rw [List.take_succ_cons, Ex.sizes, Ex.sizes]; have := Ex.sizes_take r i; omega
theorem Ex.sizes_at {es : List Ex} {i : Nat} {e : Ex} (h : es[i]? = some e) : Ex.sizes (es.take (i + 1)) = Ex.sizes (es.take i) + e.size := by
  rw [List.take_add_one, h, Ex.sizes_eq, Ex.sizes_eq, List.map_append, List.sum_append]
  simp
theorem Ex.sizes_len : ∀ es : List Ex, es.length ≤ Ex.sizes es
  | [] => Nat.zero_le _
  | e :: r => by rw [Ex.sizes, List.length_cons]; have := e.size_pos; have := Ex.sizes_len r; omega
/-! ### called names -/
def add1 (acc : List Str) (x : Str) : List Str := if x ∈ acc then acc else acc ++ [x]
def addN (acc l : List Str) : List Str := l.foldl add1 acc
theorem addN_nil (acc : List Str) : addN acc [] = acc := rfl
theorem addN_snoc (acc l : List Str) (x : Str) : addN acc (l ++ [x]) = add1 (addN acc l) x := by unfold addN; rw [List.foldl_append]; rfl
theorem add1_nodup {acc : List Str} {x : Str} (h : acc.Nodup) : (add1 acc x).Nodup := by
  unfold add1
  split
  · exact h
  · case isFalse c =>
    rw [List.nodup_append]
    exact ⟨h, by simp, fun a ha b hb => by cases List.mem_singleton.mp hb; exact fun z => c (z ▸ ha)⟩
theorem addN_nodup : ∀ {l acc : List Str}, acc.Nodup → (addN acc l).Nodup
  | [], _, h => h
  | x :: l, acc, h => addN_nodup (l := l) (add1_nodup h)
theorem add1_mem {acc : List Str} {x y : Str} : y ∈ add1 acc x ↔ y ∈ acc ∨ y = x := by
  unfold add1
  split
  · case isTrue c => exact ⟨.inl, fun h => h.elim id fun e => e ▸ c⟩
  · simp
theorem addN_mem : ∀ {l acc : List Str} {y : Str}, y ∈ addN acc l ↔ y ∈ acc ∨ y ∈ l
  | [], acc, y => by rw [addN_nil]; simp
  | x :: l, acc, y => by
    show y ∈ addN (add1 acc x) l ↔ _
    rw [addN_mem, add1_mem, List.mem_cons, or_assoc]
theorem add1_len (acc : List Str) (x : Str) : (add1 acc x).length ≤ acc.length + 1 := by
  unfold add1
  split
  · omega
  · rw [List.length_append]; simp
theorem addN_len : ∀ (l acc : List Str), (addN acc l).length ≤ acc.length + l.length
  | [], acc => Nat.le_refl _
  | x :: l, acc => by
    have h1 := addN_len l (add1 acc x)
    have h2 := add1_len acc x
    rw [List.length_cons]
    show (addN (add1 acc x) l).length ≤ _
    omega
theorem addN_filter : ∀ {l : List Str} (acc : List Str), l.Nodup → addN acc l = acc ++ l.filter fun x => !decide (x ∈ acc)
  | [], acc, _ => by rw [addN_nil]; simp
  | x :: l, acc, h => by
    rw [List.nodup_cons] at h
    show addN (add1 acc x) l = _
    rw [addN_filter (add1 acc x) h.2]
    by_cases c : x ∈ acc
    · have e : add1 acc x = acc := if_pos c
      rw [e, List.filter_cons_of_neg (by simp [c])]
    · have e : add1 acc x = acc ++ [x] := if_neg c
      rw [e, List.filter_cons_of_pos (by simp [c]), List.append_assoc]
      congr 1
      show x :: _ = x :: _
      congr 1
      refine List.filter_congr fun y hy => ?_
      have hne : y ≠ x := fun z => h.1 (z ▸ hy)
      simp [hne]
mutual
def Ex.calls : Ex → List Str
  | .call n => [n]
  | .seq es => Ex.callsL [] es
  | .alt es => Ex.callsL [] es
  | .star e => addN [] e.calls | .opt e => addN [] e.calls | .nt e => addN [] e.calls | .an e => addN [] e.calls | .mark _ e => addN [] e.calls
  | .eps => [] | .fail => [] | .any => [] | .set _ => [] | .text _ => []
def Ex.callsL (acc : List Str) : List Ex → List Str
  | [] => acc
  | e :: r => Ex.callsL (addN acc e.calls) r
end
theorem Ex.callsL_app (e : Ex) : ∀ (es : List Ex) (acc : List Str), Ex.callsL acc (es ++ [e]) = addN (Ex.callsL acc es) e.calls
  | [], acc => by simp only [List.nil_append, Ex.callsL]
  | x :: r, acc => by rw [List.cons_append, Ex.callsL, Ex.callsL, Ex.callsL_app e r]
theorem Ex.calls_parts {e : Ex} (h : ∀ n, e ≠ .call n) : e.calls = Ex.callsL [] e.parts := by
  cases e <;> simp [Ex.calls, Ex.parts, Ex.callsL]
  exact absurd rfl (h _)
theorem Ex.callsL_nodup : ∀ {es : List Ex} {acc : List Str}, acc.Nodup → (Ex.callsL acc es).Nodup
  | [], _, h => by rw [Ex.callsL]; exact h
  | e :: r, acc, h => by rw [Ex.callsL]; exact Ex.callsL_nodup (addN_nodup h)
theorem Ex.calls_nodup (e : Ex) : e.calls.Nodup := by
  by_cases c : ∃ n, e = .call n
  · obtain ⟨n, rfl⟩ := c
    rw [Ex.calls]; simp
  · rw [Ex.calls_parts fun n z => c ⟨n, z⟩]
    exact Ex.callsL_nodup (by simp)
mutual
theorem Ex.calls_len : ∀ e : Ex, e.calls.length ≤ e.size
  | .call n => by rw [Ex.calls, Ex.size]; simp
  | .seq es => by rw [Ex.calls, Ex.size]; have := Ex.callsL_len es []; simp only [List.length_nil] at this; omega
  | .alt es => by rw [Ex.calls, Ex.size]; have := Ex.callsL_len es []; simp only [List.length_nil] at this; omega
  | .star e => by rw [Ex.calls, Ex.size]; have := addN_len e.calls []; have := Ex.calls_len e; simp only [List.length_nil] at *; omega
  | .opt e => by rw [Ex.calls, Ex.size]; have := addN_len e.calls []; have := Ex.calls_len e; simp only [List.length_nil] at *; omega
  | .nt e => by rw [Ex.calls, Ex.size]; have := addN_len e.calls []; have := Ex.calls_len e; simp only [List.length_nil] at *; omega
  | .an e => by rw [Ex.calls, Ex.size]; have := addN_len e.calls []; have := Ex.calls_len e; simp only [List.length_nil] at *; omega
  | .mark _ e => by rw [Ex.calls, Ex.size]; have := addN_len e.calls []; have := Ex.calls_len e; simp only [List.length_nil] at *; omega
  | .eps => by rw [Ex.calls]; exact Nat.zero_le _
  | .fail => by rw [Ex.calls]; exact Nat.zero_le _
  | .any => by rw [Ex.calls]; exact Nat.zero_le _
  | .set _ => by rw [Ex.calls]; exact Nat.zero_le _
  | .text _ => by rw [Ex.calls]; exact Nat.zero_le _
theorem Ex.callsL_len : ∀ (es : List Ex) (acc : List Str), (Ex.callsL acc es).length ≤ acc.length + Ex.sizes es
  | [], acc => by rw [Ex.callsL]; omega
  | e :: r, acc => by
    rw [Ex.callsL, Ex.sizes]
    have h1 := Ex.callsL_len r (addN acc e.calls)
    have h2 := addN_len e.calls acc
    have h3 := Ex.calls_len e
    omega
end
mutual
theorem Ex.calls_ok : ∀ e : Ex, tame e.py = true → ∀ n ∈ e.calls, PyData.strOk n = true
  | .call m, h, n, hn => by
    rw [Ex.calls, List.mem_singleton] at hn
    subst hn
    rw [Ex.py, tame, tames, tames, tames, Bool.and_true, Bool.and_eq_true] at h
    have h2 := h.2
    rw [tame, Bool.and_eq_true] at h2
    exact h2.1
  | .seq es, h, n, hn => by
    rw [Ex.calls] at hn
    rw [Ex.py, tame, tames, tames, tames, Bool.and_true, Bool.and_eq_true, tame] at h
    exact Ex.callsL_ok es [] h.2 (fun _ z => by cases z) n hn
  | .alt es, h, n, hn => by
    rw [Ex.calls] at hn
    rw [Ex.py, tame, tames, tames, tames, Bool.and_true, Bool.and_eq_true, tame] at h
    exact Ex.callsL_ok es [] h.2 (fun _ z => by cases z) n hn
  | .star e, h, n, hn => by
    rw [Ex.calls, addN_mem] at hn
    rw [Ex.py, tame, tames, tames, tames, Bool.and_true, Bool.and_eq_true] at h
    exact Ex.calls_ok e h.2 n (hn.resolve_left fun z => by cases z)
  | .opt e, h, n, hn => by
    rw [Ex.calls, addN_mem] at hn
    rw [Ex.py, tame, tames, tames, tames, Bool.and_true, Bool.and_eq_true] at h
    exact Ex.calls_ok e h.2 n (hn.resolve_left fun z => by cases z)
  | .nt e, h, n, hn => by
    rw [Ex.calls, addN_mem] at hn
    rw [Ex.py, tame, tames, tames, tames, Bool.and_true, Bool.and_eq_true] at h
    exact Ex.calls_ok e h.2 n (hn.resolve_left fun z => by cases z)
  | .an e, h, n, hn => by
    rw [Ex.calls, addN_mem] at hn
    rw [Ex.py, tame, tames, tames, tames, Bool.and_true, Bool.and_eq_true] at h
    exact Ex.calls_ok e h.2 n (hn.resolve_left fun z => by cases z)
  | .mark l e, h, n, hn => by
    rw [Ex.calls, addN_mem] at hn
    rw [Ex.py, tame, tames, tames, tames, tames, Bool.and_true, Bool.and_eq_true, Bool.and_eq_true] at h
    exact Ex.calls_ok e h.2.2 n (hn.resolve_left fun z => by cases z)
  | .eps, _, n, hn => by rw [Ex.calls] at hn; cases hn
  | .fail, _, n, hn => by rw [Ex.calls] at hn; cases hn
  | .any, _, n, hn => by rw [Ex.calls] at hn; cases hn
  | .set _, _, n, hn => by rw [Ex.calls] at hn; cases hn
  | .text _, _, n, hn => by rw [Ex.calls] at hn; cases hn
theorem Ex.callsL_ok : ∀ (es : List Ex) (acc : List Str), tames (Ex.pys es) = true → (∀ n ∈ acc, PyData.strOk n = true) → ∀ n ∈ Ex.callsL acc es, PyData.strOk n = true
  | [], acc, _, ha, n, hn => by rw [Ex.callsL] at hn; exact ha n hn
  | e :: r, acc, h, ha, n, hn => by
    rw [Ex.callsL] at hn
    rw [Ex.pys, tames, Bool.and_eq_true] at h
    exact Ex.callsL_ok r _ h.2 (fun m hm => (addN_mem.mp hm).elim (ha m) (Ex.calls_ok e h.1 m)) n hn
end
/-! ### parts on the heap -/
theorem Ex.parts_tame {e : Ex} (h : tame e.py = true) {i : Nat} {p : Ex} (hp : e.parts[i]? = some p) : tame p.py = true := by
  have one : ∀ {x : Ex}, [x][i]? = some p → x = p := fun {x} z => by
    cases i with
    | zero => simpa using z
    | succ i => simp at z
  have many : ∀ {es : List Ex}, tames (Ex.pys es) = true → es[i]? = some p → tame p.py = true := fun {es} h hp => by
    rw [tames_all, Ex.pys_eq_map, List.all_map, List.all_eq_true] at h
    exact h p (List.mem_of_getElem? hp)
  cases e with
  | seq es => rw [Ex.py, tame, tames, tames, tames, Bool.and_true, Bool.and_eq_true, tame] at h; exact many h.2 hp
  | alt es => rw [Ex.py, tame, tames, tames, tames, Bool.and_true, Bool.and_eq_true, tame] at h; exact many h.2 hp
  | star e => rw [Ex.py, tame, tames, tames, tames, Bool.and_true, Bool.and_eq_true] at h; exact one hp ▸ h.2
  | opt e => rw [Ex.py, tame, tames, tames, tames, Bool.and_true, Bool.and_eq_true] at h; exact one hp ▸ h.2
  | nt e => rw [Ex.py, tame, tames, tames, tames, Bool.and_true, Bool.and_eq_true] at h; exact one hp ▸ h.2
  | an e => rw [Ex.py, tame, tames, tames, tames, Bool.and_true, Bool.and_eq_true] at h; exact one hp ▸ h.2
  | mark l e => rw [Ex.py, tame, tames, tames, tames, tames, Bool.and_true, Bool.and_eq_true, Bool.and_eq_true] at h; exact one hp ▸ h.2.2
  | _ => simp [Ex.parts] at hp
/-- what parts_of and the law's own parts hand back: a new list of the parts -/
def spParts1 : Sp := fun vs H Q _ => ∃ (e : Ex) (v : V), vs = [v] ∧ DA H e.py v ∧ ∀ (p : Addr) (us : List V) (H' : Hp), Ext H H' → H p = none → H' p = some (.lst us) → DAs H' (Ex.pys e.parts) us → Q (.ref p) H'
def spCalls (n : Nat) : Sp := fun vs H Q _ => ∃ (e : Ex) (v : V), vs = [v] ∧ DA H e.py v ∧ e.dep ≤ n ∧ e.size ≤ 4000 ∧ ∀ (p : Addr) (H' : Hp), Ext H H' → H p = none → H' p = some (.lst (e.calls.map V.str)) → Q (.ref p) H'
def spCount (n : Nat) : Sp := fun vs H Q _ => ∃ (e : Ex) (v : V), vs = [v] ∧ DA H e.py v ∧ e.dep ≤ n ∧ e.size ≤ 4000 ∧ ∀ (H' : Hp), Ext H H' → Q (.int (e.size : Int)) H'
theorem preSum_sizes (es : List Ex) : ∀ i : Nat, preSum (fun j => (((es[j]?.map Ex.size).getD 0 : Nat) : Int)) i = ((Ex.sizes (es.take i) : Nat) : Int)
  | 0 => rfl
  | i + 1 => by
    show preSum _ i + _ = _
    rw [preSum_sizes es i]
    cases h : es[i]? with
    | none =>
      have hl : es.length ≤ i := List.getElem?_eq_none_iff.mp h
      rw [List.take_of_length_le hl, List.take_of_length_le (by omega)]
      simp [h]
    | some e =>
      rw [Ex.sizes_at h]
      simp [h]
theorem head_call {e : Ex} (h : ∀ m, e ≠ .call m) : decide (V.str e.head = V.str "call") = false := by
  cases e with
  | call m => exact absurd rfl (h m)
  | eps => exact (by decide +kernel : decide (V.str "eps" = V.str "call") = false)
  | fail => exact (by decide +kernel : decide (V.str "fail" = V.str "call") = false)
  | any => exact (by decide +kernel : decide (V.str "any" = V.str "call") = false)
  | set s => exact (by decide +kernel : decide (V.str "set" = V.str "call") = false)
  | text s => exact (by decide +kernel : decide (V.str "text" = V.str "call") = false)
  | seq s => exact (by decide +kernel : decide (V.str "seq" = V.str "call") = false)
  | alt s => exact (by decide +kernel : decide (V.str "alt" = V.str "call") = false)
  | star s => exact (by decide +kernel : decide (V.str "star" = V.str "call") = false)
  | opt s => exact (by decide +kernel : decide (V.str "opt" = V.str "call") = false)
  | nt s => exact (by decide +kernel : decide (V.str "not" = V.str "call") = false)
  | an s => exact (by decide +kernel : decide (V.str "and" = V.str "call") = false)
  | mark l s => exact (by decide +kernel : decide (V.str "mark" = V.str "call") = false)
theorem head_at {H : Hp} {e : Ex} {v : V} (hv : DA H e.py v) : ∃ a rest, v = .ref a ∧ H a = some (.tup (.str e.head :: rest)) := by
  cases e with
  | eps => obtain ⟨a, rfl, ha⟩ := hv.one; exact ⟨a, _, rfl, ha⟩
  | fail => obtain ⟨a, rfl, ha⟩ := hv.one; exact ⟨a, _, rfl, ha⟩
  | any => obtain ⟨a, rfl, ha⟩ := hv.one; exact ⟨a, _, rfl, ha⟩
  | mark l e => obtain ⟨a, u, u2, rfl, ha, _⟩ := hv.three; exact ⟨a, _, rfl, ha⟩
  | _ => obtain ⟨a, u, rfl, ha, _⟩ := hv.two; exact ⟨a, _, rfl, ha⟩
def pB : Nat → Nat
  | 0 => 10
  | n + 1 => 3 * pB n + 10
theorem pB10 : ∀ n, 10 ≤ pB n
  | 0 => Nat.le_refl _
  | n + 1 => by rw [pB]; omega
/-- a good expression of the law: how deep, how large -/
structure Ex.Good (e : Ex) (d b : Nat) : Prop where
  dep : e.dep ≤ d
  fine : e.fine = true
  tame : LB.tame e.py = true
  psz : LB.psz e.py ≤ b
def abcd : Str := "abcd"
theorem abcd_at {i : Int} (h0 : 0 ≤ i) (h4 : i < 4) : ∃ c, atI (Str.ofString "abcd").cps.toList i = some c ∧ nameB (.str ⟨#[c]⟩) = true ∧ tame (.str ⟨#[c]⟩) = true := by
  have hj : i = 0 ∨ i = 1 ∨ i = 2 ∨ i = 3 := by omega
  rcases hj with rfl | rfl | rfl | rfl
  · exact ⟨97, rfl, by decide +kernel, by decide +kernel⟩
  · exact ⟨98, rfl, by decide +kernel, by decide +kernel⟩
  · exact ⟨99, rfl, by decide +kernel, by decide +kernel⟩
  · exact ⟨100, rfl, by decide +kernel, by decide +kernel⟩
theorem tame2 {s : Str} {d : PyData} (hs : tame (.str s) = true) (hd : tame d = true) : tame (.tuple [.str s, d]) = true := by rw [tame, tames, tames, tames, hs, hd]; rfl
theorem tame3 {s : Str} {d d' : PyData} (hs : tame (.str s) = true) (hd : tame d = true) (hd' : tame d' = true) : tame (.tuple [.str s, d, d']) = true := by rw [tame, tames, tames, tames, tames, hs, hd, hd']; rfl
theorem tame_tup2 {d d' : PyData} (hd : tame d = true) (hd' : tame d' = true) : tame (.tuple [d, d']) = true := by rw [tame, tames, tames, tames, hd, hd']; rfl
theorem tame_tup3 {d d' d2 : PyData} (hd : tame d = true) (hd' : tame d' = true) (h2 : tame d2 = true) : tame (.tuple [d, d', d2]) = true := by rw [tame, tames, tames, tames, tames, hd, hd', h2]; rfl
theorem Good.call {c : Nat} (h1 : nameB (.str ⟨#[c]⟩) = true) (h2 : tame (.str ⟨#[c]⟩) = true) : (Ex.call ⟨#[c]⟩).Good 1 3 := ⟨by rw [Ex.dep]; omega, by rw [Ex.fine]; exact h1, by rw [Ex.py]; exact tame2 (by decide +kernel) h2, by rw [Ex.py, psz, pszs, pszs, pszs, psz, psz]; omega⟩
theorem Good.seq2 {a b : Ex} {d n m : Nat} (ha : a.Good d n) (hb : b.Good d m) : (Ex.seq [a, b]).Good (d + 1) (n + m + 3) := ⟨by rw [Ex.dep, Ex.deps, Ex.deps, Ex.deps]; have := ha.dep; have := hb.dep; omega, by rw [Ex.fine, Ex.fines, Ex.fines, Ex.fines, ha.fine, hb.fine]; rfl, by rw [Ex.py]; exact tame2 (by decide +kernel) (tame_tup2 ha.tame hb.tame), by rw [Ex.py, Ex.pys, Ex.pys, Ex.pys, LB.psz, pszs, pszs, pszs, LB.psz, LB.psz, pszs, pszs, pszs]; have := ha.psz; have := hb.psz; omega⟩
theorem Good.alt2 {a b : Ex} {d n m : Nat} (ha : a.Good d n) (hb : b.Good d m) : (Ex.alt [a, b]).Good (d + 1) (n + m + 3) := ⟨by rw [Ex.dep, Ex.deps, Ex.deps, Ex.deps]; have := ha.dep; have := hb.dep; omega, by rw [Ex.fine, Ex.fines, Ex.fines, Ex.fines, ha.fine, hb.fine]; rfl, by rw [Ex.py]; exact tame2 (by decide +kernel) (tame_tup2 ha.tame hb.tame), by rw [Ex.py, Ex.pys, Ex.pys, Ex.pys, LB.psz, pszs, pszs, pszs, LB.psz, LB.psz, pszs, pszs, pszs]; have := ha.psz; have := hb.psz; omega⟩
theorem Good.seq3 {a b c : Ex} {d n m k : Nat} (ha : a.Good d n) (hb : b.Good d m) (hc : c.Good d k) : (Ex.seq [a, b, c]).Good (d + 1) (n + m + k + 3) := ⟨by rw [Ex.dep, Ex.deps, Ex.deps, Ex.deps, Ex.deps]; have := ha.dep; have := hb.dep; have := hc.dep; omega, by rw [Ex.fine, Ex.fines, Ex.fines, Ex.fines, Ex.fines, ha.fine, hb.fine, hc.fine]; rfl, by rw [Ex.py]; exact tame2 (by decide +kernel) (tame_tup3 ha.tame hb.tame hc.tame), by rw [Ex.py, Ex.pys, Ex.pys, Ex.pys, Ex.pys, LB.psz, pszs, pszs, pszs, LB.psz, LB.psz, pszs, pszs, pszs, pszs]; have := ha.psz; have := hb.psz; have := hc.psz; omega⟩
theorem Good.alt3 {a b c : Ex} {d n m k : Nat} (ha : a.Good d n) (hb : b.Good d m) (hc : c.Good d k) : (Ex.alt [a, b, c]).Good (d + 1) (n + m + k + 3) := ⟨by rw [Ex.dep, Ex.deps, Ex.deps, Ex.deps, Ex.deps]; have := ha.dep; have := hb.dep; have := hc.dep; omega, by rw [Ex.fine, Ex.fines, Ex.fines, Ex.fines, Ex.fines, ha.fine, hb.fine, hc.fine]; rfl, by rw [Ex.py]; exact tame2 (by decide +kernel) (tame_tup3 ha.tame hb.tame hc.tame), by rw [Ex.py, Ex.pys, Ex.pys, Ex.pys, Ex.pys, LB.psz, pszs, pszs, pszs, LB.psz, LB.psz, pszs, pszs, pszs, pszs]; have := ha.psz; have := hb.psz; have := hc.psz; omega⟩
theorem Good.star {a : Ex} {d n : Nat} (ha : a.Good d n) : (Ex.star a).Good (d + 1) (n + 2) := ⟨by rw [Ex.dep]; have := ha.dep; omega, by rw [Ex.fine]; exact ha.fine, by rw [Ex.py]; exact tame2 (by decide +kernel) ha.tame, by rw [Ex.py, LB.psz, pszs, pszs, pszs, LB.psz]; have := ha.psz; omega⟩
theorem Good.opt {a : Ex} {d n : Nat} (ha : a.Good d n) : (Ex.opt a).Good (d + 1) (n + 2) := ⟨by rw [Ex.dep]; have := ha.dep; omega, by rw [Ex.fine]; exact ha.fine, by rw [Ex.py]; exact tame2 (by decide +kernel) ha.tame, by rw [Ex.py, LB.psz, pszs, pszs, pszs, LB.psz]; have := ha.psz; omega⟩
theorem Good.nt {a : Ex} {d n : Nat} (ha : a.Good d n) : (Ex.nt a).Good (d + 1) (n + 2) := ⟨by rw [Ex.dep]; have := ha.dep; omega, by rw [Ex.fine]; exact ha.fine, by rw [Ex.py]; exact tame2 (by decide +kernel) ha.tame, by rw [Ex.py, LB.psz, pszs, pszs, pszs, LB.psz]; have := ha.psz; omega⟩
theorem Good.an {a : Ex} {d n : Nat} (ha : a.Good d n) : (Ex.an a).Good (d + 1) (n + 2) := ⟨by rw [Ex.dep]; have := ha.dep; omega, by rw [Ex.fine]; exact ha.fine, by rw [Ex.py]; exact tame2 (by decide +kernel) ha.tame, by rw [Ex.py, LB.psz, pszs, pszs, pszs, LB.psz]; have := ha.psz; omega⟩
theorem Good.mark {a : Ex} {l : Str} {d n : Nat} (hl : nameB (.str l) = true) (hl2 : LB.tame (.str l) = true) (ha : a.Good d n) : (Ex.mark l a).Good (d + 1) (n + 3) := ⟨by rw [Ex.dep]; have := ha.dep; omega, by rw [Ex.fine, hl, ha.fine]; rfl, by rw [Ex.py]; exact tame3 (by decide +kernel) hl2 ha.tame, by rw [Ex.py, LB.psz, pszs, pszs, pszs, pszs, LB.psz, LB.psz]; have := ha.psz; omega⟩
theorem Ex.Good.mono {a : Ex} {d n d' n' : Nat} (ha : a.Good d n) (h1 : d ≤ d') (h2 : n ≤ n') : a.Good d' n' := ⟨Nat.le_trans ha.dep h1, ha.fine, ha.tame, Nat.le_trans ha.psz h2⟩
/-! ### tuples put together and cut -/
theorem catA_of {K : PySem.W.Frag} {H : Hp} {a b : Addr} {xs ys : List V} {Q : VK} (ha : H a = some (.tup xs)) (hb : H b = some (.tup ys)) (hl : xs.length + ys.length ≤ sizeLine) (h : ∀ (p : Addr) (H' : Hp), Ext H H' → H' p = some (.tup (xs ++ ys)) → Q (.ref p) H') : rCatA K (.ref a) (.ref b) H Q := by
  refine ⟨a, b, xs, ys, rfl, rfl, SqT.of ha, SqT.of hb, hl, fun e => h b H (Ext.refl H) (by rw [e, List.nil_append]; exact hb), fun _ e => h a H (Ext.refl H) (by rw [e, List.append_nil]; exact ha), fun _ _ p hp => h p _ (Ext.new hp _) upd_same⟩
theorem slA_of {K : PySem.W.Frag} {H : Hp} {a : Addr} {xs : List V} {lo hi : Option Int} {Q : VK} (ha : H a = some (.tup xs)) (h : ∀ (p : Addr) (H' : Hp), Ext H H' → H' p = some (.tup (cutV xs lo hi)) → Q (.ref p) H') : rSlA K (.ref a) lo hi H Q := by
  refine ⟨a, xs, rfl, SqT.of ha, fun ⟨e1, e2⟩ => h a H (Ext.refl H) ?_, fun _ p hp => h p _ (Ext.new hp _) upd_same⟩
  unfold cutV
  rw [e1, e2, List.drop_zero, Nat.sub_zero, List.take_length]
  exact ha
theorem cut_take (xs : List V) (k : Nat) : cutV xs none (some (k : Int)) = xs.take k := by
  unfold cutV HT.sIx
  simp only [List.drop_zero, Nat.sub_zero]
  rw [if_neg (by omega), Int.toNat_natCast, List.take_eq_take_iff]
  omega
theorem cut_drop (xs : List V) (k : Nat) : cutV xs (some (k : Int)) none = xs.drop k := by
  unfold cutV HT.sIx
  simp only
  rw [if_neg (by omega), Int.toNat_natCast]
  by_cases c : k ≤ xs.length
  · rw [Nat.min_eq_left c]
    exact List.take_of_length_le (by rw [List.length_drop]; exact Nat.le_refl _)
  · rw [Nat.min_eq_right (by omega), Nat.sub_self, List.take_zero, List.drop_eq_nil_of_le (by omega)]
theorem cut_last (xs : List V) : cutV xs none (some (-1)) = xs.dropLast := by
  unfold cutV HT.sIx
  simp only [List.drop_zero, Nat.sub_zero]
  rw [if_pos (by omega), List.dropLast_eq_take]
  congr 1
  omega
theorem Ex.puts_at {o : PyData} : ∀ {es : List Ex} {i : Nat} {e : Ex} {k : Nat}, es[i]? = some e → Ex.sizes (es.take i) ≤ k → k < Ex.sizes (es.take i) + e.size → Ex.puts o es k = (Ex.pys es).take i ++ [Ex.put o e (k - Ex.sizes (es.take i))] ++ (Ex.pys es).drop (i + 1)
  | [], _, _, _, h, _, _ => by simp at h
  | a :: r, 0, e, k, h, h1, h2 => by
    cases (by simpa using h : a = e)
    have h0 : Ex.sizes ([] : List Ex) = 0 := rfl
    rw [List.take_zero, h0] at h2
    rw [Ex.puts, if_pos (by omega), Ex.pys]
    rfl
  | a :: r, i + 1, e, k, h, h1, h2 => by
    rw [List.take_succ_cons, Ex.sizes] at h1 h2 ⊢
    rw [Ex.puts, if_neg (by omega), Ex.puts_at (es := r) (i := i) (e := e) (by simpa using h) (by omega) (by omega), Ex.pys, show k - a.size - Ex.sizes (r.take i) = k - (a.size + Ex.sizes (r.take i)) by omega]
    rfl
theorem DLs.take {r : Addr} {H : Hp} : ∀ {ds : List PyData} {vs : List V} (i : Nat), DLs r H ds vs → DLs r H (ds.take i) (vs.take i)
  | [], _, i, h => by rw [h.nilI, List.take_nil, List.take_nil]; exact .nil
  | d :: ds, _, 0, h => by rw [List.take_zero, List.take_zero]; exact .nil
  | d :: ds, _, i + 1, h => by
    obtain ⟨v, vr, rfl, h2, h3⟩ := h.consI
    rw [List.take_succ_cons, List.take_succ_cons]
    exact .cons h2 (DLs.take i h3)
theorem DLs.drop {r : Addr} {H : Hp} : ∀ {ds : List PyData} {vs : List V} (i : Nat), DLs r H ds vs → DLs r H (ds.drop i) (vs.drop i)
  | [], _, i, h => by rw [h.nilI, List.drop_nil, List.drop_nil]; exact .nil
  | d :: ds, _, 0, h => h
  | d :: ds, _, i + 1, h => by
    obtain ⟨v, vr, rfl, h2, h3⟩ := h.consI
    exact DLs.drop (ds := ds) i h3
/-- the law puts a thing into an expression -/
def spPut (n : Nat) : Sp := fun vs H Q _ => ∃ (r : Addr) (e : Ex) (v : V) (k : Nat) (o : PyData) (ov : V), vs = [v, .int k, ov] ∧ DA H e.py v ∧ e.dep ≤ n ∧ e.size ≤ 4000 ∧ k < e.size ∧ DL r H o ov ∧ ∀ (v' : V) (H' : Hp), Ext H H' → DL r H' (Ex.put o e k) v' → Q v' H'
/-- how an expression with parts stands -/
theorem Ex.put_list {e : Ex} {es : List Ex} (h : e = .seq es ∨ e = .alt es) (o : PyData) (k : Nat) : Ex.put o e (k + 1) = .tuple [.str e.head, .tuple (Ex.puts o es k)] := by
  rcases h with rfl | rfl <;> rw [Ex.put] <;> rfl
/-! ### an error raised -/
theorem err_heap {H : Hp} {a d : Addr} {o1 o2 o3 o4 : HO} (ha : H a = none) (hd : H d = none) : Ext H (upd (del (upd (upd (upd H a o1) d o2) a o3) a) d o4) := fun b u q => by
  have na : b ≠ a := fun z => by rw [z, ha] at q; cases q
  have nd : b ≠ d := fun z => by rw [z, hd] at q; cases q
  refine .inl ?_
  rw [upd_ne nd]
  unfold del
  rw [if_neg na, upd_ne na, upd_ne nd, upd_ne na]
  exact q
/-- the reading of raise X(text), by the promise of its __init__ -/
theorem mk_err {K : PySem.W.Frag} {H : Hp} {C : Addr} {f n : Str} {Q : XK} (T : OexC K C) (hf : PySem.W.findIn K (.ref C) f = some none) (hn : n.length ≤ 1000) (h : ∀ (d : Addr) (H' : Hp), Ext H H' → H d = none → H' d = some (.xd [(f, .str n)]) → Q (.ref C) (some d) H') :
    [V.str n].length ≤ 1000 ∧ ∀ a : Addr, H a = none → XC.spErr K f (.ref a :: ([V.str n] ++ [])) (upd H a (exo a C none)) (fun v H2 => v = .non ∧ ∃ (d : Addr) (fs : List (Str × V)), H2 a = some (exo a C (some d)) ∧ H2 d = some (exd d fs) ∧ H d = none ∧ Q (.ref C) (some d) (upd (del H2 a) d (.xd fs))) fun _ _ _ => False := by
  refine ⟨by simp, fun a ha => ⟨a, C, n, rfl, T, hf, upd_same, hn, fun dx hdx hne => ⟨rfl, dx, _, upd_same, by rw [upd_ne hne]; exact upd_same, ?_, ?_⟩⟩⟩
  · rwa [upd_ne hne] at hdx
  · have hd : H dx = none := by rwa [upd_ne hne] at hdx
    exact h dx _ (err_heap ha hd) hd upd_same
end LB
set_option Elab.async false
set_option linter.all false
set_option maxRecDepth 100000
set_option maxHeartbeats 4000000
namespace LB
open PySem PySem.Spec PyProof.Rows L2 GenW GE
mutual
theorem Ex.py_depth : ∀ e : Ex, e.py.depth ≤ 2 * e.dep
  | .eps => by rw [Ex.py, Ex.dep]; decide +kernel
  | .fail => by rw [Ex.py, Ex.dep]; decide +kernel
  | .any => by rw [Ex.py, Ex.dep]; decide +kernel
  | .set s => by rw [Ex.py, Ex.dep, PyData.depth, PyData.depthAll, PyData.depthAll, PyData.depthAll, PyData.depth, PyData.depth]; decide
  | .text s => by rw [Ex.py, Ex.dep, PyData.depth, PyData.depthAll, PyData.depthAll, PyData.depthAll, PyData.depth, PyData.depth]; decide
  | .call s => by rw [Ex.py, Ex.dep, PyData.depth, PyData.depthAll, PyData.depthAll, PyData.depthAll, PyData.depth, PyData.depth]; decide
  | .seq es => by rw [Ex.py, Ex.dep, PyData.depth, PyData.depthAll, PyData.depthAll, PyData.depthAll, PyData.depth, PyData.depth]; have := Ex.pys_depth es; omega
  | .alt es => by rw [Ex.py, Ex.dep, PyData.depth, PyData.depthAll, PyData.depthAll, PyData.depthAll, PyData.depth, PyData.depth]; have := Ex.pys_depth es; omega
  | .star e => by rw [Ex.py, Ex.dep, PyData.depth, PyData.depthAll, PyData.depthAll, PyData.depthAll, PyData.depth]; have := Ex.py_depth e; omega
  | .opt e => by rw [Ex.py, Ex.dep, PyData.depth, PyData.depthAll, PyData.depthAll, PyData.depthAll, PyData.depth]; have := Ex.py_depth e; omega
  | .nt e => by rw [Ex.py, Ex.dep, PyData.depth, PyData.depthAll, PyData.depthAll, PyData.depthAll, PyData.depth]; have := Ex.py_depth e; omega
  | .an e => by rw [Ex.py, Ex.dep, PyData.depth, PyData.depthAll, PyData.depthAll, PyData.depthAll, PyData.depth]; have := Ex.py_depth e; omega
  | .mark l e => by rw [Ex.py, Ex.dep, PyData.depth, PyData.depthAll, PyData.depthAll, PyData.depthAll, PyData.depthAll, PyData.depth, PyData.depth]; have := Ex.py_depth e; omega
theorem Ex.pys_depth : ∀ es : List Ex, PyData.depthAll (Ex.pys es) ≤ 2 * Ex.deps es
  | [] => by rw [Ex.pys, PyData.depthAll]; omega
  | e :: r => by rw [Ex.pys, PyData.depthAll, Ex.deps]; have := Ex.py_depth e; have := Ex.pys_depth r; omega
end
/-- plain, not large, not deep -/
structure Okd (d : PyData) (b k : Nat) : Prop where
  t : tame d = true
  z : psz d ≤ b
  d : d.depth ≤ k
theorem Okd.mono {d : PyData} {b k b' k' : Nat} (h : Okd d b k) (h1 : b ≤ b') (h2 : k ≤ k') : Okd d b' k' := ⟨h.t, Nat.le_trans h.z h1, Nat.le_trans h.d h2⟩
theorem Ex.Good.okd {e : Ex} {d b : Nat} (h : e.Good d b) : Okd e.py b (2 * d) := ⟨h.tame, h.psz, by have := e.py_depth; have := h.dep; omega⟩
theorem Okd.two {s : Str} {d : PyData} {b k : Nat} (hs : tame (.str s) = true) (h : Okd d b k) : Okd (.tuple [.str s, d]) (b + 2) (k + 1) := ⟨tame2 hs h.t, by rw [psz, pszs, pszs, pszs, psz]; have := h.z; omega, by rw [PyData.depth, PyData.depthAll, PyData.depthAll, PyData.depthAll, PyData.depth]; have := h.d; omega⟩
mutual
theorem Ex.put_okd {o : PyData} {bo ko : Nat} (ho : Okd o bo ko) : ∀ (e : Ex) (k : Nat), tame e.py = true → Okd (Ex.put o e k) (psz e.py + bo) (2 * e.dep + ko)
  | e, 0, _ => by rw [Ex.put]; exact ho.mono (by omega) (by omega)
  | .seq es, k + 1, h => by
    rw [Ex.py, tame, tames, tames, tames, Bool.and_true, Bool.and_eq_true, tame] at h
    obtain ⟨h1, h2, h3⟩ := Ex.puts_okd ho es k h.2
    rw [Ex.put, Ex.py, Ex.dep]
    refine ⟨tame2 h.1 (by rw [tame]; exact h1), ?_, ?_⟩
    · rw [psz, pszs, pszs, pszs, psz, psz, psz, pszs, pszs, pszs, psz, psz]; omega
    · rw [PyData.depth, PyData.depthAll, PyData.depthAll, PyData.depthAll, PyData.depth, PyData.depth]; omega
  | .alt es, k + 1, h => by
    rw [Ex.py, tame, tames, tames, tames, Bool.and_true, Bool.and_eq_true, tame] at h
    obtain ⟨h1, h2, h3⟩ := Ex.puts_okd ho es k h.2
    rw [Ex.put, Ex.py, Ex.dep]
    refine ⟨tame2 h.1 (by rw [tame]; exact h1), ?_, ?_⟩
    · rw [psz, pszs, pszs, pszs, psz, psz, psz, pszs, pszs, pszs, psz, psz]; omega
    · rw [PyData.depth, PyData.depthAll, PyData.depthAll, PyData.depthAll, PyData.depth, PyData.depth]; omega
  | .star e, k + 1, h => by
    rw [Ex.py, tame, tames, tames, tames, Bool.and_true, Bool.and_eq_true] at h
    have q := Ex.put_okd ho e k h.2
    rw [Ex.put, Ex.py, Ex.dep]
    exact (Okd.two h.1 q).mono (by rw [psz, pszs, pszs, pszs, psz]; omega) (by omega)
  | .opt e, k + 1, h => by
    rw [Ex.py, tame, tames, tames, tames, Bool.and_true, Bool.and_eq_true] at h
    have q := Ex.put_okd ho e k h.2
    rw [Ex.put, Ex.py, Ex.dep]
    exact (Okd.two h.1 q).mono (by rw [psz, pszs, pszs, pszs, psz]; omega) (by omega)
  | .nt e, k + 1, h => by
    rw [Ex.py, tame, tames, tames, tames, Bool.and_true, Bool.and_eq_true] at h
    have q := Ex.put_okd ho e k h.2
    rw [Ex.put, Ex.py, Ex.dep]
    exact (Okd.two h.1 q).mono (by rw [psz, pszs, pszs, pszs, psz]; omega) (by omega)
  | .an e, k + 1, h => by
    rw [Ex.py, tame, tames, tames, tames, Bool.and_true, Bool.and_eq_true] at h
    have q := Ex.put_okd ho e k h.2
    rw [Ex.put, Ex.py, Ex.dep]
    exact (Okd.two h.1 q).mono (by rw [psz, pszs, pszs, pszs, psz]; omega) (by omega)
  | .mark l e, k + 1, h => by
    rw [Ex.py, tame, tames, tames, tames, tames, Bool.and_true, Bool.and_eq_true, Bool.and_eq_true] at h
    obtain ⟨h1, h2, h3⟩ := Ex.put_okd ho e k h.2.2
    rw [Ex.put, Ex.py, Ex.dep]
    refine ⟨tame3 h.1 h.2.1 h1, ?_, ?_⟩
    · rw [psz, pszs, pszs, pszs, pszs, psz, psz, psz, pszs, pszs, pszs, pszs, psz, psz]; omega
    · rw [PyData.depth, PyData.depthAll, PyData.depthAll, PyData.depthAll, PyData.depthAll, PyData.depth, PyData.depth]; omega
  | .eps, k + 1, _ => (ho.mono (by omega) (by omega) : Okd o _ _)
  | .fail, k + 1, _ => (ho.mono (by omega) (by omega) : Okd o _ _)
  | .any, k + 1, _ => (ho.mono (by omega) (by omega) : Okd o _ _)
  | .set _, k + 1, _ => (ho.mono (by omega) (by omega) : Okd o _ _)
  | .text _, k + 1, _ => (ho.mono (by omega) (by omega) : Okd o _ _)
  | .call _, k + 1, _ => (ho.mono (by omega) (by omega) : Okd o _ _)
theorem Ex.puts_okd {o : PyData} {bo ko : Nat} (ho : Okd o bo ko) : ∀ (es : List Ex) (k : Nat), tames (Ex.pys es) = true → tames (Ex.puts o es k) = true ∧ pszs (Ex.puts o es k) ≤ pszs (Ex.pys es) + bo ∧ PyData.depthAll (Ex.puts o es k) ≤ 2 * Ex.deps es + ko
  | [], k, _ => by rw [Ex.puts, Ex.pys, pszs, PyData.depthAll]; exact ⟨rfl, by omega, by omega⟩
  | e :: r, k, h => by
    rw [Ex.pys, tames, Bool.and_eq_true] at h
    rw [Ex.puts]
    have hpr := Ex.pys_depth r
    have hpe := e.py_depth
    split
    · obtain ⟨h1, h2, h3⟩ := Ex.put_okd ho e k h.1
      refine ⟨by rw [tames, h1, h.2]; rfl, ?_, ?_⟩
      · rw [pszs, Ex.pys, pszs]; omega
      · rw [PyData.depthAll, Ex.deps]; omega
    · obtain ⟨h1, h2, h3⟩ := Ex.puts_okd ho r (k - e.size) h.2
      refine ⟨by rw [tames, h1, h.1]; rfl, ?_, ?_⟩
      · rw [pszs, Ex.pys, pszs]; omega
      · rw [PyData.depthAll, Ex.deps]; omega
end
theorem faults_okd : ∀ d ∈ faultsD, Okd d 60 4 := by
  have h : faultsD.all (fun d => tame d && decide (psz d ≤ 60) && decide (d.depth ≤ 4)) = true := by decide +kernel
  intro d hd
  have q := List.all_eq_true.mp h d hd
  rw [Bool.and_eq_true, Bool.and_eq_true] at q
  exact ⟨q.1.1, of_decide_eq_true q.1.2, of_decide_eq_true q.2⟩
/-- a list of plain data as a tuple -/
theorem okd_tup {l : List PyData} {b k : Nat} (h : ∀ d ∈ l, Okd d b k) : Okd (.tuple l) (l.length * b + 1) (k + 1) := by
  have key : tames l = true ∧ pszs l ≤ l.length * b ∧ PyData.depthAll l ≤ k := by
    induction l with
    | nil => exact ⟨rfl, by rw [pszs]; omega, by rw [PyData.depthAll]; omega⟩
    | cons d l ih =>
      obtain ⟨h1, h2, h3⟩ := ih fun x hx => h x (by simp [hx])
      have hd := h d (by simp)
      refine ⟨by rw [tames, hd.t, h1]; rfl, ?_, ?_⟩
      · rw [pszs, List.length_cons, Nat.add_mul]; have := hd.z; omega
      · rw [PyData.depthAll]; have := hd.d; omega
  exact ⟨by rw [tame]; exact key.1, by rw [psz]; omega, by rw [PyData.depth]; omega⟩
theorem okd_lst {l : List PyData} {b k : Nat} (h : Okd (.tuple l) b k) : Okd (.list l) b k := by
  obtain ⟨h1, h2, h3⟩ := h
  rw [tame] at h1
  rw [psz] at h2
  rw [PyData.depth] at h3
  exact ⟨by rw [tame]; exact h1, by rw [psz]; exact h2, by rw [PyData.depth]; exact h3⟩
/-! ### grammars with a fault -/
theorem gram_bad {l1 l2 : List PyData} {d : PyData} (h : ruleB d = false) : gramB (.tuple (l1 ++ [d] ++ l2)) = false := by
  show (decide _ && decide _ && (l1 ++ [d] ++ l2).all ruleB && decide _) = false
  rw [List.all_append, List.all_append, List.all_cons, h, Bool.false_and, Bool.and_false, Bool.false_and, Bool.and_false, Bool.false_and]
theorem gram_dup {d : PyData} {l : List PyData} : gramB (.tuple ((d :: l) ++ [d])) = false := by
  show (decide _ && decide _ && _ && decide (dsz (((d :: l) ++ [d]).map ruleName).reverse = _)) = false
  have : dsz (((d :: l) ++ [d]).map ruleName).reverse < ((d :: l) ++ [d]).length := by
    rw [List.map_append, List.reverse_append, List.map_cons, List.map_nil, List.reverse_cons, List.reverse_nil, List.nil_append, List.singleton_append]
    have h := dsz_dup (x := ruleName d) (l := ((d :: l).map ruleName).reverse) (List.mem_reverse.mpr (by simp))
    rw [List.length_cons, List.length_reverse, List.length_map] at h
    rw [List.length_append, List.length_singleton]
    exact h
  rw [decide_eq_false (p := dsz (((d :: l) ++ [d]).map ruleName).reverse = ((d :: l) ++ [d]).length) (Nat.ne_of_lt this), Bool.and_false]
theorem rule_bad1 {s : Str} {d : PyData} (h : nameB (.str s) = false) : ruleB (.tuple [.str s, d]) = false := by
  show (nameB (.str s) && exprB 12 d) = false
  rw [h, Bool.false_and]
theorem rule_bad2 {a d : PyData} (h : exprB 12 d = false) : ruleB (.tuple [a, d]) = false := by
  show (nameB a && exprB 12 d) = false
  rw [h, Bool.and_false]
end LB
set_option Elab.async false
set_option linter.all false
set_option maxRecDepth 100000
set_option maxHeartbeats 4000000
namespace XC
open PySem PySem.Spec PyProof.Rows L2
/-! ### the facts of own error classes, as Bools over the written part -/
def slotsB : List (Option Value) → Bool
  | [_, _, _, _, some (.builtin id), _] => decide (id = "ValueError.__new__")
  | _ => false
def oexB (K : PySem.W.Frag) (C : Addr) : Bool := match K.lookup C with
  | some ⟨.type c, _, .cls cd, sl⟩ => decide (c = "type") && cd.hasDict && !cd.hasDel && slotsB sl.toList && (match cd.mro with | .ref D :: bm => decide (D = C) && HandSPX.refsVE bm | _ => false)
  | _ => false
theorem slotsB_ok {l : List (Option Value)} (h : slotsB l = true) : ∃ k0 k1 k2 k3 k5, l = [k0, k1, k2, k3, some (.builtin "ValueError.__new__"), k5] := by
  unfold slotsB at h
  split at h
  · cases of_decide_eq_true h
    exact ⟨_, _, _, _, _, rfl⟩
  · cases h
theorem oexB_ok {K : PySem.W.Frag} {C : Addr} (h : oexB K C = true) : ∃ nm q N bs bm sn sub ab col dd k0 k1 k2 k3 k5, K.lookup C = some (excClassObj nm q C N bs bm true sn sub ab col dd k0 k1 k2 k3 k5 "ValueError.__new__") ∧ HandSPX.refsVE bm = true := by
  unfold oexB at h
  split at h
  case h_1 c dd cd sl e =>
    simp only [Bool.and_eq_true, Bool.not_eq_true'] at h
    obtain ⟨⟨⟨⟨h1, h2⟩, h3⟩, h4⟩, h5⟩ := h
    split at h5
    case h_1 D bm em =>
      rw [Bool.and_eq_true] at h5
      cases of_decide_eq_true h1
      cases of_decide_eq_true h5.1
      obtain ⟨k0, k1, k2, k3, k5, es⟩ := slotsB_ok h4
      refine ⟨cd.name, cd.qualname, cd.ns, cd.bases, bm, cd.slotNames, cd.subclasses, cd.abstract, cd.collection, dd, k0, k1, k2, k3, k5, ?_, h5.2⟩
      rw [e]
      obtain ⟨a1, a2, a3, a4, a5, a6, a7, a8, a9, a10, a11⟩ := cd
      simp only at h2 h3 em
      subst h2 h3 em
      have : sl = #[k0, k1, k2, k3, some (.builtin "ValueError.__new__"), k5] := by
        have q := congrArg List.toArray es
        rw [Array.toArray_toList] at q
        exact q
      rw [this]
    case h_2 => cases h5
  case h_2 => cases h
def errB (K : PySem.W.Frag) (x f : Str) : Bool :=
  oexB K (He.ga K x) && (He.eqO (PySem.W.findIn K (.ref (He.ga K x)) "__setattr__") (some (some (.builtin "object.__setattr__"))) && (decide (PySem.W.subIn K (.ref (He.ga K x)) (.type "BaseException") = some true) && (decide (PySem.W.typeIn K (.ref (He.ga K x)) = some (.type "type")) && (PySem.W.keepIn K (.ref (He.ga K x)) &&
  (He.eqO (PySem.W.findIn K (.ref (He.ga K x)) "__init__") (some (some (.ref (He.fAd K (x, some "__init__"))))) && (decide (PySem.W.typeIn K (.ref (He.fAd K (x, some "__init__"))) = some (.type "function")) && (He.eqO (PySem.W.findIn K (.ref (He.ga K x)) f) (some none) &&
  (He.eqO (PySem.W.findIn K (.ref (He.ga K x)) "__getattribute__") (some (some (.builtin "BaseException.__getattribute__"))) && (He.eqO (PySem.W.findIn K (.ref (He.ga K x)) "__getattr__") (some none) && (PySem.W.hasDictIn K (He.ga K x) && decide (PySem.W.exmOne K (.ref (He.ga K x)) (.ref (He.ga K x)) = some true)))))))))))
theorem errB_ok {K : PySem.W.Frag} {mg : Str → Option Value} {x f : Str} (h : errB K x f = true) (m : mg x = some (.ref (He.ga K x))) : ErrC K mg x f (He.ga K x) (He.fAd K (x, some "__init__")) := by
  unfold errB at h
  obtain ⟨h1, h⟩ := He.ba h
  obtain ⟨h2, h⟩ := He.ba h
  obtain ⟨h3, h⟩ := He.ba h
  obtain ⟨h4, h⟩ := He.ba h
  obtain ⟨h5, h⟩ := He.ba h
  obtain ⟨h6, h⟩ := He.ba h
  obtain ⟨h7, h⟩ := He.ba h
  obtain ⟨h8, h⟩ := He.ba h
  obtain ⟨h9, h⟩ := He.ba h
  obtain ⟨ha, h⟩ := He.ba h
  obtain ⟨hb, h⟩ := He.ba h
  exact ⟨m, ⟨oexB_ok h1, He.eqO_ok h2, of_decide_eq_true h3, of_decide_eq_true h4, h5⟩, He.eqO_ok h6, of_decide_eq_true h7, He.eqO_ok h8, ⟨He.eqO_ok h9, He.eqO_ok ha, of_decide_eq_true h3, hb⟩, of_decide_eq_true h⟩
def baseB (K : PySem.W.Frag) (x : Str) : Bool :=
  (match PySem.W.nsIn K cStatics "thirdparty.any" with | some none => true | _ => false) && (He.eqO (PySem.W.findIn K (.type "type") "__getattribute__") (some (some (.builtin "type.__getattribute__"))) && (decide (PySem.W.subIn K (.type "type") (.type "type") = some true) &&
  (decide (PySem.W.specialIn K (.ref (He.ga K x)) "__getattribute__" = some (some (.builtin "type.__getattribute__"))) && (decide (PySem.W.typeIn K (.ref (He.ga K x)) = some (.type "type")) &&
  (match PySem.W.findCls K (.ref (He.ga K x)) (.type "type") "__init__" with | some (.val (.builtin id)) => decide (id = "ValueError.__init__") | _ => false)))))
theorem baseB_ok {K : PySem.W.Frag} {mg : Str → Option Value} {x : Str} (h : baseB K x = true) (m : mg x = some (.ref (He.ga K x))) : BaseC K mg x (He.ga K x) := by
  unfold baseB at h
  obtain ⟨h0, h⟩ := He.ba h
  obtain ⟨ha, h⟩ := He.ba h
  obtain ⟨hb, h⟩ := He.ba h
  obtain ⟨h2, h⟩ := He.ba h
  obtain ⟨h3, h⟩ := He.ba h
  have hr : PySem.W.readsIn K (He.ga K x) (.type "type") = true := by
    have e0 : PySem.W.nsIn K cStatics "thirdparty.any" = some none := by
      split at h0
      case h_1 e => exact e
      case h_2 => cases h0
    unfold PySem.W.readsIn
    rw [e0, He.eqO_ok ha, of_decide_eq_true hb, of_decide_eq_true h3]
    rfl
  refine ⟨m, ⟨hr, of_decide_eq_true h2⟩, of_decide_eq_true h3, ?_⟩
  split at h
  case h_1 id e =>
    rw [e, of_decide_eq_true h]
  case h_2 => cases h
end XC
namespace LB
open PySem PySem.Spec PyProof.Rows L2
theorem binds_mk {K : PySem.W.Frag} {x qual : Str} {params : Arguments} {body : List Stmt} {scope : Scope} {f : Addr} {fd : FuncData} {ps : List Str} (F : FunD K x qual params body scope [] [] f fd)
    (hb : ∀ (kV doc pm : Value) (an : Option Addr) (cdv ct : Value) (us : List Value), us.length = ps.length → bindArgs (PySem.W.fnOf x qual params body scope .none kV doc pm an cdv ct) ⟨us, []⟩ = pure (ps.zip us)) : Binds K fd ps [] := by
  exact F.bindsN hb
end LB
namespace XH
open PySem PySem.Spec PyProof.Rows L2
/-! ### the facts read by a hook whose written part holds the statics, too -/
def asY (n : Nat) (g : Addr → Option Obj) : List Addr := cStatics :: He.asD g n
def obsY (n : Nat) (fa : List He.Fa) (fn : List He.DefD) (ts : List He.Tab) (tf : List He.Defn) (ex : PySem.W.Frag → Bool) (g : Addr → Option Obj) : He.AlX :=
  (He.obsT fa fn ts (He.frT g (asY n g)), ex (He.frT g (asY n g)) && He.tabsB g tf (He.frT g (asY n g)))
theorem saysY_of {n : Nat} {fa : List He.Fa} {fn : List He.DefD} {ts : List He.Tab} {tf : List He.Defn} {ex : PySem.W.Frag → Bool} {w : World} {h : Heap} (e : obsY n fa fn ts tf ex h.get? = He.valX fn ts w) : He.SaysX fa fn ts tf ex w h (He.frT h.get? (asY n h.get?)) := by
  have e1 := congrArg (fun z => z.1) e
  have e2 : (ex (He.frT h.get? (asY n h.get?)) && He.tabsB h.get? tf (He.frT h.get? (asY n h.get?))) = true := congrArg (fun z => z.2) e
  obtain ⟨h1, h2⟩ := He.ba e2
  have key : ∀ p ∈ tf, PySem.W.codeHdIn (He.frT h.get? (asY n h.get?)) (He.cT (He.frT h.get? (asY n h.get?)) p).1 (He.cT (He.frT h.get? (asY n h.get?)) p).2 = true ∧ ∃ o, h.get? (He.cT (He.frT h.get? (asY n h.get?)) p).2 = some o ∧ He.emptyTab o = true := fun p hp => by
    obtain ⟨h3, h4⟩ := He.ba (List.all_eq_true.mp h2 p hp)
    refine ⟨h3, ?_⟩
    cases q : h.get? (He.cT (He.frT h.get? (asY n h.get?)) p).2 with
    | none => rw [q] at h4; cases h4
    | some o => rw [q] at h4; exact ⟨o, rfl, h4⟩
  refine ⟨e1, h1, fun p hp => (key p hp).1, fun p hp => ?_, fun p hp => ?_⟩
  · obtain ⟨_, o, q, z⟩ := key p hp
    exact He.frT_none q z
  · obtain ⟨_, o, q, z⟩ := key p hp
    rw [q, He.emptyTab_eq z]
def hookY (n : Nat) (fa : List He.Fa) (fn : List He.DefD) (ts : List He.Tab) (tf : List He.Defn) (ex : PySem.W.Frag → Bool) : PySem.W.Hook where
  α := He.AlX
  obs := fun s => obsY n fa fn ts tf ex s.heap.get?
  val := fun w => He.valX fn ts w
  says := fun w h => ∃ K, PySem.W.Frag.In K h ∧ He.SaysX fa fn ts tf ex w h K
  of := fun w s e => ⟨_, He.frT_in, saysY_of e⟩
  keeps := (He.hookX n fa fn ts tf ex).keeps
theorem obsY_eq {n : Nat} {fa : List He.Fa} {fn : List He.DefD} {ts : List He.Tab} {tf : List He.Defn} {ex : PySem.W.Frag → Bool} {g : Addr → Option Obj} {s : Shared} (h : ∀ a, g a = s.heap.get? a) : obsY n fa fn ts tf ex g = (hookY n fa fn ts tf ex).obs s := by
  have e := funext h
  subst e
  rfl
end XH
set_option Elab.async false
set_option linter.all false
set_option maxRecDepth 100000
set_option maxHeartbeats 4000000
namespace N_k01
open PySem PySem.Spec PyProof.Rows L2 GenW GE LB
def top (i : Nat) : Stmt := PySem.Challenge.pw_graft_k01_grammars_and_near_things.main.body.getD i (.Pass ⟨0, 0, 0, 0⟩)
abbrev s_is_name : Stmt := top 13
theorem sc_is_name : FnScope ["thing", "sign"] ["thing"] (defScope s_is_name) := ⟨rfl, rfl, rfl, by decide +kernel, rfl, by decide +kernel, by decide +kernel⟩
abbrev s_is_char_set : Stmt := top 14
theorem sc_is_char_set : FnScope ["thing", "sign", "k"] ["thing"] (defScope s_is_char_set) := ⟨rfl, rfl, rfl, by decide +kernel, rfl, by decide +kernel, by decide +kernel⟩
abbrev s_is_char_text : Stmt := top 15
theorem sc_is_char_text : FnScope ["thing", "sign"] ["thing"] (defScope s_is_char_text) := ⟨rfl, rfl, rfl, by decide +kernel, rfl, by decide +kernel, by decide +kernel⟩
abbrev s_are_parts : Stmt := top 16
theorem sc_are_parts : FnScope ["thing", "depth", "part"] ["thing", "depth"] (defScope s_are_parts) := ⟨rfl, rfl, rfl, by decide +kernel, rfl, by decide +kernel, by decide +kernel⟩
abbrev s_is_expression : Stmt := top 17
theorem sc_is_expression : FnScope ["thing", "depth", "head"] ["thing", "depth"] (defScope s_is_expression) := ⟨rfl, rfl, rfl, by decide +kernel, rfl, by decide +kernel, by decide +kernel⟩
abbrev s_is_rule : Stmt := top 18
theorem sc_is_rule : FnScope ["thing"] ["thing"] (defScope s_is_rule) := ⟨rfl, rfl, rfl, by decide +kernel, rfl, by decide +kernel, by decide +kernel⟩
abbrev s_is_grammar : Stmt := top 19
theorem sc_is_grammar : FnScope ["thing", "rule"] ["thing"] (defScope s_is_grammar) := ⟨rfl, rfl, rfl, by decide +kernel, rfl, by decide +kernel, by decide +kernel⟩
abbrev s_checked : Stmt := top 20
theorem sc_checked : FnScope ["thing"] ["thing"] (defScope s_checked) := ⟨rfl, rfl, rfl, by decide +kernel, rfl, by decide +kernel, by decide +kernel⟩
abbrev s_parts_of : Stmt := top 21
theorem sc_parts_of : FnScope ["expression"] ["expression"] (defScope s_parts_of) := ⟨rfl, rfl, rfl, by decide +kernel, rfl, by decide +kernel, by decide +kernel⟩
abbrev s_calls_of : Stmt := top 22
theorem sc_calls_of : FnScope ["expression", "names", "part", "name"] ["expression"] (defScope s_calls_of) := ⟨rfl, rfl, rfl, by decide +kernel, rfl, by decide +kernel, by decide +kernel⟩
abbrev s_expression_size : Stmt := top 23
theorem sc_expression_size : FnScope ["expression", "part"] ["expression"] (defScope s_expression_size) := ⟨rfl, rfl, rfl, by decide +kernel, rfl, by decide +kernel, by decide +kernel⟩
abbrev s_size_of : Stmt := top 24
theorem sc_size_of : FnScope ["grammar", "rule"] ["grammar"] (defScope s_size_of) := ⟨rfl, rfl, rfl, by decide +kernel, rfl, by decide +kernel, by decide +kernel⟩
abbrev s__law_stream : Stmt := top 26
theorem sc__law_stream : FnScope ["script", "row", "cell", "left", "k", "seed"] ["script"] (defScope s__law_stream) := ⟨rfl, rfl, rfl, by decide +kernel, rfl, by decide +kernel, by decide +kernel⟩
abbrev s__law_take : Stmt := top 27
theorem sc__law_take : FnScope ["row", "many"] ["row", "many"] (defScope s__law_take) := ⟨rfl, rfl, rfl, by decide +kernel, rfl, by decide +kernel, by decide +kernel⟩
abbrev s__law_taker : Stmt := top 28
theorem sc__law_taker : FnScope ["row", "kind"] ["row"] (defScope s__law_taker) := ⟨rfl, rfl, rfl, by decide +kernel, rfl, by decide +kernel, by decide +kernel⟩
abbrev s__law_expression : Stmt := top 29
theorem sc__law_expression : FnScope ["row", "depth", "rule", "many", "kind", "one", "two", "three"] ["row", "depth", "rule", "many"] (defScope s__law_expression) := ⟨rfl, rfl, rfl, by decide +kernel, rfl, by decide +kernel, by decide +kernel⟩
abbrev s__law_grammar : Stmt := top 30
theorem sc__law_grammar : FnScope ["row", "depth", "many", "k"] ["row", "depth"] (defScope s__law_grammar) := ⟨rfl, rfl, rfl, by decide +kernel, rfl, by decide +kernel, by decide +kernel⟩
abbrev s__law_text : Stmt := top 31
theorem sc__law_text : FnScope ["row", "k"] ["row"] (defScope s__law_text) := ⟨rfl, rfl, rfl, by decide +kernel, rfl, by decide +kernel, by decide +kernel⟩
abbrev s__law_parts : Stmt := top 32
theorem sc__law_parts : FnScope ["expression"] ["expression"] (defScope s__law_parts) := ⟨rfl, rfl, rfl, by decide +kernel, rfl, by decide +kernel, by decide +kernel⟩
abbrev s__law_count : Stmt := top 33
theorem sc__law_count : FnScope ["expression", "part"] ["expression"] (defScope s__law_count) := ⟨rfl, rfl, rfl, by decide +kernel, rfl, by decide +kernel, by decide +kernel⟩
abbrev s__law_calls : Stmt := top 34
theorem sc__law_calls : FnScope ["expression", "found", "part", "name"] ["expression"] (defScope s__law_calls) := ⟨rfl, rfl, rfl, by decide +kernel, rfl, by decide +kernel, by decide +kernel⟩
abbrev s__law_put : Stmt := top 35
theorem sc__law_put : FnScope ["expression", "at", "other", "parts", "k", "size", "inner"] ["expression", "at", "other"] (defScope s__law_put) := ⟨rfl, rfl, rfl, by decide +kernel, rfl, by decide +kernel, by decide +kernel⟩
abbrev s__law_fault : Stmt := top 36
theorem sc__law_fault : FnScope ["row", "faults"] ["row"] (defScope s__law_fault) := ⟨rfl, rfl, rfl, by decide +kernel, rfl, by decide +kernel, by decide +kernel⟩
abbrev s_law : Stmt := top 37
theorem sc_law : FnScope ["script", "row", "grammar", "size", "rule", "at", "name", "expression", "inner", "rules", "wrong", "kept", "e"] ["script"] (defScope s_law) := ⟨rfl, rfl, rfl, by decide +kernel, rfl, by decide +kernel, by decide +kernel⟩
abbrev s_Invalid__init__ : Stmt := (XC.clsBody (top 2)).getD 0 (.Pass ⟨0, 0, 0, 0⟩)
theorem sc_Invalid__init__ : FnScope ["self", "name"] ["self", "name"] (defScope s_Invalid__init__) := ⟨rfl, rfl, rfl, by decide +kernel, rfl, by decide +kernel, by decide +kernel⟩
structure Txt (K : PySem.W.Frag) (mg : Str → Option Value) (base : Heap) where
  b_abs : mg "abs" = none
  b_all : mg "all" = none
  b_int : mg "int" = none
  b_isinstance : mg "isinstance" = none
  b_len : mg "len" = none
  b_list : mg "list" = none
  b_range : mg "range" = none
  b_repr : mg "repr" = none
  b_str : mg "str" = none
  b_sum : mg "sum" = none
  b_tuple : mg "tuple" = none
  f_is_name : Addr
  d_is_name : FuncData
  D_is_name : DF K mg "is_name" s_is_name ["thing"] f_is_name d_is_name
  f_is_char_set : Addr
  d_is_char_set : FuncData
  D_is_char_set : DF K mg "is_char_set" s_is_char_set ["thing"] f_is_char_set d_is_char_set
  f_is_char_text : Addr
  d_is_char_text : FuncData
  D_is_char_text : DF K mg "is_char_text" s_is_char_text ["thing"] f_is_char_text d_is_char_text
  f_are_parts : Addr
  d_are_parts : FuncData
  D_are_parts : DF K mg "are_parts" s_are_parts ["thing", "depth"] f_are_parts d_are_parts
  f_is_expression : Addr
  d_is_expression : FuncData
  D_is_expression : DF K mg "is_expression" s_is_expression ["thing", "depth"] f_is_expression d_is_expression
  f_is_rule : Addr
  d_is_rule : FuncData
  D_is_rule : DF K mg "is_rule" s_is_rule ["thing"] f_is_rule d_is_rule
  f_is_grammar : Addr
  d_is_grammar : FuncData
  D_is_grammar : DF K mg "is_grammar" s_is_grammar ["thing"] f_is_grammar d_is_grammar
  f_checked : Addr
  d_checked : FuncData
  D_checked : DF K mg "checked" s_checked ["thing"] f_checked d_checked
  f_parts_of : Addr
  d_parts_of : FuncData
  D_parts_of : DF K mg "parts_of" s_parts_of ["expression"] f_parts_of d_parts_of
  f_calls_of : Addr
  d_calls_of : FuncData
  D_calls_of : DF K mg "calls_of" s_calls_of ["expression"] f_calls_of d_calls_of
  f_expression_size : Addr
  d_expression_size : FuncData
  D_expression_size : DF K mg "expression_size" s_expression_size ["expression"] f_expression_size d_expression_size
  f_size_of : Addr
  d_size_of : FuncData
  D_size_of : DF K mg "size_of" s_size_of ["grammar"] f_size_of d_size_of
  f__law_stream : Addr
  d__law_stream : FuncData
  D__law_stream : DF K mg "_law_stream" s__law_stream ["script"] f__law_stream d__law_stream
  f__law_take : Addr
  d__law_take : FuncData
  D__law_take : DF K mg "_law_take" s__law_take ["row", "many"] f__law_take d__law_take
  f__law_taker : Addr
  d__law_taker : FuncData
  D__law_taker : DF K mg "_law_taker" s__law_taker ["row"] f__law_taker d__law_taker
  f__law_expression : Addr
  d__law_expression : FuncData
  D__law_expression : DF K mg "_law_expression" s__law_expression ["row", "depth", "rule", "many"] f__law_expression d__law_expression
  f__law_grammar : Addr
  d__law_grammar : FuncData
  D__law_grammar : DF K mg "_law_grammar" s__law_grammar ["row", "depth"] f__law_grammar d__law_grammar
  f__law_text : Addr
  d__law_text : FuncData
  D__law_text : DF K mg "_law_text" s__law_text ["row"] f__law_text d__law_text
  f__law_parts : Addr
  d__law_parts : FuncData
  D__law_parts : DF K mg "_law_parts" s__law_parts ["expression"] f__law_parts d__law_parts
  f__law_count : Addr
  d__law_count : FuncData
  D__law_count : DF K mg "_law_count" s__law_count ["expression"] f__law_count d__law_count
  f__law_calls : Addr
  d__law_calls : FuncData
  D__law_calls : DF K mg "_law_calls" s__law_calls ["expression"] f__law_calls d__law_calls
  f__law_put : Addr
  d__law_put : FuncData
  D__law_put : DF K mg "_law_put" s__law_put ["expression", "at", "other"] f__law_put d__law_put
  f__law_fault : Addr
  d__law_fault : FuncData
  D__law_fault : DF K mg "_law_fault" s__law_fault ["row"] f__law_fault d__law_fault
  k_are_parts : Addr
  t_are_parts : Addr
  TB_are_parts : GxR.TabB base mg k_are_parts t_are_parts
  kc_are_parts : d_are_parts.code = .ref k_are_parts
  k_expression_size : Addr
  t_expression_size : Addr
  TB_expression_size : GxR.TabB base mg k_expression_size t_expression_size
  kc_expression_size : d_expression_size.code = .ref k_expression_size
  k_is_char_set : Addr
  t_is_char_set : Addr
  TB_is_char_set : GxR.TabB base mg k_is_char_set t_is_char_set
  kc_is_char_set : d_is_char_set.code = .ref k_is_char_set
  k_is_char_text : Addr
  t_is_char_text : Addr
  TB_is_char_text : GxR.TabB base mg k_is_char_text t_is_char_text
  kc_is_char_text : d_is_char_text.code = .ref k_is_char_text
  k_is_grammar : Addr
  t_is_grammar : Addr
  TB_is_grammar : GxR.TabB base mg k_is_grammar t_is_grammar
  kc_is_grammar : d_is_grammar.code = .ref k_is_grammar
  k_is_name : Addr
  t_is_name : Addr
  TB_is_name : GxR.TabB base mg k_is_name t_is_name
  kc_is_name : d_is_name.code = .ref k_is_name
  k_size_of : Addr
  t_size_of : Addr
  TB_size_of : GxR.TabB base mg k_size_of t_size_of
  kc_size_of : d_size_of.code = .ref k_size_of
  a_Refused : Addr
  B_Refused : XC.BaseC K mg "Refused" a_Refused
  a_Invalid : Addr
  f_Invalid__init__ : Addr
  d_Invalid__init__ : FuncData
  E_Invalid : XC.ErrC K mg "Invalid" "name" a_Invalid f_Invalid__init__
  D_Invalid__init__ : FunD K "__init__" "Invalid.__init__" (defArgs s_Invalid__init__) (defBody s_Invalid__init__) (defScope s_Invalid__init__) [] [] f_Invalid__init__ d_Invalid__init__
  b_Invalid__init__ : Binds K d_Invalid__init__ ["self", "name"] []
  u_CHARS : Value
  c_CHARS : mg "CHARS" = some u_CHARS
  r_CHARS : RelV (V.str " !\"#$&'()*+,-./0123456789:;<=>?@ABCDEFGHIJKLMNOPQRSTUVWXYZ[\\]^_`abcdefghijklmnopqrstuvwxyz{|}~") u_CHARS
  u_MOST_LETTERS : Value
  c_MOST_LETTERS : mg "MOST_LETTERS" = some u_MOST_LETTERS
  r_MOST_LETTERS : RelV (V.int 12) u_MOST_LETTERS
  u_MOST_SIGNS : Value
  c_MOST_SIGNS : mg "MOST_SIGNS" = some u_MOST_SIGNS
  r_MOST_SIGNS : RelV (V.int 20) u_MOST_SIGNS
  u_MOST_PARTS : Value
  c_MOST_PARTS : mg "MOST_PARTS" = some u_MOST_PARTS
  r_MOST_PARTS : RelV (V.int 16) u_MOST_PARTS
  u_MOST_RULES : Value
  c_MOST_RULES : mg "MOST_RULES" = some u_MOST_RULES
  r_MOST_RULES : RelV (V.int 16) u_MOST_RULES
  u_MOST_DEPTH : Value
  c_MOST_DEPTH : mg "MOST_DEPTH" = some u_MOST_DEPTH
  r_MOST_DEPTH : RelV (V.int 12) u_MOST_DEPTH
  a_LENGTHS : Addr
  c_LENGTHS : mg "LENGTHS" = some (.ref a_LENGTHS)
  r_LENGTHS : RelV (.ref a_LENGTHS) (.ref a_LENGTHS) := rfl
  a_LISTING : Addr
  c_LISTING : mg "LISTING" = some (.ref a_LISTING)
  v_LISTING : ∀ H : Hp, SqT K H a_LISTING [V.str "seq", V.str "alt"]
  r_LISTING : RelV (.ref a_LISTING) (.ref a_LISTING) := rfl
  a_WRAPPING : Addr
  c_WRAPPING : mg "WRAPPING" = some (.ref a_WRAPPING)
  v_WRAPPING : ∀ H : Hp, SqT K H a_WRAPPING [V.str "star", V.str "opt", V.str "not", V.str "and", V.str "mark"]
  r_WRAPPING : RelV (.ref a_WRAPPING) (.ref a_WRAPPING) := rfl
section
variable {P : Program} {w : World} {K : PySem.W.Frag} {mg : Str → Option Value} {base : Heap} (T : Txt K mg base)
structure Tb (T : Txt K mg base) (H : Hp) : Prop where
  are_parts : GxR.TabG H T.t_are_parts
  expression_size : GxR.TabG H T.t_expression_size
  is_char_set : GxR.TabG H T.t_is_char_set
  is_char_text : GxR.TabG H T.t_is_char_text
  is_grammar : GxR.TabG H T.t_is_grammar
  is_name : GxR.TabG H T.t_is_name
  size_of : GxR.TabG H T.t_size_of
omit T
theorem Tb.ext {T : Txt K mg base} {H H2 : Hp} (h : Tb T H) (e : Ext H H2) : Tb T H2 := ⟨e.tabG h.are_parts, e.tabG h.expression_size, e.tabG h.is_char_set, e.tabG h.is_char_text, e.tabG h.is_grammar, e.tabG h.is_name, e.tabG h.size_of⟩
theorem Tb.extR {T : Txt K mg base} {r : Addr} {H H2 : Hp} (h : Tb T H) (e : ExtR r H H2) : Tb T H2 := ⟨e.tabG h.are_parts, e.tabG h.expression_size, e.tabG h.is_char_set, e.tabG h.is_char_text, e.tabG h.is_grammar, e.tabG h.is_name, e.tabG h.size_of⟩
variable (T : Txt K mg base)
def spName : Sp := fun vs H Q _ => ∃ (r : Addr) (d : PyData) (v : V), vs = [v] ∧ DL r H d v ∧ tame d = true ∧ Tb T H ∧ ∀ H', Ext H H' → Q (.bl (nameB d)) H'
def spCSet : Sp := fun vs H Q _ => ∃ (r : Addr) (d : PyData) (v : V), vs = [v] ∧ DL r H d v ∧ tame d = true ∧ Tb T H ∧ ∀ H', Ext H H' → Q (.bl (csetB d)) H'
def spCText : Sp := fun vs H Q _ => ∃ (r : Addr) (d : PyData) (v : V), vs = [v] ∧ DL r H d v ∧ tame d = true ∧ Tb T H ∧ ∀ H', Ext H H' → Q (.bl (ctextB d)) H'
def spParts (n : Nat) : Sp := fun vs H Q _ => ∃ (r : Addr) (d : PyData) (v : V), vs = [v, .int n] ∧ DL r H d v ∧ tame d = true ∧ Tb T H ∧ ∀ H', Ext H H' → Q (.bl (partsB (exprB n) d)) H'
def spExpr (n : Nat) : Sp := fun vs H Q _ => ∃ (r : Addr) (d : PyData) (v : V), vs = [v, .int n] ∧ DL r H d v ∧ tame d = true ∧ Tb T H ∧ ∀ H', Ext H H' → Q (.bl (exprB n d)) H'
def spRule : Sp := fun vs H Q _ => ∃ (r : Addr) (d : PyData) (v : V), vs = [v] ∧ DL r H d v ∧ tame d = true ∧ Tb T H ∧ ∀ H', Ext H H' → Q (.bl (ruleB d)) H'
def spGram : Sp := fun vs H Q _ => ∃ (r : Addr) (d : PyData) (v : V), vs = [v] ∧ DL r H d v ∧ tame d = true ∧ Tb T H ∧ ∀ H', Ext H H' → Q (.bl (gramB d)) H'
def spChecked : Sp := fun vs H Q E => ∃ (r : Addr) (d : PyData) (v : V), vs = [v] ∧ DL r H d v ∧ tame d = true ∧ Tb T H ∧ (gramB d = true → ∀ H', Ext H H' → Q v H') ∧ (gramB d = false → ∀ (x : Addr) (H' : Hp), Ext H H' → H' x = some (.xd [("name", .str "grammar")]) → E (.ref T.a_Invalid) (some x) H')
def spSize (n : Nat) : Sp := fun vs H Q _ => ∃ (e : Ex) (v : V), vs = [v] ∧ DA H e.py v ∧ e.dep ≤ n ∧ e.size ≤ 4000 ∧ Tb T H ∧ ∀ (H' : Hp), Ext H H' → Q (.int (e.size : Int)) H'
def spSizeOf (n : Nat) : Sp := fun vs H Q _ => ∃ (g : Gr) (v : V), vs = [v] ∧ DA H (grPy g) v ∧ (∀ p ∈ g, p.2.dep ≤ n ∧ p.2.size ≤ 4000) ∧ g.length ≤ 16 ∧ Tb T H ∧ ∀ (H' : Hp), Ext H H' → Q (.int (Ex.sizes (g.map (·.2)) : Int)) H'
def spTaker : Sp := fun vs H Q _ => ∃ (r : Addr), vs = [.ref r] ∧ RowOk H r ∧ ∀ (e : Ex) (v : V) (H' : Hp), e.dep = 1 → e.fine = true → tame e.py = true → psz e.py ≤ 3 → ExtR r H H' → RowOk H' r → DA H' e.py v → Q v H'
def spLExpr (n : Nat) : Sp := fun vs H Q _ => ∃ (r : Addr) (d : Nat) (k m : Int), vs = [.ref r, .int d, .int k, .int m] ∧ d < n ∧ 0 ≤ k ∧ k < m ∧ m ≤ 4 ∧ RowOk H r ∧ ∀ (e : Ex) (v : V) (H' : Hp), e.Good (2 * d + 1) (pB d) → ExtR r H H' → RowOk H' r → DA H' e.py v → Q v H'
/-- a grammar of the law -/
structure GrOk (g : Gr) (d : Nat) : Prop where
  pos : 1 ≤ g.length
  len : g.length ≤ 4
  good : ∀ p ∈ g, p.2.Good (2 * d + 1) (pB d) ∧ nameB (.str p.1) = true ∧ tame (.str p.1) = true
  nod : (g.map (·.1)).Nodup
def spLGram (n : Nat) : Sp := fun vs H Q _ => ∃ (r : Addr) (d : Nat), vs = [.ref r, .int d] ∧ d < n ∧ RowOk H r ∧ ∀ (g : Gr) (v : V) (H' : Hp), GrOk g d → ExtR r H H' → RowOk H' r → DA H' (grPy g) v → Q v H'
def spFault : Sp := fun vs H Q _ => ∃ (r : Addr), vs = [.ref r] ∧ RowOk H r ∧ ∀ (d : PyData) (v : V) (H' : Hp), d ∈ faultsD → ExtR r H H' → RowOk H' r → DL r H' d v → Q v H'
end
end N_k01
namespace N_k01
open PySem PySem.Spec PyProof.Rows L2 GenW GE LB
section
variable {P : Program} {w : World} {K : PySem.W.Frag} {mg : Str → Option Value} {base : Heap} (T : Txt K mg base)
theorem ok__law_take : FnOk P w K mg base CX0 1 T.f__law_take T.d__law_take ["row", "many"] spTake := by
  refine T.D__law_take.ok sc__law_take (fun vs H Q E h => ?_) (fun cdv A outer s H vs Q E hr h => ?_)
  · obtain ⟨r, m, rfl, _⟩ := h
    rfl
  obtain ⟨r, m, rfl, hm, ⟨p, ds, hrow, h1, h2, h3⟩, hQ⟩ := h
  refine ⟨_, (pss_cons (ps_if (pt_cmpR op_lt (pe_ix (ixL K rfl) (pv 0) pe_int (fun _ _ => rfl)) (pe_callB (lenQ K rfl) (by rfl) T.b_len PySem.boot_len (pa_cons (pv 0) pa_nil)) (nomark _)) (pss_cons (ps_asg (pe_op op_add (pe_ix (ixL K rfl) (pv 0) pe_int (fun _ _ => rfl)) pe_int) (pg_sub (pv 0) pe_int set_list))
    (pss_one (ps_ret (pe_op op_modN (pe_callTy call_int1 (by rfl) T.b_int (by decide +kernel) (pa_cons (pe_ix (ixL K rfl) (pv 0) (pe_op op_sub (pe_ix (ixL K rfl) (pv 0) pe_int (fun _ _ => rfl)) pe_int) (fun _ _ => rfl)) pa_nil)) (pv 1))))) pss_nil)
    (pss_one (ps_ret pe_int))), ?_⟩
  have hlen : (V.int p :: ds.map V.int).length = ds.length + 1 := by rw [List.length_cons, List.length_map]
  refine ⟨_, rfl, r, _, _, _, rfl, rfl, SqL.of hrow, at0, ?_⟩
  refine ⟨_, rfl, r, _, rfl, .inl (SqL.of hrow), ?_⟩
  refine ⟨_, _, rfl, rfl, _, rfl, ?_⟩
  rw [hlen]
  refine ite2 (fun c => ?_) (fun c => ?_)
  · have c' : p < ((ds.length + 1 : Nat) : Int) := of_decide_eq_true c
    have hp : (p - 1).toNat < ds.length := by omega
    refine ⟨_, rfl, r, _, _, _, rfl, rfl, SqL.of hrow, at0, _, _, rfl, rfl, ?_⟩
    refine ⟨_, rfl, r, _, _, 0, rfl, rfl, hrow, ixN_at (by rw [hlen]; omega) rfl, ?_⟩
    have hset : (V.int p :: ds.map V.int).set 0 (.int (p + 1)) = V.int (p + 1) :: ds.map V.int := rfl
    rw [hset]
    refine ⟨_, rfl, _, rfl, r, _, _, _, rfl, rfl, SqL.of upd_same, at0, _, _, rfl, rfl, ?_⟩
    refine ⟨r, _, _, V.int ds[(p - 1).toNat], rfl, rfl, SqL.of upd_same, at_of (j := p.toNat) (by omega) ?_, ?_⟩
    · rw [show p.toNat = (p - 1).toNat + 1 by omega, List.getElem?_cons_succ, List.getElem?_map, List.getElem?_eq_getElem hp]
      rfl
    · refine .inl ⟨_, rfl, _, rfl, _, _, rfl, rfl, by omega, ?_⟩
      refine hQ _ _ (Int.fmod_nonneg_of_pos _ hm) (Int.fmod_lt_of_pos _ hm) (ExtR.set hrow _) ⟨p + 1, ds, upd_same, by omega, by omega, h3⟩
  · exact hQ 0 H (Int.le_refl 0) hm (ExtR.refl _ _) ⟨p, ds, hrow, h1, h2, h3⟩

end
end N_k01
namespace N_k01
open PySem PySem.Spec PyProof.Rows L2 GenW GE LB
section
variable {P : Program} {w : World} {K : PySem.W.Frag} {mg : Str → Option Value} {base : Heap} (T : Txt K mg base)
theorem ok__law_stream : FnOk P w K mg base CX0 1 T.f__law_stream T.d__law_stream ["script"] (spStream K) := by
  refine T.D__law_stream.ok sc__law_stream (fun vs H Q E h => ?_) (fun cdv A outer s H vs Q E hr h => ?_)
  · obtain ⟨a, ns, rfl, _⟩ := h
    rfl
  obtain ⟨a, ns, rfl, hS, hlen, hQ⟩ := h
  refine ⟨_, (pss_cons (ps_set (i := 1) sc__law_stream.nd rfl (by first | exact Or.inl rfl | exact Or.inr rfl) (pe_lst (pa_cons pe_int pa_nil)))
    (pss_cons (ps_for PassesOwn.never rfl (piL K rfl (pe_slice (slL K rfl) (pv 0) po_none (po_some pe_int))) (pg_name (i := 2) sc__law_stream.nd rfl (by first | exact Or.inl rfl | exact Or.inr rfl)) (pss_cons (ps_set (i := 3) sc__law_stream.nd rfl (by first | exact Or.inl rfl | exact Or.inr rfl) (pe_callB call_abs (by rfl) T.b_abs (by decide +kernel) (pa_cons (pe_callTy call_int1 (by rfl) T.b_int (by decide +kernel) (pa_cons (pv 2) pa_nil)) pa_nil)))
    (pss_one (ps_for PassesOwn.never rfl (pi_range1 (by rfl) T.b_range (pa_cons pe_int pa_nil)) (pg_name (i := 4) sc__law_stream.nd rfl (by first | exact Or.inl rfl | exact Or.inr rfl)) (pss_cons (ps_expr (pe_bm PySem.F.plainAttrs_list PySem.F.slot_list_append PySem.F.type_list_append mt_append (pv 1) (pa_cons (pe_op op_modN (pv 3) pe_int) pa_nil)))
    (pss_cons (ps_set (i := 3) sc__law_stream.nd rfl (by first | exact Or.inl rfl | exact Or.inr rfl) (pe_op op_fdivN (pv 3) pe_int))
    (pss_one (ps_if (pt_cmpR op_eq (pv 3) pe_int (nomark _)) (pss_one ps_break) pss_nil))))))))
    (pss_cons (ps_set (i := 5) sc__law_stream.nd rfl (by first | exact Or.inl rfl | exact Or.inr rfl) pe_int)
    (pss_cons (ps_for PassesOwn.never rfl (piL K rfl (pe_slice (slL K rfl) (pv 0) po_none (po_some pe_int))) (pg_name (i := 2) sc__law_stream.nd rfl (by first | exact Or.inl rfl | exact Or.inr rfl)) (pss_one (ps_set (i := 5) sc__law_stream.nd rfl (by first | exact Or.inl rfl | exact Or.inr rfl) (pe_op op_modN (pe_callTy call_int1 (by rfl) T.b_int (by decide +kernel) (pa_cons (pe_op op_add (pe_op op_add (pe_op op_mul (pv 5) pe_int) (pv 2)) pe_int) pa_nil)) pe_int))))
    (pss_cons (ps_for PassesOwn.never rfl (pi_range1 (by rfl) T.b_range (pa_cons pe_int pa_nil)) (pg_name (i := 4) sc__law_stream.nd rfl (by first | exact Or.inl rfl | exact Or.inr rfl)) (pss_cons (ps_set (i := 5) sc__law_stream.nd rfl (by first | exact Or.inl rfl | exact Or.inr rfl) (pe_op op_modN (pe_callTy call_int1 (by rfl) T.b_int (by decide +kernel) (pa_cons (pe_op op_add (pe_op op_add (pe_op op_mul (pv 5) pe_int) (pe_op op_mul (pv 4) pe_int)) pe_int) pa_nil)) pe_int))
    (pss_one (ps_expr (pe_bm PySem.F.plainAttrs_list PySem.F.slot_list_append PySem.F.type_list_append mt_append (pv 1) (pa_cons (pe_op op_modN (pe_op op_fdivN (pv 5) pe_int) pe_int) pa_nil))))))
    (pss_one (ps_ret (pv 1)))))))), ?_⟩
  -- row = [1]
  refine ⟨by show 1 ≤ sizeLine; decide, fun r hr0 => ?_⟩
  have e1 : Ext H (upd H r (.lst [.int 1])) := Ext.new hr0 _
  -- the first loop
  refine ⟨_, rfl, 63, rfl, a, _, rfl, e1.sqL hS, fun p hp => ?_⟩
  obtain ⟨ms, hcut, hms⟩ := cut_ints ns none (some 63)
  rw [hcut]
  have npr : p ≠ r := fun z => by rw [z, upd_same] at hp; cases hp
  generalize hH2 : upd (upd H r (.lst [.int 1])) p (.lst (ms.map V.int)) = H2
  have e2 : Ext H H2 := by rw [← hH2]; exact e1.trans (Ext.new hp _)
  have hp2 : H2 p = some (.lst (ms.map V.int)) := by rw [← hH2]; exact upd_same
  have hr2 : H2 r = some (.lst (V.int 1 :: ([] : List Int).map V.int)) := by rw [← hH2, upd_ne (Ne.symm npr), upd_same]; rfl
  refine ⟨p, rfl, ⟨_, SqL.of hp2⟩, ?_⟩
  refine for_list (K := K) (a := p) (xs := ms.map V.int) (fun i σ H' => ∃ (ds : List Int) (c l k : Option V), σ = [some (.ref a), some (.ref r), c, l, k, none] ∧ ExtR r H2 H' ∧ H' r = some (.lst (V.int 1 :: ds.map V.int)) ∧ ds.length ≤ 60 * i)
    ⟨[], none, none, none, rfl, ExtR.refl _ _, hr2, Nat.zero_le _⟩ (fun i σ H' _ ⟨ds, c, l, k, _, e, _⟩ => SqL.of (e.lst npr hp2)) (fun i x σ H' hx ⟨ds, c, l, k, hσ, e, hrow, hds⟩ => ?_) (fun σ H' ⟨ds, c, l, k, hσ, e, hrow, hds⟩ => ?_)
  · subst hσ
    obtain ⟨v, rfl⟩ := map_int hx
    refine ⟨_, rfl, .inl ⟨_, rfl, _, rfl, ?_⟩⟩
    refine ⟨60, rfl, by decide, by decide, ?_⟩
    refine for_range (lo := 0) (n := 60) (fun j σ H' => ∃ (ds : List Int) (l : Int) (k : Option V), σ = [some (.ref a), some (.ref r), some (.int v), some (.int l), k, none] ∧ ExtR r H2 H' ∧ H' r = some (.lst (V.int 1 :: ds.map V.int)) ∧ ds.length ≤ 60 * i + j)
      ⟨ds, _, k, rfl, e, hrow, Nat.le_add_right_of_le hds⟩ (fun j σ H' hj ⟨ds, l, k, hσ, e, hrow, hds⟩ => ?_) (fun σ H' ⟨ds, l, k, hσ, e, hrow, hds⟩ => ⟨ds, _, _, k, hσ, e, hrow, hds⟩)
    subst hσ
    have hl : (V.int 1 :: ds.map V.int).length = ds.length + 1 := by rw [List.length_cons, List.length_map]
    have hml : (ms.map V.int).length = ms.length := List.length_map _
    have hi : i < 63 := by
      have := (List.getElem?_eq_some_iff.mp hx).1
      omega
    refine ⟨_, rfl, .inl ⟨rfl, _, SqL.of hrow⟩, _, rfl, _, _, rfl, rfl, (by show (59 : Int) ≠ 0; decide), r, _, _, rfl, rfl, hrow, by rw [hl]; exact small5000 (by omega), ?_⟩
    have hrow' : upd H' r (.lst (V.int 1 :: ds.map V.int ++ [.int (l.fmod 59)])) r = some (.lst (V.int 1 :: (ds ++ [l.fmod 59]).map V.int)) := by
      rw [upd_same, List.map_append]; rfl
    have e' : ExtR r H2 (upd H' r (.lst (V.int 1 :: ds.map V.int ++ [.int (l.fmod 59)]))) := e.trans (ExtR.set hrow _)
    have hd' : (ds ++ [l.fmod 59]).length ≤ 60 * i + (j + 1) := by rw [List.length_append]; exact Nat.add_le_add_right hds 1
    refine ⟨_, rfl, _, _, rfl, rfl, ⟨by decide, by decide⟩, ?_⟩
    refine ⟨_, rfl, rfl, _, rfl, ?_⟩
    refine ite2 (fun _ => ⟨ds ++ [l.fmod 59], _, _, _, rfl, e', hrow', Nat.le_trans hd' (by omega)⟩) (fun _ => ⟨ds ++ [l.fmod 59], _, _, rfl, e', hrow', hd'⟩)
  · subst hσ
    have hds3 : ds.length ≤ 3780 := by
      have hml : (ms.map V.int).length = ms.length := List.length_map _
      omega
    have hp' : H' p = some (.lst (ms.map V.int)) := e.lst npr hp2
    have hS' : SqL K H' a (ns.map V.int) := (ExtR.of_free hr0 e2 e).sqL hS
    have eH : Ext H H' := ExtR.of_free hr0 e2 e
    refine ⟨_, rfl, 63, rfl, a, _, rfl, hS', fun p2 hpp => ?_⟩
    rw [hcut]
    have npr2 : p2 ≠ r := fun z => by rw [z, hrow] at hpp; cases hpp
    generalize hH3 : upd H' p2 (.lst (ms.map V.int)) = H3
    have e3 : Ext H H3 := by rw [← hH3]; exact eH.trans (Ext.new hpp _)
    have hp3 : H3 p2 = some (.lst (ms.map V.int)) := by rw [← hH3]; exact upd_same
    have hr3 : H3 r = some (.lst (V.int 1 :: ds.map V.int)) := by rw [← hH3, upd_ne (Ne.symm npr2)]; exact hrow
    refine ⟨p2, rfl, ⟨_, SqL.of hp3⟩, ?_⟩
    refine for_list (K := K) (a := p2) (xs := ms.map V.int) (fun i σ H' => ∃ (c : Option V) (sd : Int), σ = [some (.ref a), some (.ref r), c, l, k, some (.int sd)] ∧ H' = H3 ∧ 0 ≤ sd ∧ sd < 4000000000)
      ⟨c, 7, rfl, rfl, by decide, by decide⟩ (fun i σ H' _ ⟨c, sd, _, z, _⟩ => by rw [z]; exact SqL.of hp3) (fun i x σ H' hx ⟨c, sd, hσ, z, h1, h2⟩ => ?_) (fun σ H' ⟨c, sd, hσ, z, h1, h2⟩ => ?_)
    · subst hσ
      subst z
      obtain ⟨v, rfl⟩ := map_int hx
      refine ⟨_, rfl, _, _, rfl, rfl, .inl ⟨by omega, by omega⟩, _, rfl, _, _, rfl, rfl, _, _, rfl, rfl, .inl ⟨_, rfl, _, _, rfl, rfl, (by show (1000003 : Int) ≠ 0; decide), ?_⟩⟩
      exact ⟨_, _, rfl, rfl, Int.fmod_nonneg_of_pos _ (by decide), Int.lt_trans (Int.fmod_lt_of_pos _ (by decide)) (by decide)⟩
    · subst hσ
      subst z
      refine ⟨150, rfl, by decide, by decide, ?_⟩
      refine for_range (lo := 0) (n := 150) (fun j σ H4 => ∃ (ds' : List Int) (k : Option V) (sd : Int), σ = [some (.ref a), some (.ref r), c, l, k, some (.int sd)] ∧ ExtR r H' H4 ∧ H4 r = some (.lst (V.int 1 :: ds'.map V.int)) ∧ ds'.length ≤ 3780 + j ∧ 0 ≤ sd ∧ sd < 4000000000)
        ⟨ds, k, sd, rfl, ExtR.refl _ _, hr3, Nat.le_add_right_of_le hds3, h1, h2⟩ (fun j σ H4 hj ⟨ds', k, sd, hσ, e, hrow, hds, h1, h2⟩ => ?_) (fun σ H4 ⟨ds', k, sd, hσ, e, hrow, hds, h1, h2⟩ => ?_)
      · subst hσ
        have hl : (V.int 1 :: ds'.map V.int).length = ds'.length + 1 := by rw [List.length_cons, List.length_map]
        refine ⟨_, rfl, _, _, rfl, rfl, .inl ⟨by omega, by omega⟩, _, rfl, _, _, rfl, rfl, .inl ⟨by omega, by omega⟩, _, _, rfl, rfl, _, _, rfl, rfl, .inl ⟨_, rfl, _, _, rfl, rfl, (by show (2147483647 : Int) ≠ 0; decide), ?_⟩⟩
        refine ⟨_, rfl, .inl ⟨rfl, _, SqL.of hrow⟩, _, rfl, _, _, rfl, rfl, ⟨by decide, by decide⟩, _, _, rfl, rfl, (by show (59 : Int) ≠ 0; decide), r, _, _, rfl, rfl, hrow, by rw [hl]; exact small5000 (by omega), ?_⟩
        refine ⟨ds' ++ [_], _, _, rfl, e.trans (ExtR.set hrow _), by rw [upd_same, List.map_append]; rfl, by rw [List.length_append]; exact Nat.add_le_add_right hds 1, Int.fmod_nonneg_of_pos _ (by decide), Int.lt_trans (Int.fmod_lt_of_pos _ (by decide)) (by decide)⟩
      · subst hσ
        refine ⟨_, rfl, ?_⟩
        exact hQ r H4 (ExtR.of_free hr0 e3 e) hr0 ⟨1, ds', hrow, Int.le_refl 1, by omega, by omega⟩

end
end N_k01
namespace N_k01
open PySem PySem.Spec PyProof.Rows L2 GenW GE LB
section
variable {P : Program} {w : World} {K : PySem.W.Frag} {mg : Str → Option Value} {base : Heap} (T : Txt K mg base)
theorem ok_is_name : FnOk P w K mg base CX0 4 T.f_is_name T.d_is_name ["thing"] (spName T) := by
  have TB := T.TB_is_name
  refine T.D_is_name.okT T.kc_is_name sc_is_name (fun vs H Q E h => ?_) (fun A outer s H vs Q E hr h => ?_)
  · obtain ⟨r, d, v, rfl, _⟩ := h
    rfl
  obtain ⟨r, d, v, rfl, hv, hp, htab, hQ⟩ := h
  refine ⟨_, (pss_cons (ps_if (pt_not (pt_val (pe_callB call_isi (by rfl) T.b_isinstance (by decide +kernel) (pa_cons (pv 0) (pa_cons (pe_bltn (v := .ty "str") (u := .type "str") (by rfl) T.b_str (by decide +kernel) rfl) pa_nil))))) (pss_one (ps_ret pe_bl)) pss_nil)
    (pss_one (ps_ret (pe_and (pe_chain op_le op_le pe_int (pe_callB call_len_str (by rfl) T.b_len PySem.boot_len (pa_cons (pv 0) pa_nil)) (pe_glob rfl T.c_MOST_LETTERS T.r_MOST_LETTERS)) (pe_one (pe_allG (own := [("sign", 1)]) (g := gName 1) (k := 0) (hr.mono (by omega)) (by rfl) T.b_all sc_is_name.nd TB rfl (pi_str (pv 0)) (blkOk_by (N := ["thing", "sign"]) (sc := defScope s_is_name) (own := [("sign", 1)]) (by decide +kernel)) (by decide +kernel) rfl rfl (fun _ _ _ _ _ _ _ _ => (pg_name (i := 1) sc_is_name.nd rfl (by first | exact Or.inl rfl | exact Or.inr rfl))) (fun _ _ _ _ _ _ _ _ hr => (pe_chain op_le_str op_le_str pe_str (pv 1) pe_str)))))))), ?_⟩
  refine ⟨_, rfl, _, _, _, _, _, rfl, .ty _, hv.ty, kitS d, _, rfl, ?_⟩
  cases d with
  | str z =>
    cases hv.strI
    rw [tame, Bool.and_eq_true] at hp
    have hl : z.length ≤ 25 := of_decide_eq_true hp.2
    refine ite_f rfl ?_
    refine ⟨_, rfl, z, rfl, by rw [sizeLine_eq]; omega, _, _, rfl, rfl, _, rfl, ?_⟩
    have hnm : nameB (.str z) = (decide (1 ≤ (z.length : Int)) && decide ((z.length : Int) ≤ 12) && z.cps.toList.all lowB) := rfl
    refine ite2 (fun c1 => ?_) (fun c1 => ?_)
    · refine ⟨_, _, rfl, rfl, _, rfl, ite2 (fun c2 => ?_) (fun c2 => ?_)⟩
      · refine ⟨_, rfl, z, rfl, htab.is_name, fun H2 htb => all_text (p := lowB) (Ext.tab htab.is_name htb) (fun c H' e' R hR => ?_) fun H' e' => ?_⟩
        · refine ⟨rfl, _, rfl, _, _, rfl, rfl, _, rfl, ?_⟩
          refine ite2 (fun c3 => ?_) (fun c3 => ?_)
          · have q := hR H' e'
            have e3 : lowB c = !decide (("z" : Str).cps.toList < [c]) := by unfold lowB; rw [show (!decide ([c] < ("a" : Str).cps.toList)) = true from c3]; rfl
            rw [e3] at q
            exact ⟨_, _, rfl, rfl, q⟩
          · have q := hR H' e'
            have e3 : lowB c = false := by unfold lowB; rw [show (!decide ([c] < ("a" : Str).cps.toList)) = false from by simpa using c3]; rfl
            rw [e3] at q
            exact q
        · have q := hQ H' e'
          rw [hnm, c1, c2] at q
          exact q
      · have q := hQ H (Ext.refl H)
        rw [hnm, show decide ((z.length : Int) ≤ 12) = false from by simpa using c2, Bool.and_false, Bool.false_and] at q
        exact q
    · refine ⟨_, rfl, iteF ?_⟩
      have q := hQ H (Ext.refl H)
      rw [hnm, show decide (1 ≤ (z.length : Int)) = false from by simpa using c1, Bool.false_and, Bool.false_and] at q
      exact q
  | _ => exact ite_t rfl (hQ H (Ext.refl H))

end
end N_k01
namespace N_k01
open PySem PySem.Spec PyProof.Rows L2 GenW GE LB
section
variable {P : Program} {w : World} {K : PySem.W.Frag} {mg : Str → Option Value} {base : Heap} (T : Txt K mg base)
theorem asc_all : ∀ {l : List Nat}, (∀ (i : Nat) a b, l[i]? = some a → l[i + 1]? = some b → decide ([a] < [b]) = true) → ascB l = true
  | [], _ => rfl
  | [_], _ => rfl
  | a :: b :: l, h => by
    rw [ascB, h 0 a b rfl rfl, asc_all fun i x y hx hy => h (i + 1) x y (by simpa using hx) (by simpa using hy)]; rfl
theorem asc_at : ∀ {l : List Nat} {i : Nat} {a b : Nat}, l[i]? = some a → l[i + 1]? = some b → decide ([a] < [b]) = false → ascB l = false
  | [], _, _, _, h, _, _ => by simp at h
  | [_], _, _, _, _, h, _ => by simp at h
  | a :: b :: l, 0, x, y, hx, hy, h => by
    cases (by simpa using hx : a = x)
    cases (by simpa using hy : b = y)
    rw [ascB, h]; rfl
  | a :: b :: l, i + 1, x, y, hx, hy, h => by
    rw [ascB, asc_at (i := i) (by simpa using hx) (by simpa using hy) h, Bool.and_false]
theorem ok_is_char_set : FnOk P w K mg base CX0 4 T.f_is_char_set T.d_is_char_set ["thing"] (spCSet T) := by
  have TB := T.TB_is_char_set
  refine T.D_is_char_set.okT T.kc_is_char_set sc_is_char_set (fun vs H Q E h => ?_) (fun A outer s H vs Q E hr h => ?_)
  · obtain ⟨r, d, v, rfl, _⟩ := h
    rfl
  obtain ⟨r, d, v, rfl, hv, hp, htab, hQ⟩ := h
  refine ⟨_, (pss_cons (ps_if (PW.pt (pw_or (pt_not (pt_val (pe_callB call_isi (by rfl) T.b_isinstance (by decide +kernel) (pa_cons (pv 0) (pa_cons (pe_bltn (v := .ty "str") (u := .type "str") (by rfl) T.b_str (by decide +kernel) rfl) pa_nil))))) (pw_or1 (pt_cmpR op_eq (pe_callB call_len_str (by rfl) T.b_len PySem.boot_len (pa_cons (pv 0) pa_nil)) pe_int (nomark _))))) (pss_one (ps_ret pe_bl)) pss_nil)
    (pss_cons (ps_if (pt_not (pt_val (pe_allG (own := [("sign", 1)]) (g := gName 1) (k := 0) (hr.mono (by omega)) (by rfl) T.b_all sc_is_char_set.nd TB rfl (pi_str (pv 0)) (blkOk_by (N := ["thing", "sign", "k"]) (sc := defScope s_is_char_set) (own := [("sign", 1)]) (by decide +kernel)) (by decide +kernel) rfl rfl (fun _ _ _ _ _ _ _ _ => (pg_name (i := 1) sc_is_char_set.nd rfl (by first | exact Or.inl rfl | exact Or.inr rfl))) (fun _ _ _ _ _ _ _ _ hr => (pe_cmpR op_in_sign (pv 1) (pe_glob rfl T.c_CHARS T.r_CHARS) rfl))))) (pss_one (ps_ret pe_bl)) pss_nil)
    (pss_one (ps_ret (pe_allG (own := [("k", 2)]) (g := gName 2) (k := 0) (hr.mono (by omega)) (by rfl) T.b_all sc_is_char_set.nd TB rfl (pi_range2 (by rfl) T.b_range (pa_cons pe_int (pa_cons (pe_callB call_len_str (by rfl) T.b_len PySem.boot_len (pa_cons (pv 0) pa_nil)) pa_nil))) (blkOk_by (N := ["thing", "sign", "k"]) (sc := defScope s_is_char_set) (own := [("k", 2)]) (by decide +kernel)) (by decide +kernel) rfl rfl (fun _ _ _ _ _ _ _ _ => (pg_name (i := 2) sc_is_char_set.nd rfl (by first | exact Or.inl rfl | exact Or.inr rfl))) (fun _ _ _ _ _ _ _ _ hr => (pe_cmpR op_lt_str (pe_ix ix_str (pv 0) (pe_op op_sub (pv 2) pe_int) (fun _ _ => rfl)) (pe_ix ix_str (pv 0) (pv 2) (fun _ _ => rfl)) (nomark _)))))))), ?_⟩
  refine ⟨_, rfl, _, _, _, _, _, rfl, .ty _, hv.ty, kitS d, _, rfl, ?_⟩
  cases d with
  | str z =>
    cases hv.strI
    rw [tame, Bool.and_eq_true] at hp
    have hl : z.length ≤ 25 := of_decide_eq_true hp.2
    have hln : z.cps.toList.length = z.length := by rw [Array.length_toList]; rfl
    have hz : z.length ≤ sizeLine := by rw [sizeLine_eq]; omega
    have hnm : csetB (.str z) = (!decide (z.length = 0) && z.cps.toList.all inCH && ascB z.cps.toList) := rfl
    refine ite_f rfl ?_
    refine ⟨_, rfl, z, rfl, hz, rfl, _, rfl, ?_⟩
    by_cases c0 : z.length = 0
    · refine ite_t (decide_eq_true (by rw [c0]; rfl)) ?_
      have q := hQ H (Ext.refl H)
      rw [hnm, decide_eq_true c0] at q
      exact q
    refine ite_f (decide_eq_false (fun q => c0 (by injection q; omega))) ?_
    refine ⟨_, rfl, z, rfl, htab.is_char_set, fun H2 htb => all_text (p := inCH) (Ext.tab htab.is_char_set htb) (fun c H' e' R hR => ⟨rfl, _, rfl, _, _, rfl, rfl, hR H' e'⟩) fun H3 e3 => ?_⟩
    refine ⟨_, rfl, ?_⟩
    cases c1 : z.cps.toList.all inCH with
    | false =>
      refine ite_t rfl ?_
      have q := hQ H3 e3
      rw [hnm, c1, Bool.and_false, Bool.false_and] at q
      exact q
    | true =>
      refine ite_f rfl ?_
      have hQ2 : ∀ H', Ext H H' → Q (.bl (ascB z.cps.toList)) H' := fun H' e' => by
        have q := hQ H' e'
        rw [hnm, c1, decide_eq_false c0] at q
        exact q
      have htab3 := htab.ext e3
      refine ⟨_, rfl, z, rfl, hz, _, _, rfl, ⟨by omega, by omega, by omega, by omega⟩, htab3.is_char_set, fun H4 htb => ?_⟩
      have e4 := e3.trans (Ext.tab htab3.is_char_set htb)
      refine ⟨_, fun i H' => Ext H H' ∧ ∀ (j : Nat) a b, j < i → z.cps.toList[j]? = some a → z.cps.toList[j + 1]? = some b → decide ([a] < [b]) = true, ⟨e4, fun j a b hj => absurd hj (Nat.not_lt_zero _)⟩, turns_range (fun i H' hi ⟨e', w⟩ => ?_) (fun H' ⟨e', w⟩ => ?_)⟩
      · have hi1 : i < z.cps.toList.length := by omega
        have hi2 : i + 1 < z.cps.toList.length := by omega
        refine ⟨rfl, _, rfl, _, rfl, _, _, rfl, rfl, z, _, z.cps.toList[i], rfl, rfl, hz, by unfold atI; rw [ixN_at hi1 (by omega)]; exact List.getElem?_eq_getElem hi1, _, rfl, _, rfl, z, _, z.cps.toList[i + 1], rfl, rfl, hz, by unfold atI; rw [ixN_at hi2 (by omega)]; exact List.getElem?_eq_getElem hi2, _, _, rfl, rfl, ?_⟩
        refine ⟨_, rfl, fun q => ⟨e', fun j a b hj ha hb => ?_⟩, fun q => ?_⟩
        · rcases Nat.lt_or_ge j i with x | x
          · exact w j a b x ha hb
          · have : j = i := by omega
            subst this
            rw [List.getElem?_eq_getElem hi1] at ha
            rw [List.getElem?_eq_getElem hi2] at hb
            cases ha
            cases hb
            exact q
        · have q2 := hQ2 H' e'
          rw [asc_at (List.getElem?_eq_getElem hi1) (List.getElem?_eq_getElem hi2) q] at q2
          exact q2
      · have q2 := hQ2 H' e'
        rw [asc_all fun i a b ha hb => w i a b (by have := (List.getElem?_eq_some_iff.mp hb).1; omega) ha hb] at q2
        exact q2
  | _ => exact ite_t rfl (ite_t rfl (hQ H (Ext.refl H)))

end
end N_k01
namespace N_k01
open PySem PySem.Spec PyProof.Rows L2 GenW GE LB
section
variable {P : Program} {w : World} {K : PySem.W.Frag} {mg : Str → Option Value} {base : Heap} (T : Txt K mg base)
theorem ok_is_char_text : FnOk P w K mg base CX0 4 T.f_is_char_text T.d_is_char_text ["thing"] (spCText T) := by
  have TB := T.TB_is_char_text
  refine T.D_is_char_text.okT T.kc_is_char_text sc_is_char_text (fun vs H Q E h => ?_) (fun A outer s H vs Q E hr h => ?_)
  · obtain ⟨r, d, v, rfl, _⟩ := h
    rfl
  obtain ⟨r, d, v, rfl, hv, hp, htab, hQ⟩ := h
  refine ⟨_, (pss_cons (ps_if (pt_not (pt_val (pe_callB call_isi (by rfl) T.b_isinstance (by decide +kernel) (pa_cons (pv 0) (pa_cons (pe_bltn (v := .ty "str") (u := .type "str") (by rfl) T.b_str (by decide +kernel) rfl) pa_nil))))) (pss_one (ps_ret pe_bl)) pss_nil)
    (pss_one (ps_ret (pe_and (pe_chain op_le op_le pe_int (pe_callB call_len_str (by rfl) T.b_len PySem.boot_len (pa_cons (pv 0) pa_nil)) (pe_glob rfl T.c_MOST_SIGNS T.r_MOST_SIGNS)) (pe_one (pe_allG (own := [("sign", 1)]) (g := gName 1) (k := 0) (hr.mono (by omega)) (by rfl) T.b_all sc_is_char_text.nd TB rfl (pi_str (pv 0)) (blkOk_by (N := ["thing", "sign"]) (sc := defScope s_is_char_text) (own := [("sign", 1)]) (by decide +kernel)) (by decide +kernel) rfl rfl (fun _ _ _ _ _ _ _ _ => (pg_name (i := 1) sc_is_char_text.nd rfl (by first | exact Or.inl rfl | exact Or.inr rfl))) (fun _ _ _ _ _ _ _ _ hr => (pe_cmpR op_in_sign (pv 1) (pe_glob rfl T.c_CHARS T.r_CHARS) rfl)))))))), ?_⟩
  refine ⟨_, rfl, _, _, _, _, _, rfl, .ty _, hv.ty, kitS d, _, rfl, ?_⟩
  cases d with
  | str z =>
    cases hv.strI
    rw [tame, Bool.and_eq_true] at hp
    have hl : z.length ≤ 25 := of_decide_eq_true hp.2
    refine ite_f rfl ?_
    refine ⟨_, rfl, z, rfl, by rw [sizeLine_eq]; omega, _, _, rfl, rfl, _, rfl, ?_⟩
    have hnm : ctextB (.str z) = (decide (1 ≤ (z.length : Int)) && decide ((z.length : Int) ≤ 20) && z.cps.toList.all inCH) := rfl
    refine ite2 (fun c1 => ?_) (fun c1 => ?_)
    · refine ⟨_, _, rfl, rfl, _, rfl, ite2 (fun c2 => ?_) (fun c2 => ?_)⟩
      · refine ⟨_, rfl, z, rfl, htab.is_char_text, fun H2 htb => all_text (p := inCH) (Ext.tab htab.is_char_text htb) (fun c H' e' R hR => ?_) fun H' e' => ?_⟩
        · exact ⟨rfl, _, rfl, _, _, rfl, rfl, hR H' e'⟩
        · have q := hQ H' e'
          rw [hnm, c1, c2] at q
          exact q
      · have q := hQ H (Ext.refl H)
        rw [hnm, show decide ((z.length : Int) ≤ 20) = false from by simpa using c2, Bool.and_false, Bool.false_and] at q
        exact q
    · refine ⟨_, rfl, iteF ?_⟩
      have q := hQ H (Ext.refl H)
      rw [hnm, show decide (1 ≤ (z.length : Int)) = false from by simpa using c1, Bool.false_and, Bool.false_and] at q
      exact q
  | _ => exact ite_t rfl (hQ H (Ext.refl H))

end
end N_k01
namespace N_k01
open PySem PySem.Spec PyProof.Rows L2 GenW GE LB
section
variable {P : Program} {w : World} {K : PySem.W.Frag} {mg : Str → Option Value} {base : Heap} (T : Txt K mg base)
theorem ok_are_parts (n : Nat) (G_is_expression : FnOk P w K mg base CX0 (5 * n + 1) T.f_is_expression T.d_is_expression ["thing", "depth"] (spExpr T n)) : FnOk P w K mg base CX0 (5 * n + 5) T.f_are_parts T.d_are_parts ["thing", "depth"] (spParts T n) := by
  have TB := T.TB_are_parts
  refine T.D_are_parts.okT (k := 5 * n + 4) T.kc_are_parts sc_are_parts (fun vs H Q E h => ?_) (fun A outer s H vs Q E hr h => ?_)
  · obtain ⟨r, d, v, rfl, _⟩ := h
    rfl
  obtain ⟨r, d, v, rfl, hv, hp, htab, hQ⟩ := h
  refine ⟨_, (pss_cons (ps_if (PW.pt (pw_or (pt_not (pt_val (pe_callB call_isi (by rfl) T.b_isinstance (by decide +kernel) (pa_cons (pv 0) (pa_cons (pe_bltn (v := .ty "tuple") (u := .type "tuple") (by rfl) T.b_tuple (by decide +kernel) rfl) pa_nil))))) (pw_or1 (pt_cmpR op_gt (pe_callB (lenQ K rfl) (by rfl) T.b_len PySem.boot_len (pa_cons (pv 0) pa_nil)) (pe_glob rfl T.c_MOST_PARTS T.r_MOST_PARTS) (nomark _))))) (pss_one (ps_ret pe_bl)) pss_nil)
    (pss_one (ps_ret (pe_allG (own := [("part", 2)]) (g := gName 2) (k := 5 * n + 1) (hr.mono (by omega)) (by rfl) T.b_all sc_are_parts.nd TB rfl (piT K rfl (pv 0)) (blkOk_by (N := ["thing", "depth", "part"]) (sc := defScope s_are_parts) (own := [("part", 2)]) (by decide +kernel)) (by decide +kernel) rfl rfl (fun _ _ _ _ _ _ _ _ => (pg_name (i := 2) sc_are_parts.nd rfl (by first | exact Or.inl rfl | exact Or.inr rfl))) (fun _ _ _ _ _ _ _ _ hr => (pe_call G_is_expression (hr.mono (by first | omega | decide)) rfl T.D_is_expression.m T.D_is_expression.F.kp T.D_is_expression.b .nil pass0 (pa_cons (pv 2) (pa_cons (pv 1) pa_nil)))))))), ?_⟩
  refine ⟨_, rfl, _, _, _, _, _, rfl, .ty _, hv.ty, kitT d, _, rfl, ?_⟩
  cases d with
  | tuple xs =>
    obtain ⟨a, vs, rfl, ha, hs⟩ := hv.tupI
    rw [tame, tames_all, List.all_eq_true] at hp
    have hnm : partsB (exprB n) (.tuple xs) = (decide (xs.length ≤ 16) && xs.all (exprB n)) := rfl
    refine ite_f rfl ⟨_, rfl, _, _, rfl, .inr (SqT.of ha), _, _, rfl, rfl, _, rfl, ?_⟩
    by_cases c : xs.length ≤ 16
    · refine ite_f (decide_eq_false (by rw [hs.len]; omega)) ?_
      refine ⟨_, rfl, a, rfl, ⟨_, SqT.of ha⟩, htab.are_parts, fun H2 htb => all_tup (p := exprB n) ha hs (Ext.tab htab.are_parts htb) (fun i d x H' hd hx e' R hR => ?_) fun H' e' => ?_⟩
      · exact ⟨rfl, _, rfl, _, rfl, r, d, x, rfl, hx, hp d (List.mem_of_getElem? hd), htab.ext e', fun H4 e4 => hR H4 (e'.trans e4)⟩
      · have q := hQ H' e'
        rw [hnm, decide_eq_true c] at q
        exact q
    · refine ite_t (decide_eq_true (by rw [hs.len]; omega)) ?_
      have q := hQ H (Ext.refl H)
      rw [hnm, decide_eq_false c] at q
      exact q
  | _ => exact ite_t rfl (ite_t rfl (hQ H (Ext.refl H)))

end
end N_k01
namespace N_k01
open PySem PySem.Spec PyProof.Rows L2 GenW GE LB
section
variable {P : Program} {w : World} {K : PySem.W.Frag} {mg : Str → Option Value} {base : Heap} (T : Txt K mg base)
theorem ok_is_expression_step (IL : XR.ITab K w T.a_LENGTHS LENS) (G_is_name : FnOk P w K mg base CX0 4 T.f_is_name T.d_is_name ["thing"] (spName T)) (G_is_char_set : FnOk P w K mg base CX0 4 T.f_is_char_set T.d_is_char_set ["thing"] (spCSet T)) (G_is_char_text : FnOk P w K mg base CX0 4 T.f_is_char_text T.d_is_char_text ["thing"] (spCText T)) (n : Nat)
    (G_is_expression : FnOk P w K mg base CX0 (5 * n + 1) T.f_is_expression T.d_is_expression ["thing", "depth"] (spExpr T n)) (G_are_parts : FnOk P w K mg base CX0 (5 * n + 5) T.f_are_parts T.d_are_parts ["thing", "depth"] (spParts T n)) :
    FnOk P w K mg base CX0 (5 * n + 5 + 1) T.f_is_expression T.d_is_expression ["thing", "depth"] (spExpr T (n + 1)) := by
  refine T.D_is_expression.ok sc_is_expression (fun vs H Q E h => ?_) (fun cdv A outer s H vs Q E hr h => ?_)
  · obtain ⟨r, d, v, rfl, _⟩ := h
    rfl
  obtain ⟨r, d, v, rfl, hv, hp, htab, hQ⟩ := h
  refine ⟨_, (pss_cons (ps_if (PW.pt (pw_or (pt_cmpR op_eq (pv 1) pe_int (nomark _)) (pw_or (pt_not (pt_val (pe_callB call_isi (by rfl) T.b_isinstance (by decide +kernel) (pa_cons (pv 0) (pa_cons (pe_bltn (v := .ty "tuple") (u := .type "tuple") (by rfl) T.b_tuple (by decide +kernel) rfl) pa_nil))))) (pw_or1 (pt_cmpR op_eq (pe_callB (lenQ K rfl) (by rfl) T.b_len PySem.boot_len (pa_cons (pv 0) pa_nil)) pe_int (nomark _)))))) (pss_one (ps_ret pe_bl)) pss_nil)
    (pss_cons (ps_set (i := 2) sc_is_expression.nd rfl (by first | exact Or.inl rfl | exact Or.inr rfl) (pe_ix (ixT K rfl) (pv 0) pe_int (fun _ _ => rfl)))
    (pss_cons (ps_if (PW.pt (pw_or (pt_not (pt_val (pe_callB call_isi (by rfl) T.b_isinstance (by decide +kernel) (pa_cons (pv 2) (pa_cons (pe_bltn (v := .ty "str") (u := .type "str") (by rfl) T.b_str (by decide +kernel) rfl) pa_nil))))) (pw_or1 (pt_cmpR op_ne (XR.pe_kget2 IL (pe_glob rfl T.c_LENGTHS T.r_LENGTHS) (pv 2) pe_int ⟨rfl, rfl, rfl, rfl⟩) (pe_callB (lenQ K rfl) (by rfl) T.b_len PySem.boot_len (pa_cons (pv 0) pa_nil)) (nomark _))))) (pss_one (ps_ret pe_bl)) pss_nil)
    (pss_cons (ps_if (pt_cmpR (inQ K rfl) (pv 2) (pe_glob rfl T.c_LISTING T.r_LISTING) rfl) (pss_one (ps_ret (pe_call G_are_parts (hr.mono (by first | omega | decide)) rfl T.D_are_parts.m T.D_are_parts.F.kp T.D_are_parts.b .nil pass0 (pa_cons (pe_ix (ixT K rfl) (pv 0) pe_int (fun _ _ => rfl)) (pa_cons (pe_op op_sub (pv 1) pe_int) pa_nil))))) pss_nil)
    (pss_cons (ps_if (PW.pt (pw_and (pt_cmpR op_eq (pv 2) pe_str (nomark _)) (pw_and1 (pt_not (pt_val (pe_call G_is_name (hr.mono (by first | omega | decide)) rfl T.D_is_name.m T.D_is_name.F.kp T.D_is_name.b .nil pass0 (pa_cons (pe_ix (ixT K rfl) (pv 0) pe_int (fun _ _ => rfl)) pa_nil))))))) (pss_one (ps_ret pe_bl)) pss_nil)
    (pss_cons (ps_if (pt_cmpR (inQ K rfl) (pv 2) (pe_glob rfl T.c_WRAPPING T.r_WRAPPING) rfl) (pss_one (ps_ret (pe_call G_is_expression (hr.mono (by first | omega | decide)) rfl T.D_is_expression.m T.D_is_expression.F.kp T.D_is_expression.b .nil pass0 (pa_cons (pe_ix (ixT K rfl) (pv 0) (pe_un un_neg pe_int) (fun _ _ => rfl)) (pa_cons (pe_op op_sub (pv 1) pe_int) pa_nil))))) pss_nil)
    (pss_cons (ps_if (pt_cmpR op_eq (pv 2) pe_str (nomark _)) (pss_one (ps_ret (pe_call G_is_name (hr.mono (by first | omega | decide)) rfl T.D_is_name.m T.D_is_name.F.kp T.D_is_name.b .nil pass0 (pa_cons (pe_ix (ixT K rfl) (pv 0) pe_int (fun _ _ => rfl)) pa_nil)))) pss_nil)
    (pss_cons (ps_if (pt_cmpR op_eq (pv 2) pe_str (nomark _)) (pss_one (ps_ret (pe_call G_is_char_set (hr.mono (by first | omega | decide)) rfl T.D_is_char_set.m T.D_is_char_set.F.kp T.D_is_char_set.b .nil pass0 (pa_cons (pe_ix (ixT K rfl) (pv 0) pe_int (fun _ _ => rfl)) pa_nil)))) pss_nil)
    (pss_one (ps_ret (pe_or (pe_cmpR op_ne (pv 2) pe_str (nomark _)) (pe_one (pe_call G_is_char_text (hr.mono (by first | omega | decide)) rfl T.D_is_char_text.m T.D_is_char_text.F.kp T.D_is_char_text.b .nil pass0 (pa_cons (pe_ix (ixT K rfl) (pv 0) pe_int (fun _ _ => rfl)) pa_nil)))))))))))))), ?_⟩
  refine ⟨_, rfl, rfl, _, rfl, ite_f (decide_eq_false (fun q => by injection q; omega)) ⟨_, rfl, _, _, _, _, _, rfl, .ty _, hv.ty, kitT d, _, rfl, ?_⟩⟩
  cases d with
  | tuple xs =>
    obtain ⟨a, vs, rfl, ha, hs⟩ := hv.tupI
    rw [tame] at hp
    refine ite_f rfl ⟨_, rfl, _, _, rfl, .inr (SqT.of ha), rfl, _, rfl, ?_⟩
    cases xs with
    | nil =>
      cases hs.nilI
      exact ite_t rfl (hQ H (Ext.refl H))
    | cons d0 rest =>
    obtain ⟨v0, vr, rfl, hd0, hr0⟩ := hs.consI
    rw [tames, Bool.and_eq_true] at hp
    refine ite_f (decide_eq_false (fun q => by injection q with q; rw [List.length_cons] at q; omega)) ?_
    refine ⟨_, rfl, a, _, _, _, rfl, rfl, SqT.of ha, at0, _, rfl, _, _, _, _, _, rfl, .ty _, hd0.ty, kitS d0, _, rfl, ?_⟩
    cases d0 with
    | str h =>
      cases hd0.strI
      have hrl := hr0.len
      have hnm : exprB (n + 1) (.tuple (.str h :: rest)) = (decide ((LENS.lookup h).getD 0 = ((rest.length + 1 : Nat) : Int)) && bodyB (exprB n) h rest) := rfl
      refine ite_f rfl ⟨rfl, _, rfl, h, 0, rfl, rfl, _, rfl, _, _, rfl, .inr (SqT.of ha), rfl, _, rfl, ?_⟩
      by_cases c : (LENS.lookup h).getD 0 = ((rest.length + 1 : Nat) : Int)
      case neg =>
        refine ite_t ?_ ?_
        · rw [List.length_cons, hrl, decide_eq_false (fun q => c (by injection q))]; rfl
        · have q := hQ H (Ext.refl H)
          rw [hnm, decide_eq_false c] at q
          exact q
      refine ite_f (by rw [List.length_cons, hrl, decide_eq_true (by rw [c])]; rfl) ?_
      have fin : ∀ {Q : VK} {H' : Hp}, (∀ H', Ext H H' → Q (.bl (exprB (n + 1) (.tuple (.str h :: rest)))) H') → Ext H H' → Q (.bl (bodyB (exprB n) h rest)) H' := fun {Q H'} hQ e' => by
        have q := hQ H' e'
        rw [hnm, decide_eq_true c] at q
        exact q
      have hn1 : ∀ v : V, [v, V.int (((n + 1 : Nat) : Int) - 1)] = [v, V.int (n : Int)] := fun v => by rw [show (((n + 1 : Nat) : Int) - 1) = (n : Int) by omega]
      cases hl : LENS.lookup h with
      | none => rw [hl] at c; simp only [Option.getD_none] at c; omega
      | some i =>
      rw [hl] at c
      simp only [Option.getD_some] at c
      rcases LENS_cases hl with ⟨rfl, rfl⟩ | ⟨rfl, rfl⟩ | ⟨rfl, rfl⟩ | ⟨rfl, rfl⟩ | ⟨rfl, rfl⟩ | ⟨rfl, rfl⟩ | ⟨rfl, rfl⟩ | ⟨rfl, rfl⟩ | ⟨rfl, rfl⟩ | ⟨rfl, rfl⟩ | ⟨rfl, rfl⟩ | ⟨rfl, rfl⟩ | ⟨rfl, rfl⟩
      · -- eps
        obtain rfl : rest = [] := List.eq_nil_of_length_eq_zero (by omega)
        refine ⟨_, rfl, _, _, rfl, .inr (T.v_LISTING _), rfl, rfl, _, rfl, ite_f (by decide +kernel) ?_⟩
        refine ⟨_, rfl, rfl, _, rfl, ite_f (by decide +kernel) (ite_f rfl ?_)⟩
        refine ⟨_, rfl, _, _, rfl, .inr (T.v_WRAPPING _), rfl, rfl, _, rfl, ite_f (by decide +kernel) ?_⟩
        refine ⟨_, rfl, rfl, _, rfl, ite_f (by decide +kernel) ?_⟩
        refine ⟨_, rfl, rfl, _, rfl, ite_f (by decide +kernel) ?_⟩
        refine ⟨_, rfl, rfl, _, rfl, ite_t (by decide +kernel) ?_⟩
        exact hQ H (Ext.refl H)
      · -- fail
        obtain rfl : rest = [] := List.eq_nil_of_length_eq_zero (by omega)
        refine ⟨_, rfl, _, _, rfl, .inr (T.v_LISTING _), rfl, rfl, _, rfl, ite_f (by decide +kernel) ?_⟩
        refine ⟨_, rfl, rfl, _, rfl, ite_f (by decide +kernel) (ite_f rfl ?_)⟩
        refine ⟨_, rfl, _, _, rfl, .inr (T.v_WRAPPING _), rfl, rfl, _, rfl, ite_f (by decide +kernel) ?_⟩
        refine ⟨_, rfl, rfl, _, rfl, ite_f (by decide +kernel) ?_⟩
        refine ⟨_, rfl, rfl, _, rfl, ite_f (by decide +kernel) ?_⟩
        refine ⟨_, rfl, rfl, _, rfl, ite_t (by decide +kernel) ?_⟩
        exact hQ H (Ext.refl H)
      · -- any
        obtain rfl : rest = [] := List.eq_nil_of_length_eq_zero (by omega)
        refine ⟨_, rfl, _, _, rfl, .inr (T.v_LISTING _), rfl, rfl, _, rfl, ite_f (by decide +kernel) ?_⟩
        refine ⟨_, rfl, rfl, _, rfl, ite_f (by decide +kernel) (ite_f rfl ?_)⟩
        refine ⟨_, rfl, _, _, rfl, .inr (T.v_WRAPPING _), rfl, rfl, _, rfl, ite_f (by decide +kernel) ?_⟩
        refine ⟨_, rfl, rfl, _, rfl, ite_f (by decide +kernel) ?_⟩
        refine ⟨_, rfl, rfl, _, rfl, ite_f (by decide +kernel) ?_⟩
        refine ⟨_, rfl, rfl, _, rfl, ite_t (by decide +kernel) ?_⟩
        exact hQ H (Ext.refl H)
      · -- set
        obtain ⟨d1, rfl⟩ := List.length_eq_one_iff.mp (by omega : rest.length = 1)
        obtain ⟨v1, vr1, rfl, hd1, hr1⟩ := hr0.consI
        cases hr1.nilI
        have hp1 := hp.2
        rw [tames, tames, Bool.and_true] at hp1
        refine ⟨_, rfl, _, _, rfl, .inr (T.v_LISTING _), rfl, rfl, _, rfl, ite_f (by decide +kernel) ?_⟩
        refine ⟨_, rfl, rfl, _, rfl, ite_f (by decide +kernel) (ite_f rfl ?_)⟩
        refine ⟨_, rfl, _, _, rfl, .inr (T.v_WRAPPING _), rfl, rfl, _, rfl, ite_f (by decide +kernel) ?_⟩
        refine ⟨_, rfl, rfl, _, rfl, ite_f (by decide +kernel) ?_⟩
        refine ⟨_, rfl, rfl, _, rfl, ite_t (by decide +kernel) ⟨_, rfl, a, _, _, _, rfl, rfl, SqT.of ha, at1, r, d1, v1, rfl, hd1, hp1, htab, fun H' e' => ?_⟩⟩
        exact fin hQ e'
      · -- text
        obtain ⟨d1, rfl⟩ := List.length_eq_one_iff.mp (by omega : rest.length = 1)
        obtain ⟨v1, vr1, rfl, hd1, hr1⟩ := hr0.consI
        cases hr1.nilI
        have hp1 := hp.2
        rw [tames, tames, Bool.and_true] at hp1
        refine ⟨_, rfl, _, _, rfl, .inr (T.v_LISTING _), rfl, rfl, _, rfl, ite_f (by decide +kernel) ?_⟩
        refine ⟨_, rfl, rfl, _, rfl, ite_f (by decide +kernel) (ite_f rfl ?_)⟩
        refine ⟨_, rfl, _, _, rfl, .inr (T.v_WRAPPING _), rfl, rfl, _, rfl, ite_f (by decide +kernel) ?_⟩
        refine ⟨_, rfl, rfl, _, rfl, ite_f (by decide +kernel) ?_⟩
        refine ⟨_, rfl, rfl, _, rfl, ite_f (by decide +kernel) ?_⟩
        refine ⟨_, rfl, rfl, _, rfl, ite_f (by decide +kernel) ⟨_, rfl, a, _, _, _, rfl, rfl, SqT.of ha, at1, r, d1, v1, rfl, hd1, hp1, htab, fun H' e' => ?_⟩⟩
        exact fin hQ e'
      · -- seq
        obtain ⟨d1, rfl⟩ := List.length_eq_one_iff.mp (by omega : rest.length = 1)
        obtain ⟨v1, vr1, rfl, hd1, hr1⟩ := hr0.consI
        cases hr1.nilI
        have hp1 := hp.2
        rw [tames, tames, Bool.and_true] at hp1
        refine ⟨_, rfl, _, _, rfl, .inr (T.v_LISTING _), rfl, rfl, _, rfl, ite_t (by decide +kernel) ?_⟩
        refine ⟨_, rfl, a, _, _, _, rfl, rfl, SqT.of ha, at1, _, rfl, _, _, rfl, rfl, r, d1, v1, hn1 _, hd1, hp1, htab, fun H' e' => ?_⟩
        exact fin hQ e'
      · -- alt
        obtain ⟨d1, rfl⟩ := List.length_eq_one_iff.mp (by omega : rest.length = 1)
        obtain ⟨v1, vr1, rfl, hd1, hr1⟩ := hr0.consI
        cases hr1.nilI
        have hp1 := hp.2
        rw [tames, tames, Bool.and_true] at hp1
        refine ⟨_, rfl, _, _, rfl, .inr (T.v_LISTING _), rfl, rfl, _, rfl, ite_t (by decide +kernel) ?_⟩
        refine ⟨_, rfl, a, _, _, _, rfl, rfl, SqT.of ha, at1, _, rfl, _, _, rfl, rfl, r, d1, v1, hn1 _, hd1, hp1, htab, fun H' e' => ?_⟩
        exact fin hQ e'
      · -- star
        obtain ⟨d1, rfl⟩ := List.length_eq_one_iff.mp (by omega : rest.length = 1)
        obtain ⟨v1, vr1, rfl, hd1, hr1⟩ := hr0.consI
        cases hr1.nilI
        have hp1 := hp.2
        rw [tames, tames, Bool.and_true] at hp1
        refine ⟨_, rfl, _, _, rfl, .inr (T.v_LISTING _), rfl, rfl, _, rfl, ite_f (by decide +kernel) ?_⟩
        refine ⟨_, rfl, rfl, _, rfl, ite_f (by decide +kernel) (ite_f rfl ?_)⟩
        refine ⟨_, rfl, _, _, rfl, .inr (T.v_WRAPPING _), rfl, rfl, _, rfl, ite_t (by decide +kernel) ?_⟩
        refine ⟨_, rfl, _, rfl, a, _, _, v1, rfl, rfl, SqT.of ha, rfl, _, rfl, _, _, rfl, rfl, r, d1, v1, hn1 _, hd1, hp1, htab, fun H' e' => ?_⟩
        exact fin hQ e'
      · -- opt
        obtain ⟨d1, rfl⟩ := List.length_eq_one_iff.mp (by omega : rest.length = 1)
        obtain ⟨v1, vr1, rfl, hd1, hr1⟩ := hr0.consI
        cases hr1.nilI
        have hp1 := hp.2
        rw [tames, tames, Bool.and_true] at hp1
        refine ⟨_, rfl, _, _, rfl, .inr (T.v_LISTING _), rfl, rfl, _, rfl, ite_f (by decide +kernel) ?_⟩
        refine ⟨_, rfl, rfl, _, rfl, ite_f (by decide +kernel) (ite_f rfl ?_)⟩
        refine ⟨_, rfl, _, _, rfl, .inr (T.v_WRAPPING _), rfl, rfl, _, rfl, ite_t (by decide +kernel) ?_⟩
        refine ⟨_, rfl, _, rfl, a, _, _, v1, rfl, rfl, SqT.of ha, rfl, _, rfl, _, _, rfl, rfl, r, d1, v1, hn1 _, hd1, hp1, htab, fun H' e' => ?_⟩
        exact fin hQ e'
      · -- not
        obtain ⟨d1, rfl⟩ := List.length_eq_one_iff.mp (by omega : rest.length = 1)
        obtain ⟨v1, vr1, rfl, hd1, hr1⟩ := hr0.consI
        cases hr1.nilI
        have hp1 := hp.2
        rw [tames, tames, Bool.and_true] at hp1
        refine ⟨_, rfl, _, _, rfl, .inr (T.v_LISTING _), rfl, rfl, _, rfl, ite_f (by decide +kernel) ?_⟩
        refine ⟨_, rfl, rfl, _, rfl, ite_f (by decide +kernel) (ite_f rfl ?_)⟩
        refine ⟨_, rfl, _, _, rfl, .inr (T.v_WRAPPING _), rfl, rfl, _, rfl, ite_t (by decide +kernel) ?_⟩
        refine ⟨_, rfl, _, rfl, a, _, _, v1, rfl, rfl, SqT.of ha, rfl, _, rfl, _, _, rfl, rfl, r, d1, v1, hn1 _, hd1, hp1, htab, fun H' e' => ?_⟩
        exact fin hQ e'
      · -- and
        obtain ⟨d1, rfl⟩ := List.length_eq_one_iff.mp (by omega : rest.length = 1)
        obtain ⟨v1, vr1, rfl, hd1, hr1⟩ := hr0.consI
        cases hr1.nilI
        have hp1 := hp.2
        rw [tames, tames, Bool.and_true] at hp1
        refine ⟨_, rfl, _, _, rfl, .inr (T.v_LISTING _), rfl, rfl, _, rfl, ite_f (by decide +kernel) ?_⟩
        refine ⟨_, rfl, rfl, _, rfl, ite_f (by decide +kernel) (ite_f rfl ?_)⟩
        refine ⟨_, rfl, _, _, rfl, .inr (T.v_WRAPPING _), rfl, rfl, _, rfl, ite_t (by decide +kernel) ?_⟩
        refine ⟨_, rfl, _, rfl, a, _, _, v1, rfl, rfl, SqT.of ha, rfl, _, rfl, _, _, rfl, rfl, r, d1, v1, hn1 _, hd1, hp1, htab, fun H' e' => ?_⟩
        exact fin hQ e'
      · -- call
        obtain ⟨d1, rfl⟩ := List.length_eq_one_iff.mp (by omega : rest.length = 1)
        obtain ⟨v1, vr1, rfl, hd1, hr1⟩ := hr0.consI
        cases hr1.nilI
        have hp1 := hp.2
        rw [tames, tames, Bool.and_true] at hp1
        refine ⟨_, rfl, _, _, rfl, .inr (T.v_LISTING _), rfl, rfl, _, rfl, ite_f (by decide +kernel) ?_⟩
        refine ⟨_, rfl, rfl, _, rfl, ite_f (by decide +kernel) (ite_f rfl ?_)⟩
        refine ⟨_, rfl, _, _, rfl, .inr (T.v_WRAPPING _), rfl, rfl, _, rfl, ite_f (by decide +kernel) ?_⟩
        refine ⟨_, rfl, rfl, _, rfl, ite_t (by decide +kernel) ⟨_, rfl, a, _, _, _, rfl, rfl, SqT.of ha, at1, r, d1, v1, rfl, hd1, hp1, htab, fun H' e' => ?_⟩⟩
        exact fin hQ e'
      · -- mark
        obtain ⟨d1, rest2, rfl⟩ : ∃ d1 rest2, rest = d1 :: rest2 := by
          cases rest with
          | nil => simp at c
          | cons x y => exact ⟨x, y, rfl⟩
        obtain ⟨d2, rfl⟩ := List.length_eq_one_iff.mp (by rw [List.length_cons] at c; omega : rest2.length = 1)
        obtain ⟨v1, vr1, rfl, hd1, hr1⟩ := hr0.consI
        obtain ⟨v2, vr2, rfl, hd2, hr2⟩ := hr1.consI
        cases hr2.nilI
        have hp1 := hp.2
        rw [tames, tames, tames, Bool.and_true, Bool.and_eq_true] at hp1
        refine ⟨_, rfl, _, _, rfl, .inr (T.v_LISTING _), rfl, rfl, _, rfl, ite_f (by decide +kernel) ?_⟩
        refine ⟨_, rfl, rfl, _, rfl, ite_t (by decide +kernel) ⟨_, rfl, a, _, _, _, rfl, rfl, SqT.of ha, at1, r, d1, v1, rfl, hd1, hp1.1, htab, fun H1 e1 => ⟨_, rfl, ?_⟩⟩⟩
        cases cn : nameB d1 with
        | false =>
          refine ite_t rfl ?_
          have q := hQ H1 e1
          rw [show exprB (n + 1) (.tuple [.str "mark", d1, d2]) = (nameB d1 && exprB n d2) from rfl, cn] at q
          exact q
        | true =>
          refine ite_f rfl ?_
          refine ⟨_, rfl, _, _, rfl, .inr (T.v_WRAPPING _), rfl, rfl, _, rfl, ite_t (by decide +kernel) ?_⟩
          refine ⟨_, rfl, _, rfl, a, _, _, v2, rfl, rfl, SqT.of (e1.tup ha), rfl, _, rfl, _, _, rfl, rfl, r, d2, v2, hn1 _, hd2.mono e1, hp1.2, htab.ext e1, fun H2 e2 => ?_⟩
          have q := hQ H2 (e1.trans e2)
          rw [show exprB (n + 1) (.tuple [.str "mark", d1, d2]) = (nameB d1 && exprB n d2) from rfl, cn] at q
          exact q
    | _ => exact ite_t rfl (ite_t rfl (hQ H (Ext.refl H)))
  | _ => exact ite_t rfl (ite_t rfl (hQ H (Ext.refl H)))
theorem ok_is_expression_zero (IL : XR.ITab K w T.a_LENGTHS LENS) : FnOk P w K mg base CX0 1 T.f_is_expression T.d_is_expression ["thing", "depth"] (spExpr T 0) := by
  refine T.D_is_expression.ok (k := 0) sc_is_expression (fun vs H Q E h => ?_) (fun cdv A outer s H vs Q E hr h => ?_)
  · obtain ⟨r, d, v, rfl, _⟩ := h
    rfl
  obtain ⟨r, d, v, rfl, hv, hp, htab, hQ⟩ := h
  have no : ∀ {f : Addr} {fd : FuncData} {ps : List Str}, FnOk P w K mg base CX0 0 f fd ps (fun vs _ _ _ => False) := fun {f fd ps} => ⟨fun vs H Q E h => h.elim, fun A outer s H args us vs Q E _ _ _ _ h => h.elim⟩
  have G_is_name := no (f := T.f_is_name) (fd := T.d_is_name) (ps := ["thing"])
  have G_is_char_set := no (f := T.f_is_char_set) (fd := T.d_is_char_set) (ps := ["thing"])
  have G_is_char_text := no (f := T.f_is_char_text) (fd := T.d_is_char_text) (ps := ["thing"])
  have G_is_expression := no (f := T.f_is_expression) (fd := T.d_is_expression) (ps := ["thing", "depth"])
  have G_are_parts := no (f := T.f_are_parts) (fd := T.d_are_parts) (ps := ["thing", "depth"])
  refine ⟨_, (pss_cons (ps_if (PW.pt (pw_or (pt_cmpR op_eq (pv 1) pe_int (nomark _)) (pw_or (pt_not (pt_val (pe_callB call_isi (by rfl) T.b_isinstance (by decide +kernel) (pa_cons (pv 0) (pa_cons (pe_bltn (v := .ty "tuple") (u := .type "tuple") (by rfl) T.b_tuple (by decide +kernel) rfl) pa_nil))))) (pw_or1 (pt_cmpR op_eq (pe_callB (lenQ K rfl) (by rfl) T.b_len PySem.boot_len (pa_cons (pv 0) pa_nil)) pe_int (nomark _)))))) (pss_one (ps_ret pe_bl)) pss_nil)
    (pss_cons (ps_set (i := 2) sc_is_expression.nd rfl (by first | exact Or.inl rfl | exact Or.inr rfl) (pe_ix (ixT K rfl) (pv 0) pe_int (fun _ _ => rfl)))
    (pss_cons (ps_if (PW.pt (pw_or (pt_not (pt_val (pe_callB call_isi (by rfl) T.b_isinstance (by decide +kernel) (pa_cons (pv 2) (pa_cons (pe_bltn (v := .ty "str") (u := .type "str") (by rfl) T.b_str (by decide +kernel) rfl) pa_nil))))) (pw_or1 (pt_cmpR op_ne (XR.pe_kget2 IL (pe_glob rfl T.c_LENGTHS T.r_LENGTHS) (pv 2) pe_int ⟨rfl, rfl, rfl, rfl⟩) (pe_callB (lenQ K rfl) (by rfl) T.b_len PySem.boot_len (pa_cons (pv 0) pa_nil)) (nomark _))))) (pss_one (ps_ret pe_bl)) pss_nil)
    (pss_cons (ps_if (pt_cmpR (inQ K rfl) (pv 2) (pe_glob rfl T.c_LISTING T.r_LISTING) rfl) (pss_one (ps_ret (pe_call G_are_parts (hr.mono (by first | omega | decide)) rfl T.D_are_parts.m T.D_are_parts.F.kp T.D_are_parts.b .nil pass0 (pa_cons (pe_ix (ixT K rfl) (pv 0) pe_int (fun _ _ => rfl)) (pa_cons (pe_op op_sub (pv 1) pe_int) pa_nil))))) pss_nil)
    (pss_cons (ps_if (PW.pt (pw_and (pt_cmpR op_eq (pv 2) pe_str (nomark _)) (pw_and1 (pt_not (pt_val (pe_call G_is_name (hr.mono (by first | omega | decide)) rfl T.D_is_name.m T.D_is_name.F.kp T.D_is_name.b .nil pass0 (pa_cons (pe_ix (ixT K rfl) (pv 0) pe_int (fun _ _ => rfl)) pa_nil))))))) (pss_one (ps_ret pe_bl)) pss_nil)
    (pss_cons (ps_if (pt_cmpR (inQ K rfl) (pv 2) (pe_glob rfl T.c_WRAPPING T.r_WRAPPING) rfl) (pss_one (ps_ret (pe_call G_is_expression (hr.mono (by first | omega | decide)) rfl T.D_is_expression.m T.D_is_expression.F.kp T.D_is_expression.b .nil pass0 (pa_cons (pe_ix (ixT K rfl) (pv 0) (pe_un un_neg pe_int) (fun _ _ => rfl)) (pa_cons (pe_op op_sub (pv 1) pe_int) pa_nil))))) pss_nil)
    (pss_cons (ps_if (pt_cmpR op_eq (pv 2) pe_str (nomark _)) (pss_one (ps_ret (pe_call G_is_name (hr.mono (by first | omega | decide)) rfl T.D_is_name.m T.D_is_name.F.kp T.D_is_name.b .nil pass0 (pa_cons (pe_ix (ixT K rfl) (pv 0) pe_int (fun _ _ => rfl)) pa_nil)))) pss_nil)
    (pss_cons (ps_if (pt_cmpR op_eq (pv 2) pe_str (nomark _)) (pss_one (ps_ret (pe_call G_is_char_set (hr.mono (by first | omega | decide)) rfl T.D_is_char_set.m T.D_is_char_set.F.kp T.D_is_char_set.b .nil pass0 (pa_cons (pe_ix (ixT K rfl) (pv 0) pe_int (fun _ _ => rfl)) pa_nil)))) pss_nil)
    (pss_one (ps_ret (pe_or (pe_cmpR op_ne (pv 2) pe_str (nomark _)) (pe_one (pe_call G_is_char_text (hr.mono (by first | omega | decide)) rfl T.D_is_char_text.m T.D_is_char_text.F.kp T.D_is_char_text.b .nil pass0 (pa_cons (pe_ix (ixT K rfl) (pv 0) pe_int (fun _ _ => rfl)) pa_nil)))))))))))))), ?_⟩
  exact ⟨_, rfl, rfl, _, rfl, ite_t (decide_eq_true rfl) (ite_t rfl (hQ H (Ext.refl H)))⟩
theorem ok_is_expression (IL : XR.ITab K w T.a_LENGTHS LENS) (G_is_name : FnOk P w K mg base CX0 4 T.f_is_name T.d_is_name ["thing"] (spName T)) (G_is_char_set : FnOk P w K mg base CX0 4 T.f_is_char_set T.d_is_char_set ["thing"] (spCSet T)) (G_is_char_text : FnOk P w K mg base CX0 4 T.f_is_char_text T.d_is_char_text ["thing"] (spCText T))
    (G_are_parts : ∀ n, FnOk P w K mg base CX0 (5 * n + 1) T.f_is_expression T.d_is_expression ["thing", "depth"] (spExpr T n) → FnOk P w K mg base CX0 (5 * n + 5) T.f_are_parts T.d_are_parts ["thing", "depth"] (spParts T n)) : ∀ n : Nat, FnOk P w K mg base CX0 (5 * n + 1) T.f_is_expression T.d_is_expression ["thing", "depth"] (spExpr T n)
  | 0 => ok_is_expression_zero T IL
  | n + 1 => ok_is_expression_step T IL G_is_name G_is_char_set G_is_char_text n (ok_is_expression IL G_is_name G_is_char_set G_is_char_text G_are_parts n) (G_are_parts n (ok_is_expression IL G_is_name G_is_char_set G_is_char_text G_are_parts n))

end
end N_k01
namespace N_k01
open PySem PySem.Spec PyProof.Rows L2 GenW GE LB
section
variable {P : Program} {w : World} {K : PySem.W.Frag} {mg : Str → Option Value} {base : Heap} (T : Txt K mg base)
theorem ok_is_rule (G_is_name : FnOk P w K mg base CX0 4 T.f_is_name T.d_is_name ["thing"] (spName T)) (G_is_expression : FnOk P w K mg base CX0 61 T.f_is_expression T.d_is_expression ["thing", "depth"] (spExpr T 12)) :
    FnOk P w K mg base CX0 62 T.f_is_rule T.d_is_rule ["thing"] (spRule T) := by
  refine T.D_is_rule.ok sc_is_rule (fun vs H Q E h => ?_) (fun cdv A outer s H vs Q E hr h => ?_)
  · obtain ⟨r, d, v, rfl, _⟩ := h
    rfl
  obtain ⟨r, d, v, rfl, hv, hp, htab, hQ⟩ := h
  refine ⟨_, (pss_cons (ps_if (PW.pt (pw_or (pt_not (pt_val (pe_callB call_isi (by rfl) T.b_isinstance (by decide +kernel) (pa_cons (pv 0) (pa_cons (pe_bltn (v := .ty "tuple") (u := .type "tuple") (by rfl) T.b_tuple (by decide +kernel) rfl) pa_nil))))) (pw_or1 (pt_cmpR op_ne (pe_callB (lenQ K rfl) (by rfl) T.b_len PySem.boot_len (pa_cons (pv 0) pa_nil)) pe_int (nomark _))))) (pss_one (ps_ret pe_bl)) pss_nil)
    (pss_one (ps_ret (pe_and (pe_call G_is_name (hr.mono (by first | omega | decide)) rfl T.D_is_name.m T.D_is_name.F.kp T.D_is_name.b .nil pass0 (pa_cons (pe_ix (ixT K rfl) (pv 0) pe_int (fun _ _ => rfl)) pa_nil)) (pe_one (pe_call G_is_expression (hr.mono (by first | omega | decide)) rfl T.D_is_expression.m T.D_is_expression.F.kp T.D_is_expression.b .nil pass0 (pa_cons (pe_ix (ixT K rfl) (pv 0) pe_int (fun _ _ => rfl)) (pa_cons (pe_glob rfl T.c_MOST_DEPTH T.r_MOST_DEPTH) pa_nil)))))))), ?_⟩
  refine ⟨_, rfl, _, _, _, _, _, rfl, .ty _, hv.ty, kitT d, _, rfl, ?_⟩
  cases d with
  | tuple xs =>
    obtain ⟨a, vs, rfl, ha, hs⟩ := hv.tupI
    rw [tame] at hp
    have hl := hs.len
    refine ite_f rfl ⟨_, rfl, _, _, rfl, .inr (SqT.of ha), rfl, _, rfl, ?_⟩
    match xs, hs, hp, hl, hQ with
    | [], hs, hp, hl, hQ => exact ite_t (by rw [hl]; rfl) (hQ H (Ext.refl H))
    | [_], hs, hp, hl, hQ => exact ite_t (by rw [hl]; rfl) (hQ H (Ext.refl H))
    | x :: y :: z :: l, hs, hp, hl, hQ => exact ite_t (by rw [decide_eq_false (fun q => by injection q with q; rw [hl] at q; simp only [List.length_cons] at q; omega)]; rfl) (hQ H (Ext.refl H))
    | [d0, d1], hs, hp, hl, hQ =>
      obtain ⟨v0, vr, rfl, hd0, hr0⟩ := hs.consI
      obtain ⟨v1, vr, rfl, hd1, hr1⟩ := hr0.consI
      cases hr1.nilI
      rw [tames, tames, tames, Bool.and_true, Bool.and_eq_true] at hp
      have hnm : ruleB (.tuple [d0, d1]) = (nameB d0 && exprB 12 d1) := rfl
      refine ite_f rfl ?_
      refine ⟨_, rfl, a, _, _, _, rfl, rfl, SqT.of ha, at0, r, d0, v0, rfl, hd0, hp.1, htab, fun H1 e1 => ⟨_, rfl, ?_⟩⟩
      refine ite2 (fun c => ?_) (fun c => ?_)
      · refine ⟨_, rfl, a, _, _, _, rfl, rfl, SqT.of (e1.tup ha), at1, r, d1, v1, rfl, hd1.mono e1, hp.2, htab.ext e1, fun H2 e2 => ?_⟩
        have q := hQ H2 (e1.trans e2)
        rw [hnm, c] at q
        exact q
      · have q := hQ H1 e1
        rw [hnm, show nameB d0 = false by simpa using c] at q
        exact q
  | _ => exact ite_t rfl (ite_t rfl (hQ H (Ext.refl H)))

end
end N_k01
namespace N_k01
open PySem PySem.Spec PyProof.Rows L2 GenW GE LB
section
variable {P : Program} {w : World} {K : PySem.W.Frag} {mg : Str → Option Value} {base : Heap} (T : Txt K mg base)
theorem ok_is_grammar (G_is_rule : FnOk P w K mg base CX0 62 T.f_is_rule T.d_is_rule ["thing"] (spRule T)) :
    FnOk P w K mg base CX0 66 T.f_is_grammar T.d_is_grammar ["thing"] (spGram T) := by
  have TB := T.TB_is_grammar
  refine T.D_is_grammar.okT (k := 65) T.kc_is_grammar sc_is_grammar (fun vs H Q E h => ?_) (fun A outer s H vs Q E hr h => ?_)
  · obtain ⟨r, d, v, rfl, _⟩ := h
    rfl
  obtain ⟨r, d, v, rfl, hv, hp, htab, hQ⟩ := h
  refine ⟨_, (pss_cons (ps_if (PW.pt (pw_or (pt_not (pt_val (pe_callB call_isi (by rfl) T.b_isinstance (by decide +kernel) (pa_cons (pv 0) (pa_cons (pe_bltn (v := .ty "tuple") (u := .type "tuple") (by rfl) T.b_tuple (by decide +kernel) rfl) pa_nil))))) (pw_or1 (pt_not (pt_chain op_le op_le pe_int (pe_callB (lenQ K rfl) (by rfl) T.b_len PySem.boot_len (pa_cons (pv 0) pa_nil)) (pe_glob rfl T.c_MOST_RULES T.r_MOST_RULES)))))) (pss_one (ps_ret pe_bl)) pss_nil)
    (pss_cons (ps_if (pt_not (pt_val (pe_allG (own := [("rule", 1)]) (g := gName 1) (k := 62) (hr.mono (by omega)) (by rfl) T.b_all sc_is_grammar.nd TB rfl (piT K rfl (pv 0)) (blkOk_by (N := ["thing", "rule"]) (sc := defScope s_is_grammar) (own := [("rule", 1)]) (by decide +kernel)) (by decide +kernel) rfl rfl (fun _ _ _ _ _ _ _ _ => (pg_name (i := 1) sc_is_grammar.nd rfl (by first | exact Or.inl rfl | exact Or.inr rfl))) (fun _ _ _ _ _ _ _ _ hr => (pe_call G_is_rule (hr.mono (by first | omega | decide)) rfl T.D_is_rule.m T.D_is_rule.F.kp T.D_is_rule.b .nil pass0 (pa_cons (pv 1) pa_nil)))))) (pss_one (ps_ret pe_bl)) pss_nil)
    (pss_one (ps_ret (pe_cmpR op_eq (pe_callB XS.call_lenK (by rfl) T.b_len PySem.boot_len (pa_cons (XS.pe_scK (own := [("rule", 1)]) (g := gName 1) rfl sc_is_grammar.nd (piT K rfl (pv 0)) (blkOk_by (N := ["thing", "rule"]) (sc := defScope s_is_grammar) (own := [("rule", 1)]) (by decide +kernel)) (fun _ _ _ _ _ => (pg_name (i := 1) sc_is_grammar.nd rfl (by first | exact Or.inl rfl | exact Or.inr rfl))) (fun _ _ _ _ _ => pts_nil) (fun _ _ _ _ _ => (pe_ix (ixT K rfl) (pv 1) pe_int (fun _ _ => rfl)))) pa_nil)) (pe_callB (lenQ K rfl) (by rfl) T.b_len PySem.boot_len (pa_cons (pv 0) pa_nil)) (nomark _)))))), ?_⟩
  refine ⟨_, rfl, _, _, _, _, _, rfl, .ty _, hv.ty, kitT d, _, rfl, ?_⟩
  cases d with
  | tuple xs =>
    obtain ⟨a, vs, rfl, ha, hs⟩ := hv.tupI
    rw [tame, tames_all, List.all_eq_true] at hp
    have hl := hs.len
    have hnm : gramB (.tuple xs) = (decide (1 ≤ (xs.length : Int)) && decide ((xs.length : Int) ≤ 16) && xs.all ruleB && decide (dsz (xs.map ruleName).reverse = xs.length)) := rfl
    refine ite_f rfl ⟨_, rfl, _, _, rfl, .inr (SqT.of ha), _, _, rfl, rfl, _, rfl, ?_⟩
    rw [hl]
    refine ite2 (fun c1 => ?_) (fun c1 => ?_)
    case refine_2 =>
      refine ⟨_, rfl, ite_t rfl ?_⟩
      have q := hQ H (Ext.refl H)
      rw [hnm, show decide (1 ≤ (xs.length : Int)) = false by simpa using c1, Bool.false_and, Bool.false_and, Bool.false_and] at q
      exact q
    refine ⟨_, _, rfl, rfl, _, rfl, ?_⟩
    cases c2 : decide ((xs.length : Int) ≤ 16) with
    | false =>
      refine ite_t rfl ?_
      have q := hQ H (Ext.refl H)
      rw [hnm, c2, Bool.and_false, Bool.false_and, Bool.false_and] at q
      exact q
    | true =>
      refine ite_f rfl ?_
      have h16 : (xs.length : Int) ≤ 16 := of_decide_eq_true c2
      refine ⟨_, rfl, a, rfl, ⟨_, SqT.of ha⟩, htab.is_grammar, fun H2 htb => all_tup (p := ruleB) ha hs (Ext.tab htab.is_grammar htb) (fun i d x H' hd hx e' R hR => ?_) fun H3 e3 => ?_⟩
      · exact ⟨rfl, _, rfl, r, d, x, rfl, hx, hp d (List.mem_of_getElem? hd), htab.ext e', fun H4 e4 => hR H4 (e'.trans e4)⟩
      refine ⟨_, rfl, ?_⟩
      cases c3 : xs.all ruleB with
      | false =>
        refine ite_t rfl ?_
        have q := hQ H3 e3
        rw [hnm, c3, Bool.and_false, Bool.false_and] at q
        exact q
      | true =>
        refine ite_f rfl ?_
        refine ⟨_, rfl, a, rfl, ⟨_, SqT.of (e3.tup ha)⟩, fun D hD => ?_⟩
        refine scK_tup (K := K) (a := a) (xs := vs) (fun i H' => Ext H3 H' ∧ H' D = some (SetK P w D (keyIn ((xs.map ruleName).take i)) (dsz ((xs.map ruleName).take i).reverse)))
          ⟨Ext.setAny hD (Ext.refl _), by rw [upd_same, List.take_zero, keyIn_nil]; rfl⟩ (fun i H' _ ⟨e', _⟩ => SqT.of (e'.tup (e3.tup ha))) (fun i x H' hx ⟨e', hS⟩ => ?_) (fun H' ⟨e', hS⟩ => ?_)
        · obtain ⟨d, hd, hdx⟩ := DLs.get' (hs.mono (e3.trans e')) hx
          obtain ⟨s, ex, rfl⟩ := rule_is (List.all_eq_true.mp c3 d (List.mem_of_getElem? hd))
          obtain ⟨ra, rv, rfl, hra, hrs⟩ := hdx.tupI
          obtain ⟨v0, vr, rfl, h0, _⟩ := hrs.consI
          cases h0.strI
          have hn : (xs.map ruleName)[i]? = some s := by rw [List.getElem?_map, hd]; rfl
          have htk : (xs.map ruleName).take (i + 1) = (xs.map ruleName).take i ++ [s] := by rw [List.take_add_one, hn]; rfl
          have hdl := dsz_le ((xs.map ruleName).take i).reverse
          have hdl2 : ((xs.map ruleName).take i).reverse.length ≤ 16 := by rw [List.length_reverse, List.length_take, List.length_map]; omega
          have hsb : dsz ((xs.map ruleName).take i).reverse + 1 < scanBound := by have := scan100; omega
          refine ⟨rfl, _, rfl, ra, _, _, _, rfl, rfl, SqT.of hra, at0, .inr s, _, _, rfl, hS, hsb, Ext.setAny hD e', ?_⟩
          rw [upd_same, htk, keyIn_add]
          have e6 : (if keyIn ((xs.map ruleName).take i) (.inr s) = true then dsz ((xs.map ruleName).take i).reverse else dsz ((xs.map ruleName).take i).reverse + 1) = dsz ((xs.map ruleName).take i ++ [s]).reverse := by
            rw [List.reverse_append, List.reverse_cons, List.reverse_nil, List.nil_append, List.singleton_append, dsz]
            rw [show keyIn ((xs.map ruleName).take i) (.inr s) = decide (s ∈ (xs.map ruleName).take i) from rfl]
            by_cases c : s ∈ (xs.map ruleName).take i
            · rw [if_pos (decide_eq_true c), if_pos (List.mem_reverse.mpr c)]; rfl
            · rw [if_neg (fun z => c (of_decide_eq_true z)), if_neg (fun z => c (List.mem_reverse.mp z))]
          rw [e6]
          rfl
        · have hlm : (xs.map ruleName).take vs.length = xs.map ruleName := List.take_of_length_le (by rw [List.length_map, hl]; exact Nat.le_refl _)
          rw [hlm] at hS
          refine ⟨D, _, _, rfl, hS, _, rfl, _, _, rfl, .inr (SqT.of (e'.tup (e3.tup ha))), rfl, ?_⟩
          have q := hQ H' (e3.trans e')
          rw [hnm, c1, c2, c3] at q
          rw [hl]
          have e5 : decide (V.int ((dsz (xs.map ruleName).reverse : Nat) : Int) = V.int (xs.length : Int)) = decide (dsz (xs.map ruleName).reverse = xs.length) := by
            by_cases c : dsz (xs.map ruleName).reverse = xs.length
            · rw [decide_eq_true c, c]; exact decide_eq_true rfl
            · rw [decide_eq_false c]; exact decide_eq_false fun z => c (by injection z with z; omega)
          rw [e5]
          exact q
  | _ => exact ite_t rfl (ite_t rfl (hQ H (Ext.refl H)))

end
end N_k01
namespace N_k01
open PySem PySem.Spec PyProof.Rows L2 GenW GE LB
section
variable {P : Program} {w : World} {K : PySem.W.Frag} {mg : Str → Option Value} {base : Heap} (T : Txt K mg base)
theorem ok_Invalid__init__ : FnOk P w K mg base CX0 1 T.f_Invalid__init__ T.d_Invalid__init__ ["self", "name"] (XC.spErr K "name") := by
  refine T.D_Invalid__init__.ok (k := 0) sc_Invalid__init__ (fun vs H Q E h => ?_) (fun cdv A outer s H vs Q E hr h => ?_)
  · obtain ⟨a, C, n, rfl, _⟩ := h
    rfl
  obtain ⟨a, C, n, rfl, hC, hf, ha, hn, hQ⟩ := h
  refine ⟨_, (pss_cons (ps_expr (XC.pe_oinit (by rfl) T.B_Refused.m T.B_Refused.R T.B_Refused.t T.B_Refused.V (pa_cons (pv 0) (pa_cons (pe_joined (.cons pe_str (.cons (pe_fmt (pv 1)) .nil))) pa_nil)))) (pss_one (ps_ost (pv 0) (pv 1)))), ?_⟩
  have hap : ∀ x y : Str, (x ++ y).length = x.length + y.length := fun x y => Array.size_append ..
  have h0 : Str.empty.length = 0 := rfl
  have h8 : ("invalid " : Str).length = 8 := by decide +kernel
  refine ⟨_, rfl, _, rfl, by rw [hap, h0, h8, sizeLine_eq]; omega, _, rfl, .inl ⟨n, rfl, by rw [sizeLine_eq]; omega, _, rfl, by rw [hap, hap, h0, h8, sizeLine_eq]; omega, ?_⟩⟩
  refine ⟨a, C, _, rfl, by simp, hC, ha, ?_⟩
  exact ⟨_, rfl, _, rfl, a, C, rfl, hC, hf, .inl ⟨ha, fun dx h1 h2 => hQ dx h1 h2⟩⟩

end
end N_k01
namespace N_k01
open PySem PySem.Spec PyProof.Rows L2 GenW GE LB
section
variable {P : Program} {w : World} {K : PySem.W.Frag} {mg : Str → Option Value} {base : Heap} (T : Txt K mg base)
theorem ok_checked (G_is_grammar : FnOk P w K mg base CX0 66 T.f_is_grammar T.d_is_grammar ["thing"] (spGram T)) (G_Invalid__init__ : FnOk P w K mg base CX0 1 T.f_Invalid__init__ T.d_Invalid__init__ ["self", "name"] (XC.spErr K "name")) :
    FnOk P w K mg base (CX P w) 67 T.f_checked T.d_checked ["thing"] (spChecked T) := by
  refine T.D_checked.F.ok sc_checked (fun vs H Q E h => ?_) (fun cdv A outer s H vs Q E hr h => ?_)
  · obtain ⟨r, d, v, rfl, _⟩ := h
    rfl
  obtain ⟨r, d, v, rfl, hv, hp, htab, hQ, hE⟩ := h
  refine ⟨_, (pss_cons (ps_if (pt_not (pt_val (pe_call G_is_grammar (hr.mono (by first | omega | decide)) rfl T.D_is_grammar.m T.D_is_grammar.F.kp T.D_is_grammar.b .nil pass0 (pa_cons (pv 0) pa_nil)))) (pss_one (ps_raise rfl (takes_of rfl rfl rfl rfl) (pmk_oex T.E_Invalid.oex T.E_Invalid.iC T.E_Invalid.tI G_Invalid__init__ (hr.mono (by first | omega | decide)) T.b_Invalid__init__ .nil pass0 (by rfl) T.E_Invalid.m (pa_cons pe_str pa_nil)))) pss_nil)
    (pss_one (ps_ret (pv 0)))), ?_⟩
  refine ⟨_, rfl, r, d, v, rfl, hv, hp, htab, fun H1 e1 => ⟨_, rfl, ?_⟩⟩
  cases c : gramB d with
  | true => exact ite_f rfl ⟨_, rfl, hQ c H1 e1⟩
  | false =>
    refine ite_t rfl ?_
    refine mk_err T.E_Invalid.oex T.E_Invalid.noN (by decide +kernel) fun x H2 e2 _ hx => ?_
    exact hE c x H2 (e1.trans e2) hx

end
end N_k01
namespace N_k01
open PySem PySem.Spec PyProof.Rows L2 GenW GE LB
section
variable {P : Program} {w : World} {K : PySem.W.Frag} {mg : Str → Option Value} {base : Heap} (T : Txt K mg base)
theorem ok_parts_of : FnOk P w K mg base CX0 1 T.f_parts_of T.d_parts_of ["expression"] spParts1 := by
  refine T.D_parts_of.ok (k := 0) sc_parts_of (fun vs H Q E h => ?_) (fun cdv A outer s H vs Q E hr h => ?_)
  · obtain ⟨e, v, rfl, _⟩ := h
    rfl
  obtain ⟨e, v, rfl, hv, hQ⟩ := h
  refine ⟨_, (pss_cons (ps_if (pt_cmpR (inQ K rfl) (pe_ix (ixT K rfl) (pv 0) pe_int (fun _ _ => rfl)) (pe_glob rfl T.c_LISTING T.r_LISTING) rfl) (pss_one (ps_ret (pe_callTy (listOf K rfl) (by rfl) T.b_list (by decide +kernel) (pa_cons (pe_ix (ixT K rfl) (pv 0) pe_int (fun _ _ => rfl)) pa_nil)))) pss_nil)
    (pss_cons (ps_if (pt_cmpR (inQ K rfl) (pe_ix (ixT K rfl) (pv 0) pe_int (fun _ _ => rfl)) (pe_glob rfl T.c_WRAPPING T.r_WRAPPING) rfl) (pss_one (ps_ret (pe_lst (pa_cons (pe_ix (ixT K rfl) (pv 0) (pe_un un_neg pe_int) (fun _ _ => rfl)) pa_nil)))) pss_nil)
    (pss_one (ps_ret (pe_lst pa_nil))))), ?_⟩
  have tup5 : (5 : Nat) ≤ sizeLine := by decide
  have one1 : (1 : Nat) ≤ sizeLine := by decide
  cases e with
  | eps =>
    obtain ⟨a, rfl, ha⟩ := hv.one
    refine ⟨_, rfl, a, _, _, _, rfl, rfl, SqT.of ha, at0, _, _, rfl, .inr (T.v_LISTING _), rfl, rfl, _, rfl, ite_f (by decide +kernel) ?_⟩
    refine ⟨_, rfl, a, _, _, _, rfl, rfl, SqT.of ha, at0, _, _, rfl, .inr (T.v_WRAPPING _), rfl, rfl, _, rfl, ite_f (by decide +kernel) ?_⟩
    exact ⟨Nat.zero_le _, fun q hq => hQ q _ _ ((Ext.refl H).trans (Ext.new hq _)) ((Ext.refl H).free hq) upd_same .nil⟩
  | fail =>
    obtain ⟨a, rfl, ha⟩ := hv.one
    refine ⟨_, rfl, a, _, _, _, rfl, rfl, SqT.of ha, at0, _, _, rfl, .inr (T.v_LISTING _), rfl, rfl, _, rfl, ite_f (by decide +kernel) ?_⟩
    refine ⟨_, rfl, a, _, _, _, rfl, rfl, SqT.of ha, at0, _, _, rfl, .inr (T.v_WRAPPING _), rfl, rfl, _, rfl, ite_f (by decide +kernel) ?_⟩
    exact ⟨Nat.zero_le _, fun q hq => hQ q _ _ ((Ext.refl H).trans (Ext.new hq _)) ((Ext.refl H).free hq) upd_same .nil⟩
  | any =>
    obtain ⟨a, rfl, ha⟩ := hv.one
    refine ⟨_, rfl, a, _, _, _, rfl, rfl, SqT.of ha, at0, _, _, rfl, .inr (T.v_LISTING _), rfl, rfl, _, rfl, ite_f (by decide +kernel) ?_⟩
    refine ⟨_, rfl, a, _, _, _, rfl, rfl, SqT.of ha, at0, _, _, rfl, .inr (T.v_WRAPPING _), rfl, rfl, _, rfl, ite_f (by decide +kernel) ?_⟩
    exact ⟨Nat.zero_le _, fun q hq => hQ q _ _ ((Ext.refl H).trans (Ext.new hq _)) ((Ext.refl H).free hq) upd_same .nil⟩
  | set z =>
    obtain ⟨a, u, rfl, ha, hu⟩ := hv.two
    refine ⟨_, rfl, a, _, _, _, rfl, rfl, SqT.of ha, at0, _, _, rfl, .inr (T.v_LISTING _), rfl, rfl, _, rfl, ite_f (by decide +kernel) ?_⟩
    refine ⟨_, rfl, a, _, _, _, rfl, rfl, SqT.of ha, at0, _, _, rfl, .inr (T.v_WRAPPING _), rfl, rfl, _, rfl, ite_f (by decide +kernel) ?_⟩
    exact ⟨Nat.zero_le _, fun q hq => hQ q _ _ ((Ext.refl H).trans (Ext.new hq _)) ((Ext.refl H).free hq) upd_same .nil⟩
  | text z =>
    obtain ⟨a, u, rfl, ha, hu⟩ := hv.two
    refine ⟨_, rfl, a, _, _, _, rfl, rfl, SqT.of ha, at0, _, _, rfl, .inr (T.v_LISTING _), rfl, rfl, _, rfl, ite_f (by decide +kernel) ?_⟩
    refine ⟨_, rfl, a, _, _, _, rfl, rfl, SqT.of ha, at0, _, _, rfl, .inr (T.v_WRAPPING _), rfl, rfl, _, rfl, ite_f (by decide +kernel) ?_⟩
    exact ⟨Nat.zero_le _, fun q hq => hQ q _ _ ((Ext.refl H).trans (Ext.new hq _)) ((Ext.refl H).free hq) upd_same .nil⟩
  | call z =>
    obtain ⟨a, u, rfl, ha, hu⟩ := hv.two
    refine ⟨_, rfl, a, _, _, _, rfl, rfl, SqT.of ha, at0, _, _, rfl, .inr (T.v_LISTING _), rfl, rfl, _, rfl, ite_f (by decide +kernel) ?_⟩
    refine ⟨_, rfl, a, _, _, _, rfl, rfl, SqT.of ha, at0, _, _, rfl, .inr (T.v_WRAPPING _), rfl, rfl, _, rfl, ite_f (by decide +kernel) ?_⟩
    exact ⟨Nat.zero_le _, fun q hq => hQ q _ _ ((Ext.refl H).trans (Ext.new hq _)) ((Ext.refl H).free hq) upd_same .nil⟩
  | seq es =>
    obtain ⟨a, u, rfl, ha, hu⟩ := hv.two
    obtain ⟨b, vs, rfl, hb, hs⟩ := hu.tupI
    refine ⟨_, rfl, a, _, _, _, rfl, rfl, SqT.of ha, at0, _, _, rfl, .inr (T.v_LISTING _), rfl, rfl, _, rfl, ite_t (by decide +kernel) ?_⟩
    exact ⟨_, rfl, a, _, _, _, rfl, rfl, SqT.of ha, at1, b, vs, rfl, .inr (SqT.of hb), fun q hq => hQ q _ _ (Ext.new hq _) hq upd_same (hs.mono (Ext.new hq _))⟩
  | alt es =>
    obtain ⟨a, u, rfl, ha, hu⟩ := hv.two
    obtain ⟨b, vs, rfl, hb, hs⟩ := hu.tupI
    refine ⟨_, rfl, a, _, _, _, rfl, rfl, SqT.of ha, at0, _, _, rfl, .inr (T.v_LISTING _), rfl, rfl, _, rfl, ite_t (by decide +kernel) ?_⟩
    exact ⟨_, rfl, a, _, _, _, rfl, rfl, SqT.of ha, at1, b, vs, rfl, .inr (SqT.of hb), fun q hq => hQ q _ _ (Ext.new hq _) hq upd_same (hs.mono (Ext.new hq _))⟩
  | star e =>
    obtain ⟨a, u, rfl, ha, hu⟩ := hv.two
    refine ⟨_, rfl, a, _, _, _, rfl, rfl, SqT.of ha, at0, _, _, rfl, .inr (T.v_LISTING _), rfl, rfl, _, rfl, ite_f (by decide +kernel) ?_⟩
    refine ⟨_, rfl, a, _, _, _, rfl, rfl, SqT.of ha, at0, _, _, rfl, .inr (T.v_WRAPPING _), rfl, rfl, _, rfl, ite_t (by decide +kernel) ?_⟩
    exact ⟨_, rfl, _, rfl, a, _, _, u, rfl, rfl, SqT.of ha, rfl, one1, fun q hq => hQ q _ _ ((Ext.refl H).trans (Ext.new hq _)) ((Ext.refl H).free hq) upd_same (.cons (hu.mono ((Ext.refl H).trans (Ext.new hq _))) .nil)⟩
  | opt e =>
    obtain ⟨a, u, rfl, ha, hu⟩ := hv.two
    refine ⟨_, rfl, a, _, _, _, rfl, rfl, SqT.of ha, at0, _, _, rfl, .inr (T.v_LISTING _), rfl, rfl, _, rfl, ite_f (by decide +kernel) ?_⟩
    refine ⟨_, rfl, a, _, _, _, rfl, rfl, SqT.of ha, at0, _, _, rfl, .inr (T.v_WRAPPING _), rfl, rfl, _, rfl, ite_t (by decide +kernel) ?_⟩
    exact ⟨_, rfl, _, rfl, a, _, _, u, rfl, rfl, SqT.of ha, rfl, one1, fun q hq => hQ q _ _ ((Ext.refl H).trans (Ext.new hq _)) ((Ext.refl H).free hq) upd_same (.cons (hu.mono ((Ext.refl H).trans (Ext.new hq _))) .nil)⟩
  | nt e =>
    obtain ⟨a, u, rfl, ha, hu⟩ := hv.two
    refine ⟨_, rfl, a, _, _, _, rfl, rfl, SqT.of ha, at0, _, _, rfl, .inr (T.v_LISTING _), rfl, rfl, _, rfl, ite_f (by decide +kernel) ?_⟩
    refine ⟨_, rfl, a, _, _, _, rfl, rfl, SqT.of ha, at0, _, _, rfl, .inr (T.v_WRAPPING _), rfl, rfl, _, rfl, ite_t (by decide +kernel) ?_⟩
    exact ⟨_, rfl, _, rfl, a, _, _, u, rfl, rfl, SqT.of ha, rfl, one1, fun q hq => hQ q _ _ ((Ext.refl H).trans (Ext.new hq _)) ((Ext.refl H).free hq) upd_same (.cons (hu.mono ((Ext.refl H).trans (Ext.new hq _))) .nil)⟩
  | an e =>
    obtain ⟨a, u, rfl, ha, hu⟩ := hv.two
    refine ⟨_, rfl, a, _, _, _, rfl, rfl, SqT.of ha, at0, _, _, rfl, .inr (T.v_LISTING _), rfl, rfl, _, rfl, ite_f (by decide +kernel) ?_⟩
    refine ⟨_, rfl, a, _, _, _, rfl, rfl, SqT.of ha, at0, _, _, rfl, .inr (T.v_WRAPPING _), rfl, rfl, _, rfl, ite_t (by decide +kernel) ?_⟩
    exact ⟨_, rfl, _, rfl, a, _, _, u, rfl, rfl, SqT.of ha, rfl, one1, fun q hq => hQ q _ _ ((Ext.refl H).trans (Ext.new hq _)) ((Ext.refl H).free hq) upd_same (.cons (hu.mono ((Ext.refl H).trans (Ext.new hq _))) .nil)⟩
  | mark z e =>
    obtain ⟨a, u, u2, rfl, ha, hu, hu2⟩ := hv.three
    refine ⟨_, rfl, a, _, _, _, rfl, rfl, SqT.of ha, at0, _, _, rfl, .inr (T.v_LISTING _), rfl, rfl, _, rfl, ite_f (by decide +kernel) ?_⟩
    refine ⟨_, rfl, a, _, _, _, rfl, rfl, SqT.of ha, at0, _, _, rfl, .inr (T.v_WRAPPING _), rfl, rfl, _, rfl, ite_t (by decide +kernel) ?_⟩
    exact ⟨_, rfl, _, rfl, a, _, _, u2, rfl, rfl, SqT.of ha, rfl, one1, fun q hq => hQ q _ _ ((Ext.refl H).trans (Ext.new hq _)) ((Ext.refl H).free hq) upd_same (.cons (hu2.mono ((Ext.refl H).trans (Ext.new hq _))) .nil)⟩

end
end N_k01
namespace N_k01
open PySem PySem.Spec PyProof.Rows L2 GenW GE LB
section
variable {P : Program} {w : World} {K : PySem.W.Frag} {mg : Str → Option Value} {base : Heap} (T : Txt K mg base)
theorem ok_calls_of_step (n : Nat) (G_parts_of : FnOk P w K mg base CX0 1 T.f_parts_of T.d_parts_of ["expression"] spParts1) (G_calls_of : FnOk P w K mg base CX0 (n + 1) T.f_calls_of T.d_calls_of ["expression"] (spCalls n)) :
    FnOk P w K mg base CX0 (n + 1 + 1) T.f_calls_of T.d_calls_of ["expression"] (spCalls (n + 1)) := by
  refine T.D_calls_of.ok sc_calls_of (fun vs H Q E h => ?_) (fun cdv A outer s H vs Q E hr h => ?_)
  · obtain ⟨e, v, rfl, _⟩ := h
    rfl
  obtain ⟨e, v, rfl, hv, hd, hsz, hQ⟩ := h
  refine ⟨_, (pss_cons (ps_if (pt_cmpR op_eq (pe_ix (ixT K rfl) (pv 0) pe_int (fun _ _ => rfl)) pe_str (nomark _)) (pss_one (ps_ret (pe_lst (pa_cons (pe_ix (ixT K rfl) (pv 0) pe_int (fun _ _ => rfl)) pa_nil)))) pss_nil)
    (pss_cons (ps_set (i := 1) sc_calls_of.nd rfl (by first | exact Or.inl rfl | exact Or.inr rfl) (pe_lst pa_nil))
    (pss_cons (ps_for PassesOwn.never rfl (piL K rfl (pe_call G_parts_of (hr.mono (by first | omega | decide)) rfl T.D_parts_of.m T.D_parts_of.F.kp T.D_parts_of.b .nil pass0 (pa_cons (pv 0) pa_nil))) (pg_name (i := 2) sc_calls_of.nd rfl (by first | exact Or.inl rfl | exact Or.inr rfl)) (pss_one (ps_for PassesOwn.never rfl (piL K rfl (pe_call G_calls_of (hr.mono (by first | omega | decide)) rfl T.D_calls_of.m T.D_calls_of.F.kp T.D_calls_of.b .nil pass0 (pa_cons (pv 2) pa_nil))) (pg_name (i := 3) sc_calls_of.nd rfl (by first | exact Or.inl rfl | exact Or.inr rfl)) (pss_one (ps_if (pt_cmpR (ninQ K rfl) (pv 3) (pv 1) rfl) (pss_one (ps_expr (pe_bm PySem.F.plainAttrs_list PySem.F.slot_list_append PySem.F.type_list_append mt_append (pv 1) (pa_cons (pv 3) pa_nil)))) pss_nil)))))
    (pss_one (ps_ret (pv 1)))))), ?_⟩
  have one1 : (1 : Nat) ≤ sizeLine := by decide
  by_cases hc : ∃ m, e = .call m
  · obtain ⟨m, rfl⟩ := hc
    obtain ⟨a, u, rfl, ha, hu⟩ := hv.two
    cases hu.strI
    refine ⟨_, rfl, a, _, _, _, rfl, rfl, SqT.of ha, at0, rfl, _, rfl, ite_t (by decide +kernel) ?_⟩
    exact ⟨_, rfl, a, _, _, _, rfl, rfl, SqT.of ha, at1, one1, fun q hq => hQ q _ (Ext.new hq _) hq upd_same⟩
  have hc' : ∀ m, e ≠ .call m := fun m z => hc ⟨m, z⟩
  obtain ⟨a, rest, rfl, ha⟩ := head_at hv
  have hne := head_call hc'
  refine ⟨_, rfl, a, _, _, _, rfl, rfl, SqT.of ha, at0, rfl, _, rfl, ite_f hne ?_⟩
  -- names = []
  refine ⟨Nat.zero_le _, fun l hl0 => ?_⟩
  have e1 := Ext.new hl0 (.lst [])
  refine ⟨_, rfl, e, _, rfl, hv.mono e1, fun p us H2 e2 hp hlp hds => ?_⟩
  have hl2 : H2 l = some (.lst (([] : List Str).map V.str)) := e2.lst upd_same
  have npl : p ≠ l := fun z => by rw [z, upd_same] at hp; cases hp
  refine ⟨p, rfl, ⟨_, SqL.of hlp⟩, ?_⟩
  have hlen : us.length = e.parts.length := by rw [hds.len, Ex.pys_len]
  have hcl : ∀ i, (Ex.callsL [] (e.parts.take i)).length ≤ 4000 := fun i => by
    have h1 := Ex.callsL_len (e.parts.take i) []
    have h2 := Ex.sizes_take e.parts i
    have h3 := e.size_parts
    simp only [List.length_nil] at h1
    omega
  refine for_list (K := K) (a := p) (xs := us) (fun i σ H' => ∃ (x y : Option V), σ = [some (.ref a), some (.ref l), x, y] ∧ ExtR l H2 H' ∧ H' l = some (.lst ((Ex.callsL [] (e.parts.take i)).map V.str)))
    ⟨none, none, rfl, ExtR.refl _ _, by rw [List.take_zero]; exact hl2⟩ (fun i σ H' _ ⟨x, y, _, e', _⟩ => SqL.of (e'.lst npl hlp)) (fun i v σ H' hx ⟨x, y, hσ, e', hacc⟩ => ?_) (fun σ H' ⟨x, y, hσ, e', hacc⟩ => ?_)
  · subst hσ
    obtain ⟨d, hd1, hd2⟩ := DAs.get' (hds.monoR e') hx
    obtain ⟨q, hq, rfl⟩ := Ex.pys_get hd1
    have hdq := Ex.parts_dep hq
    have hsq := Ex.parts_size hq
    have htk : Ex.callsL [] (e.parts.take (i + 1)) = addN (Ex.callsL [] (e.parts.take i)) q.calls := by rw [List.take_add_one, hq]; exact Ex.callsL_app q _ _
    refine ⟨_, rfl, q, v, rfl, hd2, by omega, by omega, fun p2 H3 e3 hp2 hlp2 => ?_⟩
    refine ⟨p2, rfl, ⟨_, SqL.of hlp2⟩, ?_⟩
    have np2 : p2 ≠ l := fun z => by rw [z, hacc] at hp2; cases hp2
    refine for_list (K := K) (a := p2) (xs := q.calls.map V.str) (fun j σ H4 => ∃ (y : Option V), σ = [some (.ref a), some (.ref l), some v, y] ∧ ExtR l H3 H4 ∧ H4 l = some (.lst ((addN (Ex.callsL [] (e.parts.take i)) (q.calls.take j)).map V.str)))
      ⟨y, rfl, ExtR.refl _ _, by rw [List.take_zero, addN_nil]; exact e3.lst hacc⟩ (fun j σ H4 _ ⟨y, _, e4, _⟩ => SqL.of (e4.lst np2 hlp2)) (fun j v2 σ H4 hx2 ⟨y, hσ, e4, hacc4⟩ => ?_) (fun σ H4 ⟨y, hσ, e4, hacc4⟩ => ?_)
    · subst hσ
      obtain ⟨nm, hnm, rfl⟩ := map_str hx2
      have htk2 : q.calls.take (j + 1) = q.calls.take j ++ [nm] := by rw [List.take_add_one, hnm]; rfl
      have hlen4 : (addN (Ex.callsL [] (e.parts.take i)) (q.calls.take j)).length ≤ 4000 := by
        have h1 := addN_len (q.calls.take j) (Ex.callsL [] (e.parts.take i))
        have h2 := q.calls_len
        have h3 : (q.calls.take j).length ≤ q.calls.length := by rw [List.length_take]; omega
        have h4 := Ex.callsL_len (e.parts.take i) []
        have h5 := Ex.sizes_at hq
        have h6 := Ex.sizes_take e.parts (i + 1)
        have h7 := e.size_parts
        simp only [List.length_nil] at h4
        omega
      refine ⟨_, rfl, _, rfl, l, _, rfl, .inl (SqL.of hacc4), rfl, flat_strs _, _, rfl, ?_⟩
      by_cases c : nm ∈ addN (Ex.callsL [] (e.parts.take i)) (q.calls.take j)
      · refine ite_f (by rw [inV_str, decide_eq_true c]; rfl) ?_
        refine ⟨_, rfl, e4, ?_⟩
        rw [htk2, addN_snoc, add1, if_pos c]
        exact hacc4
      · refine ite_t (by rw [inV_str, decide_eq_false c]; rfl) ?_
        refine ⟨_, rfl, .inl ⟨rfl, _, SqL.of hacc4⟩, _, rfl, l, _, _, rfl, rfl, hacc4, small5000 (by rw [List.length_map]; omega), ?_⟩
        refine ⟨_, rfl, e4.trans (ExtR.set hacc4 _), ?_⟩
        rw [upd_same, htk2, addN_snoc, add1, if_neg c, List.map_append]
        rfl
    · subst hσ
      rw [List.length_map, List.take_length] at hacc4
      refine ⟨_, _, rfl, e'.trans ((e3.toR l).trans e4), ?_⟩
      rw [htk]
      exact hacc4
  · subst hσ
    rw [hlen, List.take_length, ← Ex.calls_parts hc'] at hacc
    exact ⟨_, rfl, hQ l H' (ExtR.of_free hl0 (e1.trans e2) e') hl0 hacc⟩
theorem ok_calls_of (G_parts_of : FnOk P w K mg base CX0 1 T.f_parts_of T.d_parts_of ["expression"] spParts1) : ∀ n : Nat, FnOk P w K mg base CX0 (n + 1) T.f_calls_of T.d_calls_of ["expression"] (spCalls n)
  | 0 => by
    have no : ∀ vs H Q E, ¬ spCalls 0 vs H Q E := fun vs H Q E h => by
      obtain ⟨e, v, _, _, hn, _⟩ := h
      have := e.dep_pos
      omega
    exact ⟨fun vs H Q E h => absurd h (no vs H Q E), fun A outer s H args us vs Q E _ _ _ _ h => absurd h (no vs H Q E)⟩
  | n + 1 => ok_calls_of_step T n G_parts_of (ok_calls_of G_parts_of n)

end
end N_k01
namespace N_k01
open PySem PySem.Spec PyProof.Rows L2 GenW GE LB
section
variable {P : Program} {w : World} {K : PySem.W.Frag} {mg : Str → Option Value} {base : Heap} (T : Txt K mg base)
theorem ok_expression_size_step (n : Nat) (G_parts_of : FnOk P w K mg base CX0 1 T.f_parts_of T.d_parts_of ["expression"] spParts1) (G_expression_size : FnOk P w K mg base CX0 (4 * n) T.f_expression_size T.d_expression_size ["expression"] (spSize T n)) :
    FnOk P w K mg base CX0 (4 * n + 3 + 1) T.f_expression_size T.d_expression_size ["expression"] (spSize T (n + 1)) := by
  have TB := T.TB_expression_size
  refine T.D_expression_size.okT T.kc_expression_size sc_expression_size (fun vs H Q E h => ?_) (fun A outer s H vs Q E hr h => ?_)
  · obtain ⟨e, v, rfl, _⟩ := h
    rfl
  obtain ⟨e, v, rfl, hv, hd, hsz, htab, hQ⟩ := h
  refine ⟨_, (pss_one (ps_ret (pe_op op_add pe_int (pe_sumG (own := [("part", 1)]) (g := gName 1) (k := 4 * n) (hr.mono (by omega)) (by rfl) T.b_sum sc_expression_size.nd TB rfl (piL K rfl (pe_call G_parts_of (hr.mono (by first | omega | decide)) rfl T.D_parts_of.m T.D_parts_of.F.kp T.D_parts_of.b .nil pass0 (pa_cons (pv 0) pa_nil))) (blkOk_by (N := ["expression", "part"]) (sc := defScope s_expression_size) (own := [("part", 1)]) (by decide +kernel)) (by decide +kernel) rfl rfl (fun _ _ _ _ _ _ _ _ => (pg_name (i := 1) sc_expression_size.nd rfl (by first | exact Or.inl rfl | exact Or.inr rfl))) (fun _ _ _ _ _ _ _ _ hr => (pe_call G_expression_size (hr.mono (by first | omega | decide)) rfl T.D_expression_size.m T.D_expression_size.F.kp T.D_expression_size.b .nil pass0 (pa_cons (pv 1) pa_nil))))))), ?_⟩
  refine ⟨_, rfl, e, v, rfl, hv, fun p us H1 e1 hp hl hds => ?_⟩
  have hlen : us.length = e.parts.length := by rw [hds.len, Ex.pys_len]
  refine ⟨p, rfl, ⟨_, SqL.of hl⟩, (htab.ext e1).expression_size, fun H2 htb => ?_⟩
  have e2 := Ext.tab (htab.ext e1).expression_size htb
  refine ⟨us.length, fun j => (((e.parts[j]?.map Ex.size).getD 0 : Nat) : Int), fun j hj => ?_, fun S hS => ?_⟩
  · rw [preSum_sizes]
    have h1 := Ex.sizes_take e.parts (j + 1)
    have h2 := e.size_parts
    obtain ⟨pj, hpj⟩ : ∃ pj, e.parts[j]? = some pj := ⟨_, List.getElem?_eq_getElem (by omega)⟩
    have h3 := Ex.sizes_get hpj
    simp only [hpj, Option.map_some, Option.getD_some]
    exact ⟨⟨by omega, by omega⟩, ⟨by omega, by omega⟩⟩
  refine ⟨fun i H' => Ext H2 H' ∧ H' S = some (.lst [.int (preSum (fun j => (((e.parts[j]?.map Ex.size).getD 0 : Nat) : Int)) i)]), ⟨Ext.new hS _, upd_same⟩, fun i H' h => h.2, turns_list (xs := us) (fun i H' _ w => SqL.of (w.1.lst (e2.lst hl))) (fun i x H' hx ⟨e', w⟩ => ?_) (fun H' ⟨e', w⟩ => ?_)⟩
  · obtain ⟨d, hd1, hd2⟩ := DAs.get' ((hds.mono e2).mono e') hx
    obtain ⟨q, hq, rfl⟩ := Ex.pys_get hd1
    have hdq := Ex.parts_dep hq
    have hsq := Ex.parts_size hq
    refine ⟨rfl, _, rfl, q, x, rfl, hd2, by omega, by omega, (htab.ext e1).ext (e2.trans e'), fun H4 e4 => ⟨?_, e4.lst w, Ext.setAny hS (e'.trans e4), upd_same⟩⟩
    simp only [hq]; rfl
  · refine ⟨_, _, rfl, rfl, ?_⟩
    have q := hQ H' (e1.trans (e2.trans e'))
    rw [preSum_sizes, hlen, List.take_length]
    rw [e.size_parts] at q
    show Q (.int ((1 : Int) + ((Ex.sizes e.parts : Nat) : Int))) H'
    rw [show (1 : Int) + ((Ex.sizes e.parts : Nat) : Int) = ((1 + Ex.sizes e.parts : Nat) : Int) by omega]
    exact q
theorem ok_expression_size (G_parts_of : FnOk P w K mg base CX0 1 T.f_parts_of T.d_parts_of ["expression"] spParts1) : ∀ n : Nat, FnOk P w K mg base CX0 (4 * n) T.f_expression_size T.d_expression_size ["expression"] (spSize T n)
  | 0 => by
    have no : ∀ vs H Q E, ¬ spSize T 0 vs H Q E := fun vs H Q E h => by
      obtain ⟨e, v, _, _, hn, _⟩ := h
      have := e.dep_pos
      omega
    exact ⟨fun vs H Q E h => absurd h (no vs H Q E), fun A outer s H args us vs Q E _ _ _ _ h => absurd h (no vs H Q E)⟩
  | n + 1 => ok_expression_size_step T n G_parts_of (ok_expression_size G_parts_of n)

end
end N_k01
namespace N_k01
open PySem PySem.Spec PyProof.Rows L2 GenW GE LB
section
variable {P : Program} {w : World} {K : PySem.W.Frag} {mg : Str → Option Value} {base : Heap} (T : Txt K mg base)
theorem ok_size_of (n : Nat) (G_expression_size : FnOk P w K mg base CX0 (4 * n) T.f_expression_size T.d_expression_size ["expression"] (spSize T n)) :
    FnOk P w K mg base CX0 (4 * n + 3 + 1) T.f_size_of T.d_size_of ["grammar"] (spSizeOf T n) := by
  have TB := T.TB_size_of
  refine T.D_size_of.okT T.kc_size_of sc_size_of (fun vs H Q E h => ?_) (fun A outer s H vs Q E hr h => ?_)
  · obtain ⟨g, v, rfl, _⟩ := h
    rfl
  obtain ⟨g, v, rfl, hv, hg, hlen, htab, hQ⟩ := h
  obtain ⟨ga, gs, rfl, hga, hgs, hgl⟩ := grI hv
  refine ⟨_, (pss_one (ps_ret (pe_sumG (own := [("rule", 1)]) (g := gName 1) (k := 4 * n) (hr.mono (by omega)) (by rfl) T.b_sum sc_size_of.nd TB rfl (piT K rfl (pv 0)) (blkOk_by (N := ["grammar", "rule"]) (sc := defScope s_size_of) (own := [("rule", 1)]) (by decide +kernel)) (by decide +kernel) rfl rfl (fun _ _ _ _ _ _ _ _ => (pg_name (i := 1) sc_size_of.nd rfl (by first | exact Or.inl rfl | exact Or.inr rfl))) (fun _ _ _ _ _ _ _ _ hr => (pe_call G_expression_size (hr.mono (by first | omega | decide)) rfl T.D_expression_size.m T.D_expression_size.F.kp T.D_expression_size.b .nil pass0 (pa_cons (pe_ix (ixT K rfl) (pv 1) pe_int (fun _ _ => rfl)) pa_nil)))))), ?_⟩
  refine ⟨_, rfl, ga, rfl, ⟨_, SqT.of hga⟩, htab.size_of, fun H2 htb => ?_⟩
  have e2 := Ext.tab htab.size_of htb
  have hall : ∀ i, Ex.sizes ((g.map (·.2)).take i) ≤ 4000 * 16 := fun i => by
    have h1 : ∀ (l : List Ex), (∀ e ∈ l, e.size ≤ 4000) → Ex.sizes l ≤ 4000 * l.length := by
      intro l
      induction l with
      | nil => intro _; simp [Ex.sizes]
      | cons e r ih =>
        intro h
        have a := h e (by simp)
        have b := ih fun x hx => h x (by simp [hx])
        rw [Ex.sizes, List.length_cons]
        omega
    have h2 := h1 (g.map (·.2)) fun e he => by
      obtain ⟨p, hp, rfl⟩ := List.mem_map.mp he
      exact (hg p hp).2
    rw [List.length_map] at h2
    have h3 := Ex.sizes_take (g.map (·.2)) i
    omega
  refine ⟨gs.length, fun j => ((((g.map (·.2))[j]?.map Ex.size).getD 0 : Nat) : Int), fun j hj => ?_, fun S hS => ?_⟩
  · rw [preSum_sizes]
    have h1 := hall (j + 1)
    obtain ⟨pj, hpj⟩ : ∃ pj, (g.map (·.2))[j]? = some pj := ⟨_, List.getElem?_eq_getElem (by rw [List.length_map]; omega)⟩
    have h3 : pj.size ≤ 4000 := by
      obtain ⟨p, hp, rfl⟩ := List.mem_map.mp (List.mem_of_getElem? hpj)
      exact (hg p hp).2
    simp only [hpj, Option.map_some, Option.getD_some]
    exact ⟨⟨by omega, by omega⟩, ⟨by omega, by omega⟩⟩
  refine ⟨fun i H' => Ext H2 H' ∧ H' S = some (.lst [.int (preSum (fun j => ((((g.map (·.2))[j]?.map Ex.size).getD 0 : Nat) : Int)) i)]), ⟨Ext.new hS _, upd_same⟩, fun i H' h => h.2, turns_tup (xs := gs) (fun i H' _ w => SqT.of ((e2.trans w.1).tup hga)) (fun i x H' hx ⟨e', w⟩ => ?_) (fun H' ⟨e', w⟩ => ?_)⟩
  · obtain ⟨nm, ex, ra, ev, hge, rfl, hra, hev⟩ := ruleI ((hgs.mono e2).mono e') hx
    have hm := hg _ (List.mem_of_getElem? hge)
    refine ⟨rfl, _, rfl, ra, _, _, _, rfl, rfl, SqT.of hra, at1, ex, ev, rfl, hev, hm.1, hm.2, htab.ext (e2.trans e'), fun H4 e4 => ⟨?_, e4.lst w, Ext.setAny hS (e'.trans e4), upd_same⟩⟩
    simp only [List.getElem?_map, hge]; rfl
  · have q := hQ H' (e2.trans e')
    rw [preSum_sizes, hgl, List.take_of_length_le (by rw [List.length_map]; exact Nat.le_refl _)]
    exact q

end
end N_k01
namespace N_k01
open PySem PySem.Spec PyProof.Rows L2 GenW GE LB
section
variable {P : Program} {w : World} {K : PySem.W.Frag} {mg : Str → Option Value} {base : Heap} (T : Txt K mg base)
theorem ok__law_taker (G__law_take : FnOk P w K mg base CX0 1 T.f__law_take T.d__law_take ["row", "many"] spTake) : FnOk P w K mg base CX0 2 T.f__law_taker T.d__law_taker ["row"] spTaker := by
  refine T.D__law_taker.ok sc__law_taker (fun vs H Q E h => ?_) (fun cdv A outer s H vs Q E hr h => ?_)
  · obtain ⟨r, rfl, _⟩ := h
    rfl
  obtain ⟨r, rfl, hrow, hQ⟩ := h
  refine ⟨_, (pss_cons (ps_set (i := 1) sc__law_taker.nd rfl (by first | exact Or.inl rfl | exact Or.inr rfl) (pe_call G__law_take (hr.mono (by first | omega | decide)) rfl T.D__law_take.m T.D__law_take.F.kp T.D__law_take.b .nil pass0 (pa_cons (pv 0) (pa_cons pe_int pa_nil))))
    (pss_cons (ps_if (pt_cmpR op_eq (pv 1) pe_int (nomark _)) (pss_one (ps_ret (pe_tup (pa_cons pe_str (pa_cons (pe_ix (ixL K rfl) (pe_lst (pa_cons pe_str (pa_cons pe_str (pa_cons pe_str (pa_cons pe_str pa_nil))))) (pe_call G__law_take (hr.mono (by first | omega | decide)) rfl T.D__law_take.m T.D__law_take.F.kp T.D__law_take.b .nil pass0 (pa_cons (pv 0) (pa_cons pe_int pa_nil))) (fun _ _ => rfl)) pa_nil))))) pss_nil)
    (pss_cons (ps_if (pt_cmpR op_eq (pv 1) pe_int (nomark _)) (pss_one (ps_ret (pe_tup (pa_cons pe_str pa_nil)))) pss_nil)
    (pss_one (ps_ret (pe_tup (pa_cons pe_str (pa_cons (pe_ix (ixL K rfl) (pe_lst (pa_cons pe_str (pa_cons pe_str (pa_cons pe_str (pa_cons pe_str (pa_cons pe_str pa_nil)))))) (pe_call G__law_take (hr.mono (by first | omega | decide)) rfl T.D__law_take.m T.D__law_take.F.kp T.D__law_take.b .nil pass0 (pa_cons (pv 0) (pa_cons pe_int pa_nil))) (fun _ _ => rfl)) pa_nil)))))))), ?_⟩
  refine ⟨_, rfl, r, 4, rfl, by decide, hrow, fun kind H1 hk0 hk4 e1 row1 => ?_⟩
  refine ⟨_, rfl, rfl, _, rfl, ite2 (fun _ => ?_) (fun _ => ?_)⟩
  · refine ⟨by show 4 ≤ sizeLine; decide, fun p hp => ?_⟩
    have npr : p ≠ r := fun z => by obtain ⟨_, _, z2, _⟩ := row1; rw [z, z2] at hp; cases hp
    refine ⟨_, rfl, r, 4, rfl, by decide, row1.ext (Ext.new hp _), fun i H2 hi0 hi4 e2 row2 => ?_⟩
    have hl2 := e2.lst npr upd_same
    have hex : ∃ s, atI [V.str "ab", .str "b", .str "ac", .str "abc"] i = some (.str s) ∧ csetB (.str s) = true ∧ tame (.str s) = true := by
      have hj : i = 0 ∨ i = 1 ∨ i = 2 ∨ i = 3 := by omega
      rcases hj with rfl | rfl | rfl | rfl
      · exact ⟨_, at_of (j := 0) rfl rfl, by decide +kernel, by decide +kernel⟩
      · exact ⟨_, at_of (j := 1) rfl rfl, by decide +kernel, by decide +kernel⟩
      · exact ⟨_, at_of (j := 2) rfl rfl, by decide +kernel, by decide +kernel⟩
      · exact ⟨_, at_of (j := 3) rfl rfl, by decide +kernel, by decide +kernel⟩
    obtain ⟨z, hz, h1, h2⟩ := hex
    refine ⟨p, _, _, _, rfl, rfl, SqL.of hl2, hz, by show 2 ≤ sizeLine; decide, fun t ht => ?_⟩
    refine hQ (.set z) _ _ (by rw [Ex.dep]) (by rw [Ex.fine]; exact h1) ?_ (by rw [Ex.py, psz, pszs, pszs, pszs, psz, psz]; omega) (e1.trans ((ExtR.new r hp _).trans (e2.trans (ExtR.new r ht _)))) (row2.ext (Ext.new ht _)) (DA.two_mk ht .str)
    rw [Ex.py, tame, tames, tames, tames, h2]
    decide +kernel
  refine ⟨_, rfl, rfl, _, rfl, ite2 (fun _ => ?_) (fun _ => ?_)⟩
  · refine ⟨by show 1 ≤ sizeLine; decide, fun t ht => ?_⟩
    exact hQ .any _ _ (by rw [Ex.dep]) (by rw [Ex.fine]) (by rw [Ex.py]; decide +kernel) (by rw [Ex.py, psz, pszs, pszs, psz]; omega) (e1.trans (ExtR.new r ht _)) (row1.ext (Ext.new ht _)) (DA.one_mk ht)
  · refine ⟨by show 5 ≤ sizeLine; decide, fun p hp => ?_⟩
    have npr : p ≠ r := fun z => by obtain ⟨_, _, z2, _⟩ := row1; rw [z, z2] at hp; cases hp
    refine ⟨_, rfl, r, 5, rfl, by decide, row1.ext (Ext.new hp _), fun i H2 hi0 hi4 e2 row2 => ?_⟩
    have hl2 := e2.lst npr upd_same
    have hex : ∃ s, atI [V.str "a", .str "b", .str "ab", .str "c", .str "ba"] i = some (.str s) ∧ ctextB (.str s) = true ∧ tame (.str s) = true := by
      have hj : i = 0 ∨ i = 1 ∨ i = 2 ∨ i = 3 ∨ i = 4 := by omega
      rcases hj with rfl | rfl | rfl | rfl | rfl
      · exact ⟨_, at_of (j := 0) rfl rfl, by decide +kernel, by decide +kernel⟩
      · exact ⟨_, at_of (j := 1) rfl rfl, by decide +kernel, by decide +kernel⟩
      · exact ⟨_, at_of (j := 2) rfl rfl, by decide +kernel, by decide +kernel⟩
      · exact ⟨_, at_of (j := 3) rfl rfl, by decide +kernel, by decide +kernel⟩
      · exact ⟨_, at_of (j := 4) rfl rfl, by decide +kernel, by decide +kernel⟩
    obtain ⟨z, hz, h1, h2⟩ := hex
    refine ⟨p, _, _, _, rfl, rfl, SqL.of hl2, hz, by show 2 ≤ sizeLine; decide, fun t ht => ?_⟩
    refine hQ (.text z) _ _ (by rw [Ex.dep]) (by rw [Ex.fine]; exact h1) ?_ (by rw [Ex.py, psz, pszs, pszs, pszs, psz, psz]; omega) (e1.trans ((ExtR.new r hp _).trans (e2.trans (ExtR.new r ht _)))) (row2.ext (Ext.new ht _)) (DA.two_mk ht .str)
    rw [Ex.py, tame, tames, tames, tames, h2]
    decide +kernel

end
end N_k01
namespace N_k01
open PySem PySem.Spec PyProof.Rows L2 GenW GE LB
section
variable {P : Program} {w : World} {K : PySem.W.Frag} {mg : Str → Option Value} {base : Heap} (T : Txt K mg base)
theorem ok__law_expression_step (G__law_take : FnOk P w K mg base CX0 1 T.f__law_take T.d__law_take ["row", "many"] spTake) (G__law_taker : FnOk P w K mg base CX0 2 T.f__law_taker T.d__law_taker ["row"] spTaker) (n : Nat)
    (G__law_expression : FnOk P w K mg base CX0 (n + 2) T.f__law_expression T.d__law_expression ["row", "depth", "rule", "many"] (spLExpr n)) :
    FnOk P w K mg base CX0 (n + 2 + 1) T.f__law_expression T.d__law_expression ["row", "depth", "rule", "many"] (spLExpr (n + 1)) := by
  refine T.D__law_expression.ok sc__law_expression (fun vs H Q E h => ?_) (fun cdv A outer s H vs Q E hr h => ?_)
  · obtain ⟨r, d, k, m, rfl, _⟩ := h
    rfl
  obtain ⟨r, d, k, m, rfl, hdn, hk0, hkm, hm4, hrow, hQ⟩ := h
  refine ⟨_, (pss_cons (ps_set (i := 4) sc__law_expression.nd rfl (by first | exact Or.inl rfl | exact Or.inr rfl) (pe_call G__law_take (hr.mono (by first | omega | decide)) rfl T.D__law_take.m T.D__law_take.F.kp T.D__law_take.b .nil pass0 (pa_cons (pv 0) (pa_cons pe_int pa_nil))))
    (pss_cons (ps_if (PW.pt (pw_or (pt_cmpR op_eq (pv 1) pe_int (nomark _)) (pw_or1 (pt_cmpR op_lt (pv 4) pe_int (nomark _))))) (pss_cons (ps_if (pt_cmpR op_eq (pe_call G__law_take (hr.mono (by first | omega | decide)) rfl T.D__law_take.m T.D__law_take.F.kp T.D__law_take.b .nil pass0 (pa_cons (pv 0) (pa_cons pe_int pa_nil))) pe_int (nomark _)) (pss_one (ps_ret (pe_ix (ixL K rfl) (pe_lst (pa_cons (pe_tup (pa_cons pe_str pa_nil)) (pa_cons (pe_tup (pa_cons pe_str pa_nil)) pa_nil))) (pe_call G__law_take (hr.mono (by first | omega | decide)) rfl T.D__law_take.m T.D__law_take.F.kp T.D__law_take.b .nil pass0 (pa_cons (pv 0) (pa_cons pe_int pa_nil))) (fun _ _ => rfl)))) pss_nil)
    (pss_one (ps_ret (pe_call G__law_taker (hr.mono (by first | omega | decide)) rfl T.D__law_taker.m T.D__law_taker.F.kp T.D__law_taker.b .nil pass0 (pa_cons (pv 0) pa_nil))))) pss_nil)
    (pss_cons (ps_if (PW.pt (pw_and (pt_cmpR op_eq (pv 4) pe_int (nomark _)) (pw_and1 (pt_cmpR op_lt (pe_op op_add (pv 2) pe_int) (pv 3) (nomark _))))) (pss_one (ps_ret (pe_tup (pa_cons pe_str (pa_cons (pe_ix ix_str pe_str (pe_op op_add (pe_op op_add (pv 2) pe_int) (pe_call G__law_take (hr.mono (by first | omega | decide)) rfl T.D__law_take.m T.D__law_take.F.kp T.D__law_take.b .nil pass0 (pa_cons (pv 0) (pa_cons (pe_op op_sub (pe_op op_sub (pv 3) (pv 2)) pe_int) pa_nil)))) (fun _ _ => rfl)) pa_nil))))) pss_nil)
    (pss_cons (ps_if (pt_cmpR op_eq (pv 4) pe_int (nomark _)) (pss_one (ps_ret (pe_tup (pa_cons pe_str (pa_cons (pe_tup (pa_cons (pe_call G__law_taker (hr.mono (by first | omega | decide)) rfl T.D__law_taker.m T.D__law_taker.F.kp T.D__law_taker.b .nil pass0 (pa_cons (pv 0) pa_nil)) (pa_cons (pe_tup (pa_cons pe_str (pa_cons (pe_ix ix_str pe_str (pe_call G__law_take (hr.mono (by first | omega | decide)) rfl T.D__law_take.m T.D__law_take.F.kp T.D__law_take.b .nil pass0 (pa_cons (pv 0) (pa_cons (pv 3) pa_nil))) (fun _ _ => rfl)) pa_nil))) pa_nil))) pa_nil))))) pss_nil)
    (pss_cons (ps_set (i := 5) sc__law_expression.nd rfl (by first | exact Or.inl rfl | exact Or.inr rfl) (pe_call G__law_expression (hr.mono (by first | omega | decide)) rfl T.D__law_expression.m T.D__law_expression.F.kp T.D__law_expression.b .nil pass0 (pa_cons (pv 0) (pa_cons (pe_op op_sub (pv 1) pe_int) (pa_cons (pv 2) (pa_cons (pv 3) pa_nil))))))
    (pss_cons (ps_if (pt_cmpR op_eq (pv 4) pe_int (nomark _)) (pss_one (ps_ret (pe_tup (pa_cons pe_str (pa_cons (pe_tup (pa_cons pe_str (pa_cons (pe_tup (pa_cons (pe_call G__law_taker (hr.mono (by first | omega | decide)) rfl T.D__law_taker.m T.D__law_taker.F.kp T.D__law_taker.b .nil pass0 (pa_cons (pv 0) pa_nil)) (pa_cons (pv 5) pa_nil))) pa_nil))) pa_nil))))) pss_nil)
    (pss_cons (ps_if (pt_cmpR op_lt (pv 4) pe_int (nomark _)) (pss_one (ps_ret (pe_tup (pa_cons (pe_ix (ixL K rfl) (pe_lst (pa_cons pe_str (pa_cons pe_str (pa_cons pe_str pa_nil)))) (pe_op op_sub (pv 4) pe_int) (fun _ _ => rfl)) (pa_cons (pv 5) pa_nil))))) pss_nil)
    (pss_cons (ps_if (pt_cmpR op_eq (pv 4) pe_int (nomark _)) (pss_one (ps_ret (pe_tup (pa_cons pe_str (pa_cons (pe_ix (ixL K rfl) (pe_lst (pa_cons pe_str (pa_cons pe_str pa_nil))) (pe_call G__law_take (hr.mono (by first | omega | decide)) rfl T.D__law_take.m T.D__law_take.F.kp T.D__law_take.b .nil pass0 (pa_cons (pv 0) (pa_cons pe_int pa_nil))) (fun _ _ => rfl)) (pa_cons (pv 5) pa_nil)))))) pss_nil)
    (pss_cons (ps_set (i := 6) sc__law_expression.nd rfl (by first | exact Or.inl rfl | exact Or.inr rfl) (pe_call G__law_expression (hr.mono (by first | omega | decide)) rfl T.D__law_expression.m T.D__law_expression.F.kp T.D__law_expression.b .nil pass0 (pa_cons (pv 0) (pa_cons (pe_op op_sub (pv 1) pe_int) (pa_cons (pv 2) (pa_cons (pv 3) pa_nil))))))
    (pss_cons (ps_if (pt_cmpR op_eq (pv 4) pe_int (nomark _)) (pss_cons (ps_set (i := 7) sc__law_expression.nd rfl (by first | exact Or.inl rfl | exact Or.inr rfl) (pe_call G__law_expression (hr.mono (by first | omega | decide)) rfl T.D__law_expression.m T.D__law_expression.F.kp T.D__law_expression.b .nil pass0 (pa_cons (pv 0) (pa_cons (pe_op op_sub (pv 1) pe_int) (pa_cons (pv 2) (pa_cons (pv 3) pa_nil))))))
    (pss_one (ps_ret (pe_tup (pa_cons (pe_ix (ixL K rfl) (pe_lst (pa_cons pe_str (pa_cons pe_str pa_nil))) (pe_call G__law_take (hr.mono (by first | omega | decide)) rfl T.D__law_take.m T.D__law_take.F.kp T.D__law_take.b .nil pass0 (pa_cons (pv 0) (pa_cons pe_int pa_nil))) (fun _ _ => rfl)) (pa_cons (pe_tup (pa_cons (pv 5) (pa_cons (pv 6) (pa_cons (pv 7) pa_nil)))) pa_nil)))))) pss_nil)
    (pss_one (ps_ret (pe_tup (pa_cons (pe_ix (ixL K rfl) (pe_lst (pa_cons pe_str (pa_cons pe_str (pa_cons pe_str pa_nil)))) (pe_op op_sub (pv 4) pe_int) (fun _ _ => rfl)) (pa_cons (pe_tup (pa_cons (pv 5) (pa_cons (pv 6) pa_nil))) pa_nil))))))))))))))), ?_⟩
  have two2 : (2 : Nat) ≤ sizeLine := by decide
  have one1 : (1 : Nat) ≤ sizeLine := by decide
  have thr3 : (3 : Nat) ≤ sizeLine := by decide
  have hpB := pB10 d
  have neR : ∀ {H1 : Hp} {p : Addr}, RowOk H1 r → H1 p = none → p ≠ r := fun {H1 p} row hp z => by obtain ⟨_, _, z2, _⟩ := row; rw [z, z2] at hp; cases hp
  refine ⟨_, rfl, r, 14, rfl, by decide, hrow, fun kind H1 hkd0 hkd e1 row1 => ?_⟩
  refine ⟨_, rfl, rfl, _, rfl, (fun (leaf : _ → _) => ite2 (fun c => iteT (leaf trivial)) (fun c => ⟨_, rfl, _, _, rfl, rfl, _, rfl, ite2 (fun c2 => leaf trivial) (fun c2 => ?rest)⟩)) (fun (_ : True) => ?leaf)⟩
  case leaf =>
    refine ⟨_, rfl, r, 5, rfl, by decide, row1, fun i H2 hi0 hi5 e2 row2 => ⟨rfl, _, rfl, ite2 (fun _ => ?_) (fun _ => ?_)⟩⟩
    · refine ⟨one1, fun p0 hp0 => ⟨one1, fun p1 hp1 => ⟨two2, fun pl hpl => ?_⟩⟩⟩
      have npl := neR ((row2.ext (Ext.new hp0 _)).ext (Ext.new hp1 _)) hpl
      refine ⟨_, rfl, r, 2, rfl, by decide, ((row2.ext (Ext.new hp0 _)).ext (Ext.new hp1 _)).ext (Ext.new hpl _), fun j H3 hj0 hj2 e3 row3 => ?_⟩
      have hl3 := e3.lst npl upd_same
      have f3 := (ExtR.new r hp1 (.tup [.str "fail"])).trans ((ExtR.new r hpl (.lst [.ref p0, .ref p1])).trans e3)
      have ff := e1.trans (e2.trans ((ExtR.new r hp0 (.tup [.str "eps"])).trans f3))
      have d0 : DA H3 Ex.eps.py (.ref p0) := DA.ext f3 _ _ (DA.one_mk hp0)
      have d1 : DA H3 Ex.fail.py (.ref p1) := DA.ext ((ExtR.new r hpl (.lst [.ref p0, .ref p1])).trans e3) _ _ (DA.one_mk hp1)
      have hj : j = 0 ∨ j = 1 := by omega
      rcases hj with rfl | rfl
      · exact ⟨pl, _, _, _, rfl, rfl, SqL.of hl3, at_of (j := 0) rfl rfl, hQ .eps _ _ ⟨by rw [Ex.dep]; omega, rfl, by decide +kernel, by rw [Ex.py, psz, pszs, pszs, psz]; omega⟩ ff row3 d0⟩
      · exact ⟨pl, _, _, _, rfl, rfl, SqL.of hl3, at_of (j := 1) rfl rfl, hQ .fail _ _ ⟨by rw [Ex.dep]; omega, rfl, by decide +kernel, by rw [Ex.py, psz, pszs, pszs, psz]; omega⟩ ff row3 d1⟩
    · refine ⟨_, rfl, r, rfl, row2, fun e v H3 hd hf ht hs e3 row3 hv => ?_⟩
      exact hQ e v H3 ⟨by omega, hf, ht, by omega⟩ (e1.trans (e2.trans e3)) row3 hv
  case rest =>
    have hd1 : d ≠ 0 := fun z => c (by subst z; exact decide_eq_true rfl)
    obtain ⟨d, rfl⟩ : ∃ d', d = d' + 1 := ⟨d - 1, by omega⟩
    have hk3 : 3 ≤ kind := by
      have c3 : ¬ kind < 3 := fun z => c2 (decide_eq_true z)
      omega
    have hpB := pB10 d
    have hpS : pB (d + 1) = 3 * pB d + 10 := rfl
    have hvs : ([.ref r, .int (((d + 1 : Nat) : Int) - 1), .int k, .int m] : List V) = [.ref r, .int d, .int k, .int m] := by rw [show (((d + 1 : Nat) : Int) - 1) = (d : Int) by omega]
    refine ⟨_, rfl, rfl, _, rfl, (fun (go : _ → _) => ite2 (fun c3 => ⟨_, rfl, _, _, rfl, rfl, _, rfl, _, _, rfl, rfl, _, rfl, ite2 (fun c4 => ?ret) (fun c4 => go trivial)⟩) (fun c3 => iteF (go trivial))) (fun (_ : True) => ?go)⟩
    case ret =>
      have hlt : k + 1 < m := of_decide_eq_true c4
      refine ⟨_, rfl, _, _, rfl, rfl, _, rfl, _, rfl, _, rfl, _, _, rfl, rfl, _, _, rfl, rfl, r, m - k - 1, rfl, by omega, row1, fun i H2 hi0 hi e2 row2 => ?_⟩
      obtain ⟨ch, hch, hn, ht⟩ := abcd_at (i := k + 1 + i) (by omega) (by omega)
      refine ⟨_, _, rfl, rfl, _, _, ch, rfl, rfl, by decide, hch, two2, fun p hp => ?_⟩
      exact hQ (.call ⟨#[ch]⟩) _ _ ((Good.call hn ht).mono (by omega) (by omega)) ((e1.trans e2).trans (ExtR.new r hp _)) (row2.ext (Ext.new hp _)) (DA.two_mk hp .str)
    case go =>
    refine ⟨_, rfl, rfl, _, rfl, ite2 (fun c4 => ?_) (fun c4 => ?_)⟩
    · refine ⟨_, rfl, r, rfl, row1, fun t vt H2 hd hf htm hs e2 row2 hvt => ?_⟩
      have gt : t.Good 1 3 := ⟨by omega, hf, htm, hs⟩
      refine ⟨_, rfl, _, rfl, r, m, rfl, by omega, row2, fun i H3 hi0 hi e3 row3 => ?_⟩
      obtain ⟨ch, hch, hn, ht⟩ := abcd_at (i := i) hi0 (by omega)
      refine ⟨_, _, ch, rfl, rfl, by decide, hch, two2, fun p hp => ⟨two2, fun p2 hp2 => ⟨two2, fun p3 hp3 => ?_⟩⟩⟩
      have hc : DA (upd H3 p (.tup [.str "call", .str ⟨#[ch]⟩])) (Ex.call ⟨#[ch]⟩).py (.ref p) := DA.two_mk hp .str
      have e4 := Ext.new hp (.tup [.str "call", .str ⟨#[ch]⟩])
      have e5 := Ext.new hp2 (.tup [vt, .ref p])
      have e6 := Ext.new hp3 (.tup [.str "seq", .ref p2])
      refine hQ (.seq [t, .call ⟨#[ch]⟩]) _ _ ((Good.seq2 gt (Good.call hn ht)).mono (by omega) (by omega)) (e1.trans (e2.trans (e3.trans ((e4.trans (e5.trans e6)).toR r)))) (((row3.ext e4).ext e5).ext e6) ?_
      rw [Ex.py, Ex.pys, Ex.pys, Ex.pys]
      exact DA.two_mk hp3 (DA.new hp2 (.cons ((hvt.monoR e3).mono e4) (.cons hc .nil)))
    refine ⟨_, rfl, _, rfl, _, _, rfl, rfl, _, rfl, _, rfl, r, d, k, m, hvs, by omega, hk0, hkm, hm4, row1, fun ex1 v1 H2 g1 e2 row2 hv1 => ?_⟩
    refine ⟨_, rfl, rfl, _, rfl, ite2 (fun c5 => ?_) (fun c5 => ?_)⟩
    · refine ⟨_, rfl, r, rfl, row2, fun t vt H3 hd hf htm hs e3 row3 hvt => ?_⟩
      have gt : t.Good (2 * d + 1) 3 := ⟨by omega, hf, htm, hs⟩
      refine ⟨_, rfl, two2, fun p hp => ⟨two2, fun p2 hp2 => ⟨two2, fun p3 hp3 => ?_⟩⟩⟩
      have e4 := Ext.new hp (.tup [vt, v1])
      have e5 := Ext.new hp2 (.tup [.str "seq", .ref p])
      have e6 := Ext.new hp3 (.tup [.str "star", .ref p2])
      refine hQ (.star (.seq [t, ex1])) _ _ ((Good.star (Good.seq2 gt g1)).mono (by omega) (by omega)) (e1.trans (e2.trans (e3.trans ((e4.trans (e5.trans e6)).toR r)))) (((row3.ext e4).ext e5).ext e6) ?_
      rw [Ex.py, Ex.py, Ex.pys, Ex.pys, Ex.pys]
      exact DA.two_mk hp3 (DA.two_mk hp2 (DA.new hp (.cons hvt (.cons (hv1.monoR e3) .nil))))
    refine ⟨_, rfl, _, _, rfl, rfl, _, rfl, ite2 (fun c9 => ?_) (fun c9 => ?_)⟩
    · have hk9 : kind < 9 := of_decide_eq_true c9
      have h4 : kind ≠ 4 := fun z => c4 (by subst z; exact decide_eq_true rfl)
      have h5 : kind ≠ 5 := fun z => c5 (by subst z; exact decide_eq_true rfl)
      refine ⟨thr3, fun p hp => ?_⟩
      have e3 := Ext.new hp (.lst [.str "opt", .str "not", .str "and"])
      have hv3 := hv1.mono e3
      have fin : ∀ (hd : Str) (ex : Ex), ex.py = .tuple [.str hd, ex1.py] → ex.Good (2 * d + 1 + 1) (pB d + 2) → ∀ q, (upd H2 p (.lst [.str "opt", .str "not", .str "and"])) q = none → Q (.ref q) (upd (upd H2 p (.lst [.str "opt", .str "not", .str "and"])) q (.tup [.str hd, v1])) := fun hd ex h1 h2 q hq =>
        hQ ex _ _ (h2.mono (by omega) (by omega)) ((e1.trans e2).trans ((e3.toR r).trans (ExtR.new r hq _))) ((row2.ext e3).ext (Ext.new hq _)) (by rw [h1]; exact DA.two_mk hq hv3)
      have hk : kind = 6 ∨ kind = 7 ∨ kind = 8 ∨ kind = 3 := by omega
      rcases hk with rfl | rfl | rfl | rfl
      · exact ⟨_, rfl, _, _, rfl, rfl, p, _, _, _, rfl, rfl, SqL.of upd_same, at_of (j := 0) rfl rfl, _, rfl, two2, fin "opt" (.opt ex1) (by rw [Ex.py]) (Good.opt g1)⟩
      · exact ⟨_, rfl, _, _, rfl, rfl, p, _, _, _, rfl, rfl, SqL.of upd_same, at_of (j := 1) rfl rfl, _, rfl, two2, fin "not" (.nt ex1) (by rw [Ex.py]) (Good.nt g1)⟩
      · exact ⟨_, rfl, _, _, rfl, rfl, p, _, _, _, rfl, rfl, SqL.of upd_same, at_of (j := 2) rfl rfl, _, rfl, two2, fin "and" (.an ex1) (by rw [Ex.py]) (Good.an g1)⟩
      · exact ⟨_, rfl, _, _, rfl, rfl, p, _, _, _, rfl, rfl, SqL.of upd_same, rfl, _, rfl, two2, fin "opt" (.opt ex1) (by rw [Ex.py]) (Good.opt g1)⟩
    have hk9 : 9 ≤ kind := by
      have c10 : ¬ kind < 9 := fun z => c9 (decide_eq_true z)
      omega
    refine ⟨_, rfl, rfl, _, rfl, ite2 (fun ca => ?_) (fun ca => ?_)⟩
    · refine ⟨two2, fun p hp => ?_⟩
      have npr := neR row2 hp
      refine ⟨_, rfl, r, 2, rfl, by decide, row2.ext (Ext.new hp _), fun i H3 hi0 hi2 e3 row3 => ?_⟩
      have hl3 := e3.lst npr upd_same
      have e23 := (ExtR.new r hp (.lst [.str "x", .str "y"])).trans e3
      have fin : ∀ (l : Str), nameB (.str l) = true → tame (.str l) = true → ∀ q, H3 q = none → Q (.ref q) (upd H3 q (.tup [.str "mark", .str l, v1])) := fun l h1 h2 q hq =>
        hQ (.mark l ex1) _ _ ((Good.mark h1 h2 g1).mono (by omega) (by omega)) (e1.trans (e2.trans (e23.trans (ExtR.new r hq _)))) (row3.ext (Ext.new hq _)) (by rw [Ex.py]; exact DA.three_mk hq .str (hv1.monoR e23))
      have hj : i = 0 ∨ i = 1 := by omega
      rcases hj with rfl | rfl
      · exact ⟨p, _, _, _, rfl, rfl, SqL.of hl3, at_of (j := 0) rfl rfl, _, rfl, thr3, fin "x" (by decide +kernel) (by decide +kernel)⟩
      · exact ⟨p, _, _, _, rfl, rfl, SqL.of hl3, at_of (j := 1) rfl rfl, _, rfl, thr3, fin "y" (by decide +kernel) (by decide +kernel)⟩
    have hka : 10 ≤ kind := by
      have h9 : kind ≠ 9 := fun z => ca (by subst z; exact decide_eq_true rfl)
      omega
    refine ⟨_, rfl, _, rfl, _, _, rfl, rfl, _, rfl, _, rfl, r, d, k, m, hvs, by omega, hk0, hkm, hm4, row2, fun ex2 v2 H3 g2 e3 row3 hv2 => ?_⟩
    refine ⟨_, rfl, rfl, _, rfl, ite2 (fun cb => ?_) (fun cb => ?_)⟩
    · refine ⟨_, rfl, _, rfl, _, _, rfl, rfl, _, rfl, _, rfl, r, d, k, m, hvs, by omega, hk0, hkm, hm4, row3, fun ex3 v3 H4 g3 e4 row4 hv3 => ?_⟩
      refine ⟨two2, fun p hp => ?_⟩
      have npr := neR row4 hp
      refine ⟨_, rfl, r, 2, rfl, by decide, row4.ext (Ext.new hp _), fun i H5 hi0 hi2 e5 row5 => ?_⟩
      have hl5 := e5.lst npr upd_same
      have e45 := (ExtR.new r hp (.lst [.str "seq", .str "alt"])).trans e5
      have fin : ∀ (hd : Str) (ex : Ex), ex.py = .tuple [.str hd, .tuple [ex1.py, ex2.py, ex3.py]] → ex.Good (2 * d + 1 + 1) (pB d + pB d + pB d + 3) → ∀ t, H5 t = none → ∀ q, (upd H5 t (.tup [v1, v2, v3])) q = none → Q (.ref q) (upd (upd H5 t (.tup [v1, v2, v3])) q (.tup [.str hd, .ref t])) := fun hd ex h1 h2 t ht q hq =>
        hQ ex _ _ (h2.mono (by omega) (by omega)) (e1.trans (e2.trans (e3.trans (e4.trans (e45.trans ((ExtR.new r ht _).trans (ExtR.new r hq _))))))) ((row5.ext (Ext.new ht _)).ext (Ext.new hq _)) (by rw [h1]; exact DA.two_mk hq (DA.new ht (.cons ((hv1.monoR e3).monoR (e4.trans e45)) (.cons (hv2.monoR (e4.trans e45)) (.cons (hv3.monoR e45) .nil)))))
      have hj : i = 0 ∨ i = 1 := by omega
      rcases hj with rfl | rfl
      · exact ⟨p, _, _, _, rfl, rfl, SqL.of hl5, at_of (j := 0) rfl rfl, _, rfl, _, rfl, _, rfl, thr3, fun t ht => ⟨two2, fin "seq" (.seq [ex1, ex2, ex3]) (by rw [Ex.py, Ex.pys, Ex.pys, Ex.pys, Ex.pys]) (Good.seq3 g1 g2 g3) t ht⟩⟩
      · exact ⟨p, _, _, _, rfl, rfl, SqL.of hl5, at_of (j := 1) rfl rfl, _, rfl, _, rfl, _, rfl, thr3, fun t ht => ⟨two2, fin "alt" (.alt [ex1, ex2, ex3]) (by rw [Ex.py, Ex.pys, Ex.pys, Ex.pys, Ex.pys]) (Good.alt3 g1 g2 g3) t ht⟩⟩
    have hkb : 11 ≤ kind := by
      have h9 : kind ≠ 10 := fun z => cb (by subst z; exact decide_eq_true rfl)
      omega
    refine ⟨thr3, fun p hp => ?_⟩
    have e4 := Ext.new hp (.lst [.str "seq", .str "alt", .str "alt"])
    have fin : ∀ (hd : Str) (ex : Ex), ex.py = .tuple [.str hd, .tuple [ex1.py, ex2.py]] → ex.Good (2 * d + 1 + 1) (pB d + pB d + 3) → ∀ t, (upd H3 p (.lst [.str "seq", .str "alt", .str "alt"])) t = none → ∀ q, (upd (upd H3 p (.lst [.str "seq", .str "alt", .str "alt"])) t (.tup [v1, v2])) q = none → Q (.ref q) (upd (upd (upd H3 p (.lst [.str "seq", .str "alt", .str "alt"])) t (.tup [v1, v2])) q (.tup [.str hd, .ref t])) := fun hd ex h1 h2 t ht q hq =>
      hQ ex _ _ (h2.mono (by omega) (by omega)) (e1.trans (e2.trans (e3.trans ((e4.toR r).trans ((ExtR.new r ht _).trans (ExtR.new r hq _)))))) (((row3.ext e4).ext (Ext.new ht _)).ext (Ext.new hq _)) (by rw [h1]; exact DA.two_mk hq (DA.new ht (.cons ((hv1.monoR e3).mono e4) (.cons (hv2.mono e4) .nil))))
    have hj : kind = 11 ∨ kind = 12 ∨ kind = 13 := by omega
    rcases hj with rfl | rfl | rfl
    · exact ⟨_, rfl, _, _, rfl, rfl, p, _, _, _, rfl, rfl, SqL.of upd_same, at_of (j := 0) rfl rfl, _, rfl, _, rfl, two2, fun t ht => ⟨two2, fin "seq" (.seq [ex1, ex2]) (by rw [Ex.py, Ex.pys, Ex.pys, Ex.pys]) (Good.seq2 g1 g2) t ht⟩⟩
    · exact ⟨_, rfl, _, _, rfl, rfl, p, _, _, _, rfl, rfl, SqL.of upd_same, at_of (j := 1) rfl rfl, _, rfl, _, rfl, two2, fun t ht => ⟨two2, fin "alt" (.alt [ex1, ex2]) (by rw [Ex.py, Ex.pys, Ex.pys, Ex.pys]) (Good.alt2 g1 g2) t ht⟩⟩
    · exact ⟨_, rfl, _, _, rfl, rfl, p, _, _, _, rfl, rfl, SqL.of upd_same, at_of (j := 2) rfl rfl, _, rfl, _, rfl, two2, fun t ht => ⟨two2, fin "alt" (.alt [ex1, ex2]) (by rw [Ex.py, Ex.pys, Ex.pys, Ex.pys]) (Good.alt2 g1 g2) t ht⟩⟩
theorem ok__law_expression (G__law_take : FnOk P w K mg base CX0 1 T.f__law_take T.d__law_take ["row", "many"] spTake) (G__law_taker : FnOk P w K mg base CX0 2 T.f__law_taker T.d__law_taker ["row"] spTaker) : ∀ n : Nat, FnOk P w K mg base CX0 (n + 2) T.f__law_expression T.d__law_expression ["row", "depth", "rule", "many"] (spLExpr n)
  | 0 => by
    have no : ∀ vs H Q E, ¬ spLExpr 0 vs H Q E := fun vs H Q E h => by
      obtain ⟨r, d, k, m, _, h1, _⟩ := h
      omega
    exact ⟨fun vs H Q E h => absurd h (no vs H Q E), fun A outer s H args us vs Q E _ _ _ _ h => absurd h (no vs H Q E)⟩
  | n + 1 => ok__law_expression_step T G__law_take G__law_taker n (ok__law_expression G__law_take G__law_taker n)

end
end N_k01
namespace N_k01
open PySem PySem.Spec PyProof.Rows L2 GenW GE LB
section
variable {P : Program} {w : World} {K : PySem.W.Frag} {mg : Str → Option Value} {base : Heap} (T : Txt K mg base)
theorem nodup4 {l : List Nat} (h : l = [97] ∨ l = [97, 98] ∨ l = [97, 98, 99] ∨ l = [97, 98, 99, 100]) : (l.map fun c : Nat => (⟨#[c]⟩ : Str)).Nodup := by
  rcases h with rfl | rfl | rfl | rfl <;> decide +kernel
theorem ok__law_grammar (n : Nat) (G__law_take : FnOk P w K mg base CX0 1 T.f__law_take T.d__law_take ["row", "many"] spTake) (G__law_expression : FnOk P w K mg base CX0 (n + 2) T.f__law_expression T.d__law_expression ["row", "depth", "rule", "many"] (spLExpr n)) :
    FnOk P w K mg base CX0 (n + 2 + 1) T.f__law_grammar T.d__law_grammar ["row", "depth"] (spLGram n) := by
  refine T.D__law_grammar.ok sc__law_grammar (fun vs H Q E h => ?_) (fun cdv A outer s H vs Q E hr h => ?_)
  · obtain ⟨r, d, rfl, _⟩ := h
    rfl
  obtain ⟨r, d, rfl, hdn, hrow, hQ⟩ := h
  refine ⟨_, (pss_cons (ps_set (i := 2) sc__law_grammar.nd rfl (by first | exact Or.inl rfl | exact Or.inr rfl) (pe_op op_add pe_int (pe_call G__law_take (hr.mono (by first | omega | decide)) rfl T.D__law_take.m T.D__law_take.F.kp T.D__law_take.b .nil pass0 (pa_cons (pv 0) (pa_cons pe_int pa_nil)))))
    (pss_one (ps_ret (pe_callTy (tupleOf K rfl) (by rfl) T.b_tuple (by decide +kernel) (pa_cons (pe_lc (own := [("k", 3)]) (g := gName 3) rfl sc__law_grammar.nd (pi_range1 (by rfl) T.b_range (pa_cons (pv 2) pa_nil)) (blkOk_by (N := ["row", "depth", "many", "k"]) (sc := defScope s__law_grammar) (own := [("k", 3)]) (by decide +kernel)) (fun _ _ _ _ _ => (pg_name (i := 3) sc__law_grammar.nd rfl (by first | exact Or.inl rfl | exact Or.inr rfl))) (fun _ _ _ _ _ => pts_nil) (fun _ _ _ _ _ => (pe_tup (pa_cons (pe_ix ix_str pe_str (pv 3) (fun _ _ => rfl)) (pa_cons (pe_call G__law_expression (hr.mono (by first | omega | decide)) rfl T.D__law_expression.m T.D__law_expression.F.kp T.D__law_expression.b .nil pass0 (pa_cons (pv 0) (pa_cons (pv 1) (pa_cons (pv 3) (pa_cons (pv 2) pa_nil))))) pa_nil))))) pa_nil))))), ?_⟩
  refine ⟨_, rfl, r, 4, rfl, by decide, hrow, fun m0 H2 hm0 hm4 e2 row2 => ⟨_, _, rfl, rfl, ?_⟩⟩
  refine ⟨_, rfl, _, rfl, by omega, by omega, fun D hD => ?_⟩
  have hDr : D ≠ r := fun z => by
    obtain ⟨_, _, z2, _⟩ := row2
    rw [z, z2] at hD
    cases hD
  refine lc_range (lo := 0) (n := (1 + m0).toNat) (fun j H' => ∃ (g : Gr) (acc : List V), g.length = j ∧ acc.length = j ∧ ExtR r H2 H' ∧ RowOk H' r ∧ H' D = some (.lst acc) ∧ DAs H' (g.map rulePy) acc ∧ g.map (·.1) = ([97, 98, 99, 100].take j).map (fun c : Nat => (⟨#[c]⟩ : Str)) ∧ (∀ p ∈ g, p.2.Good (2 * d + 1) (pB d) ∧ nameB (.str p.1) = true ∧ tame (.str p.1) = true))
    ⟨[], [], rfl, rfl, ExtR.new r hD _, row2.ext (Ext.new hD _), upd_same, .nil, rfl, fun p hp => by simp at hp⟩ (fun j H' hj ⟨g, acc, hgl, hal, e3, row3, hacc, hds, hnm, hok⟩ => ?_) (fun H' ⟨g, acc, hgl, hal, e3, row3, hacc, hds, hnm, hok⟩ => ?_)
  · refine ⟨rfl, ?_⟩
    obtain ⟨ch, hch, hch2, hn, ht⟩ : ∃ c, atI (Str.ofString "abcd").cps.toList ((0 : Int) + j) = some c ∧ [97, 98, 99, 100][j]? = some c ∧ nameB (.str ⟨#[c]⟩) = true ∧ tame (.str ⟨#[c]⟩) = true := by
      have hj5 : j = 0 ∨ j = 1 ∨ j = 2 ∨ j = 3 := by omega
      rcases hj5 with rfl | rfl | rfl | rfl
      · exact ⟨97, rfl, rfl, by decide +kernel, by decide +kernel⟩
      · exact ⟨98, rfl, rfl, by decide +kernel, by decide +kernel⟩
      · exact ⟨99, rfl, rfl, by decide +kernel, by decide +kernel⟩
      · exact ⟨100, rfl, rfl, by decide +kernel, by decide +kernel⟩
    refine ⟨_, rfl, _, _, ch, rfl, rfl, by decide, hch, ?_⟩
    refine ⟨_, rfl, _, rfl, _, rfl, _, rfl, r, d, (0 : Int) + j, 1 + m0, rfl, hdn, by omega, by omega, by omega, row3, fun ex v H5 hg e5 row5 hv => ?_⟩
    refine ⟨by show 2 ≤ sizeLine; decide, fun p hp => ?_⟩
    have hacc5 := e5.lst hDr hacc
    have hpD : D ≠ p := fun z => by rw [← z, hacc5] at hp; cases hp
    refine ⟨acc, by rw [upd_ne hpD]; exact hacc5, small5000 (by omega), g ++ [(⟨#[ch]⟩, ex)], acc ++ [.ref p], by rw [List.length_append, hgl]; rfl, by rw [List.length_append, hal]; rfl, ?_, ?_, upd_same, ?_, ?_, fun q hq => ?_⟩
    · exact ExtR.of_freeR hD (e3.trans (e5.trans (ExtR.new r hp _))) (by rw [upd_ne hpD]; exact hacc5)
    · have row6 := row5.ext (Ext.new hp (.tup [.str ⟨#[ch]⟩, v]))
      exact row6.setD hDr
    · have hset : ExtR D (upd H5 p (.tup [.str ⟨#[ch]⟩, v])) (upd (upd H5 p (.tup [.str ⟨#[ch]⟩, v])) D (.lst (acc ++ [.ref p]))) := ExtR.set (by rw [upd_ne hpD]; exact hacc5) _
      rw [List.map_append]
      refine DAs.append (((hds.monoR e5).mono (Ext.new hp _)).monoR hset) ?_
      exact .cons ((DA.two_mk hp hv).monoR hset) .nil
    · rw [List.map_append, hnm, List.take_add_one, hch2, List.map_append]; rfl
    · rcases List.mem_append.mp hq with z | z
      · exact hok q z
      · obtain rfl := List.mem_singleton.mp z
        exact ⟨hg, hn, ht⟩
  · refine ⟨D, acc, rfl, .inl ⟨SqL.of hacc, fun gl hgl0 => ?_⟩⟩
    refine hQ g _ _ ⟨by omega, by omega, hok, ?_⟩ (e2.trans (e3.trans (ExtR.new r hgl0 _))) (row3.ext (Ext.new hgl0 _)) (DA.tup upd_same (hds.mono (Ext.new hgl0 _)))
    rw [hnm]
    have hm : (1 + m0).toNat = 1 ∨ (1 + m0).toNat = 2 ∨ (1 + m0).toNat = 3 ∨ (1 + m0).toNat = 4 := by omega
    rcases hm with z | z | z | z <;> rw [z] <;> decide +kernel

end
end N_k01
namespace N_k01
open PySem PySem.Spec PyProof.Rows L2 GenW GE LB
section
variable {P : Program} {w : World} {K : PySem.W.Frag} {mg : Str → Option Value} {base : Heap} (T : Txt K mg base)
theorem ok__law_parts : FnOk P w K mg base CX0 1 T.f__law_parts T.d__law_parts ["expression"] spParts1 := by
  refine T.D__law_parts.ok (k := 0) sc__law_parts (fun vs H Q E h => ?_) (fun cdv A outer s H vs Q E hr h => ?_)
  · obtain ⟨e, v, rfl, _⟩ := h
    rfl
  obtain ⟨e, v, rfl, hv, hQ⟩ := h
  refine ⟨_, (pss_cons (ps_if (PW.pt (pw_or (pt_cmpR op_eq (pe_ix (ixT K rfl) (pv 0) pe_int (fun _ _ => rfl)) pe_str (nomark _)) (pw_or1 (pt_cmpR op_eq (pe_ix (ixT K rfl) (pv 0) pe_int (fun _ _ => rfl)) pe_str (nomark _))))) (pss_one (ps_ret (pe_callTy (listOf K rfl) (by rfl) T.b_list (by decide +kernel) (pa_cons (pe_ix (ixT K rfl) (pv 0) pe_int (fun _ _ => rfl)) pa_nil)))) pss_nil)
    (pss_cons (ps_if (pt_cmpR (inQ K rfl) (pe_ix (ixT K rfl) (pv 0) pe_int (fun _ _ => rfl)) (pe_tup (pa_cons pe_str (pa_cons pe_str (pa_cons pe_str (pa_cons pe_str (pa_cons pe_str pa_nil)))))) rfl) (pss_one (ps_ret (pe_lst (pa_cons (pe_ix (ixT K rfl) (pv 0) (pe_un un_neg pe_int) (fun _ _ => rfl)) pa_nil)))) pss_nil)
    (pss_one (ps_ret (pe_lst pa_nil))))), ?_⟩
  have tup5 : (5 : Nat) ≤ sizeLine := by decide
  have one1 : (1 : Nat) ≤ sizeLine := by decide
  cases e with
  | eps =>
    obtain ⟨a, rfl, ha⟩ := hv.one
    refine ⟨_, rfl, a, _, _, _, rfl, rfl, SqT.of ha, at0, rfl, _, rfl, ite_f (by decide +kernel) ⟨_, rfl, a, _, _, _, rfl, rfl, SqT.of ha, at0, rfl, _, rfl, ite_f (by decide +kernel) ?_⟩⟩
    refine ⟨_, rfl, a, _, _, _, rfl, rfl, SqT.of ha, at0, tup5, fun p hp => ⟨p, _, rfl, .inr (SqT.of upd_same), rfl, rfl, _, rfl, ite_f (by decide +kernel) ?_⟩⟩
    have e1 := Ext.new hp (.tup [.str "star", .str "opt", .str "not", .str "and", .str "mark"])
    generalize upd H p (.tup [.str "star", .str "opt", .str "not", .str "and", .str "mark"]) = H1 at e1
    have ha := e1.tup ha
    exact ⟨Nat.zero_le _, fun q hq => hQ q _ _ ((e1).trans (Ext.new hq _)) ((e1).free hq) upd_same .nil⟩
  | fail =>
    obtain ⟨a, rfl, ha⟩ := hv.one
    refine ⟨_, rfl, a, _, _, _, rfl, rfl, SqT.of ha, at0, rfl, _, rfl, ite_f (by decide +kernel) ⟨_, rfl, a, _, _, _, rfl, rfl, SqT.of ha, at0, rfl, _, rfl, ite_f (by decide +kernel) ?_⟩⟩
    refine ⟨_, rfl, a, _, _, _, rfl, rfl, SqT.of ha, at0, tup5, fun p hp => ⟨p, _, rfl, .inr (SqT.of upd_same), rfl, rfl, _, rfl, ite_f (by decide +kernel) ?_⟩⟩
    have e1 := Ext.new hp (.tup [.str "star", .str "opt", .str "not", .str "and", .str "mark"])
    generalize upd H p (.tup [.str "star", .str "opt", .str "not", .str "and", .str "mark"]) = H1 at e1
    have ha := e1.tup ha
    exact ⟨Nat.zero_le _, fun q hq => hQ q _ _ ((e1).trans (Ext.new hq _)) ((e1).free hq) upd_same .nil⟩
  | any =>
    obtain ⟨a, rfl, ha⟩ := hv.one
    refine ⟨_, rfl, a, _, _, _, rfl, rfl, SqT.of ha, at0, rfl, _, rfl, ite_f (by decide +kernel) ⟨_, rfl, a, _, _, _, rfl, rfl, SqT.of ha, at0, rfl, _, rfl, ite_f (by decide +kernel) ?_⟩⟩
    refine ⟨_, rfl, a, _, _, _, rfl, rfl, SqT.of ha, at0, tup5, fun p hp => ⟨p, _, rfl, .inr (SqT.of upd_same), rfl, rfl, _, rfl, ite_f (by decide +kernel) ?_⟩⟩
    have e1 := Ext.new hp (.tup [.str "star", .str "opt", .str "not", .str "and", .str "mark"])
    generalize upd H p (.tup [.str "star", .str "opt", .str "not", .str "and", .str "mark"]) = H1 at e1
    have ha := e1.tup ha
    exact ⟨Nat.zero_le _, fun q hq => hQ q _ _ ((e1).trans (Ext.new hq _)) ((e1).free hq) upd_same .nil⟩
  | set z =>
    obtain ⟨a, u, rfl, ha, hu⟩ := hv.two
    refine ⟨_, rfl, a, _, _, _, rfl, rfl, SqT.of ha, at0, rfl, _, rfl, ite_f (by decide +kernel) ⟨_, rfl, a, _, _, _, rfl, rfl, SqT.of ha, at0, rfl, _, rfl, ite_f (by decide +kernel) ?_⟩⟩
    refine ⟨_, rfl, a, _, _, _, rfl, rfl, SqT.of ha, at0, tup5, fun p hp => ⟨p, _, rfl, .inr (SqT.of upd_same), rfl, rfl, _, rfl, ite_f (by decide +kernel) ?_⟩⟩
    have e1 := Ext.new hp (.tup [.str "star", .str "opt", .str "not", .str "and", .str "mark"])
    generalize upd H p (.tup [.str "star", .str "opt", .str "not", .str "and", .str "mark"]) = H1 at e1
    have ha := e1.tup ha
    exact ⟨Nat.zero_le _, fun q hq => hQ q _ _ ((e1).trans (Ext.new hq _)) ((e1).free hq) upd_same .nil⟩
  | text z =>
    obtain ⟨a, u, rfl, ha, hu⟩ := hv.two
    refine ⟨_, rfl, a, _, _, _, rfl, rfl, SqT.of ha, at0, rfl, _, rfl, ite_f (by decide +kernel) ⟨_, rfl, a, _, _, _, rfl, rfl, SqT.of ha, at0, rfl, _, rfl, ite_f (by decide +kernel) ?_⟩⟩
    refine ⟨_, rfl, a, _, _, _, rfl, rfl, SqT.of ha, at0, tup5, fun p hp => ⟨p, _, rfl, .inr (SqT.of upd_same), rfl, rfl, _, rfl, ite_f (by decide +kernel) ?_⟩⟩
    have e1 := Ext.new hp (.tup [.str "star", .str "opt", .str "not", .str "and", .str "mark"])
    generalize upd H p (.tup [.str "star", .str "opt", .str "not", .str "and", .str "mark"]) = H1 at e1
    have ha := e1.tup ha
    exact ⟨Nat.zero_le _, fun q hq => hQ q _ _ ((e1).trans (Ext.new hq _)) ((e1).free hq) upd_same .nil⟩
  | call z =>
    obtain ⟨a, u, rfl, ha, hu⟩ := hv.two
    refine ⟨_, rfl, a, _, _, _, rfl, rfl, SqT.of ha, at0, rfl, _, rfl, ite_f (by decide +kernel) ⟨_, rfl, a, _, _, _, rfl, rfl, SqT.of ha, at0, rfl, _, rfl, ite_f (by decide +kernel) ?_⟩⟩
    refine ⟨_, rfl, a, _, _, _, rfl, rfl, SqT.of ha, at0, tup5, fun p hp => ⟨p, _, rfl, .inr (SqT.of upd_same), rfl, rfl, _, rfl, ite_f (by decide +kernel) ?_⟩⟩
    have e1 := Ext.new hp (.tup [.str "star", .str "opt", .str "not", .str "and", .str "mark"])
    generalize upd H p (.tup [.str "star", .str "opt", .str "not", .str "and", .str "mark"]) = H1 at e1
    have ha := e1.tup ha
    exact ⟨Nat.zero_le _, fun q hq => hQ q _ _ ((e1).trans (Ext.new hq _)) ((e1).free hq) upd_same .nil⟩
  | seq es =>
    obtain ⟨a, u, rfl, ha, hu⟩ := hv.two
    obtain ⟨b, vs, rfl, hb, hs⟩ := hu.tupI
    refine ⟨_, rfl, a, _, _, _, rfl, rfl, SqT.of ha, at0, rfl, _, rfl, ite_t (by decide +kernel) (ite_t rfl ?_)⟩
    exact ⟨_, rfl, a, _, _, _, rfl, rfl, SqT.of ha, at1, b, vs, rfl, .inr (SqT.of hb), fun q hq => hQ q _ _ (Ext.new hq _) hq upd_same (hs.mono (Ext.new hq _))⟩
  | alt es =>
    obtain ⟨a, u, rfl, ha, hu⟩ := hv.two
    obtain ⟨b, vs, rfl, hb, hs⟩ := hu.tupI
    refine ⟨_, rfl, a, _, _, _, rfl, rfl, SqT.of ha, at0, rfl, _, rfl, ite_f (by decide +kernel) ⟨_, rfl, a, _, _, _, rfl, rfl, SqT.of ha, at0, rfl, _, rfl, ite_t (by decide +kernel) ?_⟩⟩
    exact ⟨_, rfl, a, _, _, _, rfl, rfl, SqT.of ha, at1, b, vs, rfl, .inr (SqT.of hb), fun q hq => hQ q _ _ (Ext.new hq _) hq upd_same (hs.mono (Ext.new hq _))⟩
  | star e =>
    obtain ⟨a, u, rfl, ha, hu⟩ := hv.two
    refine ⟨_, rfl, a, _, _, _, rfl, rfl, SqT.of ha, at0, rfl, _, rfl, ite_f (by decide +kernel) ⟨_, rfl, a, _, _, _, rfl, rfl, SqT.of ha, at0, rfl, _, rfl, ite_f (by decide +kernel) ?_⟩⟩
    refine ⟨_, rfl, a, _, _, _, rfl, rfl, SqT.of ha, at0, tup5, fun p hp => ⟨p, _, rfl, .inr (SqT.of upd_same), rfl, rfl, _, rfl, ite_t (by decide +kernel) ?_⟩⟩
    have e1 := Ext.new hp (.tup [.str "star", .str "opt", .str "not", .str "and", .str "mark"])
    generalize upd H p (.tup [.str "star", .str "opt", .str "not", .str "and", .str "mark"]) = H1 at e1
    have ha := e1.tup ha
    exact ⟨_, rfl, _, rfl, a, _, _, u, rfl, rfl, SqT.of ha, rfl, one1, fun q hq => hQ q _ _ ((e1).trans (Ext.new hq _)) ((e1).free hq) upd_same (.cons (hu.mono ((e1).trans (Ext.new hq _))) .nil)⟩
  | opt e =>
    obtain ⟨a, u, rfl, ha, hu⟩ := hv.two
    refine ⟨_, rfl, a, _, _, _, rfl, rfl, SqT.of ha, at0, rfl, _, rfl, ite_f (by decide +kernel) ⟨_, rfl, a, _, _, _, rfl, rfl, SqT.of ha, at0, rfl, _, rfl, ite_f (by decide +kernel) ?_⟩⟩
    refine ⟨_, rfl, a, _, _, _, rfl, rfl, SqT.of ha, at0, tup5, fun p hp => ⟨p, _, rfl, .inr (SqT.of upd_same), rfl, rfl, _, rfl, ite_t (by decide +kernel) ?_⟩⟩
    have e1 := Ext.new hp (.tup [.str "star", .str "opt", .str "not", .str "and", .str "mark"])
    generalize upd H p (.tup [.str "star", .str "opt", .str "not", .str "and", .str "mark"]) = H1 at e1
    have ha := e1.tup ha
    exact ⟨_, rfl, _, rfl, a, _, _, u, rfl, rfl, SqT.of ha, rfl, one1, fun q hq => hQ q _ _ ((e1).trans (Ext.new hq _)) ((e1).free hq) upd_same (.cons (hu.mono ((e1).trans (Ext.new hq _))) .nil)⟩
  | nt e =>
    obtain ⟨a, u, rfl, ha, hu⟩ := hv.two
    refine ⟨_, rfl, a, _, _, _, rfl, rfl, SqT.of ha, at0, rfl, _, rfl, ite_f (by decide +kernel) ⟨_, rfl, a, _, _, _, rfl, rfl, SqT.of ha, at0, rfl, _, rfl, ite_f (by decide +kernel) ?_⟩⟩
    refine ⟨_, rfl, a, _, _, _, rfl, rfl, SqT.of ha, at0, tup5, fun p hp => ⟨p, _, rfl, .inr (SqT.of upd_same), rfl, rfl, _, rfl, ite_t (by decide +kernel) ?_⟩⟩
    have e1 := Ext.new hp (.tup [.str "star", .str "opt", .str "not", .str "and", .str "mark"])
    generalize upd H p (.tup [.str "star", .str "opt", .str "not", .str "and", .str "mark"]) = H1 at e1
    have ha := e1.tup ha
    exact ⟨_, rfl, _, rfl, a, _, _, u, rfl, rfl, SqT.of ha, rfl, one1, fun q hq => hQ q _ _ ((e1).trans (Ext.new hq _)) ((e1).free hq) upd_same (.cons (hu.mono ((e1).trans (Ext.new hq _))) .nil)⟩
  | an e =>
    obtain ⟨a, u, rfl, ha, hu⟩ := hv.two
    refine ⟨_, rfl, a, _, _, _, rfl, rfl, SqT.of ha, at0, rfl, _, rfl, ite_f (by decide +kernel) ⟨_, rfl, a, _, _, _, rfl, rfl, SqT.of ha, at0, rfl, _, rfl, ite_f (by decide +kernel) ?_⟩⟩
    refine ⟨_, rfl, a, _, _, _, rfl, rfl, SqT.of ha, at0, tup5, fun p hp => ⟨p, _, rfl, .inr (SqT.of upd_same), rfl, rfl, _, rfl, ite_t (by decide +kernel) ?_⟩⟩
    have e1 := Ext.new hp (.tup [.str "star", .str "opt", .str "not", .str "and", .str "mark"])
    generalize upd H p (.tup [.str "star", .str "opt", .str "not", .str "and", .str "mark"]) = H1 at e1
    have ha := e1.tup ha
    exact ⟨_, rfl, _, rfl, a, _, _, u, rfl, rfl, SqT.of ha, rfl, one1, fun q hq => hQ q _ _ ((e1).trans (Ext.new hq _)) ((e1).free hq) upd_same (.cons (hu.mono ((e1).trans (Ext.new hq _))) .nil)⟩
  | mark z e =>
    obtain ⟨a, u, u2, rfl, ha, hu, hu2⟩ := hv.three
    refine ⟨_, rfl, a, _, _, _, rfl, rfl, SqT.of ha, at0, rfl, _, rfl, ite_f (by decide +kernel) ⟨_, rfl, a, _, _, _, rfl, rfl, SqT.of ha, at0, rfl, _, rfl, ite_f (by decide +kernel) ?_⟩⟩
    refine ⟨_, rfl, a, _, _, _, rfl, rfl, SqT.of ha, at0, tup5, fun p hp => ⟨p, _, rfl, .inr (SqT.of upd_same), rfl, rfl, _, rfl, ite_t (by decide +kernel) ?_⟩⟩
    have e1 := Ext.new hp (.tup [.str "star", .str "opt", .str "not", .str "and", .str "mark"])
    generalize upd H p (.tup [.str "star", .str "opt", .str "not", .str "and", .str "mark"]) = H1 at e1
    have ha := e1.tup ha
    exact ⟨_, rfl, _, rfl, a, _, _, u2, rfl, rfl, SqT.of ha, rfl, one1, fun q hq => hQ q _ _ ((e1).trans (Ext.new hq _)) ((e1).free hq) upd_same (.cons (hu2.mono ((e1).trans (Ext.new hq _))) .nil)⟩

end
end N_k01
namespace N_k01
open PySem PySem.Spec PyProof.Rows L2 GenW GE LB
section
variable {P : Program} {w : World} {K : PySem.W.Frag} {mg : Str → Option Value} {base : Heap} (T : Txt K mg base)
theorem ok__law_count_step (n : Nat) (G__law_parts : FnOk P w K mg base CX0 1 T.f__law_parts T.d__law_parts ["expression"] spParts1) (G__law_count : FnOk P w K mg base CX0 (n + 1) T.f__law_count T.d__law_count ["expression"] (spCount n)) :
    FnOk P w K mg base CX0 (n + 1 + 1) T.f__law_count T.d__law_count ["expression"] (spCount (n + 1)) := by
  refine T.D__law_count.ok sc__law_count (fun vs H Q E h => ?_) (fun cdv A outer s H vs Q E hr h => ?_)
  · obtain ⟨e, v, rfl, _⟩ := h
    rfl
  obtain ⟨e, v, rfl, hv, hd, hsz, hQ⟩ := h
  refine ⟨_, (pss_one (ps_ret (pe_op op_add pe_int (pe_callB (cr_sum rfl) (by rfl) T.b_sum (by decide +kernel) (pa_cons (pe_lc (own := [("part", 1)]) (g := gName 1) rfl sc__law_count.nd (piL K rfl (pe_call G__law_parts (hr.mono (by first | omega | decide)) rfl T.D__law_parts.m T.D__law_parts.F.kp T.D__law_parts.b .nil pass0 (pa_cons (pv 0) pa_nil))) (blkOk_by (N := ["expression", "part"]) (sc := defScope s__law_count) (own := [("part", 1)]) (by decide +kernel)) (fun _ _ _ _ _ => (pg_name (i := 1) sc__law_count.nd rfl (by first | exact Or.inl rfl | exact Or.inr rfl))) (fun _ _ _ _ _ => pts_nil) (fun _ _ _ _ _ => (pe_call G__law_count (hr.mono (by first | omega | decide)) rfl T.D__law_count.m T.D__law_count.F.kp T.D__law_count.b .nil pass0 (pa_cons (pv 1) pa_nil)))) pa_nil))))), ?_⟩
  refine ⟨_, rfl, e, v, rfl, hv, fun p us H1 e1 hp hl hds => ?_⟩
  have hlen : us.length = e.parts.length := by rw [hds.len, Ex.pys_len]
  refine ⟨p, rfl, ⟨_, SqL.of hl⟩, fun D hD => ?_⟩
  have hsp := e.size_parts
  have hpl := Ex.sizes_len e.parts
  refine lc_list (K := K) (a := p) (xs := us) (fun i H' => Ext H1 H' ∧ H' D = some (.lst (((e.parts.take i).map fun q : Ex => ((q.size : Nat) : Int)).map V.int)))
    ⟨Ext.new hD _, upd_same⟩ (fun i H' _ ⟨e', _⟩ => SqL.of (e'.lst hl)) (fun i x H' hx ⟨e', hacc⟩ => ?_) (fun H' ⟨e', hacc⟩ => ?_)
  · obtain ⟨d, hd1, hd2⟩ := DAs.get' (hds.mono e') hx
    obtain ⟨q, hq, rfl⟩ := Ex.pys_get hd1
    have hdq := Ex.parts_dep hq
    have hsq := Ex.parts_size hq
    refine ⟨rfl, _, rfl, q, x, rfl, hd2, by omega, by omega, fun H4 e4 => ?_⟩
    refine ⟨_, e4.lst hacc, small5000 (by rw [List.length_map, List.length_map, List.length_take]; omega), ExtR.of_free hD (e'.trans e4) (ExtR.set (e4.lst hacc) _), ?_⟩
    rw [upd_same, List.take_add_one, hq, List.map_append, List.map_append]; rfl
  · refine ⟨D, _, rfl, SqL.of hacc, _, _, rfl, rfl, ?_⟩
    have q := hQ H' (e1.trans e')
    have hsum : ∀ l : List Ex, (l.map fun q : Ex => ((q.size : Nat) : Int)).sum = ((Ex.sizes l : Nat) : Int) := by
      intro l
      induction l with
      | nil => rfl
      | cons x r ih => rw [List.map_cons, List.sum_cons, ih, Ex.sizes]; omega
    rw [hlen, List.take_length, hsum]
    show Q (.int ((1 : Int) + ((Ex.sizes e.parts : Nat) : Int))) H'
    rw [hsp] at q
    rw [show (1 : Int) + ((Ex.sizes e.parts : Nat) : Int) = ((1 + Ex.sizes e.parts : Nat) : Int) by omega]
    exact q
theorem ok__law_count (G__law_parts : FnOk P w K mg base CX0 1 T.f__law_parts T.d__law_parts ["expression"] spParts1) : ∀ n : Nat, FnOk P w K mg base CX0 (n + 1) T.f__law_count T.d__law_count ["expression"] (spCount n)
  | 0 => by
    have no : ∀ vs H Q E, ¬ spCount 0 vs H Q E := fun vs H Q E h => by
      obtain ⟨e, v, _, _, hn, _⟩ := h
      have := e.dep_pos
      omega
    exact ⟨fun vs H Q E h => absurd h (no vs H Q E), fun A outer s H args us vs Q E _ _ _ _ h => absurd h (no vs H Q E)⟩
  | n + 1 => ok__law_count_step T n G__law_parts (ok__law_count G__law_parts n)

end
end N_k01
namespace N_k01
open PySem PySem.Spec PyProof.Rows L2 GenW GE LB
section
variable {P : Program} {w : World} {K : PySem.W.Frag} {mg : Str → Option Value} {base : Heap} (T : Txt K mg base)
theorem ok__law_calls_step (n : Nat) (G__law_parts : FnOk P w K mg base CX0 1 T.f__law_parts T.d__law_parts ["expression"] spParts1) (G__law_calls : FnOk P w K mg base CX0 (n + 1) T.f__law_calls T.d__law_calls ["expression"] (spCalls n)) :
    FnOk P w K mg base CX0 (n + 1 + 1) T.f__law_calls T.d__law_calls ["expression"] (spCalls (n + 1)) := by
  refine T.D__law_calls.ok sc__law_calls (fun vs H Q E h => ?_) (fun cdv A outer s H vs Q E hr h => ?_)
  · obtain ⟨e, v, rfl, _⟩ := h
    rfl
  obtain ⟨e, v, rfl, hv, hd, hsz, hQ⟩ := h
  refine ⟨_, (pss_cons (ps_if (pt_cmpR op_eq (pe_ix (ixT K rfl) (pv 0) pe_int (fun _ _ => rfl)) pe_str (nomark _)) (pss_one (ps_ret (pe_lst (pa_cons (pe_ix (ixT K rfl) (pv 0) pe_int (fun _ _ => rfl)) pa_nil)))) pss_nil)
    (pss_cons (ps_set (i := 1) sc__law_calls.nd rfl (by first | exact Or.inl rfl | exact Or.inr rfl) (pe_lst pa_nil))
    (pss_cons (ps_for PassesOwn.never rfl (piL K rfl (pe_call G__law_parts (hr.mono (by first | omega | decide)) rfl T.D__law_parts.m T.D__law_parts.F.kp T.D__law_parts.b .nil pass0 (pa_cons (pv 0) pa_nil))) (pg_name (i := 2) sc__law_calls.nd rfl (by first | exact Or.inl rfl | exact Or.inr rfl)) (pss_one (ps_expr (pe_bm PySem.F.plainAttrs_list PySem.F.slot_list_extend PySem.F.type_list_extend mt_extend (pv 1) (pa_cons (pe_lc (own := [("name", 3)]) (g := gName 3) rfl sc__law_calls.nd (piL K rfl (pe_call G__law_calls (hr.mono (by first | omega | decide)) rfl T.D__law_calls.m T.D__law_calls.F.kp T.D__law_calls.b .nil pass0 (pa_cons (pv 2) pa_nil))) (blkOk_by (N := ["expression", "found", "part", "name"]) (sc := defScope s__law_calls) (own := [("name", 3)]) (by decide +kernel)) (fun _ _ _ _ _ => (pg_name (i := 3) sc__law_calls.nd rfl (by first | exact Or.inl rfl | exact Or.inr rfl))) (fun _ _ _ _ _ => (pts_one (pt_cmpR (ninQ K rfl) (pv 3) (pv 1) rfl))) (fun _ _ _ _ _ => (pv 3))) pa_nil)))))
    (pss_one (ps_ret (pv 1)))))), ?_⟩
  have one1 : (1 : Nat) ≤ sizeLine := by decide
  by_cases hc : ∃ m, e = .call m
  · obtain ⟨m, rfl⟩ := hc
    obtain ⟨a, u, rfl, ha, hu⟩ := hv.two
    cases hu.strI
    refine ⟨_, rfl, a, _, _, _, rfl, rfl, SqT.of ha, at0, rfl, _, rfl, ite_t (by decide +kernel) ?_⟩
    exact ⟨_, rfl, a, _, _, _, rfl, rfl, SqT.of ha, at1, one1, fun q hq => hQ q _ (Ext.new hq _) hq upd_same⟩
  have hc' : ∀ m, e ≠ .call m := fun m z => hc ⟨m, z⟩
  obtain ⟨a, rest, rfl, ha⟩ := head_at hv
  have hne := head_call hc'
  refine ⟨_, rfl, a, _, _, _, rfl, rfl, SqT.of ha, at0, rfl, _, rfl, ite_f hne ?_⟩
  refine ⟨Nat.zero_le _, fun l hl0 => ?_⟩
  have e1 := Ext.new hl0 (.lst [])
  refine ⟨_, rfl, e, _, rfl, hv.mono e1, fun p us H2 e2 hp hlp hds => ?_⟩
  have hl2 : H2 l = some (.lst (([] : List Str).map V.str)) := e2.lst upd_same
  have npl : p ≠ l := fun z => by rw [z, upd_same] at hp; cases hp
  refine ⟨p, rfl, ⟨_, SqL.of hlp⟩, ?_⟩
  have hlen : us.length = e.parts.length := by rw [hds.len, Ex.pys_len]
  refine for_list (K := K) (a := p) (xs := us) (fun i σ H' => ∃ (x y : Option V), σ = [some (.ref a), some (.ref l), x, y] ∧ ExtR l H2 H' ∧ H' l = some (.lst ((Ex.callsL [] (e.parts.take i)).map V.str)))
    ⟨none, none, rfl, ExtR.refl _ _, by rw [List.take_zero]; exact hl2⟩ (fun i σ H' _ ⟨x, y, _, e', _⟩ => SqL.of (e'.lst npl hlp)) (fun i v σ H' hx ⟨x, y, hσ, e', hacc⟩ => ?_) (fun σ H' ⟨x, y, hσ, e', hacc⟩ => ?_)
  · subst hσ
    obtain ⟨d, hd1, hd2⟩ := DAs.get' (hds.monoR e') hx
    obtain ⟨q, hq, rfl⟩ := Ex.pys_get hd1
    have hdq := Ex.parts_dep hq
    have hsq := Ex.parts_size hq
    have htk : Ex.callsL [] (e.parts.take (i + 1)) = addN (Ex.callsL [] (e.parts.take i)) q.calls := by rw [List.take_add_one, hq]; exact Ex.callsL_app q _ _
    have hcl : (Ex.callsL [] (e.parts.take i)).length + q.calls.length ≤ 4000 := by
      have h2 := q.calls_len
      have h4 := Ex.callsL_len (e.parts.take i) []
      have h5 := Ex.sizes_at hq
      have h6 := Ex.sizes_take e.parts (i + 1)
      have h7 := e.size_parts
      simp only [List.length_nil] at h4
      omega
    refine ⟨_, rfl, .inl ⟨rfl, _, SqL.of hacc⟩, ?_⟩
    refine ⟨_, rfl, q, v, rfl, hd2, by omega, by omega, fun p2 H3 e3 hp2 hlp2 => ?_⟩
    refine ⟨p2, rfl, ⟨_, SqL.of hlp2⟩, fun D hD => ?_⟩
    have hacc3 := e3.lst hacc
    have nD : D ≠ l := fun z => by rw [z, hacc3] at hD; cases hD
    refine lc_list (K := K) (a := p2) (xs := q.calls.map V.str) (fun j H4 => Ext H3 H4 ∧ H4 D = some (.lst (((q.calls.take j).filter fun x => !decide (x ∈ Ex.callsL [] (e.parts.take i))).map V.str)))
      ⟨Ext.new hD _, by rw [List.take_zero]; exact upd_same⟩ (fun j H4 _ ⟨e4, _⟩ => SqL.of (e4.lst hlp2)) (fun j v2 H4 hx2 ⟨e4, hacc4⟩ => ?_) (fun H4 ⟨e4, hacc4⟩ => ?_)
    · obtain ⟨nm, hnm, rfl⟩ := map_str hx2
      refine ⟨rfl, _, rfl, _, rfl, l, _, rfl, .inl (SqL.of (e4.lst hacc3)), rfl, flat_strs _, _, rfl, ?_⟩
      have hle := filter_le (fun x : Str => !decide (x ∈ Ex.callsL [] (e.parts.take i))) q.calls j
      by_cases c : nm ∈ Ex.callsL [] (e.parts.take i)
      · refine ite_f (by rw [inV_str, decide_eq_true c]; rfl) ⟨e4, ?_⟩
        rw [filter_at _ hnm, if_neg (by rw [decide_eq_true c]; exact Bool.false_ne_true), List.append_nil]
        exact hacc4
      · refine ite_t (by rw [inV_str, decide_eq_false c]; rfl) ?_
        refine ⟨_, rfl, _, hacc4, small5000 (by rw [List.length_map]; omega), ExtR.of_free hD e4 (ExtR.set hacc4 _), ?_⟩
        rw [upd_same, filter_at _ hnm, if_pos (by rw [decide_eq_false c]; rfl), List.map_append]; rfl
    · rw [List.length_map, List.take_length] at hacc4
      have hfl : (q.calls.filter fun x => !decide (x ∈ Ex.callsL [] (e.parts.take i))).length ≤ q.calls.length := List.length_filter_le _ _
      refine ⟨l, D, _, _, rfl, rfl, e4.lst hacc3, hacc4, by rw [List.length_map, List.length_map, sizeLine_eq]; omega, ?_⟩
      refine ⟨_, _, rfl, (e'.trans (e3.toR l)).trans ((e4.toR l).trans (ExtR.set (e4.lst hacc3) _)), ?_⟩
      rw [upd_same, htk, addN_filter _ q.calls_nodup, List.map_append]
  · subst hσ
    rw [hlen, List.take_length, ← Ex.calls_parts hc'] at hacc
    exact ⟨_, rfl, hQ l H' (ExtR.of_free hl0 (e1.trans e2) e') hl0 hacc⟩
theorem ok__law_calls (G__law_parts : FnOk P w K mg base CX0 1 T.f__law_parts T.d__law_parts ["expression"] spParts1) : ∀ n : Nat, FnOk P w K mg base CX0 (n + 1) T.f__law_calls T.d__law_calls ["expression"] (spCalls n)
  | 0 => by
    have no : ∀ vs H Q E, ¬ spCalls 0 vs H Q E := fun vs H Q E h => by
      obtain ⟨e, v, _, _, hn, _⟩ := h
      have := e.dep_pos
      omega
    exact ⟨fun vs H Q E h => absurd h (no vs H Q E), fun A outer s H args us vs Q E _ _ _ _ h => absurd h (no vs H Q E)⟩
  | n + 1 => ok__law_calls_step T n G__law_parts (ok__law_calls G__law_parts n)

end
end N_k01
namespace N_k01
open PySem PySem.Spec PyProof.Rows L2 GenW GE LB
section
variable {P : Program} {w : World} {K : PySem.W.Frag} {mg : Str → Option Value} {base : Heap} (T : Txt K mg base)
theorem ok__law_put_step (n : Nat) (G__law_parts : FnOk P w K mg base CX0 1 T.f__law_parts T.d__law_parts ["expression"] spParts1) (G__law_count : ∀ n : Nat, FnOk P w K mg base CX0 (n + 1) T.f__law_count T.d__law_count ["expression"] (spCount n)) (G__law_put : FnOk P w K mg base CX0 (n + 2) T.f__law_put T.d__law_put ["expression", "at", "other"] (spPut n)) :
    FnOk P w K mg base CX0 (n + 2 + 1) T.f__law_put T.d__law_put ["expression", "at", "other"] (spPut (n + 1)) := by
  refine T.D__law_put.ok sc__law_put (fun vs H Q E h => ?_) (fun cdv A outer s H vs Q E hr h => ?_)
  · obtain ⟨r, e, v, k, o, ov, rfl, _⟩ := h
    rfl
  obtain ⟨r, e, v, k, o, ov, rfl, hv, hd, hsz, hk, ho, hQ⟩ := h
  have G__law_count := G__law_count n
  refine ⟨_, (pss_cons (ps_if (pt_cmpR op_eq (pv 1) pe_int (nomark _)) (pss_one (ps_ret (pv 2))) pss_nil)
    (pss_cons (ps_set (i := 1) sc__law_put.nd rfl (by first | exact Or.inl rfl | exact Or.inr rfl) (pe_op op_sub (pv 1) pe_int))
    (pss_cons (ps_set (i := 3) sc__law_put.nd rfl (by first | exact Or.inl rfl | exact Or.inr rfl) (pe_call G__law_parts (hr.mono (by first | omega | decide)) rfl T.D__law_parts.m T.D__law_parts.F.kp T.D__law_parts.b .nil pass0 (pa_cons (pv 0) pa_nil)))
    (pss_cons (ps_for PassesOwn.never rfl (pi_range1 (by rfl) T.b_range (pa_cons (pe_callB (lenQ K rfl) (by rfl) T.b_len PySem.boot_len (pa_cons (pv 3) pa_nil)) pa_nil)) (pg_name (i := 4) sc__law_put.nd rfl (by first | exact Or.inl rfl | exact Or.inr rfl)) (pss_cons (ps_set (i := 5) sc__law_put.nd rfl (by first | exact Or.inl rfl | exact Or.inr rfl) (pe_call G__law_count (hr.mono (by first | omega | decide)) rfl T.D__law_count.m T.D__law_count.F.kp T.D__law_count.b .nil pass0 (pa_cons (pe_ix (ixL K rfl) (pv 3) (pv 4) (fun _ _ => rfl)) pa_nil)))
    (pss_cons (ps_if (pt_cmpR op_lt (pv 1) (pv 5) (nomark _)) (pss_cons (ps_set (i := 6) sc__law_put.nd rfl (by first | exact Or.inl rfl | exact Or.inr rfl) (pe_call G__law_put (hr.mono (by first | omega | decide)) rfl T.D__law_put.m T.D__law_put.F.kp T.D__law_put.b .nil pass0 (pa_cons (pe_ix (ixL K rfl) (pv 3) (pv 4) (fun _ _ => rfl)) (pa_cons (pv 1) (pa_cons (pv 2) pa_nil)))))
    (pss_cons (ps_if (PW.pt (pw_or (pt_cmpR op_eq (pe_ix (ixT K rfl) (pv 0) pe_int (fun _ _ => rfl)) pe_str (nomark _)) (pw_or1 (pt_cmpR op_eq (pe_ix (ixT K rfl) (pv 0) pe_int (fun _ _ => rfl)) pe_str (nomark _))))) (pss_one (ps_ret (pe_tup (pa_cons (pe_ix (ixT K rfl) (pv 0) pe_int (fun _ _ => rfl)) (pa_cons (pe_op op_catA (pe_op op_catA (pe_slice (slT K rfl) (pe_ix (ixT K rfl) (pv 0) pe_int (fun _ _ => rfl)) po_none (po_some (pv 4))) (pe_tup (pa_cons (pv 6) pa_nil))) (pe_slice (slT K rfl) (pe_ix (ixT K rfl) (pv 0) pe_int (fun _ _ => rfl)) (po_some (pe_op op_add (pv 4) pe_int)) po_none)) pa_nil))))) pss_nil)
    (pss_one (ps_ret (pe_op op_catA (pe_slice (slT K rfl) (pv 0) po_none (po_some (pe_un un_neg pe_int))) (pe_tup (pa_cons (pv 6) pa_nil))))))) pss_nil)
    (pss_one (ps_set (i := 1) sc__law_put.nd rfl (by first | exact Or.inl rfl | exact Or.inr rfl) (pe_op op_sub (pv 1) (pv 5)))))))
    (pss_one (ps_ret (pv 2))))))), ?_⟩
  have two2 : (2 : Nat) ≤ sizeLine := by decide
  have one1 : (1 : Nat) ≤ sizeLine := by decide
  refine ⟨_, rfl, rfl, _, rfl, ?_⟩
  by_cases hk0 : k = 0
  · subst hk0
    refine ite_t (by decide +kernel) ?_
    refine ⟨_, rfl, hQ ov H (Ext.refl H) ?_⟩
    rw [Ex.put]
    exact ho
  obtain ⟨k, rfl⟩ : ∃ k', k = k' + 1 := ⟨k - 1, by omega⟩
  refine ite_f (decide_eq_false (fun q => by injection q; omega)) ?_
  refine ⟨_, rfl, _, _, rfl, rfl, ?_⟩
  refine ⟨_, rfl, e, v, rfl, hv, fun p us H1 e1 hp hl hds => ?_⟩
  have hlen : us.length = e.parts.length := by rw [hds.len, Ex.pys_len]
  have hsp := e.size_parts
  have hpl := Ex.sizes_len e.parts
  refine ⟨_, rfl, p, _, rfl, .inl (SqL.of hl), _, rfl, by omega, by omega, ?_⟩
  refine for_range (lo := 0) (n := us.length) (fun i σ H' => ∃ (x y z : Option V), σ = [some v, some (.int ((k - Ex.sizes (e.parts.take i) : Nat) : Int)), some ov, some (.ref p), x, y, z] ∧ Ext H1 H' ∧ Ex.sizes (e.parts.take i) ≤ k)
    ⟨none, none, none, by rw [List.take_zero, show Ex.sizes ([] : List Ex) = 0 from rfl, Nat.sub_zero, ← show (((k + 1 : Nat) : Int) - 1) = (k : Int) by omega]; rfl, Ext.refl _, by rw [List.take_zero, show Ex.sizes ([] : List Ex) = 0 from rfl]; omega⟩ (fun i σ H' hi ⟨x, y, z, hσ, e', hle⟩ => ?_) (fun σ H' ⟨x, y, z, hσ, e', hle⟩ => ?_)
  · subst hσ
    obtain ⟨dq, hd1, hd2⟩ := DAs.get' (hds.mono e') (List.getElem?_eq_getElem hi)
    obtain ⟨q, hq, rfl⟩ := Ex.pys_get hd1
    have hdq := Ex.parts_dep hq
    have hsq := Ex.parts_size hq
    have hS := Ex.sizes_at hq
    have hat : atI us ((0 : Int) + i) = some us[i] := by unfold atI; rw [ixN_at hi (by omega)]; exact List.getElem?_eq_getElem hi
    refine ⟨_, rfl, _, rfl, p, _, _, us[i], rfl, rfl, SqL.of (e'.lst hl), hat, q, us[i], rfl, hd2, by omega, by omega, fun H3 e3 => ?_⟩
    have f3 := e'.trans e3
    refine ⟨_, rfl, _, rfl, _, _, rfl, rfl, _, rfl, ite2 (fun c => ?_) (fun c => ?_)⟩
    · have hlt : k < Ex.sizes (e.parts.take i) + q.size := by have := of_decide_eq_true c; omega
      refine ⟨_, rfl, _, rfl, p, _, _, us[i], rfl, rfl, SqL.of (f3.lst hl), hat, _, rfl, _, rfl, r, q, us[i], k - Ex.sizes (e.parts.take i), o, ov, rfl, hd2.mono e3, by omega, by omega, by omega, (ho.mono e1).mono f3, fun iv H4 e4 hiv => ?_⟩
      have f4 := e1.trans (f3.trans e4)
      cases e with
      | seq es =>
        obtain ⟨a, u, rfl, ha, hu⟩ := hv.two
        obtain ⟨b, vs, rfl, hb, hs⟩ := hu.tupI
        have ha4 := f4.tup ha
        have hb4 := f4.tup hb
        have hvl : vs.length = es.length := by rw [hs.len, Ex.pys_len]
        have hel : es.length ≤ 4000 := by have h1 := Ex.sizes_len es; have h2 : (Ex.seq es).parts = es := rfl; rw [h2] at hsp; omega
        refine ⟨_, rfl, a, _, _, _, rfl, rfl, SqT.of ha4, at0, rfl, _, rfl, ite_t (by decide +kernel) (ite_t rfl ?_)⟩
        refine ⟨_, rfl, a, _, _, _, rfl, rfl, SqT.of ha4, at0, _, rfl, a, _, _, _, rfl, rfl, SqT.of ha4, at1, _, rfl, _, rfl, slA_of hb4 fun p1 H5 e5 hp1 => ⟨_, rfl, one1, fun p2 hp2 => ?_⟩⟩
        rw [Int.zero_add, cut_take] at hp1
        have e6 := Ext.new hp2 (.tup [iv])
        refine catA_of (e6.tup hp1) upd_same (by rw [List.length_take, List.length_singleton, sizeLine_eq]; omega) fun p3 H7 e7 hp3 => ?_
        have f7 := e5.trans (e6.trans e7)
        refine ⟨_, rfl, a, _, _, _, rfl, rfl, SqT.of (f7.tup ha4), at1, _, rfl, _, _, rfl, rfl, _, rfl, ?_⟩
        dsimp only [tNoPart]
        refine slA_of (f7.tup hb4) fun p4 H8 e8 hp4 => ?_
        rw [show (0 : Int) + (i : Int) + 1 = ((i + 1 : Nat) : Int) by omega, cut_drop] at hp4
        refine catA_of (e8.tup hp3) hp4 (by rw [List.length_append, List.length_take, List.length_drop, List.length_singleton, sizeLine_eq]; omega) fun p5 H9 e9 hp5 => ⟨two2, fun p6 hp6 => ?_⟩
        have f9 := f7.trans (e8.trans e9)
        have fa := Ext.new hp6 (.tup [.str "seq", .ref p5])
        refine hQ (.ref p6) _ (f4.trans (f9.trans fa)) ?_
        have hs9 : DLs r H9 (Ex.pys es) vs := (DLs.of_da _ _ hs).mono (f4.trans f9)
        have hdl : DLs r H9 (Ex.puts o es k) (vs.take i ++ [iv] ++ vs.drop (i + 1)) := by
          rw [Ex.puts_at (es := es) (i := i) (e := q) hq hle hlt]
          exact ((hs9.take i).append (.cons (hiv.mono f9) .nil)).append (hs9.drop (i + 1))
        rw [Ex.put]
        exact DL.new hp6 (.cons .str (.cons (.tup hp5 hdl) .nil))
      | alt es =>
        obtain ⟨a, u, rfl, ha, hu⟩ := hv.two
        obtain ⟨b, vs, rfl, hb, hs⟩ := hu.tupI
        have ha4 := f4.tup ha
        have hb4 := f4.tup hb
        have hvl : vs.length = es.length := by rw [hs.len, Ex.pys_len]
        have hel : es.length ≤ 4000 := by have h1 := Ex.sizes_len es; have h2 : (Ex.alt es).parts = es := rfl; rw [h2] at hsp; omega
        refine ⟨_, rfl, a, _, _, _, rfl, rfl, SqT.of ha4, at0, rfl, _, rfl, ite_f (by decide +kernel) ⟨_, rfl, a, _, _, _, rfl, rfl, SqT.of ha4, at0, rfl, _, rfl, ite_t (by decide +kernel) ?_⟩⟩
        refine ⟨_, rfl, a, _, _, _, rfl, rfl, SqT.of ha4, at0, _, rfl, a, _, _, _, rfl, rfl, SqT.of ha4, at1, _, rfl, _, rfl, slA_of hb4 fun p1 H5 e5 hp1 => ⟨_, rfl, one1, fun p2 hp2 => ?_⟩⟩
        rw [Int.zero_add, cut_take] at hp1
        have e6 := Ext.new hp2 (.tup [iv])
        refine catA_of (e6.tup hp1) upd_same (by rw [List.length_take, List.length_singleton, sizeLine_eq]; omega) fun p3 H7 e7 hp3 => ?_
        have f7 := e5.trans (e6.trans e7)
        refine ⟨_, rfl, a, _, _, _, rfl, rfl, SqT.of (f7.tup ha4), at1, _, rfl, _, _, rfl, rfl, _, rfl, ?_⟩
        dsimp only [tNoPart]
        refine slA_of (f7.tup hb4) fun p4 H8 e8 hp4 => ?_
        rw [show (0 : Int) + (i : Int) + 1 = ((i + 1 : Nat) : Int) by omega, cut_drop] at hp4
        refine catA_of (e8.tup hp3) hp4 (by rw [List.length_append, List.length_take, List.length_drop, List.length_singleton, sizeLine_eq]; omega) fun p5 H9 e9 hp5 => ⟨two2, fun p6 hp6 => ?_⟩
        have f9 := f7.trans (e8.trans e9)
        have fa := Ext.new hp6 (.tup [.str "alt", .ref p5])
        refine hQ (.ref p6) _ (f4.trans (f9.trans fa)) ?_
        have hs9 : DLs r H9 (Ex.pys es) vs := (DLs.of_da _ _ hs).mono (f4.trans f9)
        have hdl : DLs r H9 (Ex.puts o es k) (vs.take i ++ [iv] ++ vs.drop (i + 1)) := by
          rw [Ex.puts_at (es := es) (i := i) (e := q) hq hle hlt]
          exact ((hs9.take i).append (.cons (hiv.mono f9) .nil)).append (hs9.drop (i + 1))
        rw [Ex.put]
        exact DL.new hp6 (.cons .str (.cons (.tup hp5 hdl) .nil))
      | star q0 =>
        obtain ⟨a, u, rfl, ha, hu⟩ := hv.two
        have ha4 := f4.tup ha
        obtain ⟨rfl, rfl⟩ : i = 0 ∧ q = q0 := by
          have hq2 : [q0][i]? = some q := hq
          cases i with
          | zero => exact ⟨rfl, (by simpa using hq2 : q0 = q).symm⟩
          | succ i => simp at hq2
        refine ⟨_, rfl, a, _, _, _, rfl, rfl, SqT.of ha4, at0, rfl, _, rfl, ite_f (by decide +kernel) ⟨_, rfl, a, _, _, _, rfl, rfl, SqT.of ha4, at0, rfl, _, rfl, ite_f (by decide +kernel) ?_⟩⟩
        refine ⟨_, rfl, _, rfl, _, rfl, slA_of ha4 fun p1 H5 e5 hp1 => ⟨_, rfl, one1, fun p2 hp2 => ?_⟩⟩
        have e6 := Ext.new hp2 (.tup [iv])
        refine catA_of (e6.tup hp1) upd_same (by show _ ≤ sizeLine; exact (by decide : 2 ≤ sizeLine)) fun p3 H7 e7 hp3 => ?_
        refine hQ (.ref p3) _ (f4.trans (e5.trans (e6.trans e7))) ?_
        have hkk : Ex.put o q (k - Ex.sizes ((Ex.star q).parts.take 0)) = Ex.put o q k := rfl
        rw [Ex.put, ← hkk]
        exact .tup hp3 (.cons .str (.cons (hiv.mono (e5.trans (e6.trans e7))) .nil))
      | opt q0 =>
        obtain ⟨a, u, rfl, ha, hu⟩ := hv.two
        have ha4 := f4.tup ha
        obtain ⟨rfl, rfl⟩ : i = 0 ∧ q = q0 := by
          have hq2 : [q0][i]? = some q := hq
          cases i with
          | zero => exact ⟨rfl, (by simpa using hq2 : q0 = q).symm⟩
          | succ i => simp at hq2
        refine ⟨_, rfl, a, _, _, _, rfl, rfl, SqT.of ha4, at0, rfl, _, rfl, ite_f (by decide +kernel) ⟨_, rfl, a, _, _, _, rfl, rfl, SqT.of ha4, at0, rfl, _, rfl, ite_f (by decide +kernel) ?_⟩⟩
        refine ⟨_, rfl, _, rfl, _, rfl, slA_of ha4 fun p1 H5 e5 hp1 => ⟨_, rfl, one1, fun p2 hp2 => ?_⟩⟩
        have e6 := Ext.new hp2 (.tup [iv])
        refine catA_of (e6.tup hp1) upd_same (by show _ ≤ sizeLine; exact (by decide : 2 ≤ sizeLine)) fun p3 H7 e7 hp3 => ?_
        refine hQ (.ref p3) _ (f4.trans (e5.trans (e6.trans e7))) ?_
        have hkk : Ex.put o q (k - Ex.sizes ((Ex.opt q).parts.take 0)) = Ex.put o q k := rfl
        rw [Ex.put, ← hkk]
        exact .tup hp3 (.cons .str (.cons (hiv.mono (e5.trans (e6.trans e7))) .nil))
      | nt q0 =>
        obtain ⟨a, u, rfl, ha, hu⟩ := hv.two
        have ha4 := f4.tup ha
        obtain ⟨rfl, rfl⟩ : i = 0 ∧ q = q0 := by
          have hq2 : [q0][i]? = some q := hq
          cases i with
          | zero => exact ⟨rfl, (by simpa using hq2 : q0 = q).symm⟩
          | succ i => simp at hq2
        refine ⟨_, rfl, a, _, _, _, rfl, rfl, SqT.of ha4, at0, rfl, _, rfl, ite_f (by decide +kernel) ⟨_, rfl, a, _, _, _, rfl, rfl, SqT.of ha4, at0, rfl, _, rfl, ite_f (by decide +kernel) ?_⟩⟩
        refine ⟨_, rfl, _, rfl, _, rfl, slA_of ha4 fun p1 H5 e5 hp1 => ⟨_, rfl, one1, fun p2 hp2 => ?_⟩⟩
        have e6 := Ext.new hp2 (.tup [iv])
        refine catA_of (e6.tup hp1) upd_same (by show _ ≤ sizeLine; exact (by decide : 2 ≤ sizeLine)) fun p3 H7 e7 hp3 => ?_
        refine hQ (.ref p3) _ (f4.trans (e5.trans (e6.trans e7))) ?_
        have hkk : Ex.put o q (k - Ex.sizes ((Ex.nt q).parts.take 0)) = Ex.put o q k := rfl
        rw [Ex.put, ← hkk]
        exact .tup hp3 (.cons .str (.cons (hiv.mono (e5.trans (e6.trans e7))) .nil))
      | an q0 =>
        obtain ⟨a, u, rfl, ha, hu⟩ := hv.two
        have ha4 := f4.tup ha
        obtain ⟨rfl, rfl⟩ : i = 0 ∧ q = q0 := by
          have hq2 : [q0][i]? = some q := hq
          cases i with
          | zero => exact ⟨rfl, (by simpa using hq2 : q0 = q).symm⟩
          | succ i => simp at hq2
        refine ⟨_, rfl, a, _, _, _, rfl, rfl, SqT.of ha4, at0, rfl, _, rfl, ite_f (by decide +kernel) ⟨_, rfl, a, _, _, _, rfl, rfl, SqT.of ha4, at0, rfl, _, rfl, ite_f (by decide +kernel) ?_⟩⟩
        refine ⟨_, rfl, _, rfl, _, rfl, slA_of ha4 fun p1 H5 e5 hp1 => ⟨_, rfl, one1, fun p2 hp2 => ?_⟩⟩
        have e6 := Ext.new hp2 (.tup [iv])
        refine catA_of (e6.tup hp1) upd_same (by show _ ≤ sizeLine; exact (by decide : 2 ≤ sizeLine)) fun p3 H7 e7 hp3 => ?_
        refine hQ (.ref p3) _ (f4.trans (e5.trans (e6.trans e7))) ?_
        have hkk : Ex.put o q (k - Ex.sizes ((Ex.an q).parts.take 0)) = Ex.put o q k := rfl
        rw [Ex.put, ← hkk]
        exact .tup hp3 (.cons .str (.cons (hiv.mono (e5.trans (e6.trans e7))) .nil))
      | mark l q0 =>
        obtain ⟨a, u, u2, rfl, ha, hu, hu2⟩ := hv.three
        cases hu.strI
        have ha4 := f4.tup ha
        obtain ⟨rfl, rfl⟩ : i = 0 ∧ q = q0 := by
          have hq2 : [q0][i]? = some q := hq
          cases i with
          | zero => exact ⟨rfl, (by simpa using hq2 : q0 = q).symm⟩
          | succ i => simp at hq2
        refine ⟨_, rfl, a, _, _, _, rfl, rfl, SqT.of ha4, at0, rfl, _, rfl, ite_f (by decide +kernel) ⟨_, rfl, a, _, _, _, rfl, rfl, SqT.of ha4, at0, rfl, _, rfl, ite_f (by decide +kernel) ?_⟩⟩
        refine ⟨_, rfl, _, rfl, _, rfl, slA_of ha4 fun p1 H5 e5 hp1 => ⟨_, rfl, one1, fun p2 hp2 => ?_⟩⟩
        have e6 := Ext.new hp2 (.tup [iv])
        refine catA_of (e6.tup hp1) upd_same (by show _ ≤ sizeLine; exact (by decide : 3 ≤ sizeLine)) fun p3 H7 e7 hp3 => ?_
        refine hQ (.ref p3) _ (f4.trans (e5.trans (e6.trans e7))) ?_
        have hkk : Ex.put o q (k - Ex.sizes ((Ex.mark l q).parts.take 0)) = Ex.put o q k := rfl
        rw [Ex.put, ← hkk]
        exact .tup hp3 (.cons .str (.cons .str (.cons (hiv.mono (e5.trans (e6.trans e7))) .nil)))
      | _ => simp [Ex.parts] at hq
    · have hge : Ex.sizes (e.parts.take i) + q.size ≤ k := by
        have : ¬ (((k - Ex.sizes (e.parts.take i) : Nat) : Int) < (q.size : Int)) := fun z => c (decide_eq_true z)
        omega
      refine ⟨_, rfl, _, rfl, _, _, rfl, rfl, some (.int ((0 : Int) + (i : Int))), some (.int (q.size : Int)), z, ?_, f3, by omega⟩
      rw [hS, show ((k - (Ex.sizes (e.parts.take i) + q.size) : Nat) : Int) = ((k - Ex.sizes (e.parts.take i) : Nat) : Int) - (q.size : Int) by omega]
      rfl
  · rw [hlen, List.take_length] at hle
    omega
theorem ok__law_put (G__law_parts : FnOk P w K mg base CX0 1 T.f__law_parts T.d__law_parts ["expression"] spParts1) (G__law_count : ∀ n : Nat, FnOk P w K mg base CX0 (n + 1) T.f__law_count T.d__law_count ["expression"] (spCount n)) : ∀ n : Nat, FnOk P w K mg base CX0 (n + 2) T.f__law_put T.d__law_put ["expression", "at", "other"] (spPut n)
  | 0 => by
    have no : ∀ vs H Q E, ¬ spPut 0 vs H Q E := fun vs H Q E h => by
      obtain ⟨r, e, v, k, o, ov, _, _, hn, _⟩ := h
      have := e.dep_pos
      omega
    exact ⟨fun vs H Q E h => absurd h (no vs H Q E), fun A outer s H args us vs Q E _ _ _ _ h => absurd h (no vs H Q E)⟩
  | n + 1 => ok__law_put_step T n G__law_parts G__law_count (ok__law_put G__law_parts G__law_count n)

end
end N_k01
namespace N_k01
open PySem PySem.Spec PyProof.Rows L2 GenW GE LB
section
variable {P : Program} {w : World} {K : PySem.W.Frag} {mg : Str → Option Value} {base : Heap} (T : Txt K mg base)
theorem ok__law_fault (G__law_take : FnOk P w K mg base CX0 1 T.f__law_take T.d__law_take ["row", "many"] spTake) : FnOk P w K mg base CX0 2 T.f__law_fault T.d__law_fault ["row"] spFault := by
  refine T.D__law_fault.ok sc__law_fault (fun vs H Q E h => ?_) (fun cdv A outer s H vs Q E hr h => ?_)
  · obtain ⟨r, rfl, _⟩ := h
    rfl
  obtain ⟨r, rfl, row, hQ⟩ := h
  refine ⟨_, (pss_cons (ps_set (i := 1) sc__law_fault.nd rfl (by first | exact Or.inl rfl | exact Or.inr rfl) (pe_lst (pa_cons (pe_tup pa_nil) (pa_cons pe_non (pa_cons pe_int (pa_cons (pe_lst (pa_cons pe_str pa_nil)) (pa_cons (pe_tup (pa_cons pe_str (pa_cons pe_int pa_nil))) (pa_cons (pe_tup (pa_cons pe_str (pa_cons pe_str pa_nil))) (pa_cons (pe_tup (pa_cons pe_str (pa_cons pe_str pa_nil))) (pa_cons (pe_tup (pa_cons pe_str (pa_cons pe_str pa_nil))) (pa_cons (pe_tup (pa_cons pe_str (pa_cons pe_int pa_nil))) (pa_cons (pe_tup (pa_cons pe_str (pa_cons pe_str pa_nil))) (pa_cons (pe_tup (pa_cons pe_str (pa_cons (pe_op XR.op_repS pe_str pe_int) pa_nil))) pa_nil)))))))))))))
    (pss_cons (ps_set (i := 1) sc__law_fault.nd rfl (by first | exact Or.inl rfl | exact Or.inr rfl) (pe_op op_cat (pv 1) (pe_lst (pa_cons (pe_tup (pa_cons pe_str (pa_cons pe_str pa_nil))) (pa_cons (pe_tup (pa_cons pe_str (pa_cons pe_str pa_nil))) (pa_cons (pe_tup (pa_cons pe_str (pa_cons pe_str pa_nil))) (pa_cons (pe_tup (pa_cons pe_str (pa_cons pe_str pa_nil))) (pa_cons (pe_tup (pa_cons pe_str (pa_cons (pe_lst (pa_cons (pe_tup (pa_cons pe_str pa_nil)) pa_nil)) pa_nil))) (pa_cons (pe_tup (pa_cons pe_str pa_nil)) pa_nil)))))))))
    (pss_cons (ps_set (i := 1) sc__law_fault.nd rfl (by first | exact Or.inl rfl | exact Or.inr rfl) (pe_op op_cat (pv 1) (pe_lst (pa_cons (pe_tup (pa_cons pe_str (pa_cons (pe_op op_repT (pe_tup (pa_cons (pe_tup (pa_cons pe_str pa_nil)) pa_nil)) pe_int) pa_nil))) (pa_cons (pe_tup (pa_cons pe_str pa_nil)) (pa_cons (pe_tup (pa_cons pe_str (pa_cons (pe_tup (pa_cons pe_str pa_nil)) (pa_cons pe_int pa_nil)))) (pa_cons (pe_tup (pa_cons pe_str (pa_cons (pe_tup (pa_cons pe_str pa_nil)) pa_nil))) (pa_cons (pe_tup (pa_cons pe_str (pa_cons (pe_tup (pa_cons pe_str pa_nil)) pa_nil))) pa_nil))))))))
    (pss_cons (ps_set (i := 1) sc__law_fault.nd rfl (by first | exact Or.inl rfl | exact Or.inr rfl) (pe_op op_cat (pv 1) (pe_lst (pa_cons (pe_tup (pa_cons pe_str (pa_cons pe_str (pa_cons (pe_tup (pa_cons pe_str pa_nil)) pa_nil)))) (pa_cons (pe_tup (pa_cons pe_str (pa_cons pe_non pa_nil))) (pa_cons (pe_tup (pa_cons pe_str (pa_cons pe_str pa_nil))) (pa_cons (pe_tup (pa_cons pe_str (pa_cons (pe_tup (pa_cons (pe_tup (pa_cons pe_str pa_nil)) (pa_cons pe_int pa_nil))) pa_nil))) (pa_cons (pe_tup (pa_cons pe_str (pa_cons pe_str pa_nil))) (pa_cons (pe_tup (pa_cons pe_int (pa_cons pe_int pa_nil))) pa_nil)))))))))
    (pss_one (ps_ret (pe_ix (ixL K rfl) (pv 1) (pe_call G__law_take (hr.mono (by first | omega | decide)) rfl T.D__law_take.m T.D__law_take.F.kp T.D__law_take.b .nil pass0 (pa_cons (pv 0) (pa_cons pe_int pa_nil))) (fun _ _ => rfl)))))))), ?_⟩
  have line : ∀ {n : Nat}, n ≤ 100 → n ≤ sizeLine := fun {n} h => by rw [sizeLine_eq]; omega
  have neR : ∀ {H1 : Hp} {p : Addr}, RowOk H1 r → H1 p = none → p ≠ r := fun {H1 p} row hp z => by obtain ⟨_, _, z2, _⟩ := row; rw [z, z2] at hp; cases hp
  have tot := Ext.refl H
  refine ⟨line (n := 0) (by omega), fun p1 hp1 => ?_⟩
  have e1 := Ext.new hp1 (.tup [])
  have d1 := DL.new (r := r) (xs := []) hp1 .nil
  have tot := tot.trans e1
  have row := row.ext e1
  generalize upd H p1 (.tup []) = G1 at d1 tot row ⊢
  refine ⟨line (n := 1) (by omega), fun p2 hp2 => ?_⟩
  have e2 := Ext.new hp2 (.lst [.str "eps"])
  have d2 := DL.newL (r := r) (xs := [.str "eps"]) hp2 (neR row hp2) (.cons .str .nil)
  have d1 := d1.mono e2
  have tot := tot.trans e2
  have row := row.ext e2
  generalize upd G1 p2 (.lst [.str "eps"]) = G2 at d1 d2 tot row ⊢
  refine ⟨line (n := 2) (by omega), fun p3 hp3 => ?_⟩
  have e3 := Ext.new hp3 (.tup [.str "eps", .int 1])
  have d3 := DL.new (r := r) (xs := [.str "eps", .int 1]) hp3 (.cons .str (.cons .int .nil))
  have d1 := d1.mono e3
  have d2 := d2.mono e3
  have tot := tot.trans e3
  have row := row.ext e3
  generalize upd G2 p3 (.tup [.str "eps", .int 1]) = G3 at d1 d2 d3 tot row ⊢
  refine ⟨line (n := 2) (by omega), fun p4 hp4 => ?_⟩
  have e4 := Ext.new hp4 (.tup [.str "set", .str ""])
  have d4 := DL.new (r := r) (xs := [.str "set", .str ""]) hp4 (.cons .str (.cons .str .nil))
  have d1 := d1.mono e4
  have d2 := d2.mono e4
  have d3 := d3.mono e4
  have tot := tot.trans e4
  have row := row.ext e4
  generalize upd G3 p4 (.tup [.str "set", .str ""]) = G4 at d1 d2 d3 d4 tot row ⊢
  refine ⟨line (n := 2) (by omega), fun p5 hp5 => ?_⟩
  have e5 := Ext.new hp5 (.tup [.str "set", .str "ba"])
  have d5 := DL.new (r := r) (xs := [.str "set", .str "ba"]) hp5 (.cons .str (.cons .str .nil))
  have d1 := d1.mono e5
  have d2 := d2.mono e5
  have d3 := d3.mono e5
  have d4 := d4.mono e5
  have tot := tot.trans e5
  have row := row.ext e5
  generalize upd G4 p5 (.tup [.str "set", .str "ba"]) = G5 at d1 d2 d3 d4 d5 tot row ⊢
  refine ⟨line (n := 2) (by omega), fun p6 hp6 => ?_⟩
  have e6 := Ext.new hp6 (.tup [.str "set", .str "aa"])
  have d6 := DL.new (r := r) (xs := [.str "set", .str "aa"]) hp6 (.cons .str (.cons .str .nil))
  have d1 := d1.mono e6
  have d2 := d2.mono e6
  have d3 := d3.mono e6
  have d4 := d4.mono e6
  have d5 := d5.mono e6
  have tot := tot.trans e6
  have row := row.ext e6
  generalize upd G5 p6 (.tup [.str "set", .str "aa"]) = G6 at d1 d2 d3 d4 d5 d6 tot row ⊢
  refine ⟨line (n := 2) (by omega), fun p7 hp7 => ?_⟩
  have e7 := Ext.new hp7 (.tup [.str "set", .int 5])
  have d7 := DL.new (r := r) (xs := [.str "set", .int 5]) hp7 (.cons .str (.cons .int .nil))
  have d1 := d1.mono e7
  have d2 := d2.mono e7
  have d3 := d3.mono e7
  have d4 := d4.mono e7
  have d5 := d5.mono e7
  have d6 := d6.mono e7
  have tot := tot.trans e7
  have row := row.ext e7
  generalize upd G6 p7 (.tup [.str "set", .int 5]) = G7 at d1 d2 d3 d4 d5 d6 d7 tot row ⊢
  refine ⟨line (n := 2) (by omega), fun p8 hp8 => ?_⟩
  have e8 := Ext.new hp8 (.tup [.str "text", .str ""])
  have d8 := DL.new (r := r) (xs := [.str "text", .str ""]) hp8 (.cons .str (.cons .str .nil))
  have d1 := d1.mono e8
  have d2 := d2.mono e8
  have d3 := d3.mono e8
  have d4 := d4.mono e8
  have d5 := d5.mono e8
  have d6 := d6.mono e8
  have d7 := d7.mono e8
  have tot := tot.trans e8
  have row := row.ext e8
  generalize upd G7 p8 (.tup [.str "text", .str ""]) = G8 at d1 d2 d3 d4 d5 d6 d7 d8 tot row ⊢
  refine ⟨_, _, rfl, rfl, by omega, by omega, by decide +kernel, by decide +kernel, fun y hy => ?_⟩
  obtain rfl : y = ("aaaaaaaaaaaaaaaaaaaaa" : Str) := hy.trans (by decide +kernel)
  refine ⟨line (n := 2) (by omega), fun p9 hp9 => ?_⟩
  have e9 := Ext.new hp9 (.tup [.str "text", .str "aaaaaaaaaaaaaaaaaaaaa"])
  have d9 := DL.new (r := r) (xs := [.str "text", .str "aaaaaaaaaaaaaaaaaaaaa"]) hp9 (.cons .str (.cons .str .nil))
  have d1 := d1.mono e9
  have d2 := d2.mono e9
  have d3 := d3.mono e9
  have d4 := d4.mono e9
  have d5 := d5.mono e9
  have d6 := d6.mono e9
  have d7 := d7.mono e9
  have d8 := d8.mono e9
  have tot := tot.trans e9
  have row := row.ext e9
  generalize upd G8 p9 (.tup [.str "text", .str "aaaaaaaaaaaaaaaaaaaaa"]) = G9 at d1 d2 d3 d4 d5 d6 d7 d8 d9 tot row ⊢
  refine ⟨line (n := 11) (by omega), fun p10 hp10 => ?_⟩
  have np10 := neR row hp10
  have ds10 : DLs r G9 [.tuple [], .none, .int 3, .list [.str "eps"], .tuple [.str "eps", .int 1], .tuple [.str "set", .str ""], .tuple [.str "set", .str "ba"], .tuple [.str "set", .str "aa"], .tuple [.str "set", .int 5], .tuple [.str "text", .str ""], .tuple [.str "text", .str "aaaaaaaaaaaaaaaaaaaaa"]] [.ref p1, .non, .int 3, .ref p2, .ref p3, .ref p4, .ref p5, .ref p6, .ref p7, .ref p8, .ref p9] := (.cons d1 (.cons .non (.cons .int (.cons d2 (.cons d3 (.cons d4 (.cons d5 (.cons d6 (.cons d7 (.cons d8 (.cons d9 .nil)))))))))))
  have e10 := Ext.new hp10 (.lst [.ref p1, .non, .int 3, .ref p2, .ref p3, .ref p4, .ref p5, .ref p6, .ref p7, .ref p8, .ref p9])
  have ds10 := ds10.mono e10
  have l10 : upd G9 p10 (.lst [.ref p1, .non, .int 3, .ref p2, .ref p3, .ref p4, .ref p5, .ref p6, .ref p7, .ref p8, .ref p9]) p10 = some (.lst [.ref p1, .non, .int 3, .ref p2, .ref p3, .ref p4, .ref p5, .ref p6, .ref p7, .ref p8, .ref p9]) := upd_same
  have tot := tot.trans e10
  have row := row.ext e10
  generalize upd G9 p10 (.lst [.ref p1, .non, .int 3, .ref p2, .ref p3, .ref p4, .ref p5, .ref p6, .ref p7, .ref p8, .ref p9]) = G10 at ds10 l10 tot row ⊢
  refine ⟨_, rfl, ?_⟩
  refine ⟨line (n := 2) (by omega), fun p11 hp11 => ?_⟩
  have e11 := Ext.new hp11 (.tup [.str "text", .str "a\n"])
  have d11 := DL.new (r := r) (xs := [.str "text", .str "a\n"]) hp11 (.cons .str (.cons .str .nil))
  have ds10 := ds10.mono e11
  have l10 := e11.lst l10
  have tot := tot.trans e11
  have row := row.ext e11
  generalize upd G10 p11 (.tup [.str "text", .str "a\n"]) = G11 at ds10 l10 d11 tot row ⊢
  refine ⟨line (n := 2) (by omega), fun p12 hp12 => ?_⟩
  have e12 := Ext.new hp12 (.tup [.str "call", .str "A"])
  have d12 := DL.new (r := r) (xs := [.str "call", .str "A"]) hp12 (.cons .str (.cons .str .nil))
  have ds10 := ds10.mono e12
  have d11 := d11.mono e12
  have l10 := e12.lst l10
  have tot := tot.trans e12
  have row := row.ext e12
  generalize upd G11 p12 (.tup [.str "call", .str "A"]) = G12 at ds10 d11 l10 d12 tot row ⊢
  refine ⟨line (n := 2) (by omega), fun p13 hp13 => ?_⟩
  have e13 := Ext.new hp13 (.tup [.str "call", .str ""])
  have d13 := DL.new (r := r) (xs := [.str "call", .str ""]) hp13 (.cons .str (.cons .str .nil))
  have ds10 := ds10.mono e13
  have d11 := d11.mono e13
  have d12 := d12.mono e13
  have l10 := e13.lst l10
  have tot := tot.trans e13
  have row := row.ext e13
  generalize upd G12 p13 (.tup [.str "call", .str ""]) = G13 at ds10 d11 d12 l10 d13 tot row ⊢
  refine ⟨line (n := 2) (by omega), fun p14 hp14 => ?_⟩
  have e14 := Ext.new hp14 (.tup [.str "call", .str "abcdefghijklm"])
  have d14 := DL.new (r := r) (xs := [.str "call", .str "abcdefghijklm"]) hp14 (.cons .str (.cons .str .nil))
  have ds10 := ds10.mono e14
  have d11 := d11.mono e14
  have d12 := d12.mono e14
  have d13 := d13.mono e14
  have l10 := e14.lst l10
  have tot := tot.trans e14
  have row := row.ext e14
  generalize upd G13 p14 (.tup [.str "call", .str "abcdefghijklm"]) = G14 at ds10 d11 d12 d13 l10 d14 tot row ⊢
  refine ⟨line (n := 1) (by omega), fun p15 hp15 => ?_⟩
  have e15 := Ext.new hp15 (.tup [.str "eps"])
  have d15 := DL.new (r := r) (xs := [.str "eps"]) hp15 (.cons .str .nil)
  have ds10 := ds10.mono e15
  have d11 := d11.mono e15
  have d12 := d12.mono e15
  have d13 := d13.mono e15
  have d14 := d14.mono e15
  have l10 := e15.lst l10
  have tot := tot.trans e15
  have row := row.ext e15
  generalize upd G14 p15 (.tup [.str "eps"]) = G15 at ds10 d11 d12 d13 d14 l10 d15 tot row ⊢
  refine ⟨line (n := 1) (by omega), fun p16 hp16 => ?_⟩
  have e16 := Ext.new hp16 (.lst [.ref p15])
  have d16 := DL.newL (r := r) (xs := [.tuple [.str "eps"]]) hp16 (neR row hp16) (.cons d15 .nil)
  have ds10 := ds10.mono e16
  have d11 := d11.mono e16
  have d12 := d12.mono e16
  have d13 := d13.mono e16
  have d14 := d14.mono e16
  have l10 := e16.lst l10
  have tot := tot.trans e16
  have row := row.ext e16
  generalize upd G15 p16 (.lst [.ref p15]) = G16 at ds10 d11 d12 d13 d14 l10 d16 tot row ⊢
  refine ⟨line (n := 2) (by omega), fun p17 hp17 => ?_⟩
  have e17 := Ext.new hp17 (.tup [.str "seq", .ref p16])
  have d17 := DL.new (r := r) (xs := [.str "seq", .list [.tuple [.str "eps"]]]) hp17 (.cons .str (.cons d16 .nil))
  have ds10 := ds10.mono e17
  have d11 := d11.mono e17
  have d12 := d12.mono e17
  have d13 := d13.mono e17
  have d14 := d14.mono e17
  have l10 := e17.lst l10
  have tot := tot.trans e17
  have row := row.ext e17
  generalize upd G16 p17 (.tup [.str "seq", .ref p16]) = G17 at ds10 d11 d12 d13 d14 l10 d17 tot row ⊢
  refine ⟨line (n := 1) (by omega), fun p18 hp18 => ?_⟩
  have e18 := Ext.new hp18 (.tup [.str "alt"])
  have d18 := DL.new (r := r) (xs := [.str "alt"]) hp18 (.cons .str .nil)
  have ds10 := ds10.mono e18
  have d11 := d11.mono e18
  have d12 := d12.mono e18
  have d13 := d13.mono e18
  have d14 := d14.mono e18
  have d17 := d17.mono e18
  have l10 := e18.lst l10
  have tot := tot.trans e18
  have row := row.ext e18
  generalize upd G17 p18 (.tup [.str "alt"]) = G18 at ds10 d11 d12 d13 d14 d17 l10 d18 tot row ⊢
  refine ⟨line (n := 6) (by omega), fun p19 hp19 => ?_⟩
  have np19 := neR row hp19
  have ds19 : DLs r G18 [.tuple [.str "text", .str "a\n"], .tuple [.str "call", .str "A"], .tuple [.str "call", .str ""], .tuple [.str "call", .str "abcdefghijklm"], .tuple [.str "seq", .list [.tuple [.str "eps"]]], .tuple [.str "alt"]] [.ref p11, .ref p12, .ref p13, .ref p14, .ref p17, .ref p18] := (.cons d11 (.cons d12 (.cons d13 (.cons d14 (.cons d17 (.cons d18 .nil))))))
  have e19 := Ext.new hp19 (.lst [.ref p11, .ref p12, .ref p13, .ref p14, .ref p17, .ref p18])
  have ds19 := ds19.mono e19
  have l19 : upd G18 p19 (.lst [.ref p11, .ref p12, .ref p13, .ref p14, .ref p17, .ref p18]) p19 = some (.lst [.ref p11, .ref p12, .ref p13, .ref p14, .ref p17, .ref p18]) := upd_same
  have ds10 := ds10.mono e19
  have l10 := e19.lst l10
  have tot := tot.trans e19
  have row := row.ext e19
  generalize upd G18 p19 (.lst [.ref p11, .ref p12, .ref p13, .ref p14, .ref p17, .ref p18]) = G19 at ds19 l19 tot row ds10 l10 ⊢
  refine ⟨_, _, _, _, rfl, rfl, l10, l19, line (n := 17) (by omega), fun p20 hp20 => ?_⟩
  have np20 := neR row hp20
  have e20 := Ext.new hp20 (.lst (([.ref p1, .non, .int 3, .ref p2, .ref p3, .ref p4, .ref p5, .ref p6, .ref p7, .ref p8, .ref p9] : List V) ++ [.ref p11, .ref p12, .ref p13, .ref p14, .ref p17, .ref p18]))
  have ds20 := (ds10.append ds19).mono e20
  have l20 : upd G19 p20 (.lst (([.ref p1, .non, .int 3, .ref p2, .ref p3, .ref p4, .ref p5, .ref p6, .ref p7, .ref p8, .ref p9] : List V) ++ [.ref p11, .ref p12, .ref p13, .ref p14, .ref p17, .ref p18])) p20 = some (.lst (([.ref p1, .non, .int 3, .ref p2, .ref p3, .ref p4, .ref p5, .ref p6, .ref p7, .ref p8, .ref p9] : List V) ++ [.ref p11, .ref p12, .ref p13, .ref p14, .ref p17, .ref p18])) := upd_same
  have tot := tot.trans e20
  have row := row.ext e20
  generalize upd G19 p20 (.lst (([.ref p1, .non, .int 3, .ref p2, .ref p3, .ref p4, .ref p5, .ref p6, .ref p7, .ref p8, .ref p9] : List V) ++ [.ref p11, .ref p12, .ref p13, .ref p14, .ref p17, .ref p18])) = G20 at ds20 l20 tot row ⊢
  refine ⟨_, rfl, ?_⟩
  refine ⟨line (n := 1) (by omega), fun p21 hp21 => ?_⟩
  have e21 := Ext.new hp21 (.tup [.str "eps"])
  have d21 := DL.new (r := r) (xs := [.str "eps"]) hp21 (.cons .str .nil)
  have ds20 := ds20.mono e21
  have l20 := e21.lst l20
  have tot := tot.trans e21
  have row := row.ext e21
  generalize upd G20 p21 (.tup [.str "eps"]) = G21 at ds20 l20 d21 tot row ⊢
  refine ⟨line (n := 1) (by omega), fun p22 hp22 => ?_⟩
  have e22 := Ext.new hp22 (.tup [.ref p21])
  have tq : upd G21 p22 (.tup [.ref p21]) p22 = some (.tup [.ref p21]) := upd_same
  have ds20 := ds20.mono e22
  have d21 := d21.mono e22
  have l20 := e22.lst l20
  have tot := tot.trans e22
  have row := row.ext e22
  generalize upd G21 p22 (.tup [.ref p21]) = G22 at ds20 d21 l20 tq tot row ⊢
  refine ⟨_, 17, _, rfl, rfl, SqT.of tq, by simp, by omega, by omega, by simp, fun p23 hp23 => ?_⟩
  have e23 := Ext.new hp23 (.tup (List.replicate (17 : Int).toNat [.ref p21]).flatten)
  have d23 := DL.new (r := r) (xs := List.replicate 17 (.tuple [.str "eps"])) hp23 (show DLs r G22 (List.replicate 17 (.tuple [.str "eps"])) (List.replicate (17 : Int).toNat [.ref p21]).flatten from (.cons d21 (.cons d21 (.cons d21 (.cons d21 (.cons d21 (.cons d21 (.cons d21 (.cons d21 (.cons d21 (.cons d21 (.cons d21 (.cons d21 (.cons d21 (.cons d21 (.cons d21 (.cons d21 (.cons d21 .nil))))))))))))))))))
  have ds20 := ds20.mono e23
  have l20 := e23.lst l20
  have tot := tot.trans e23
  have row := row.ext e23
  generalize upd G22 p23 (.tup (List.replicate (17 : Int).toNat [.ref p21]).flatten) = G23 at ds20 l20 d23 tot row ⊢
  refine ⟨line (n := 2) (by omega), fun p24 hp24 => ?_⟩
  have e24 := Ext.new hp24 (.tup [.str "seq", .ref p23])
  have d24 := DL.new (r := r) (xs := [.str "seq", .tuple (List.replicate 17 (.tuple [.str "eps"]))]) hp24 (.cons .str (.cons d23 .nil))
  have ds20 := ds20.mono e24
  have l20 := e24.lst l20
  have tot := tot.trans e24
  have row := row.ext e24
  generalize upd G23 p24 (.tup [.str "seq", .ref p23]) = G24 at ds20 l20 d24 tot row ⊢
  refine ⟨line (n := 1) (by omega), fun p25 hp25 => ?_⟩
  have e25 := Ext.new hp25 (.tup [.str "star"])
  have d25 := DL.new (r := r) (xs := [.str "star"]) hp25 (.cons .str .nil)
  have ds20 := ds20.mono e25
  have d24 := d24.mono e25
  have l20 := e25.lst l20
  have tot := tot.trans e25
  have row := row.ext e25
  generalize upd G24 p25 (.tup [.str "star"]) = G25 at ds20 d24 l20 d25 tot row ⊢
  refine ⟨line (n := 1) (by omega), fun p26 hp26 => ?_⟩
  have e26 := Ext.new hp26 (.tup [.str "eps"])
  have d26 := DL.new (r := r) (xs := [.str "eps"]) hp26 (.cons .str .nil)
  have ds20 := ds20.mono e26
  have d24 := d24.mono e26
  have d25 := d25.mono e26
  have l20 := e26.lst l20
  have tot := tot.trans e26
  have row := row.ext e26
  generalize upd G25 p26 (.tup [.str "eps"]) = G26 at ds20 d24 d25 l20 d26 tot row ⊢
  refine ⟨line (n := 3) (by omega), fun p27 hp27 => ?_⟩
  have e27 := Ext.new hp27 (.tup [.str "star", .ref p26, .int 1])
  have d27 := DL.new (r := r) (xs := [.str "star", .tuple [.str "eps"], .int 1]) hp27 (.cons .str (.cons d26 (.cons .int .nil)))
  have ds20 := ds20.mono e27
  have d24 := d24.mono e27
  have d25 := d25.mono e27
  have l20 := e27.lst l20
  have tot := tot.trans e27
  have row := row.ext e27
  generalize upd G26 p27 (.tup [.str "star", .ref p26, .int 1]) = G27 at ds20 d24 d25 l20 d27 tot row ⊢
  refine ⟨line (n := 1) (by omega), fun p28 hp28 => ?_⟩
  have e28 := Ext.new hp28 (.tup [.str "any"])
  have d28 := DL.new (r := r) (xs := [.str "any"]) hp28 (.cons .str .nil)
  have ds20 := ds20.mono e28
  have d24 := d24.mono e28
  have d25 := d25.mono e28
  have d27 := d27.mono e28
  have l20 := e28.lst l20
  have tot := tot.trans e28
  have row := row.ext e28
  generalize upd G27 p28 (.tup [.str "any"]) = G28 at ds20 d24 d25 d27 l20 d28 tot row ⊢
  refine ⟨line (n := 2) (by omega), fun p29 hp29 => ?_⟩
  have e29 := Ext.new hp29 (.tup [.str "plus", .ref p28])
  have d29 := DL.new (r := r) (xs := [.str "plus", .tuple [.str "any"]]) hp29 (.cons .str (.cons d28 .nil))
  have ds20 := ds20.mono e29
  have d24 := d24.mono e29
  have d25 := d25.mono e29
  have d27 := d27.mono e29
  have l20 := e29.lst l20
  have tot := tot.trans e29
  have row := row.ext e29
  generalize upd G28 p29 (.tup [.str "plus", .ref p28]) = G29 at ds20 d24 d25 d27 l20 d29 tot row ⊢
  refine ⟨line (n := 1) (by omega), fun p30 hp30 => ?_⟩
  have e30 := Ext.new hp30 (.tup [.str "any"])
  have d30 := DL.new (r := r) (xs := [.str "any"]) hp30 (.cons .str .nil)
  have ds20 := ds20.mono e30
  have d24 := d24.mono e30
  have d25 := d25.mono e30
  have d27 := d27.mono e30
  have d29 := d29.mono e30
  have l20 := e30.lst l20
  have tot := tot.trans e30
  have row := row.ext e30
  generalize upd G29 p30 (.tup [.str "any"]) = G30 at ds20 d24 d25 d27 d29 l20 d30 tot row ⊢
  refine ⟨line (n := 2) (by omega), fun p31 hp31 => ?_⟩
  have e31 := Ext.new hp31 (.tup [.str "mark", .ref p30])
  have d31 := DL.new (r := r) (xs := [.str "mark", .tuple [.str "any"]]) hp31 (.cons .str (.cons d30 .nil))
  have ds20 := ds20.mono e31
  have d24 := d24.mono e31
  have d25 := d25.mono e31
  have d27 := d27.mono e31
  have d29 := d29.mono e31
  have l20 := e31.lst l20
  have tot := tot.trans e31
  have row := row.ext e31
  generalize upd G30 p31 (.tup [.str "mark", .ref p30]) = G31 at ds20 d24 d25 d27 d29 l20 d31 tot row ⊢
  refine ⟨line (n := 5) (by omega), fun p32 hp32 => ?_⟩
  have np32 := neR row hp32
  have ds32 : DLs r G31 [.tuple [.str "seq", .tuple (List.replicate 17 (.tuple [.str "eps"]))], .tuple [.str "star"], .tuple [.str "star", .tuple [.str "eps"], .int 1], .tuple [.str "plus", .tuple [.str "any"]], .tuple [.str "mark", .tuple [.str "any"]]] [.ref p24, .ref p25, .ref p27, .ref p29, .ref p31] := (.cons d24 (.cons d25 (.cons d27 (.cons d29 (.cons d31 .nil)))))
  have e32 := Ext.new hp32 (.lst [.ref p24, .ref p25, .ref p27, .ref p29, .ref p31])
  have ds32 := ds32.mono e32
  have l32 : upd G31 p32 (.lst [.ref p24, .ref p25, .ref p27, .ref p29, .ref p31]) p32 = some (.lst [.ref p24, .ref p25, .ref p27, .ref p29, .ref p31]) := upd_same
  have ds20 := ds20.mono e32
  have l20 := e32.lst l20
  have tot := tot.trans e32
  have row := row.ext e32
  generalize upd G31 p32 (.lst [.ref p24, .ref p25, .ref p27, .ref p29, .ref p31]) = G32 at ds32 l32 tot row ds20 l20 ⊢
  refine ⟨_, _, _, _, rfl, rfl, l20, l32, line (n := 22) (by omega), fun p33 hp33 => ?_⟩
  have np33 := neR row hp33
  have e33 := Ext.new hp33 (.lst ((([.ref p1, .non, .int 3, .ref p2, .ref p3, .ref p4, .ref p5, .ref p6, .ref p7, .ref p8, .ref p9] : List V) ++ [.ref p11, .ref p12, .ref p13, .ref p14, .ref p17, .ref p18]) ++ [.ref p24, .ref p25, .ref p27, .ref p29, .ref p31]))
  have ds33 := (ds20.append ds32).mono e33
  have l33 : upd G32 p33 (.lst ((([.ref p1, .non, .int 3, .ref p2, .ref p3, .ref p4, .ref p5, .ref p6, .ref p7, .ref p8, .ref p9] : List V) ++ [.ref p11, .ref p12, .ref p13, .ref p14, .ref p17, .ref p18]) ++ [.ref p24, .ref p25, .ref p27, .ref p29, .ref p31])) p33 = some (.lst ((([.ref p1, .non, .int 3, .ref p2, .ref p3, .ref p4, .ref p5, .ref p6, .ref p7, .ref p8, .ref p9] : List V) ++ [.ref p11, .ref p12, .ref p13, .ref p14, .ref p17, .ref p18]) ++ [.ref p24, .ref p25, .ref p27, .ref p29, .ref p31])) := upd_same
  have tot := tot.trans e33
  have row := row.ext e33
  generalize upd G32 p33 (.lst ((([.ref p1, .non, .int 3, .ref p2, .ref p3, .ref p4, .ref p5, .ref p6, .ref p7, .ref p8, .ref p9] : List V) ++ [.ref p11, .ref p12, .ref p13, .ref p14, .ref p17, .ref p18]) ++ [.ref p24, .ref p25, .ref p27, .ref p29, .ref p31])) = G33 at ds33 l33 tot row ⊢
  refine ⟨_, rfl, ?_⟩
  refine ⟨line (n := 1) (by omega), fun p34 hp34 => ?_⟩
  have e34 := Ext.new hp34 (.tup [.str "any"])
  have d34 := DL.new (r := r) (xs := [.str "any"]) hp34 (.cons .str .nil)
  have ds33 := ds33.mono e34
  have l33 := e34.lst l33
  have tot := tot.trans e34
  have row := row.ext e34
  generalize upd G33 p34 (.tup [.str "any"]) = G34 at ds33 l33 d34 tot row ⊢
  refine ⟨line (n := 3) (by omega), fun p35 hp35 => ?_⟩
  have e35 := Ext.new hp35 (.tup [.str "mark", .str "X", .ref p34])
  have d35 := DL.new (r := r) (xs := [.str "mark", .str "X", .tuple [.str "any"]]) hp35 (.cons .str (.cons .str (.cons d34 .nil)))
  have ds33 := ds33.mono e35
  have l33 := e35.lst l33
  have tot := tot.trans e35
  have row := row.ext e35
  generalize upd G34 p35 (.tup [.str "mark", .str "X", .ref p34]) = G35 at ds33 l33 d35 tot row ⊢
  refine ⟨line (n := 2) (by omega), fun p36 hp36 => ?_⟩
  have e36 := Ext.new hp36 (.tup [.str "not", .non])
  have d36 := DL.new (r := r) (xs := [.str "not", .none]) hp36 (.cons .str (.cons .non .nil))
  have ds33 := ds33.mono e36
  have d35 := d35.mono e36
  have l33 := e36.lst l33
  have tot := tot.trans e36
  have row := row.ext e36
  generalize upd G35 p36 (.tup [.str "not", .non]) = G36 at ds33 d35 l33 d36 tot row ⊢
  refine ⟨line (n := 2) (by omega), fun p37 hp37 => ?_⟩
  have e37 := Ext.new hp37 (.tup [.str "any", .str "a"])
  have d37 := DL.new (r := r) (xs := [.str "any", .str "a"]) hp37 (.cons .str (.cons .str .nil))
  have ds33 := ds33.mono e37
  have d35 := d35.mono e37
  have d36 := d36.mono e37
  have l33 := e37.lst l33
  have tot := tot.trans e37
  have row := row.ext e37
  generalize upd G36 p37 (.tup [.str "any", .str "a"]) = G37 at ds33 d35 d36 l33 d37 tot row ⊢
  refine ⟨line (n := 1) (by omega), fun p38 hp38 => ?_⟩
  have e38 := Ext.new hp38 (.tup [.str "eps"])
  have d38 := DL.new (r := r) (xs := [.str "eps"]) hp38 (.cons .str .nil)
  have ds33 := ds33.mono e38
  have d35 := d35.mono e38
  have d36 := d36.mono e38
  have d37 := d37.mono e38
  have l33 := e38.lst l33
  have tot := tot.trans e38
  have row := row.ext e38
  generalize upd G37 p38 (.tup [.str "eps"]) = G38 at ds33 d35 d36 d37 l33 d38 tot row ⊢
  refine ⟨line (n := 2) (by omega), fun p39 hp39 => ?_⟩
  have e39 := Ext.new hp39 (.tup [.ref p38, .int 0])
  have d39 := DL.new (r := r) (xs := [.tuple [.str "eps"], .int 0]) hp39 (.cons d38 (.cons .int .nil))
  have ds33 := ds33.mono e39
  have d35 := d35.mono e39
  have d36 := d36.mono e39
  have d37 := d37.mono e39
  have l33 := e39.lst l33
  have tot := tot.trans e39
  have row := row.ext e39
  generalize upd G38 p39 (.tup [.ref p38, .int 0]) = G39 at ds33 d35 d36 d37 l33 d39 tot row ⊢
  refine ⟨line (n := 2) (by omega), fun p40 hp40 => ?_⟩
  have e40 := Ext.new hp40 (.tup [.str "seq", .ref p39])
  have d40 := DL.new (r := r) (xs := [.str "seq", .tuple [.tuple [.str "eps"], .int 0]]) hp40 (.cons .str (.cons d39 .nil))
  have ds33 := ds33.mono e40
  have d35 := d35.mono e40
  have d36 := d36.mono e40
  have d37 := d37.mono e40
  have l33 := e40.lst l33
  have tot := tot.trans e40
  have row := row.ext e40
  generalize upd G39 p40 (.tup [.str "seq", .ref p39]) = G40 at ds33 d35 d36 d37 l33 d40 tot row ⊢
  refine ⟨line (n := 2) (by omega), fun p41 hp41 => ?_⟩
  have e41 := Ext.new hp41 (.tup [.str "set", .str "a\t"])
  have d41 := DL.new (r := r) (xs := [.str "set", .str "a\t"]) hp41 (.cons .str (.cons .str .nil))
  have ds33 := ds33.mono e41
  have d35 := d35.mono e41
  have d36 := d36.mono e41
  have d37 := d37.mono e41
  have d40 := d40.mono e41
  have l33 := e41.lst l33
  have tot := tot.trans e41
  have row := row.ext e41
  generalize upd G40 p41 (.tup [.str "set", .str "a\t"]) = G41 at ds33 d35 d36 d37 d40 l33 d41 tot row ⊢
  refine ⟨line (n := 2) (by omega), fun p42 hp42 => ?_⟩
  have e42 := Ext.new hp42 (.tup [.int 1, .int 2])
  have d42 := DL.new (r := r) (xs := [.int 1, .int 2]) hp42 (.cons .int (.cons .int .nil))
  have ds33 := ds33.mono e42
  have d35 := d35.mono e42
  have d36 := d36.mono e42
  have d37 := d37.mono e42
  have d40 := d40.mono e42
  have d41 := d41.mono e42
  have l33 := e42.lst l33
  have tot := tot.trans e42
  have row := row.ext e42
  generalize upd G41 p42 (.tup [.int 1, .int 2]) = G42 at ds33 d35 d36 d37 d40 d41 l33 d42 tot row ⊢
  refine ⟨line (n := 6) (by omega), fun p43 hp43 => ?_⟩
  have np43 := neR row hp43
  have ds43 : DLs r G42 [.tuple [.str "mark", .str "X", .tuple [.str "any"]], .tuple [.str "not", .none], .tuple [.str "any", .str "a"], .tuple [.str "seq", .tuple [.tuple [.str "eps"], .int 0]], .tuple [.str "set", .str "a\t"], .tuple [.int 1, .int 2]] [.ref p35, .ref p36, .ref p37, .ref p40, .ref p41, .ref p42] := (.cons d35 (.cons d36 (.cons d37 (.cons d40 (.cons d41 (.cons d42 .nil))))))
  have e43 := Ext.new hp43 (.lst [.ref p35, .ref p36, .ref p37, .ref p40, .ref p41, .ref p42])
  have ds43 := ds43.mono e43
  have l43 : upd G42 p43 (.lst [.ref p35, .ref p36, .ref p37, .ref p40, .ref p41, .ref p42]) p43 = some (.lst [.ref p35, .ref p36, .ref p37, .ref p40, .ref p41, .ref p42]) := upd_same
  have ds33 := ds33.mono e43
  have l33 := e43.lst l33
  have tot := tot.trans e43
  have row := row.ext e43
  generalize upd G42 p43 (.lst [.ref p35, .ref p36, .ref p37, .ref p40, .ref p41, .ref p42]) = G43 at ds43 l43 tot row ds33 l33 ⊢
  refine ⟨_, _, _, _, rfl, rfl, l33, l43, line (n := 28) (by omega), fun p44 hp44 => ?_⟩
  have np44 := neR row hp44
  have e44 := Ext.new hp44 (.lst (((([.ref p1, .non, .int 3, .ref p2, .ref p3, .ref p4, .ref p5, .ref p6, .ref p7, .ref p8, .ref p9] : List V) ++ [.ref p11, .ref p12, .ref p13, .ref p14, .ref p17, .ref p18]) ++ [.ref p24, .ref p25, .ref p27, .ref p29, .ref p31]) ++ [.ref p35, .ref p36, .ref p37, .ref p40, .ref p41, .ref p42]))
  have ds44 := (ds33.append ds43).mono e44
  have l44 : upd G43 p44 (.lst (((([.ref p1, .non, .int 3, .ref p2, .ref p3, .ref p4, .ref p5, .ref p6, .ref p7, .ref p8, .ref p9] : List V) ++ [.ref p11, .ref p12, .ref p13, .ref p14, .ref p17, .ref p18]) ++ [.ref p24, .ref p25, .ref p27, .ref p29, .ref p31]) ++ [.ref p35, .ref p36, .ref p37, .ref p40, .ref p41, .ref p42])) p44 = some (.lst (((([.ref p1, .non, .int 3, .ref p2, .ref p3, .ref p4, .ref p5, .ref p6, .ref p7, .ref p8, .ref p9] : List V) ++ [.ref p11, .ref p12, .ref p13, .ref p14, .ref p17, .ref p18]) ++ [.ref p24, .ref p25, .ref p27, .ref p29, .ref p31]) ++ [.ref p35, .ref p36, .ref p37, .ref p40, .ref p41, .ref p42])) := upd_same
  have tot := tot.trans e44
  have row := row.ext e44
  generalize upd G43 p44 (.lst (((([.ref p1, .non, .int 3, .ref p2, .ref p3, .ref p4, .ref p5, .ref p6, .ref p7, .ref p8, .ref p9] : List V) ++ [.ref p11, .ref p12, .ref p13, .ref p14, .ref p17, .ref p18]) ++ [.ref p24, .ref p25, .ref p27, .ref p29, .ref p31]) ++ [.ref p35, .ref p36, .ref p37, .ref p40, .ref p41, .ref p42])) = G44 at ds44 l44 tot row ⊢
  refine ⟨_, rfl, _, rfl, r, 28, rfl, by decide, row, fun i H2 hi0 hi e2 row2 => ?_⟩
  have hl2 := e2.lst np44 l44
  have hds2 := ds44.monoR e2
  obtain ⟨v, hv1, hv2⟩ := atI_ex (xs := (((([.ref p1, .non, .int 3, .ref p2, .ref p3, .ref p4, .ref p5, .ref p6, .ref p7, .ref p8, .ref p9] : List V) ++ [.ref p11, .ref p12, .ref p13, .ref p14, .ref p17, .ref p18]) ++ [.ref p24, .ref p25, .ref p27, .ref p29, .ref p31]) ++ [.ref p35, .ref p36, .ref p37, .ref p40, .ref p41, .ref p42])) hi0 (by exact hi)
  obtain ⟨d, hd1, hd2⟩ := DLs.get' hds2 hv2
  exact ⟨p44, _, _, v, rfl, rfl, SqL.of hl2, hv1, hQ d v H2 (List.mem_of_getElem? (l := faultsD) hd1) ((tot.toR r).trans e2) row2 hd2⟩

end
end N_k01
namespace N_k01
open PySem PySem.Spec PyProof.Rows L2 GenW GE LB
section
variable {P : Program} {w : World} {K : PySem.W.Frag} {mg : Str → Option Value} {base : Heap} (T : Txt K mg base)
def spLaw (K : PySem.W.Frag) (ts : List Addr) : Sp := fun vs H Q _ => ∃ (a : Addr) (ns : List Int), vs = [.ref a] ∧ SqL K H a (ns.map V.int) ∧ ns.length ≤ 63 ∧ (∀ t ∈ ts, GxR.TabG H t) ∧ ∀ H', Q (.bl true) H'
theorem ok_law {f : Addr} {fd : FuncData} (D_law : DF K mg "law" s_law ["script"] f fd) (ts : List Addr) (hts : ∀ H : Hp, (∀ t ∈ ts, GxR.TabG H t) → Tb T H)
    (G__law_stream : FnOk P w K mg base CX0 1 T.f__law_stream T.d__law_stream ["script"] (spStream K))
    (G__law_take : FnOk P w K mg base CX0 1 T.f__law_take T.d__law_take ["row", "many"] spTake)
    (G__law_grammar : FnOk P w K mg base CX0 7 T.f__law_grammar T.d__law_grammar ["row", "depth"] (spLGram 4))
    (G__law_count : FnOk P w K mg base CX0 8 T.f__law_count T.d__law_count ["expression"] (spCount 7))
    (G_is_grammar : FnOk P w K mg base CX0 66 T.f_is_grammar T.d_is_grammar ["thing"] (spGram T))
    (G_checked : FnOk P w K mg base (CX P w) 67 T.f_checked T.d_checked ["thing"] (spChecked T))
    (G_size_of : FnOk P w K mg base CX0 32 T.f_size_of T.d_size_of ["grammar"] (spSizeOf T 7))
    (G_calls_of : FnOk P w K mg base CX0 8 T.f_calls_of T.d_calls_of ["expression"] (spCalls 7))
    (G__law_calls : FnOk P w K mg base CX0 8 T.f__law_calls T.d__law_calls ["expression"] (spCalls 7))
    (G__law_put : FnOk P w K mg base CX0 9 T.f__law_put T.d__law_put ["expression", "at", "other"] (spPut 7))
    (G__law_fault : FnOk P w K mg base CX0 2 T.f__law_fault T.d__law_fault ["row"] spFault) :
    XG.FnAt P w K mg base CX0 callerA f fd ["script"] (spLaw K ts) := by
  refine XG.df_at D_law sc_law (fun vs H Q E h => ?_) (fun cdv outer s H vs Q E h => ?_)
  · obtain ⟨a, ns, rfl, _⟩ := h
    rfl
  obtain ⟨a, ns, rfl, hS, hlen, htabs, hQ⟩ := h
  have htab := hts H htabs
  have hr : Room 80 (callerA.deeper (envOfC "law" (defScope s_law) s.heap.objs.size f cdv)) := ⟨rfl, by show 302 + 3 * 80 + 5 < recursionLimit; decide, by show 7 + 16 * 80 + 200 < cLine; decide⟩
  have hu65 : (callerA.deeper (envOfC "law" (defScope s_law) s.heap.objs.size f cdv)).units + 65 < cLine := by show 7 + 65 < cLine; decide
  refine ⟨_, (pss_cons (ps_set (i := 1) sc_law.nd rfl (by first | exact Or.inl rfl | exact Or.inr rfl) (pe_call G__law_stream (hr.mono (by first | omega | decide)) rfl T.D__law_stream.m T.D__law_stream.F.kp T.D__law_stream.b .nil pass0 (pa_cons (pv 0) pa_nil)))
    (pss_cons (ps_set (i := 2) sc_law.nd rfl (by first | exact Or.inl rfl | exact Or.inr rfl) (pe_call G__law_grammar (hr.mono (by first | omega | decide)) rfl T.D__law_grammar.m T.D__law_grammar.F.kp T.D__law_grammar.b .nil pass0 (pa_cons (pv 1) (pa_cons (pe_op op_add pe_int (pe_call G__law_take (hr.mono (by first | omega | decide)) rfl T.D__law_take.m T.D__law_take.F.kp T.D__law_take.b .nil pass0 (pa_cons (pv 1) (pa_cons pe_int pa_nil)))) pa_nil))))
    (pss_cons (ps_set (i := 3) sc_law.nd rfl (by first | exact Or.inl rfl | exact Or.inr rfl) (pe_callB (cr_sum rfl) (by rfl) T.b_sum (by decide +kernel) (pa_cons (pe_lc (own := [("rule", 4)]) (g := gName 4) rfl sc_law.nd (piT K rfl (pv 2)) (blkOk_by (N := ["script", "row", "grammar", "size", "rule", "at", "name", "expression", "inner", "rules", "wrong", "kept", "e"]) (sc := defScope s_law) (own := [("rule", 4)]) (by decide +kernel)) (fun _ _ _ _ _ => (pg_name (i := 4) sc_law.nd rfl (by first | exact Or.inl rfl | exact Or.inr rfl))) (fun _ _ _ _ _ => pts_nil) (fun _ _ _ _ _ => (pe_call G__law_count (hr.mono (by first | omega | decide)) rfl T.D__law_count.m T.D__law_count.F.kp T.D__law_count.b .nil pass0 (pa_cons (pe_ix (ixT K rfl) (pv 4) pe_int (fun _ _ => rfl)) pa_nil)))) pa_nil)))
    (pss_cons (ps_if (PW.pt (pw_or (pt_cmpR op_notBl (pe_call G_is_grammar (hr.mono (by first | omega | decide)) rfl T.D_is_grammar.m T.D_is_grammar.F.kp T.D_is_grammar.b .nil pass0 (pa_cons (pv 2) pa_nil)) pe_bl (nomark _)) (pw_or (pt_cmpR (neDQ K rfl hr.units) (pe_call G_checked (hr.mono (by first | omega | decide)) rfl T.D_checked.m T.D_checked.F.kp T.D_checked.b .nil XG.passX (pa_cons (pv 2) pa_nil)) (pv 2) (nomark _)) (pw_or1 (pt_cmpR op_ne (pe_call G_size_of (hr.mono (by first | omega | decide)) rfl T.D_size_of.m T.D_size_of.F.kp T.D_size_of.b .nil pass0 (pa_cons (pv 2) pa_nil)) (pv 3) (nomark _)))))) (pss_one (ps_ret pe_bl)) pss_nil)
    (pss_cons (ps_set (i := 5) sc_law.nd rfl (by first | exact Or.inl rfl | exact Or.inr rfl) (pe_call G__law_take (hr.mono (by first | omega | decide)) rfl T.D__law_take.m T.D__law_take.F.kp T.D__law_take.b .nil pass0 (pa_cons (pv 1) (pa_cons (pe_callB (lenQ K rfl) (by rfl) T.b_len PySem.boot_len (pa_cons (pv 2) pa_nil)) pa_nil))))
    (pss_cons (ps_asg (pe_ix (ixT K rfl) (pv 2) (pv 5) (fun _ _ => rfl)) (pg_tup rfl (pgs_cons (pg_name (i := 6) sc_law.nd rfl (by first | exact Or.inl rfl | exact Or.inr rfl)) (pgs_cons (pg_name (i := 7) sc_law.nd rfl (by first | exact Or.inl rfl | exact Or.inr rfl)) pgs_nil))))
    (pss_cons (ps_if (pt_cmpR (neDQ K rfl hr.units) (pe_call G_calls_of (hr.mono (by first | omega | decide)) rfl T.D_calls_of.m T.D_calls_of.F.kp T.D_calls_of.b .nil pass0 (pa_cons (pv 7) pa_nil)) (pe_call G__law_calls (hr.mono (by first | omega | decide)) rfl T.D__law_calls.m T.D__law_calls.F.kp T.D__law_calls.b .nil pass0 (pa_cons (pv 7) pa_nil)) (nomark _)) (pss_one (ps_ret pe_bl)) pss_nil)
    (pss_cons (ps_set (i := 8) sc_law.nd rfl (by first | exact Or.inl rfl | exact Or.inr rfl) (pe_call G__law_put (hr.mono (by first | omega | decide)) rfl T.D__law_put.m T.D__law_put.F.kp T.D__law_put.b .nil pass0 (pa_cons (pv 7) (pa_cons (pe_call G__law_take (hr.mono (by first | omega | decide)) rfl T.D__law_take.m T.D__law_take.F.kp T.D__law_take.b .nil pass0 (pa_cons (pv 1) (pa_cons (pe_call G__law_count (hr.mono (by first | omega | decide)) rfl T.D__law_count.m T.D__law_count.F.kp T.D__law_count.b .nil pass0 (pa_cons (pv 7) pa_nil)) pa_nil))) (pa_cons (pe_call G__law_fault (hr.mono (by first | omega | decide)) rfl T.D__law_fault.m T.D__law_fault.F.kp T.D__law_fault.b .nil pass0 (pa_cons (pv 1) pa_nil)) pa_nil)))))
    (pss_cons (ps_set (i := 4) sc_law.nd rfl (by first | exact Or.inl rfl | exact Or.inr rfl) (pe_tup (pa_cons (pv 6) (pa_cons (pv 8) pa_nil))))
    (C8.pss_cut (ps_if (pt_cmpR op_eq (pe_call G__law_take (hr.mono (by first | omega | decide)) rfl T.D__law_take.m T.D__law_take.F.kp T.D__law_take.b .nil pass0 (pa_cons (pv 1) (pa_cons pe_int pa_nil))) pe_int (nomark _)) (pss_cons (ps_set (i := 9) sc_law.nd rfl (by first | exact Or.inl rfl | exact Or.inr rfl) (pe_lst (pa_cons (pe_tup (pa_cons pe_str (pa_cons (pv 7) pa_nil))) (pa_cons (pe_tup (pa_cons (pv 6) pa_nil)) (pa_cons (pe_lst (pa_cons (pv 6) (pa_cons (pv 7) pa_nil))) (pa_cons (pe_tup (pa_cons (pv 6) (pa_cons (pv 7) (pa_cons pe_int pa_nil)))) (pa_cons (pe_tup (pa_cons pe_str (pa_cons (pv 7) pa_nil))) (pa_cons (pe_tup (pa_cons pe_int (pa_cons (pv 7) pa_nil))) pa_nil))))))))
    (pss_one (ps_set (i := 4) sc_law.nd rfl (by first | exact Or.inl rfl | exact Or.inr rfl) (pe_ix (ixL K rfl) (pv 9) (pe_call G__law_take (hr.mono (by first | omega | decide)) rfl T.D__law_take.m T.D__law_take.F.kp T.D__law_take.b .nil pass0 (pa_cons (pv 1) (pa_cons pe_int pa_nil))) (fun _ _ => rfl))))) pss_nil)
    (pss_cons (ps_set (i := 10) sc_law.nd rfl (by first | exact Or.inl rfl | exact Or.inr rfl) (pe_op op_catA (pe_op op_catA (pe_slice (slT K rfl) (pv 2) po_none (po_some (pv 5))) (pe_tup (pa_cons (pv 4) pa_nil))) (pe_slice (slT K rfl) (pv 2) (po_some (pe_op op_add (pv 5) pe_int)) po_none)))
    (C8.pss_cut (ps_if (pt_cmpR op_eq (pe_call G__law_take (hr.mono (by first | omega | decide)) rfl T.D__law_take.m T.D__law_take.F.kp T.D__law_take.b .nil pass0 (pa_cons (pv 1) (pa_cons pe_int pa_nil))) pe_int (nomark _)) (pss_one (ps_set (i := 10) sc_law.nd rfl (by first | exact Or.inl rfl | exact Or.inr rfl) (pe_ix (ixL K rfl) (pe_lst (pa_cons (pe_callTy (listOf K rfl) (by rfl) T.b_list (by decide +kernel) (pa_cons (pv 2) pa_nil)) (pa_cons (pe_tup pa_nil) (pa_cons (pe_op op_catA (pv 2) (pe_tup (pa_cons (pe_ix (ixT K rfl) (pv 2) pe_int (fun _ _ => rfl)) pa_nil))) (pa_cons pe_non pa_nil))))) (pe_call G__law_take (hr.mono (by first | omega | decide)) rfl T.D__law_take.m T.D__law_take.F.kp T.D__law_take.b .nil pass0 (pa_cons (pv 1) (pa_cons pe_int pa_nil))) (fun _ _ => rfl)))) pss_nil)
    (pss_cons (ps_set (i := 11) sc_law.nd rfl (by first | exact Or.inl rfl | exact Or.inr rfl) (pe_callB (XR.call_repr K rfl rfl hu65) (by rfl) T.b_repr (by decide +kernel) (pa_cons (pv 10) pa_nil)))
    (pss_cons (ps_if (PW.pt (pw_or (pt_cmpR op_notBl (pe_call G_is_grammar (hr.mono (by first | omega | decide)) rfl T.D_is_grammar.m T.D_is_grammar.F.kp T.D_is_grammar.b .nil pass0 (pa_cons (pv 10) pa_nil)) pe_bl (nomark _)) (pw_or1 (pt_cmpR op_ne (pe_callB (XR.call_repr K rfl rfl hu65) (by rfl) T.b_repr (by decide +kernel) (pa_cons (pv 10) pa_nil)) (pv 11) (nomark _))))) (pss_one (ps_ret pe_bl)) pss_nil)
    (pss_cons (ps_try_as (i := 12) (Wout := fun _ _ _ _ => False) rfl rfl sc_law.nd rfl rfl ⟨rfl, by decide, .inl T.E_Invalid.m⟩ takes0 (fun W pn xe tk _ => (pss_one (ps_expr (pe_callS G_checked (hr.mono (by first | omega | decide)) rfl T.D_checked.m T.D_checked.F.kp T.D_checked.b (fun σ => passAt tk σ) (pa_cons (pv 10) pa_nil))))) (fun a oe cls d pn hz hf => (pss_one (ps_ret (pe_cmpR op_eq (pe_xf T.E_Invalid.xf T.E_Invalid.noN hz hf (pv 12)) pe_str (nomark _))))))
    (pss_one (ps_ret pe_bl))))))))))))))))), ?_⟩
  have two2 : (2 : Nat) ≤ sizeLine := by decide
  -- the row and the grammar
  refine ⟨_, rfl, a, ns, rfl, hS, hlen, fun r H1 e1 hr1 row1 => ?_⟩
  refine ⟨_, rfl, _, rfl, r, 3, rfl, by decide, row1, fun i0 H2 hi0 hi3 e2 row2 => ⟨_, _, rfl, rfl, ?_⟩⟩
  obtain ⟨dd, hdd⟩ : ∃ dd : Nat, (1 + i0 : Int) = (dd : Int) := ⟨(1 + i0).toNat, by omega⟩
  have hdd3 : dd ≤ 3 := by omega
  have hvs : ([.ref r, .int (1 + i0)] : List V) = [.ref r, .int (dd : Int)] := by rw [hdd]
  refine ⟨r, dd, hvs, by omega, row2, fun g v H3 hg e3 row3 hgv => ?_⟩
  obtain ⟨ga, gs, rfl, hga, hgs, hgl⟩ := grI hgv
  have hglen := hg.len
  have hgpos := hg.pos
  have hpB : pB dd ≤ 400 := by
    have hc : dd = 0 ∨ dd = 1 ∨ dd = 2 ∨ dd = 3 := by omega
    rcases hc with rfl | rfl | rfl | rfl <;> decide
  have hgood : ∀ p ∈ g, p.2.Good 7 400 ∧ nameB (.str p.1) = true ∧ tame (.str p.1) = true := fun p hp => ⟨(hg.good p hp).1.mono (by omega) hpB, (hg.good p hp).2⟩
  have htab3 : Tb T H3 := ((htab.ext e1).extR e2).extR e3
  -- its size
  have hsz : ∀ p ∈ g, p.2.size ≤ 400 := fun p hp => Nat.le_trans p.2.size_psz (hgood p hp).1.psz
  refine ⟨_, rfl, ga, rfl, ⟨_, SqT.of hga⟩, fun D hD => ?_⟩
  have hDr : D ≠ r := fun z => by obtain ⟨_, _, z2, _⟩ := row3; rw [z, z2] at hD; cases hD
  refine lc_tup (K := K) (a := ga) (xs := gs) (fun i H' => Ext H3 H' ∧ H' D = some (.lst (((g.take i).map fun q : Str × Ex => ((q.2.size : Nat) : Int)).map V.int)))
    ⟨Ext.new hD _, upd_same⟩ (fun i H' _ ⟨e', _⟩ => SqT.of (e'.tup hga)) (fun i x H' hx ⟨e', hacc⟩ => ?_) (fun H4 ⟨e4, hacc⟩ => ?_)
  · obtain ⟨nm, ex, ra, ev, hge, rfl, hra, hev⟩ := ruleI (hgs.mono e') hx
    have hm := hgood _ (List.mem_of_getElem? hge)
    have hm2 := hsz _ (List.mem_of_getElem? hge)
    refine ⟨rfl, _, rfl, ra, _, _, _, rfl, rfl, SqT.of hra, at1, ex, ev, rfl, hev, hm.1.dep, by have : ex.size ≤ 400 := hm2; omega, fun H5 e5 => ?_⟩
    refine ⟨_, e5.lst hacc, small5000 (by rw [List.length_map, List.length_map, List.length_take]; omega), ExtR.of_free hD (e'.trans e5) (ExtR.set (e5.lst hacc) _), ?_⟩
    rw [upd_same, List.take_add_one, hge, List.map_append, List.map_append]; rfl
  refine ⟨D, _, rfl, SqL.of hacc, ?_⟩
  have hsum : ((g.take gs.length).map fun q : Str × Ex => ((q.2.size : Nat) : Int)).sum = ((Ex.sizes (g.map (·.2)) : Nat) : Int) := by
    rw [hgl, List.take_length, Ex.sizes_eq, List.map_map]
    have : ∀ l : Gr, (l.map fun q : Str × Ex => ((q.2.size : Nat) : Int)).sum = (((l.map (Ex.size ∘ fun x => x.2)).sum : Nat) : Int) := by
      intro l
      induction l with
      | nil => rfl
      | cons x r ih => rw [List.map_cons, List.sum_cons, ih, List.map_cons, List.sum_cons]; show _ = ((_ + _ : Nat) : Int); simp
    exact this g
  rw [hsum]
  have hgv4 : DA H4 (grPy g) (.ref ga) := hgv.mono e4
  have row4 := row3.ext e4
  have htab4 := htab3.ext e4
  -- what the grammar is
  have hrul : ∀ d ∈ g.map rulePy, ruleB d = true ∧ Okd d 402 16 := fun d hd => by
    obtain ⟨p, hp, rfl⟩ := List.mem_map.mp hd
    have q := hgood p hp
    refine ⟨?_, ((q.1.okd).two q.2.2).mono (by omega) (by omega)⟩
    show (nameB (.str p.1) && exprB 12 p.2.py) = true
    rw [q.2.1, Ex.expr_ok p.2 12 (Nat.le_trans q.1.dep (by omega)) q.1.fine]; rfl
  have hgd : Okd (grPy g) 2000 20 := (okd_tup fun d hd => (hrul d hd).2).mono (by rw [List.length_map]; omega) (by omega)
  have hgram : gramB (grPy g) = true := by
    show (decide (1 ≤ ((g.map rulePy).length : Int)) && decide (((g.map rulePy).length : Int) ≤ 16) && (g.map rulePy).all ruleB && decide (dsz ((g.map rulePy).map ruleName).reverse = (g.map rulePy).length)) = true
    have hn : (g.map rulePy).map ruleName = g.map (·.1) := by rw [List.map_map]; rfl
    rw [List.length_map, decide_eq_true (by omega), decide_eq_true (by omega), List.all_eq_true.mpr fun d hd => (hrul d hd).1, hn, dsz_nodup (List.pairwise_reverse.mpr (hg.nod.imp Ne.symm)), List.length_reverse, List.length_map, decide_eq_true rfl]; rfl
  refine ⟨_, rfl, r, grPy g, _, rfl, DL.of_da _ _ hgv4, hgd.t, htab4, fun H5 e5 => ⟨_, _, rfl, rfl, _, rfl, ite_f (by rw [hgram]; rfl) ?_⟩⟩
  have hgv5 := hgv4.mono e5
  have htab5 := htab4.ext e5
  refine ⟨_, rfl, r, grPy g, _, rfl, DL.of_da _ _ hgv5, hgd.t, htab5, fun _ H6 e6 => ?_, fun z => by rw [hgram] at z; cases z⟩
  have hgv6 := hgv5.mono e6
  have hsh := tame_shaped hgd.t (Nat.le_trans hgd.d (by omega))
  refine ⟨_, rfl, _, _, DA.dp _ _ hgv6, DA.dp _ _ hgv6, hsh, hsh, _, rfl, ite_f (by rw [SeqAt.eqv_refl _ (tame_show _ hgd.t).2.2.1]; rfl) ?_⟩
  refine ⟨_, rfl, g, _, rfl, hgv6, fun p hp => ⟨(hgood p hp).1.dep, by have := hsz p hp; omega⟩, by omega, htab5.ext e6, fun H7 e7 => ?_⟩
  refine ⟨_, rfl, rfl, _, rfl, ite_f (by rw [decide_eq_true rfl]; rfl) ?_⟩
  have e47 := e5.trans (e6.trans e7)
  have hga7 := (e4.trans e47).tup hga
  have hgs7 := hgs.mono (e4.trans e47)
  have row7 := row4.ext e47
  have htab7 := htab4.ext e47
  -- the place
  refine ⟨_, rfl, _, rfl, _, _, rfl, .inr (SqT.of hga7), r, (gs.length : Int), rfl, by omega, row7, fun at_ H8 hat0 hat1 e8 row8 => ?_⟩
  obtain ⟨k, rfl⟩ : ∃ k : Nat, at_ = (k : Int) := ⟨at_.toNat, by omega⟩
  have hk : k < gs.length := by omega
  have hga8 := e8.tup hga7
  obtain ⟨nm, ex, ra, ev, hge, hgk, hra, hev⟩ := ruleI (hgs7.monoR e8) (List.getElem?_eq_getElem hk)
  have hatk : atI gs (k : Int) = some (.ref ra) := by unfold atI; rw [ixN_at hk rfl]; exact (List.getElem?_eq_getElem hk).trans (by rw [hgk])
  have hgx := hgood _ (List.mem_of_getElem? hge)
  have hsx : ex.size ≤ 400 := hsz _ (List.mem_of_getElem? hge)
  refine ⟨_, rfl, _, rfl, ga, _, _, _, rfl, rfl, SqT.of hga8, hatk, ra, _, rfl, SqT.of hra, rfl, _, _, rfl, _, _, rfl, rfl, ?_⟩
  have one1 : (1 : Nat) ≤ sizeLine := by decide
  have thr3 : (3 : Nat) ≤ sizeLine := by decide
  have neR : ∀ {H1 : Hp} {p : Addr}, RowOk H1 r → H1 p = none → p ≠ r := fun {H1 p} row hp z => by obtain ⟨_, _, z2, _⟩ := row; rw [z, z2] at hp; cases hp
  -- called names
  have hcok := Ex.calls_ok ex hgx.1.tame
  refine ⟨_, rfl, ex, ev, rfl, hev, hgx.1.dep, by omega, fun l1 H9 e9 hn1 hl1 => ?_⟩
  refine ⟨_, rfl, ex, ev, rfl, hev.mono e9, hgx.1.dep, by omega, fun l2 H10 e10 hn2 hl2 => ?_⟩
  refine ⟨_, _, Dp_names (e10.lst hl1), Dp_names hl2, names_shaped hcok, names_shaped hcok, _, rfl, ite_f (by rw [names_eq, decide_eq_true rfl]; rfl) ?_⟩
  -- the fault put in
  have hev10 := (hev.mono e9).mono e10
  have row10 := (row8.ext e9).ext e10
  refine ⟨_, rfl, _, rfl, _, rfl, ex, ev, rfl, hev10, hgx.1.dep, by omega, fun H11 e11 => ?_⟩
  have hxp := ex.size_pos
  refine ⟨r, (ex.size : Int), rfl, by omega, row10.ext e11, fun kk H12 hkk0 hkk1 e12 row12 => ?_⟩
  obtain ⟨kn, rfl⟩ : ∃ kn : Nat, kk = (kn : Int) := ⟨kk.toNat, by omega⟩
  refine ⟨_, rfl, r, rfl, row12, fun fdat fv H13 hfd e13 row13 hfv => ?_⟩
  have hev13 := ((hev10.mono e11).monoR e12).monoR e13
  refine ⟨r, ex, ev, kn, fdat, fv, rfl, hev13, hgx.1.dep, by omega, by omega, hfv, fun iv H14 e14 hiv => ?_⟩
  refine ⟨_, rfl, _, rfl, two2, fun pr hpr => ?_⟩
  have e15 := Ext.new hpr (.tup [.str nm, iv])
  have drule : DL r (upd H14 pr (.tup [.str nm, iv])) (.tuple [.str nm, Ex.put fdat ex kn]) (.ref pr) := DL.new hpr (.cons .str (.cons hiv .nil))
  have brule : ruleB (.tuple [.str nm, Ex.put fdat ex kn]) = false := rule_bad2 (Ex.put_bad (faults_bad fdat hfd) ex kn 12 (by omega))
  have orule : Okd (.tuple [.str nm, Ex.put fdat ex kn]) 1300 24 := by
    have h1 := Ex.put_okd (faults_okd fdat hfd) ex kn hgx.1.tame
    have h2 := hgx.1.psz
    have h3 := hgx.1.dep
    exact (h1.two hgx.2.2).mono (by have : psz ex.py ≤ 400 := h2; omega) (by have : ex.dep ≤ 7 := h3; omega)
  have t15 : ExtR r H8 (upd H14 pr (.tup [.str nm, iv])) := ((e9.trans (e10.trans e11)).toR r).trans (e12.trans (e13.trans ((e14.trans e15).toR r)))
  have row15 := (row13.ext e14).ext e15
  generalize upd H14 pr (.tup [.str nm, iv]) = H15 at drule t15 row15 ⊢
  -- or another rule
  refine ⟨fun σ H' => ∃ (rv : V) (rd : PyData) (x : Option V), σ = [some (.ref a), some (.ref r), some (.ref ga), some (.int ((Ex.sizes (g.map (·.2)) : Nat) : Int)), some rv, some (.int (k : Int)), some (.str nm), some ev, some iv, x, none, none, none] ∧ ruleB rd = false ∧ Okd rd 1300 24 ∧ DL r H' rd rv ∧ ExtR r H8 H' ∧ RowOk H' r, ?_, ?_⟩
  · refine ⟨_, rfl, r, 4, rfl, by decide, row15, fun j H16 hj0 hj4 e16 row16 => ⟨rfl, _, rfl, ite2 (fun _ => ?_) (fun _ => ?_)⟩⟩
    · have t16 := t15.trans e16
      have dev : DL r H16 ex.py ev := DL.of_da _ _ (hev.monoR t16)
      have oev : Okd ex.py 400 14 := hgx.1.okd
      have onm : tame (.str nm) = true := hgx.2.2
      refine ⟨_, rfl, two2, fun q1 h1 => ⟨_, rfl, one1, fun q2 h2 => ⟨_, rfl, _, rfl, two2, fun q3 h3 => ⟨_, rfl, _, rfl, thr3, fun q4 h4 => ⟨_, rfl, two2, fun q5 h5 => ⟨_, rfl, two2, fun q6 h6 => ⟨(by decide : 6 ≤ sizeLine), fun ql h7 => ?_⟩⟩⟩⟩⟩⟩⟩
      have g1 := Ext.new h1 (.tup [.str "A", ev])
      have d1 := DL.new (r := r) (xs := [.str "A", ex.py]) h1 (.cons .str (.cons dev .nil))
      have g2 := Ext.new h2 (.tup [.str nm])
      have d2 := DL.new (r := r) (xs := [.str nm]) h2 (.cons .str .nil)
      have g3 := Ext.new h3 (.lst [.str nm, ev])
      have d3 := DL.newL (r := r) (xs := [.str nm, ex.py]) h3 (neR ((row16.ext g1).ext g2) h3) (.cons .str (.cons (dev.mono (g1.trans g2)) .nil))
      have g4 := Ext.new h4 (.tup [.str nm, ev, .int 1])
      have d4 := DL.new (r := r) (xs := [.str nm, ex.py, .int 1]) h4 (.cons .str (.cons (dev.mono (g1.trans (g2.trans g3))) (.cons .int .nil)))
      have g5 := Ext.new h5 (.tup [.str "", ev])
      have d5 := DL.new (r := r) (xs := [.str "", ex.py]) h5 (.cons .str (.cons (dev.mono (g1.trans (g2.trans (g3.trans g4)))) .nil))
      have g6 := Ext.new h6 (.tup [.int 5, ev])
      have d6 := DL.new (r := r) (xs := [.int 5, ex.py]) h6 (.cons .int (.cons (dev.mono (g1.trans (g2.trans (g3.trans (g4.trans g5))))) .nil))
      have g7 := Ext.new h7 (.lst [.ref q1, .ref q2, .ref q3, .ref q4, .ref q5, .ref q6])
      have nql := neR ((((((row16.ext g1).ext g2).ext g3).ext g4).ext g5).ext g6) h7
      have rowq := ((((((row16.ext g1).ext g2).ext g3).ext g4).ext g5).ext g6).ext g7
      have hds : DLs r _ [.tuple [.str "A", ex.py], .tuple [.str nm], .list [.str nm, ex.py], .tuple [.str nm, ex.py, .int 1], .tuple [.str "", ex.py], .tuple [.int 5, ex.py]] [.ref q1, .ref q2, .ref q3, .ref q4, .ref q5, .ref q6] :=
        .cons (d1.mono (g2.trans (g3.trans (g4.trans (g5.trans (g6.trans g7)))))) (.cons (d2.mono (g3.trans (g4.trans (g5.trans (g6.trans g7))))) (.cons (d3.mono (g4.trans (g5.trans (g6.trans g7)))) (.cons (d4.mono (g5.trans (g6.trans g7))) (.cons (d5.mono (g6.trans g7)) (.cons (d6.mono g7) .nil)))))
      have tq := g1.trans (g2.trans (g3.trans (g4.trans (g5.trans (g6.trans g7)))))
      refine ⟨_, rfl, _, rfl, r, 6, rfl, by decide, rowq, fun j2 H17 hj20 hj26 e17 row17 => ?_⟩
      obtain ⟨v, hv1, hv2⟩ := atI_ex (xs := [V.ref q1, .ref q2, .ref q3, .ref q4, .ref q5, .ref q6]) hj20 (by exact hj26)
      obtain ⟨d, hd1, hd2⟩ := DLs.get' (hds.monoR e17) hv2
      refine ⟨ql, _, _, v, rfl, rfl, SqL.of (e17.lst nql upd_same), hv1, v, d, _, rfl, ?_, ?_, hd2, (t16.trans (tq.toR r)).trans e17, row17⟩
      · have hm := List.mem_of_getElem? hd1
        simp only [List.mem_cons, List.not_mem_nil, or_false] at hm
        rcases hm with rfl | rfl | rfl | rfl | rfl | rfl
        · exact rule_bad1 (by decide +kernel)
        · rfl
        · rfl
        · rfl
        · exact rule_bad1 (by decide +kernel)
        · rfl
      · have hm := List.mem_of_getElem? hd1
        simp only [List.mem_cons, List.not_mem_nil, or_false] at hm
        have ostr : ∀ {s : Str}, tame (.str s) = true → Okd (.str s) 400 14 := fun {s} h => ⟨h, by rw [psz]; omega, by rw [PyData.depth]; omega⟩
        have oint : ∀ {z : Int}, z.natAbs < 10 ^ 12 → Okd (.int z) 400 14 := fun {z} h => ⟨by rw [tame]; exact decide_eq_true h, by rw [psz]; omega, by rw [PyData.depth]; omega⟩
        have osm : ∀ {l : List PyData}, l.length ≤ 3 → (∀ d ∈ l, Okd d 400 14) → Okd (.tuple l) 1300 24 := fun {l} h1 h2 => (okd_tup h2).mono (by omega) (by omega)
        rcases hm with rfl | rfl | rfl | rfl | rfl | rfl
        · exact osm (by simp) (by simp only [List.forall_mem_cons]; exact ⟨ostr (by decide +kernel), oev, fun _ z => by cases z⟩)
        · exact osm (by simp) (by simp only [List.forall_mem_cons]; exact ⟨ostr onm, fun _ z => by cases z⟩)
        · exact okd_lst (osm (by simp) (by simp only [List.forall_mem_cons]; exact ⟨ostr onm, oev, fun _ z => by cases z⟩))
        · exact osm (by simp) (by simp only [List.forall_mem_cons]; exact ⟨ostr onm, oev, oint (by decide), fun _ z => by cases z⟩)
        · exact osm (by simp) (by simp only [List.forall_mem_cons]; exact ⟨ostr (by decide +kernel), oev, fun _ z => by cases z⟩)
        · exact osm (by simp) (by simp only [List.forall_mem_cons]; exact ⟨oint (by decide), oev, fun _ z => by cases z⟩)
    · exact ⟨_, _, _, rfl, brule, orule, drule.monoR e16, t15.trans e16, row16⟩
  rintro σ H16 ⟨rv, rd, x, rfl, brd, ord, drd, t16, row16⟩
  -- the wrong grammar
  have hga16 := t16.tup hga8
  have hgs16 : DLs r H16 (g.map rulePy) gs := DLs.of_da _ _ ((hgs7.monoR e8).monoR t16)
  have hgsl : gs.length = (g.map rulePy).length := by rw [List.length_map]; exact hgl
  refine ⟨_, rfl, _, rfl, _, rfl, slA_of hga16 fun p1 G1 f1 hp1 => ⟨_, rfl, one1, fun p2 hp2 => ?_⟩⟩
  rw [cut_take] at hp1
  have f2 := Ext.new hp2 (.tup [rv])
  refine catA_of (f2.tup hp1) upd_same (by rw [List.length_take, List.length_singleton, sizeLine_eq]; omega) fun p3 G3 f3 hp3 => ?_
  have f123 := f1.trans (f2.trans f3)
  refine ⟨_, rfl, _, rfl, _, _, rfl, rfl, _, rfl, ?_⟩
  dsimp only [tNoPart]
  refine slA_of (f123.tup hga16) fun p4 G4 f4 hp4 => ?_
  rw [show (k : Int) + 1 = ((k + 1 : Nat) : Int) by omega, cut_drop] at hp4
  refine catA_of (f4.tup hp3) hp4 (by rw [List.length_append, List.length_take, List.length_drop, List.length_singleton, sizeLine_eq]; omega) fun p5 G5 f5 hp5 => ?_
  have f15 := f123.trans (f4.trans f5)
  have dw : DL r G5 (.tuple ((g.map rulePy).take k ++ [rd] ++ (g.map rulePy).drop (k + 1))) (.ref p5) := .tup hp5 ((((hgs16.mono f15).take k).append (.cons (drd.mono f15) .nil)).append ((hgs16.mono f15).drop (k + 1)))
  have bw := gram_bad (l1 := (g.map rulePy).take k) (l2 := (g.map rulePy).drop (k + 1)) brd
  have hall : ∀ d ∈ (g.map rulePy).take k ++ [rd] ++ (g.map rulePy).drop (k + 1), Okd d 1300 24 := fun d hd => by
    rcases List.mem_append.mp hd with hd | hd
    · rcases List.mem_append.mp hd with hd | hd
      · exact (hrul d (List.mem_of_mem_take hd)).2.mono (by omega) (by omega)
      · rw [List.mem_singleton.mp hd]; exact ord
    · exact (hrul d (List.mem_of_mem_drop hd)).2.mono (by omega) (by omega)
  have ow : Okd (.tuple ((g.map rulePy).take k ++ [rd] ++ (g.map rulePy).drop (k + 1))) 6000 30 := (okd_tup hall).mono (by rw [List.length_append, List.length_append, List.length_take, List.length_drop, List.length_singleton]; omega) (by omega)
  have t17 := t16.trans (f15.toR r)
  have row17 := row16.ext f15
  refine ⟨fun σ H' => ∃ (wv : V) (wd : PyData) (z : V), σ = [some (.ref a), some (.ref r), some (.ref ga), some (.int ((Ex.sizes (g.map (·.2)) : Nat) : Int)), some z, some (.int (k : Int)), some (.str nm), some ev, some iv, x, some wv, none, none] ∧ gramB wd = false ∧ Okd wd 6000 30 ∧ DL r H' wd wv ∧ (wv = .non ∨ ∃ a, wv = .ref a) ∧ ExtR r H8 H' ∧ RowOk H' r, ?_, ?_⟩
  · refine ⟨_, rfl, r, 6, rfl, by decide, row17, fun j H18 hj0 hj6 e18 row18 => ⟨rfl, _, rfl, ite2 (fun _ => ?_) (fun _ => ?_)⟩⟩
    · have t18 := t17.trans e18
      have hga18 := t18.tup hga8
      have hgs18 : DLs r H18 (g.map rulePy) gs := DLs.of_da _ _ ((hgs7.monoR e8).monoR t18)
      have hg0 : 0 < gs.length := by omega
      have hat0 : atI gs 0 = some gs[0] := by unfold atI; rw [show ixN gs.length 0 = some 0 from ixN_at hg0 rfl]; exact List.getElem?_eq_getElem hg0
      refine ⟨_, rfl, ga, gs, rfl, .inr (SqT.of hga18), fun q1 h1 => ⟨Nat.zero_le _, fun q2 h2 => ⟨_, rfl, _, rfl, ga, _, _, gs[0], rfl, rfl, SqT.of ((Ext.new h2 _).tup ((Ext.new h1 _).tup hga18)), hat0, one1, fun q3 h3 => ?_⟩⟩⟩
      have g1 := Ext.new h1 (.lst gs)
      have g2 := Ext.new h2 (.tup [])
      have g3 := Ext.new h3 (.tup [gs[0]])
      have d1 : DL r (upd H18 q1 (.lst gs)) (.list (g.map rulePy)) (.ref q1) := DL.newL h1 (neR row18 h1) hgs18
      have d2 : DL r (upd (upd H18 q1 (.lst gs)) q2 (.tup [])) (.tuple []) (.ref q2) := DL.new h2 .nil
      refine catA_of (g3.tup (g2.tup (g1.tup hga18))) upd_same (by rw [List.length_singleton, sizeLine_eq]; omega) fun q4 G4' g4 hq4 => ⟨(by decide : 4 ≤ sizeLine), fun ql h5 => ?_⟩
      have g5 := Ext.new h5 (.lst [.ref q1, .ref q2, .ref q4, .non])
      have t4 := g1.trans (g2.trans (g3.trans g4))
      obtain ⟨dg0, hdg0, hdg1⟩ := DLs.get' (hgs18.mono t4) (List.getElem?_eq_getElem hg0)
      have d4 : DL r G4' (.tuple (g.map rulePy ++ [dg0])) (.ref q4) := .tup hq4 ((hgs18.mono t4).append (.cons hdg1 .nil))
      have nql := neR (row18.ext t4) h5
      have hds : DLs r (upd G4' ql (.lst [.ref q1, .ref q2, .ref q4, .non])) [.list (g.map rulePy), .tuple [], .tuple (g.map rulePy ++ [dg0]), .none] [.ref q1, .ref q2, .ref q4, .non] :=
        .cons (d1.mono (g2.trans (g3.trans (g4.trans g5)))) (.cons (d2.mono (g3.trans (g4.trans g5))) (.cons (d4.mono g5) (.cons .non .nil)))
      refine ⟨_, rfl, r, 4, rfl, by decide, (row18.ext t4).ext g5, fun j2 H20 hj20 hj24 e20 row20 => ?_⟩
      obtain ⟨v, hv1, hv2⟩ := atI_ex (xs := [V.ref q1, .ref q2, .ref q4, .non]) hj20 (by exact hj24)
      obtain ⟨d, hd1, hd2⟩ := DLs.get' (hds.monoR e20) hv2
      have hhead : ∃ l, g.map rulePy = dg0 :: l := by
        cases hgm : g.map rulePy with
        | nil => rw [hgm] at hdg0; simp at hdg0
        | cons x l => rw [hgm] at hdg0; cases (by simpa using hdg0 : x = dg0); exact ⟨l, rfl⟩
      obtain ⟨lg, hlg⟩ := hhead
      have hkinds : gramB d = false ∧ Okd d 6000 30 ∧ (v = .non ∨ ∃ a, v = .ref a) := by
        have hj : j2 = 0 ∨ j2 = 1 ∨ j2 = 2 ∨ j2 = 3 := by omega
        rcases hj with rfl | rfl | rfl | rfl
        · cases hd1; cases hv2
          exact ⟨rfl, (okd_lst hgd).mono (by omega) (by omega), .inr ⟨_, rfl⟩⟩
        · cases hd1; cases hv2
          exact ⟨rfl, ⟨by decide +kernel, by decide +kernel, by decide +kernel⟩, .inr ⟨_, rfl⟩⟩
        · cases hd1; cases hv2
          refine ⟨by rw [hlg]; exact gram_dup, (okd_tup (b := 402) (k := 16) fun d hd => ?_).mono (by rw [List.length_append, List.length_map, List.length_singleton]; omega) (by omega), .inr ⟨_, rfl⟩⟩
          rcases List.mem_append.mp hd with hd | hd
          · exact (hrul d hd).2
          · rw [List.mem_singleton.mp hd]; exact (hrul dg0 (List.mem_of_getElem? hdg0)).2
        · cases hd1; cases hv2
          exact ⟨rfl, ⟨rfl, by decide +kernel, by decide +kernel⟩, .inl rfl⟩
      exact ⟨ql, _, _, v, rfl, rfl, SqL.of (e20.lst nql upd_same), hv1, v, d, _, rfl, hkinds.1, hkinds.2.1, hd2, hkinds.2.2, (t18.trans ((t4.trans g5).toR r)).trans e20, row20⟩
    · exact ⟨_, _, _, rfl, bw, ow, dw.monoR e18, .inr ⟨_, rfl⟩, t17.trans e18, row18⟩
  rintro σ H19 ⟨wv, wd, z, rfl, bwd, owd, dwd, hwv, t19, row19⟩
  have htab19 : Tb T H19 := (htab7.extR e8).extR t19
  obtain ⟨s1, s2, s3, _⟩ := tame_show wd owd.t
  have hfit := tame_fits owd.t (Nat.le_trans owd.z (by omega))
  refine ⟨_, rfl, wv, wd, rfl, DL.dp _ _ dwd, hwv, s1, s2, Nat.le_trans owd.d (by omega), hfit, ?_⟩
  refine ⟨_, rfl, r, wd, wv, rfl, dwd, owd.t, htab19, fun H20 e20 => ⟨_, _, rfl, rfl, _, rfl, ite_f (by rw [bwd]; rfl) ?_⟩⟩
  refine ⟨_, rfl, wv, wd, rfl, DL.dp _ _ (dwd.mono e20), hwv, s1, s2, Nat.le_trans owd.d (by omega), hfit, _, rfl, rfl, _, rfl, ite_f (by rw [decide_eq_true rfl]; rfl) ?_⟩
  refine ⟨_, rfl, r, wd, wv, rfl, dwd.mono e20, owd.t, htab19.ext e20, (fun zz => by rw [bwd] at zz; cases zz), fun _ xa H21 e21 hx => ?_⟩
  refine ⟨true, T.E_Invalid.te, fun _ a0 ha0 => ?_, fun q => Bool.noConfusion q⟩
  refine ⟨_, rfl, rfl, rfl, xa, _, _, rfl, hx, rfl, rfl, ?_⟩
  rw [show decide (V.str "grammar" = V.str "grammar") = true from decide_eq_true rfl]
  exact hQ _

end
end N_k01
namespace N_k01
open PySem PySem.Spec PyProof.Rows L2 GenW GE LB
def dd_is_name : He.DefD := ⟨("is_name", none), "is_name", "is_name", defArgs s_is_name, defBody s_is_name, defScope s_is_name, [], []⟩
def dd_is_char_set : He.DefD := ⟨("is_char_set", none), "is_char_set", "is_char_set", defArgs s_is_char_set, defBody s_is_char_set, defScope s_is_char_set, [], []⟩
def dd_is_char_text : He.DefD := ⟨("is_char_text", none), "is_char_text", "is_char_text", defArgs s_is_char_text, defBody s_is_char_text, defScope s_is_char_text, [], []⟩
def dd_are_parts : He.DefD := ⟨("are_parts", none), "are_parts", "are_parts", defArgs s_are_parts, defBody s_are_parts, defScope s_are_parts, [], []⟩
def dd_is_expression : He.DefD := ⟨("is_expression", none), "is_expression", "is_expression", defArgs s_is_expression, defBody s_is_expression, defScope s_is_expression, [], []⟩
def dd_is_rule : He.DefD := ⟨("is_rule", none), "is_rule", "is_rule", defArgs s_is_rule, defBody s_is_rule, defScope s_is_rule, [], []⟩
def dd_is_grammar : He.DefD := ⟨("is_grammar", none), "is_grammar", "is_grammar", defArgs s_is_grammar, defBody s_is_grammar, defScope s_is_grammar, [], []⟩
def dd_checked : He.DefD := ⟨("checked", none), "checked", "checked", defArgs s_checked, defBody s_checked, defScope s_checked, [], []⟩
def dd_parts_of : He.DefD := ⟨("parts_of", none), "parts_of", "parts_of", defArgs s_parts_of, defBody s_parts_of, defScope s_parts_of, [], []⟩
def dd_calls_of : He.DefD := ⟨("calls_of", none), "calls_of", "calls_of", defArgs s_calls_of, defBody s_calls_of, defScope s_calls_of, [], []⟩
def dd_expression_size : He.DefD := ⟨("expression_size", none), "expression_size", "expression_size", defArgs s_expression_size, defBody s_expression_size, defScope s_expression_size, [], []⟩
def dd_size_of : He.DefD := ⟨("size_of", none), "size_of", "size_of", defArgs s_size_of, defBody s_size_of, defScope s_size_of, [], []⟩
def dd__law_stream : He.DefD := ⟨("_law_stream", none), "_law_stream", "_law_stream", defArgs s__law_stream, defBody s__law_stream, defScope s__law_stream, [], []⟩
def dd__law_take : He.DefD := ⟨("_law_take", none), "_law_take", "_law_take", defArgs s__law_take, defBody s__law_take, defScope s__law_take, [], []⟩
def dd__law_taker : He.DefD := ⟨("_law_taker", none), "_law_taker", "_law_taker", defArgs s__law_taker, defBody s__law_taker, defScope s__law_taker, [], []⟩
def dd__law_expression : He.DefD := ⟨("_law_expression", none), "_law_expression", "_law_expression", defArgs s__law_expression, defBody s__law_expression, defScope s__law_expression, [], []⟩
def dd__law_grammar : He.DefD := ⟨("_law_grammar", none), "_law_grammar", "_law_grammar", defArgs s__law_grammar, defBody s__law_grammar, defScope s__law_grammar, [], []⟩
def dd__law_text : He.DefD := ⟨("_law_text", none), "_law_text", "_law_text", defArgs s__law_text, defBody s__law_text, defScope s__law_text, [], []⟩
def dd__law_parts : He.DefD := ⟨("_law_parts", none), "_law_parts", "_law_parts", defArgs s__law_parts, defBody s__law_parts, defScope s__law_parts, [], []⟩
def dd__law_count : He.DefD := ⟨("_law_count", none), "_law_count", "_law_count", defArgs s__law_count, defBody s__law_count, defScope s__law_count, [], []⟩
def dd__law_calls : He.DefD := ⟨("_law_calls", none), "_law_calls", "_law_calls", defArgs s__law_calls, defBody s__law_calls, defScope s__law_calls, [], []⟩
def dd__law_put : He.DefD := ⟨("_law_put", none), "_law_put", "_law_put", defArgs s__law_put, defBody s__law_put, defScope s__law_put, [], []⟩
def dd__law_fault : He.DefD := ⟨("_law_fault", none), "_law_fault", "_law_fault", defArgs s__law_fault, defBody s__law_fault, defScope s__law_fault, [], []⟩
def dd_law : He.DefD := ⟨("law", none), "law", "law", defArgs s_law, defBody s_law, defScope s_law, [], []⟩
def dd_Invalid__init__ : He.DefD := ⟨("Invalid", some "__init__"), "__init__", "Invalid.__init__", defArgs s_Invalid__init__, defBody s_Invalid__init__, defScope s_Invalid__init__, [], []⟩
def fn : List He.DefD := [dd_is_name, dd_is_char_set, dd_is_char_text, dd_are_parts, dd_is_expression, dd_is_rule, dd_is_grammar, dd_checked, dd_parts_of, dd_calls_of, dd_expression_size, dd_size_of, dd__law_stream, dd__law_take, dd__law_taker, dd__law_expression, dd__law_grammar, dd__law_text, dd__law_parts, dd__law_count, dd__law_calls, dd__law_put, dd__law_fault, dd_law, dd_Invalid__init__]
def fa : List He.Fa := [.glo "is_name", .glo "is_char_set", .glo "is_char_text", .glo "are_parts", .glo "is_expression", .glo "is_rule", .glo "is_grammar", .glo "checked", .glo "parts_of", .glo "calls_of", .glo "expression_size", .glo "size_of", .glo "_law_stream", .glo "_law_take", .glo "_law_taker", .glo "_law_expression", .glo "_law_grammar", .glo "_law_text", .glo "_law_parts", .glo "_law_count", .glo "_law_calls", .glo "_law_put", .glo "_law_fault", .glo "law", .free "abs", .free "all", .free "int", .free "isinstance", .free "len", .free "list", .free "range", .free "repr", .free "str", .free "sum", .free "tuple", .glo "Refused", .glo "Invalid", .str "CHARS" " !\"#$&'()*+,-./0123456789:;<=>?@ABCDEFGHIJKLMNOPQRSTUVWXYZ[\\]^_`abcdefghijklmnopqrstuvwxyz{|}~", .int "MOST_LETTERS" 12, .int "MOST_SIGNS" 20, .int "MOST_PARTS" 16, .int "MOST_RULES" 16, .int "MOST_DEPTH" 12, .glo "LENGTHS", .glo "LISTING", .glo "WRAPPING"]
def tf : List He.Defn := [("are_parts", none), ("expression_size", none), ("is_char_set", none), ("is_char_text", none), ("is_grammar", none), ("is_name", none), ("size_of", none)]
def ts : List He.Tab := [((fun K => He.ga K "LENGTHS"), ["eps", "fail", "any", "set", "text", "seq", "alt", "star", "opt", "not", "and", "call", "mark"])]
def exB (K : PySem.W.Frag) : Bool := (XC.baseB K "Refused") && (XC.errB K "Invalid" "name") && (XR.itabB K (He.ga K "LENGTHS") LB.LENS) && (He.tupB K "LISTING" [.str "seq", .str "alt"]) && (He.tupB K "WRAPPING" [.str "star", .str "opt", .str "not", .str "and", .str "mark"])
abbrev R : PySem.W.OpenRow := PySem.W.OpenLaw.row PySem.Challenge.rw_graft_k01_grammars_and_near_things
abbrev hk : PySem.W.Hook := XH.hookY 7 fa fn ts tf exB
def ob (s : PySem.W.SharedT) : He.AlX := XH.obsY 7 fa fn ts tf exB (HandSHeadRun.getT s)
theorem ob_eq (s : PySem.W.SharedT) : ob s = hk.obs s.abs := XH.obsY_eq (HandSHeadRun.getT_eq s)
def loose0 : List Str := ["is_name", "is_char_set", "is_char_text", "are_parts", "is_expression", "is_rule", "is_grammar", "checked", "parts_of", "calls_of", "expression_size", "size_of", "_law_stream", "_law_take", "_law_taker", "_law_expression", "_law_grammar", "_law_text", "_law_parts", "_law_count", "_law_calls", "_law_put", "_law_fault", "CHARS", "MOST_LETTERS", "MOST_SIGNS", "MOST_PARTS", "MOST_RULES", "MOST_DEPTH", "LENGTHS"]
def loose1 : List Str := ["LISTING", "WRAPPING", "Refused", "Invalid"]
def looseA : List Str := loose0 ++ loose1
set_option maxHeartbeats 0 in
theorem run (w : World) : HandSHeadRun.RunEq R (PySem.W.view R.prog [37]) hk ob 3000 looseA w := PySem.W.byRow2 "special-get-raises" (P := fun w => HandSHeadRun.RunEq R (PySem.W.view R.prog [37]) hk ob 3000 looseA w) (fun w => by intro os; kernel_rfl) (fun w => by intro os; kernel_rfl) w
theorem facts {P : Program} {w : World} {K : PySem.W.Frag} {h : Heap} {mg : Str → Option Value} {f : Addr} (X : K.In h) (G : h.Ns mainGlobals mg) (hfa : mg ("law" : Str) = some (.ref f)) (c : He.SaysX fa fn ts tf exB w h K) :
    ∃ (fd : FuncData) (cs : List (Addr × Addr)) (sp : Sp), (∀ p ∈ cs, h.get? p.2 = some { cls := .none, data := .fields #[] }) ∧ (∀ p ∈ cs, K.lookup p.2 = none) ∧ (∀ p ∈ cs, PySem.W.CodeHd h p.1 p.2) ∧ (∀ (s : Shared) (u : Value), BindsTo s fd ⟨[u], []⟩ [("script", u)]) ∧
    (∀ (H : Hp) (a : Addr) (ns : List Int), ns.length ≤ 63 → (∀ z ∈ ns, Builtin.Int.intBits z ≤ 1048576) → (∀ p ∈ cs, H p.2 = some (.tbl #[])) → SqL K H a (ns.map V.int) → sp [.ref a] H (fun v _ => v = .bl true) fun _ _ _ => False) ∧
    ∀ base : Heap, K.In base → base.Ns mainGlobals mg → (∀ p ∈ cs, LamX.TabB base mg p.1 p.2) → XG.FnAt P w K mg base CX0 callerA f fd ["script"] sp := by
  have cd := c.t.d
  obtain ⟨fd_is_name, F_is_name⟩ := cd.def_ 0 (d := dd_is_name) rfl
  have D_is_name : DF K mg "is_name" s_is_name ["thing"] (He.fAd K ("is_name", none)) fd_is_name := df_mk X G F_is_name (cd.fact 0 (f := .glo "is_name") rfl) fun _ _ _ _ _ _ us hl => match us, hl with | [_], _ => rfl
  obtain ⟨fd_is_char_set, F_is_char_set⟩ := cd.def_ 1 (d := dd_is_char_set) rfl
  have D_is_char_set : DF K mg "is_char_set" s_is_char_set ["thing"] (He.fAd K ("is_char_set", none)) fd_is_char_set := df_mk X G F_is_char_set (cd.fact 1 (f := .glo "is_char_set") rfl) fun _ _ _ _ _ _ us hl => match us, hl with | [_], _ => rfl
  obtain ⟨fd_is_char_text, F_is_char_text⟩ := cd.def_ 2 (d := dd_is_char_text) rfl
  have D_is_char_text : DF K mg "is_char_text" s_is_char_text ["thing"] (He.fAd K ("is_char_text", none)) fd_is_char_text := df_mk X G F_is_char_text (cd.fact 2 (f := .glo "is_char_text") rfl) fun _ _ _ _ _ _ us hl => match us, hl with | [_], _ => rfl
  obtain ⟨fd_are_parts, F_are_parts⟩ := cd.def_ 3 (d := dd_are_parts) rfl
  have D_are_parts : DF K mg "are_parts" s_are_parts ["thing", "depth"] (He.fAd K ("are_parts", none)) fd_are_parts := df_mk X G F_are_parts (cd.fact 3 (f := .glo "are_parts") rfl) fun _ _ _ _ _ _ us hl => match us, hl with | [_, _], _ => rfl
  obtain ⟨fd_is_expression, F_is_expression⟩ := cd.def_ 4 (d := dd_is_expression) rfl
  have D_is_expression : DF K mg "is_expression" s_is_expression ["thing", "depth"] (He.fAd K ("is_expression", none)) fd_is_expression := df_mk X G F_is_expression (cd.fact 4 (f := .glo "is_expression") rfl) fun _ _ _ _ _ _ us hl => match us, hl with | [_, _], _ => rfl
  obtain ⟨fd_is_rule, F_is_rule⟩ := cd.def_ 5 (d := dd_is_rule) rfl
  have D_is_rule : DF K mg "is_rule" s_is_rule ["thing"] (He.fAd K ("is_rule", none)) fd_is_rule := df_mk X G F_is_rule (cd.fact 5 (f := .glo "is_rule") rfl) fun _ _ _ _ _ _ us hl => match us, hl with | [_], _ => rfl
  obtain ⟨fd_is_grammar, F_is_grammar⟩ := cd.def_ 6 (d := dd_is_grammar) rfl
  have D_is_grammar : DF K mg "is_grammar" s_is_grammar ["thing"] (He.fAd K ("is_grammar", none)) fd_is_grammar := df_mk X G F_is_grammar (cd.fact 6 (f := .glo "is_grammar") rfl) fun _ _ _ _ _ _ us hl => match us, hl with | [_], _ => rfl
  obtain ⟨fd_checked, F_checked⟩ := cd.def_ 7 (d := dd_checked) rfl
  have D_checked : DF K mg "checked" s_checked ["thing"] (He.fAd K ("checked", none)) fd_checked := df_mk X G F_checked (cd.fact 7 (f := .glo "checked") rfl) fun _ _ _ _ _ _ us hl => match us, hl with | [_], _ => rfl
  obtain ⟨fd_parts_of, F_parts_of⟩ := cd.def_ 8 (d := dd_parts_of) rfl
  have D_parts_of : DF K mg "parts_of" s_parts_of ["expression"] (He.fAd K ("parts_of", none)) fd_parts_of := df_mk X G F_parts_of (cd.fact 8 (f := .glo "parts_of") rfl) fun _ _ _ _ _ _ us hl => match us, hl with | [_], _ => rfl
  obtain ⟨fd_calls_of, F_calls_of⟩ := cd.def_ 9 (d := dd_calls_of) rfl
  have D_calls_of : DF K mg "calls_of" s_calls_of ["expression"] (He.fAd K ("calls_of", none)) fd_calls_of := df_mk X G F_calls_of (cd.fact 9 (f := .glo "calls_of") rfl) fun _ _ _ _ _ _ us hl => match us, hl with | [_], _ => rfl
  obtain ⟨fd_expression_size, F_expression_size⟩ := cd.def_ 10 (d := dd_expression_size) rfl
  have D_expression_size : DF K mg "expression_size" s_expression_size ["expression"] (He.fAd K ("expression_size", none)) fd_expression_size := df_mk X G F_expression_size (cd.fact 10 (f := .glo "expression_size") rfl) fun _ _ _ _ _ _ us hl => match us, hl with | [_], _ => rfl
  obtain ⟨fd_size_of, F_size_of⟩ := cd.def_ 11 (d := dd_size_of) rfl
  have D_size_of : DF K mg "size_of" s_size_of ["grammar"] (He.fAd K ("size_of", none)) fd_size_of := df_mk X G F_size_of (cd.fact 11 (f := .glo "size_of") rfl) fun _ _ _ _ _ _ us hl => match us, hl with | [_], _ => rfl
  obtain ⟨fd__law_stream, F__law_stream⟩ := cd.def_ 12 (d := dd__law_stream) rfl
  have D__law_stream : DF K mg "_law_stream" s__law_stream ["script"] (He.fAd K ("_law_stream", none)) fd__law_stream := df_mk X G F__law_stream (cd.fact 12 (f := .glo "_law_stream") rfl) fun _ _ _ _ _ _ us hl => match us, hl with | [_], _ => rfl
  obtain ⟨fd__law_take, F__law_take⟩ := cd.def_ 13 (d := dd__law_take) rfl
  have D__law_take : DF K mg "_law_take" s__law_take ["row", "many"] (He.fAd K ("_law_take", none)) fd__law_take := df_mk X G F__law_take (cd.fact 13 (f := .glo "_law_take") rfl) fun _ _ _ _ _ _ us hl => match us, hl with | [_, _], _ => rfl
  obtain ⟨fd__law_taker, F__law_taker⟩ := cd.def_ 14 (d := dd__law_taker) rfl
  have D__law_taker : DF K mg "_law_taker" s__law_taker ["row"] (He.fAd K ("_law_taker", none)) fd__law_taker := df_mk X G F__law_taker (cd.fact 14 (f := .glo "_law_taker") rfl) fun _ _ _ _ _ _ us hl => match us, hl with | [_], _ => rfl
  obtain ⟨fd__law_expression, F__law_expression⟩ := cd.def_ 15 (d := dd__law_expression) rfl
  have D__law_expression : DF K mg "_law_expression" s__law_expression ["row", "depth", "rule", "many"] (He.fAd K ("_law_expression", none)) fd__law_expression := df_mk X G F__law_expression (cd.fact 15 (f := .glo "_law_expression") rfl) fun _ _ _ _ _ _ us hl => match us, hl with | [_, _, _, _], _ => rfl
  obtain ⟨fd__law_grammar, F__law_grammar⟩ := cd.def_ 16 (d := dd__law_grammar) rfl
  have D__law_grammar : DF K mg "_law_grammar" s__law_grammar ["row", "depth"] (He.fAd K ("_law_grammar", none)) fd__law_grammar := df_mk X G F__law_grammar (cd.fact 16 (f := .glo "_law_grammar") rfl) fun _ _ _ _ _ _ us hl => match us, hl with | [_, _], _ => rfl
  obtain ⟨fd__law_text, F__law_text⟩ := cd.def_ 17 (d := dd__law_text) rfl
  have D__law_text : DF K mg "_law_text" s__law_text ["row"] (He.fAd K ("_law_text", none)) fd__law_text := df_mk X G F__law_text (cd.fact 17 (f := .glo "_law_text") rfl) fun _ _ _ _ _ _ us hl => match us, hl with | [_], _ => rfl
  obtain ⟨fd__law_parts, F__law_parts⟩ := cd.def_ 18 (d := dd__law_parts) rfl
  have D__law_parts : DF K mg "_law_parts" s__law_parts ["expression"] (He.fAd K ("_law_parts", none)) fd__law_parts := df_mk X G F__law_parts (cd.fact 18 (f := .glo "_law_parts") rfl) fun _ _ _ _ _ _ us hl => match us, hl with | [_], _ => rfl
  obtain ⟨fd__law_count, F__law_count⟩ := cd.def_ 19 (d := dd__law_count) rfl
  have D__law_count : DF K mg "_law_count" s__law_count ["expression"] (He.fAd K ("_law_count", none)) fd__law_count := df_mk X G F__law_count (cd.fact 19 (f := .glo "_law_count") rfl) fun _ _ _ _ _ _ us hl => match us, hl with | [_], _ => rfl
  obtain ⟨fd__law_calls, F__law_calls⟩ := cd.def_ 20 (d := dd__law_calls) rfl
  have D__law_calls : DF K mg "_law_calls" s__law_calls ["expression"] (He.fAd K ("_law_calls", none)) fd__law_calls := df_mk X G F__law_calls (cd.fact 20 (f := .glo "_law_calls") rfl) fun _ _ _ _ _ _ us hl => match us, hl with | [_], _ => rfl
  obtain ⟨fd__law_put, F__law_put⟩ := cd.def_ 21 (d := dd__law_put) rfl
  have D__law_put : DF K mg "_law_put" s__law_put ["expression", "at", "other"] (He.fAd K ("_law_put", none)) fd__law_put := df_mk X G F__law_put (cd.fact 21 (f := .glo "_law_put") rfl) fun _ _ _ _ _ _ us hl => match us, hl with | [_, _, _], _ => rfl
  obtain ⟨fd__law_fault, F__law_fault⟩ := cd.def_ 22 (d := dd__law_fault) rfl
  have D__law_fault : DF K mg "_law_fault" s__law_fault ["row"] (He.fAd K ("_law_fault", none)) fd__law_fault := df_mk X G F__law_fault (cd.fact 22 (f := .glo "_law_fault") rfl) fun _ _ _ _ _ _ us hl => match us, hl with | [_], _ => rfl
  obtain ⟨fd_law, F_law⟩ := cd.def_ 23 (d := dd_law) rfl
  have D_law : DF K mg "law" s_law ["script"] (He.fAd K ("law", none)) fd_law := df_mk X G F_law (cd.fact 23 (f := .glo "law") rfl) fun _ _ _ _ _ _ us hl => match us, hl with | [_], _ => rfl
  obtain ⟨fd_Invalid__init__, F_Invalid__init__⟩ := cd.def_ 24 (d := dd_Invalid__init__) rfl
  have b_Invalid__init__ : Binds K fd_Invalid__init__ ["self", "name"] [] := binds_mk F_Invalid__init__ fun _ _ _ _ _ _ us hl => match us, hl with | [_, _], _ => rfl
  have e := hfa.symm.trans D_law.m
  cases e
  have hex : exB K = true := c.more
  obtain ⟨hex3', hx4⟩ := He.ba hex
  obtain ⟨hex2', hx3⟩ := He.ba hex3'
  obtain ⟨hex1', hx2⟩ := He.ba hex2'
  obtain ⟨hex0', hx1⟩ := He.ba hex1'
  have hx0 := hex0'
  have mem : ∀ p ∈ ([He.cT K ("are_parts", none), He.cT K ("expression_size", none), He.cT K ("is_char_set", none), He.cT K ("is_char_text", none), He.cT K ("is_grammar", none), He.cT K ("is_name", none), He.cT K ("size_of", none)] : List (Addr × Addr)), ∃ z ∈ tf, p = He.cT K z := fun p hp => by
    have e : ([He.cT K ("are_parts", none), He.cT K ("expression_size", none), He.cT K ("is_char_set", none), He.cT K ("is_char_text", none), He.cT K ("is_grammar", none), He.cT K ("is_name", none), He.cT K ("size_of", none)] : List (Addr × Addr)) = tf.map (He.cT K) := rfl
    rw [e] at hp
    obtain ⟨z, hz, e2⟩ := List.mem_map.mp hp
    exact ⟨z, hz, e2.symm⟩
  refine ⟨fd_law, [He.cT K ("are_parts", none), He.cT K ("expression_size", none), He.cT K ("is_char_set", none), He.cT K ("is_char_text", none), He.cT K ("is_grammar", none), He.cT K ("is_name", none), He.cT K ("size_of", none)], spLaw K [(He.cT K ("are_parts", none)).2, (He.cT K ("expression_size", none)).2, (He.cT K ("is_char_set", none)).2, (He.cT K ("is_char_text", none)).2, (He.cT K ("is_grammar", none)).2, (He.cT K ("is_name", none)).2, (He.cT K ("size_of", none)).2], fun p hp => ?_, fun p hp => ?_, fun p hp => ?_, fun s v => (F_law.bindsA (ps := ["script"]) (fun _ _ _ _ _ _ us hl => match us, hl with | [_], _ => rfl)) s [v] rfl, fun H a ns hl _ hT hS => ⟨a, ns, rfl, hS, hl, fun t ht => ?_, fun _ => rfl⟩, fun base KB GB TB => ?_⟩
  · obtain ⟨z, hz, rfl⟩ := mem p hp
    exact c.empty z hz
  · obtain ⟨z, hz, rfl⟩ := mem p hp
    exact c.out z hz
  · obtain ⟨z, hz, rfl⟩ := mem p hp
    exact PySem.W.codeHd_of_K X (c.hd z hz)
  · have e : ([(He.cT K ("are_parts", none)).2, (He.cT K ("expression_size", none)).2, (He.cT K ("is_char_set", none)).2, (He.cT K ("is_char_text", none)).2, (He.cT K ("is_grammar", none)).2, (He.cT K ("is_name", none)).2, (He.cT K ("size_of", none)).2] : List Addr) = ([He.cT K ("are_parts", none), He.cT K ("expression_size", none), He.cT K ("is_char_set", none), He.cT K ("is_char_text", none), He.cT K ("is_grammar", none), He.cT K ("is_name", none), He.cT K ("size_of", none)] : List (Addr × Addr)).map (·.2) := rfl
    rw [e] at ht
    obtain ⟨p, hp, rfl⟩ := List.mem_map.mp ht
    exact ⟨#[], hT p hp, by show TriplesOk []; trivial⟩
  obtain ⟨tk_CHARS, hk_CHARS⟩ := He.str_ok X G (cd.fact 37 (f := .str "CHARS" " !\"#$&'()*+,-./0123456789:;<=>?@ABCDEFGHIJKLMNOPQRSTUVWXYZ[\\]^_`abcdefghijklmnopqrstuvwxyz{|}~") rfl)
  obtain ⟨tk_MOST_LETTERS, hk_MOST_LETTERS⟩ := He.int_ok X G (cd.fact 38 (f := .int "MOST_LETTERS" 12) rfl)
  obtain ⟨tk_MOST_SIGNS, hk_MOST_SIGNS⟩ := He.int_ok X G (cd.fact 39 (f := .int "MOST_SIGNS" 20) rfl)
  obtain ⟨tk_MOST_PARTS, hk_MOST_PARTS⟩ := He.int_ok X G (cd.fact 40 (f := .int "MOST_PARTS" 16) rfl)
  obtain ⟨tk_MOST_RULES, hk_MOST_RULES⟩ := He.int_ok X G (cd.fact 41 (f := .int "MOST_RULES" 16) rfl)
  obtain ⟨tk_MOST_DEPTH, hk_MOST_DEPTH⟩ := He.int_ok X G (cd.fact 42 (f := .int "MOST_DEPTH" 12) rfl)
  let T : Txt K mg base := { b_abs := He.free_ok X G (cd.fact 24 (f := .free "abs") rfl), b_all := He.free_ok X G (cd.fact 25 (f := .free "all") rfl), b_int := He.free_ok X G (cd.fact 26 (f := .free "int") rfl), b_isinstance := He.free_ok X G (cd.fact 27 (f := .free "isinstance") rfl), b_len := He.free_ok X G (cd.fact 28 (f := .free "len") rfl), b_list := He.free_ok X G (cd.fact 29 (f := .free "list") rfl), b_range := He.free_ok X G (cd.fact 30 (f := .free "range") rfl), b_repr := He.free_ok X G (cd.fact 31 (f := .free "repr") rfl), b_str := He.free_ok X G (cd.fact 32 (f := .free "str") rfl), b_sum := He.free_ok X G (cd.fact 33 (f := .free "sum") rfl), b_tuple := He.free_ok X G (cd.fact 34 (f := .free "tuple") rfl), f_is_name := _, d_is_name := fd_is_name, D_is_name := D_is_name, f_is_char_set := _, d_is_char_set := fd_is_char_set, D_is_char_set := D_is_char_set, f_is_char_text := _, d_is_char_text := fd_is_char_text, D_is_char_text := D_is_char_text, f_are_parts := _, d_are_parts := fd_are_parts, D_are_parts := D_are_parts, f_is_expression := _, d_is_expression := fd_is_expression, D_is_expression := D_is_expression, f_is_rule := _, d_is_rule := fd_is_rule, D_is_rule := D_is_rule, f_is_grammar := _, d_is_grammar := fd_is_grammar, D_is_grammar := D_is_grammar, f_checked := _, d_checked := fd_checked, D_checked := D_checked, f_parts_of := _, d_parts_of := fd_parts_of, D_parts_of := D_parts_of, f_calls_of := _, d_calls_of := fd_calls_of, D_calls_of := D_calls_of, f_expression_size := _, d_expression_size := fd_expression_size, D_expression_size := D_expression_size, f_size_of := _, d_size_of := fd_size_of, D_size_of := D_size_of, f__law_stream := _, d__law_stream := fd__law_stream, D__law_stream := D__law_stream, f__law_take := _, d__law_take := fd__law_take, D__law_take := D__law_take, f__law_taker := _, d__law_taker := fd__law_taker, D__law_taker := D__law_taker, f__law_expression := _, d__law_expression := fd__law_expression, D__law_expression := D__law_expression, f__law_grammar := _, d__law_grammar := fd__law_grammar, D__law_grammar := D__law_grammar, f__law_text := _, d__law_text := fd__law_text, D__law_text := D__law_text, f__law_parts := _, d__law_parts := fd__law_parts, D__law_parts := D__law_parts, f__law_count := _, d__law_count := fd__law_count, D__law_count := D__law_count, f__law_calls := _, d__law_calls := fd__law_calls, D__law_calls := D__law_calls, f__law_put := _, d__law_put := fd__law_put, D__law_put := D__law_put, f__law_fault := _, d__law_fault := fd__law_fault, D__law_fault := D__law_fault, k_are_parts := (He.cT K ("are_parts", none)).1, t_are_parts := (He.cT K ("are_parts", none)).2, TB_are_parts := tabB_of (TB (He.cT K ("are_parts", none)) (by simp)), kc_are_parts := D_are_parts.code, k_expression_size := (He.cT K ("expression_size", none)).1, t_expression_size := (He.cT K ("expression_size", none)).2, TB_expression_size := tabB_of (TB (He.cT K ("expression_size", none)) (by simp)), kc_expression_size := D_expression_size.code, k_is_char_set := (He.cT K ("is_char_set", none)).1, t_is_char_set := (He.cT K ("is_char_set", none)).2, TB_is_char_set := tabB_of (TB (He.cT K ("is_char_set", none)) (by simp)), kc_is_char_set := D_is_char_set.code, k_is_char_text := (He.cT K ("is_char_text", none)).1, t_is_char_text := (He.cT K ("is_char_text", none)).2, TB_is_char_text := tabB_of (TB (He.cT K ("is_char_text", none)) (by simp)), kc_is_char_text := D_is_char_text.code, k_is_grammar := (He.cT K ("is_grammar", none)).1, t_is_grammar := (He.cT K ("is_grammar", none)).2, TB_is_grammar := tabB_of (TB (He.cT K ("is_grammar", none)) (by simp)), kc_is_grammar := D_is_grammar.code, k_is_name := (He.cT K ("is_name", none)).1, t_is_name := (He.cT K ("is_name", none)).2, TB_is_name := tabB_of (TB (He.cT K ("is_name", none)) (by simp)), kc_is_name := D_is_name.code, k_size_of := (He.cT K ("size_of", none)).1, t_size_of := (He.cT K ("size_of", none)).2, TB_size_of := tabB_of (TB (He.cT K ("size_of", none)) (by simp)), kc_size_of := D_size_of.code, a_Refused := He.ga K "Refused", B_Refused := XC.baseB_ok hx0 (He.glo_ok X G (cd.fact 35 (f := .glo "Refused") rfl)), a_Invalid := He.ga K "Invalid", f_Invalid__init__ := He.fAd K ("Invalid", some "__init__"), d_Invalid__init__ := fd_Invalid__init__, E_Invalid := XC.errB_ok hx1 (He.glo_ok X G (cd.fact 36 (f := .glo "Invalid") rfl)), D_Invalid__init__ := F_Invalid__init__, b_Invalid__init__ := b_Invalid__init__, u_CHARS := .str " !\"#$&'()*+,-./0123456789:;<=>?@ABCDEFGHIJKLMNOPQRSTUVWXYZ[\\]^_`abcdefghijklmnopqrstuvwxyz{|}~" tk_CHARS, c_CHARS := hk_CHARS, r_CHARS := ⟨tk_CHARS, rfl⟩, u_MOST_LETTERS := .int 12 tk_MOST_LETTERS, c_MOST_LETTERS := hk_MOST_LETTERS, r_MOST_LETTERS := ⟨tk_MOST_LETTERS, rfl⟩, u_MOST_SIGNS := .int 20 tk_MOST_SIGNS, c_MOST_SIGNS := hk_MOST_SIGNS, r_MOST_SIGNS := ⟨tk_MOST_SIGNS, rfl⟩, u_MOST_PARTS := .int 16 tk_MOST_PARTS, c_MOST_PARTS := hk_MOST_PARTS, r_MOST_PARTS := ⟨tk_MOST_PARTS, rfl⟩, u_MOST_RULES := .int 16 tk_MOST_RULES, c_MOST_RULES := hk_MOST_RULES, r_MOST_RULES := ⟨tk_MOST_RULES, rfl⟩, u_MOST_DEPTH := .int 12 tk_MOST_DEPTH, c_MOST_DEPTH := hk_MOST_DEPTH, r_MOST_DEPTH := ⟨tk_MOST_DEPTH, rfl⟩, a_LENGTHS := He.ga K "LENGTHS", c_LENGTHS := He.glo_ok X G (cd.fact 43 (f := .glo "LENGTHS") rfl), a_LISTING := He.ga K "LISTING", c_LISTING := He.glo_ok X G (cd.fact 44 (f := .glo "LISTING") rfl), v_LISTING := fun H => He.tupB_ok hx3 H, a_WRAPPING := He.ga K "WRAPPING", c_WRAPPING := He.glo_ok X G (cd.fact 45 (f := .glo "WRAPPING") rfl), v_WRAPPING := fun H => He.tupB_ok hx4 H }
  have IL : XR.ITab K w T.a_LENGTHS LENS := XR.itab_mk hx2 (c.t.tab 0 (t := ((fun K => He.ga K "LENGTHS"), ["eps", "fail", "any", "set", "text", "seq", "alt", "star", "opt", "not", "and", "call", "mark"])) rfl)
  have Gt := ok__law_take (P := P) (w := w) T
  have Gn := ok_is_name (P := P) (w := w) T
  have Gx := ok_is_expression (P := P) (w := w) T IL Gn (ok_is_char_set T) (ok_is_char_text T) (ok_are_parts T) 12
  have Gg := ok_is_grammar (P := P) (w := w) T (ok_is_rule T Gn Gx)
  have Gp := ok_parts_of (P := P) (w := w) T
  have Glp := ok__law_parts (P := P) (w := w) T
  have Glc := ok__law_count (P := P) (w := w) T Glp
  refine ok_law T D_law _ (fun H h => ?_) (ok__law_stream T) Gt (ok__law_grammar T 4 Gt (ok__law_expression T Gt (ok__law_taker T Gt) 4)) (Glc 7) Gg (ok_checked T Gg (ok_Invalid__init__ T)) (ok_size_of T 7 (ok_expression_size T Gp 7)) (ok_calls_of T Gp 7) (ok__law_calls T Glp 7) (ok__law_put T Glp Glc 7) (ok__law_fault T Gt)
  exact ⟨h _ (List.mem_of_getElem? (i := 0) rfl), h _ (List.mem_of_getElem? (i := 1) rfl), h _ (List.mem_of_getElem? (i := 2) rfl), h _ (List.mem_of_getElem? (i := 3) rfl), h _ (List.mem_of_getElem? (i := 4) rfl), h _ (List.mem_of_getElem? (i := 5) rfl), h _ (List.mem_of_getElem? (i := 6) rfl)⟩
end N_k01
open PySem PySem.W PySem.Calls PyProof.Rows
set_option maxRecDepth 100000 in
set_option maxHeartbeats 0 in
theorem PySem.Challenge.cw_graft_k01_grammars_and_near_things_holds : PySem.Challenge.rw_graft_k01_grammars_and_near_things.Holds := by
  w_on; o_law
  refine HandSHeadRun.head_any (r := OpenLaw.row PySem.Challenge.rw_graft_k01_grammars_and_near_things) (q := view (OpenLaw.row PySem.Challenge.rw_graft_k01_grammars_and_near_things).prog [37]) (H := N_k01.hk) (ob := N_k01.ob) (M := 3000) (loose := N_k01.looseA) (d := HandSHeadRun.topDef (OpenLaw.row PySem.Challenge.rw_graft_k01_grammars_and_near_things).prog 37) (kwd := []) N_k01.ob_eq
    (by kernel_rfl) (fun s => by kernel_rfl) N_k01.run (by kernel_rfl) (by kernel_rfl) (by kernel_rfl) (by rfl) (by first | assumption | decide +kernel) (by decide +kernel) ⟨rfl, rfl, rfl, rfl, rfl, by decide +kernel⟩ ?hw ?hc
  case hw => w_witness2
  case hc =>
    refine XG.walk_G (l := PySem.Challenge.rw_graft_k01_grammars_and_near_things) (n := 63) (x := "script") rfl (by decide) (by kernel_rfl) ?F
    intro w mg fa h Y G hmg0
    obtain ⟨K, KX, c⟩ := Y
    have hmg : mg ("law" : PySem.Str) = some (.ref fa) := by
      have e : (HandSHeadRun.topDef (OpenLaw.row PySem.Challenge.rw_graft_k01_grammars_and_near_things).prog 37).name = ("law" : PySem.Str) := by kernel_rfl
      rw [← e]
      exact hmg0
    exact ⟨K, KX, N_k01.facts (P := (PySem.Challenge.rw_graft_k01_grammars_and_near_things).prog) (w := w) KX G hmg c⟩
#print axioms PySem.Challenge.cw_graft_k01_grammars_and_near_things_holds

