import PyProof.Rows.All
import Wide.All
import OpenK.AllK
import Wide.FinOn
import HandS.ForMost
import HandS.AnyAll
import PyProof.GenQ
import HandS.GenOver
import HandS.TupAny
import HandS.TupMul
import HandS.Deep
import HandS.Wide
import KE.KDictDisplayH
import KE.GoesEnum
import KE.GoesMore
import HandS.TupLen
import HandS.DictComp
import HandS.Iter
import HandS.Conv
import HandS.IsInst
import HandS.More
import HandS.Exc
import HandS.ExcOwn
import HandS.WordsExc
import HandS.ExcField
import HandS.ExcIs
import KE.KExcIs
import KE.KIsAll
import HandS.EndTab
import PySem.Challenge.RW_undobystate_k07_refusals_of_systems
set_option Elab.async false
set_option linter.all false
set_option maxRecDepth 99999
set_option maxHeartbeats 7999999

namespace Ux
open PySem PySem.Spec PyProof.Rows L2 GxR

/-- the context of a generator expression's own frame -/
abbrev gcx (X : Cx) (A : Around) (s : Shared) (H : Hp) (cenv : Env) (fp : List Addr) (pn : List (Addr × Obj)) : Cx :=
  { X with A := A.deeper cenv, s_0 := s, H_0 := H, env := cenv, outer := X.stack, stack := cenv :: X.stack, ex := fp, fn := fun _ => false, pn := pn, xe := fun _ _ => False }

theorem over_gen {A : Around} {elt : Expr} {gs : List Comprehension} {scope : Scope} {pos : Pos} {it acc : Value} {env : Env} :
    A.over (.compLoop (.GeneratorExp elt gs scope pos) 0 it acc env) [] = A.deeper env := by
  obtain ⟨hd, d, fr, gs, u⟩ := A
  simp [Around.over, Around.deeper, marksOver, frameCount, unitsOf, envsOf, guardsOf, pushEnvs, pushGuards, Code.envs, Code.env?, Code.isFrame, Code.guards, Code.isGuard, Code.weight, Code.frames, Code.isCreation, Code.isCaller, Code.cUnits]
theorem over_genS {A : Around} {elt : Expr} {gs : List Comprehension} {scope : Scope} {pos : Pos} {it acc : Value} {env : Env} :
    A.over (.compStart (.GeneratorExp elt gs scope pos) 0 it acc env) [] = A.deeper env := by
  obtain ⟨hd, d, fr, gs, u⟩ := A
  simp [Around.over, Around.deeper, marksOver, frameCount, unitsOf, envsOf, guardsOf, pushEnvs, pushGuards, Code.envs, Code.env?, Code.isFrame, Code.guards, Code.isGuard, Code.weight, Code.frames, Code.isCreation, Code.isCaller, Code.cUnits]

section
variable {X : Cx} {pins : List (Addr × Obj)} {σ : L2.St} {H : Hp} {s : Shared}
theorem gen_start {scope : Scope} {own : List (Str × Nat)} {fp : List Addr} {A : Around} {code it : Value} {h' : Heap} {go : Obj} {G : Array GenState} {tk : Nat}
    (I : Inv X pins σ H s) (ok : BlkOk X.N X.env.scope scope own) (hcell : ∀ y ∈ scope.names, y.2 ≠ .cell) (hN : X.N.Nodup)
    (hfp : ∀ b ∈ fp, FpOk X pins H b ∧ b < s.heap.objs.size) (hA : A.handled = none) (hF : A.frames = some X.stack)
    (hn : h'.Ns s.heap.objs.size (fun y => if y = (".0" : Str) then some it else none)) (hs : Heap.SameBut s.heap.objs.size (s.heap.push { cls := .type "frame", data := .dict #[] }) h')
    (hg : AllBare G) (hgo : ∀ v, go.data ≠ .cell v) (hgp : (h'.push go).get? h'.objs.size = some go) :
    Inv (gcx X A s H (genEnv scope (cloFrom X.env.cells scope.names []) s.heap.objs.size code builtinsNs X.env) fp [(h'.objs.size, go)]) [] (wipe σ (own.map (·.2))) H
      { s with heap := h'.push go, gens := G, toks := tk } := by
  have hfree : ∀ y ∈ scope.names, y.2 = .free → ∃ c, X.env.cells.lookup y.1 = some c := fun y hy e => by
    rcases ok.free y hy e with k | k
    · exact I.ok.has _ (.inl k)
    · exact I.ok.has _ (.inr k)
  generalize hcenv : genEnv scope (cloFrom X.env.cells scope.names []) s.heap.objs.size code builtinsNs X.env = cenv
  have hsz : h'.objs.size = s.heap.objs.size + 1 := by rw [hs.1, Heap.size_push]
  have kp1 : ∀ b o, s.heap.get? b = some o → h'.get? b = some o := fun b o e => by
    rw [hs.2 b (Nat.ne_of_lt (Heap.lt_size e))]
    exact Heap.get?_push_of_some _ e
  have kp : ∀ b o, s.heap.get? b = some o → (h'.push go).get? b = some o := fun b o e => Heap.get?_push_of_some _ (kp1 b o e)
  have hL : cenv.locals = s.heap.objs.size := by rw [← hcenv]; rfl
  have hcl : cenv.cells = cloFrom X.env.cells scope.names [] := by rw [← hcenv]; rfl
  have hsc : cenv.scope = scope := by rw [← hcenv]; rfl
  have cm : ∀ {y c}, cenv.cells.lookup y = some c → X.env.cells.lookup y = some c ∧ c < s.heap.objs.size ∧ (y, NameKind.free) ∈ scope.names := fun {y c} e => by
    rw [hcl] at e
    have hm := PySem.mem_of_lookup e
    rcases cloFrom_mem hm with hm | ⟨h1, rfl⟩
    · cases hm
    · obtain ⟨c, hc⟩ := hfree _ h1 rfl
      rw [hc]
      obtain ⟨w, z⟩ := I.cell _ _ hc
      exact ⟨rfl, z.lt, h1⟩
  have look : ∀ {y}, scope.names.lookup y = some .free → ∃ c, cenv.cells.lookup y = some c ∧ X.env.cells.lookup y = some c := fun {y} hl => by
    have hy : (y, NameKind.free) ∈ scope.names := PySem.mem_of_lookup hl
    obtain ⟨c', e'⟩ := mem_lookup (cloFrom_has (cells := X.env.cells) (acc := []) hy)
    rw [← hcl] at e'
    exact ⟨c', e', (cm e').1⟩
  have nocell : ∀ {y}, scope.names.lookup y ≠ some .cell := fun {y} hl => hcell _ (PySem.mem_of_lookup hl) rfl
  have okG : (gcx X A s H cenv fp [(h'.objs.size, go)]).Ok := by
    refine ⟨I.ok.mod, by show cenv.scope.kind = _; rw [hsc]; exact ok.kind, by show cenv.globals = _; rw [← hcenv]; exact I.ok.glob, by show cenv.builtins = _; rw [← hcenv]; rfl, by show s.heap.objs.size ≤ cenv.locals; rw [hL]; exact Nat.le_refl _,
      fun y z c e1 e2 => ?_, fun y hy => ?_, fun y c z e => absurd (show false = true from z) Bool.false_ne_true, fun _ => hA, Around.frames_deeper hF, .inr ⟨rfl, ?_⟩, fun b hb => ⟨?_, fun y c e z => ?_⟩, I.bs, Nat.le_trans I.ok.bsz I.sz, fun b o e hb => ?_, fun b hb z => ?_, I.stack, I.stkFree⟩
    · exact I.ok.inj y z c (cm e1).1 (cm e2).1
    · show ∃ c, cenv.cells.lookup y = some c
      have hy : cenv.scope.names.lookup y = some .cell ∨ cenv.scope.names.lookup y = some .free := hy
      rw [hsc] at hy
      rcases hy with hy | hy
      · exact absurd hy nocell
      · obtain ⟨c, h1, _⟩ := look hy
        exact ⟨c, h1⟩
    · show cenv.frame = some cenv.locals
      rw [← hcenv]; rfl
    · show b ≠ cenv.locals
      rw [hL]; exact Nat.ne_of_lt (hfp b hb).2
    · have e : cenv.cells.lookup y = some c := e
      exact (hfp b hb).1.2.2.2.2.1 y c (cm e).1 z
    · rcases (hfp b hb).1.2.2.2.1 with z | z
      · exact I.ok.noex b o e z
      · exact absurd (Nat.lt_of_lt_of_le (Heap.lt_size e) (Nat.le_trans I.ok.bsz z)) (Nat.lt_irrefl _)
    · rcases List.mem_cons.mp (I.stkSub b z) with z | z
      · exact (hfp b hb).1.2.1 z
      · exact (hfp b hb).1.2.2.1 z
  have nL : ∀ y c, cenv.cells.lookup y = some c → c ≠ cenv.locals := fun y c e => by rw [hL]; exact Nat.ne_of_lt (cm e).2.1
  refine ⟨okG, rfl, hg, Un.kept kp, ⟨(fun y => if y = (".0" : Str) then some it else none), ?_, fun i y av e1 e2 e3 => ?_⟩, fun y c e => ?_, ?_, fun y c e => ?_, fun p hp => ?_, I.hok.kept kp, by rw [wipe_length]; exact I.len⟩
  · show Heap.Ns _ cenv.locals _
    rw [hL]
    exact hn.keeps fun b o e => Heap.get?_push_of_some _ e
  · obtain ⟨e2, hne⟩ := wipe_some e2
    have hfr : scope.names.lookup y = some .free := by
      have e3 : Vis cenv.scope y := e3
      rw [hsc] at e3
      have no : ∀ k, scope.names.lookup y = some k → ¬ (k = .local ∨ k = .cell) := fun k hk hh => by
        rcases ok.own _ (PySem.mem_of_lookup hk) hh with e' | e'
        · obtain ⟨p, hp, hpy⟩ := List.mem_map.mp e'
          have e3 := ok.ix p hp
          have : p.1 = y := hpy
          rw [this] at e3
          exact hne (List.mem_map.mpr ⟨p, hp, nodup_ix hN e3 e1⟩)
        · exact e' (List.mem_of_getElem? e1)
      rcases e3 with e3 | e3 | e3
      · exact absurd (.inl rfl) (no _ e3)
      · exact absurd (.inr rfl) (no _ e3)
      · exact e3
    obtain ⟨m, hn', hl⟩ := I.loc
    have hvis : Vis X.env.scope y := (ok.free _ (PySem.mem_of_lookup hfr) rfl).elim (fun k => .inr (.inl k)) (fun k => .inr (.inr k))
    obtain ⟨w, r, q⟩ := hl i y av e1 e2 hvis
    refine ⟨w, r, .inr ⟨.inr (by show cenv.scope.names.lookup y = _; rw [hsc]; exact hfr), ?_⟩⟩
    obtain ⟨c, h1, h2⟩ := look hfr
    rcases q with ⟨k, _⟩ | ⟨_, c', e', z⟩
    · have k : X.env.scope.names.lookup y = some .local := k
      rcases ok.free _ (PySem.mem_of_lookup hfr) rfl with k' | k' <;> rw [show X.env.scope.names.lookup y = _ from k'] at k <;> cases k
    · rw [h2] at e'; cases e'
      exact ⟨c, h1, z.keeps kp⟩
  · obtain ⟨h1, _, _⟩ := cm (show cenv.cells.lookup y = some c from e)
    obtain ⟨w, z⟩ := I.cell y c h1
    exact ⟨w, z.keeps kp⟩
  · show H cenv.locals = none
    rw [hL]; exact I.hok.fresh (Nat.le_refl _)
  · exact I.freeC y c (cm (show cenv.cells.lookup y = some c from e)).1
  · have hp : p = (h'.objs.size, go) := by
      rcases List.mem_append.mp hp with z | z
      · exact List.mem_singleton.mp z
      · cases z
    subst hp
    refine ⟨hgp, I.hok.fresh (by show s.heap.objs.size ≤ h'.objs.size; omega), ?_, fun z => ?_, hgo⟩
    · show h'.objs.size ≠ cenv.locals
      rw [hL, hsz]
      exact Nat.succ_ne_self _
    · have := I.stkSub _ z
      obtain ⟨_, o, ho, _⟩ := I.stack.mem z
      have := Heap.lt_size ho
      have h2 : (h'.objs.size : Nat) < s.heap.objs.size := this
      omega
end
end Ux

namespace Ux
open PySem PySem.Spec PyProof.Rows L2 GxR GenW

/-- the consumer has changed the table of generators alone -/
structure Later (s s' : Shared) : Prop where
  heap : s'.heap = s.heap
  os : s'.os = s.os
  bare : AllBare s'.gens
  size : s.gens.size ≤ s'.gens.size
theorem Inv.later {X : Cx} {pins : List (Addr × Obj)} {σ : L2.St} {H : Hp} {s s' : Shared} (I : Inv X pins σ H s) (l : Later s s') : Inv X pins σ H s' := by
  obtain ⟨h', g', d', t', o'⟩ := s'
  obtain ⟨l1, l2, l3, _⟩ := l
  have l1 : h' = s.heap := l1
  have l2 : o' = s.os := l2
  subst l1
  subst l2
  exact ⟨I.ok, I.os, l3, I.base, I.loc, I.cell, I.free, I.freeC, I.pin, I.hok, I.len⟩

section
variable {X Xg : Cx} {A : Around} {cenv : Env} {elt tg iter : Expr} {ifs : List Expr} {scope : Scope} {pos : Pos} {g : TG} {tt : TT} {te : TE} {J : It} {fp : List Addr} {it : Addr} {tn : Nat → Heap → Prop} {vs : List Nat} {σ0 : L2.St} {g0 : Nat}
  {W : Nat → Nat → Hp → Prop} {Fin : Hp → Prop} {Yl : V → Nat → Nat → Hp → Prop}

/-- where the generator stands between two items -/
structure GSt (Xg : Cx) (tn : Nat → Heap → Prop) (fp : List Addr) (vs : List Nat) (σ0 : L2.St) (g0 : Nat) (i : Nat) (H : Hp) (s : Shared) : Prop where
  inv : ∃ σ, Inv Xg [] σ H s ∧ wipe σ vs = σ0
  tn : tn i s.heap
  nn : ∀ b ∈ fp, H b = none
  gs : g0 < s.gens.size
def GYp (Xg : Cx) (tn : Nat → Heap → Prop) (fp : List Addr) (vs : List Nat) (σ0 : L2.St) (g0 : Nat) (W : Nat → Nat → Hp → Prop) (Yl : V → Nat → Nat → Hp → Prop) : Protocol := fun n s₀ v s kap =>
  ∃ y i m H, RelV y v ∧ GSt Xg tn fp vs σ0 g0 i H s ∧ Yl y i m H ∧ m < n + 1 ∧ ∀ s', Later s s' → ∀ m', m' < n → W i m' H → kap (.send .none) s'
def GRe (Xg : Cx) (g0 : Nat) (Fin : Hp → Prop) : GenEnd := fun n s₀ r s => r = .ok .next ∧ ∃ σ H, Inv Xg [] σ H s ∧ Fin H ∧ g0 < s.gens.size

theorem seg_gen (hA : Xg.A = A.deeper cenv) (hcv : Xg.env = cenv) (hc : Xg.calm = true) (hco : cenv.scope.isCoroutine = false) (hxe : Xg.xe = fun _ _ => False)
    (T : Turn Xg.prog Xg.w Xg.K tg J fp it tn) (hfpx : ∀ (H : Hp) (b : Addr), b ∈ fp → H b = none → FpOk Xg [] H b)
    (hg : PG Xg tg g) (ht : PTs Xg ifs tt) (he : PE Xg elt te)
    (step : ∀ i m H, W i m H → (J.stop i H ∧ Fin H) ∨ (J.go i H ∧ ∃ Nx : Hp → Prop, (∀ H', Nx H' → ∃ m', m' < m ∧ W (i + 1) m' H') ∧ ∀ x H', J.yld i H x H' → ∀ σ, wipe σ vs = σ0 → g x σ H' fun σ2 H2 => wipe σ2 vs = σ0 ∧ tt σ2 H2 fun b H3 =>
      if b = true then te σ2 H3 fun y H4 => Yl y (i + 1) m H4 else Nx H3)) :
    ∀ (n m i : Nat) (s₀ s : Shared) (H : Hp), m < n → W i m H → GSt Xg tn fp vs σ0 g0 i H s →
      Seg (model Xg.prog Xg.w) A (GRe Xg g0 Fin) (GYp Xg tn fp vs σ0 g0 W Yl) n s₀ (.compLoop (.GeneratorExp elt [⟨tg, iter, ifs, 0⟩] scope pos) 0 (.ref it) .none cenv)
        ((model Xg.prog Xg.w).den (.compLoop (.GeneratorExp elt [⟨tg, iter, ifs, 0⟩] scope pos) 0 (.ref it) .none cenv)) [] s := by
  have over : A.over (.compLoop (.GeneratorExp elt [⟨tg, iter, ifs, 0⟩] scope pos) 0 (.ref it) .none cenv) [] = Xg.A := by rw [over_gen, hA]
  subst hcv
  intro n
  induction n with
  | zero => intro m i s₀ s H h; exact absurd h (Nat.not_lt_zero _)
  | succ n ihn =>
    intro m
    induction m using Nat.strongRecOn with
    | ind m ihm =>
      intro i s₀ s H hm w S
      obtain ⟨⟨σ1, I1, e1⟩, st1, nn1, gs1⟩ := S
      show Seg _ A _ _ _ s₀ _ ((compTurn (.GeneratorExp elt [⟨tg, iter, ifs, 0⟩] scope pos) 0 (.ref it) .none Xg.env).onRaise (leaving Xg.env)) [] s
      rw [compTurn_gen, Sem.onRaise_eq_wrap]
      refine seg_bind_wrap (wpAny_standAt ?_)
      rcases step i m H w with ⟨stop, fin⟩ | ⟨go, Nx, hNx, turn⟩
      · refine seg_bind_wrap ?_
        rw [over]
        refine wpAny_gsz (n := g0 + 1) gs1 (thnF (T.done Xg rfl rfl rfl hc i [] s σ1 H _ I1 (fun b hb => hfpx H b hb (nn1 b hb)) st1 stop) fun r s2 ⟨hr, I2⟩ gs2 => ?_)
        subst hr
        exact seg_end (.ok .next) ⟨rfl, σ1, H, I2, fin, gs2⟩
      · refine seg_bind_wrap ?_
        rw [over]
        refine wpAny_gsz (n := g0 + 1) gs1 (thnF (T.item Xg rfl rfl rfl hc i [] s σ1 H _ I1 (fun b hb => hfpx H b hb (nn1 b hb)) st1 go) fun r s2 ⟨u, hr, h2⟩ gs2 => ?_)
        subst hr
        refine seg_bind_wrap ?_
        rw [over]
        refine wpAny_gsz (n := g0 + 1) gs2 (thnF h2 fun _ s3 ⟨x, H3, I3, r3, y3, st3, nn3⟩ gs3 => ?_)
        have I3' := Inv.pinned (fp := fp) I3 (fun b hb => hfpx H3 b hb (nn3 b hb)) (T.obj _ _ st3)
        refine seg_bind_wrap ?_
        rw [over]
        refine wpAny_gsz (n := g0 + 1) gs3 (wpAny_mono (hg.run _ s3 σ1 H3 x u _ I3' r3 (turn x H3 y3 σ1 e1)) (fun _ s4 ⟨σ4, H4, I4, e4, q4⟩ gs4 => ?_) fun x' s' z => ?_)
        · refine seg_bind_wrap ?_
          rw [over]
          refine wpAny_gsz (n := g0 + 1) gs4 (wpAny_mono (ht.run _ s4 σ4 H4 _ I4 q4) (fun ok s5 ⟨H5, I5, q5⟩ gs5 => ?_) fun x' s' z => ?_)
          · have back : ∀ {σ7 : L2.St} {H7 : Hp} {s7 : Shared}, Inv Xg ([] ++ pinsAt fp s3.heap) σ7 H7 s7 → wipe σ7 vs = σ0 → g0 + 1 ≤ s7.gens.size → GSt Xg tn fp vs σ0 g0 (i + 1) H7 s7 := fun {σ7 H7 s7} I7 e7 g7 => by
              refine ⟨⟨σ7, I7.unpinned, e7⟩, T.keep _ _ _ st3 fun b hb o e => (I7.pin (b, o) (List.mem_append_right _ (List.mem_append_right _ (mem_pinsAt hb e)))).1, fun b hb => ?_, g7⟩
              obtain ⟨o, e, d⟩ := T.obj _ _ st3 b hb
              exact (I7.pin (b, o) (List.mem_append_right _ (List.mem_append_right _ (mem_pinsAt hb e)))).2.1
            cases ok with
            | false =>
              simp only [Bool.false_eq_true, if_false] at q5 ⊢
              obtain ⟨m', hm', w'⟩ := hNx _ q5
              exact seg_again rfl (ihm m' hm' (i + 1) s₀ s5 H5 (by omega) w' (back I5 e4 gs5))
            | true =>
              simp only [if_true] at q5 ⊢
              have hy : ∀ v, yieldOut Xg.env v = yieldValue v := fun v => by simp only [yieldOut, hco, Bool.false_eq_true, if_false]
              simp only [hy]
              rw [Sem.bind_eq_wrap', Sem.bind_eq_wrap', Sem.wrap_wrap, Sem.wrap_wrap]
              refine seg_wrap ?_
              rw [over]
              refine wpAny_gsz (n := g0 + 1) gs5 (wpAny_mono (he.run _ s5 σ4 H5 _ I5 q5) (fun v s6 ⟨y, H6, I6, r6, q6⟩ gs6 => ?_) fun x' s' z => ?_)
              · refine seg_at (seg_yield rfl rfl rfl ⟨y, i + 1, m, H6, r6, back I6 e4 gs6, q6, by omega, fun s' l m' hm' w' => ?_⟩)
                have B := back I6 e4 gs6
                obtain ⟨⟨σ8, I8, e8⟩, t8, n8, g8⟩ := B
                exact seg_again rfl (ihn m' (i + 1) s' s' H6 hm' w' ⟨⟨σ8, Inv.later I8 l, e8⟩, by rw [l.heap]; exact t8, n8, Nat.lt_of_lt_of_le g8 l.size⟩)
              · (rw [hxe] at z; exact z.elim)
          · (rw [hxe] at z; exact z.elim)
        · (rw [hxe] at z; exact z.elim)
end
end Ux

namespace Ux
open PySem PySem.Spec PyProof.Rows L2 GxR GenW

section
variable {Xg : Cx} {A : Around} {cenv : Env} {elt tg iter : Expr} {ifs : List Expr} {scope : Scope} {pos : Pos} {J : It} {fp : List Addr} {it : Addr} {tn : Nat → Heap → Prop} {vs : List Nat} {σ0 : L2.St} {g0 : Nat}
  {W : Nat → Nat → Hp → Prop} {Fin : Hp → Prop} {Yl : V → Nat → Nat → Hp → Prop}
theorem seg_gen0 {R : GenEnd} {Y : Protocol} {n : Nat} {s₀ s : Shared} (T : Turn Xg.prog Xg.w Xg.K tg J fp it tn) (st : tn 0 s.heap)
    (h : Seg (model Xg.prog Xg.w) A R Y n s₀ (.compLoop (.GeneratorExp elt [⟨tg, iter, ifs, 0⟩] scope pos) 0 (.ref it) .none cenv)
        ((model Xg.prog Xg.w).den (.compLoop (.GeneratorExp elt [⟨tg, iter, ifs, 0⟩] scope pos) 0 (.ref it) .none cenv)) [] s) :
    Seg (model Xg.prog Xg.w) A R Y n s₀ (.compStart (.GeneratorExp elt [⟨tg, iter, ifs, 0⟩] scope pos) 0 (.ref it) .none cenv)
        ((model Xg.prog Xg.w).den (.compStart (.GeneratorExp elt [⟨tg, iter, ifs, 0⟩] scope pos) 0 (.ref it) .none cenv)) [] s := by
  show Seg _ A _ _ _ s₀ _ ((compStart (.GeneratorExp elt [⟨tg, iter, ifs, 0⟩] scope pos) 0 (.ref it) .none cenv).onRaise (leaving cenv)) [] s
  unfold compStart
  rw [Sem.onRaise_eq_wrap]
  show Seg _ A _ _ _ s₀ _ ((ask >>= _).wrap _ _ _ _) [] s
  refine seg_bind_wrap (wpAny_askSetting ?_)
  split
  · exact seg_again rfl h
  · first
      | exact seg_bind_wrap (wpAny_rule (seg_bind_wrap (wpAny_standAt (seg_bind_wrap (T.self _ 0 s _ _ st (seg_again rfl h))))))
      | (refine seg_bind_wrap (wpAny_rule ?_); show Seg _ A _ _ _ s₀ _ ((standAt iter.pos >>= _).wrap _ _ _ _) [] s; exact seg_bind_wrap (wpAny_standAt (seg_bind_wrap (T.self _ 0 s _ _ st (seg_again rfl h)))))
end

theorem later_set {s : Shared} {g : Nat} {x : GenState} (hb : AllBare s.gens) (hx : x.bare = true) : Later s (s.setGen g x) := by
  refine ⟨rfl, rfl, fun y hy => ?_, ?_⟩
  · have hy : y ∈ s.gens.setIfInBounds g x := hy
    obtain ⟨i, hi, rfl⟩ := Array.mem_iff_getElem.mp hy
    have hi' : i < s.gens.size := by simpa using hi
    rw [Array.getElem_setIfInBounds (hj := hi')]
    split
    · exact hx
    · exact hb _ (Array.getElem_mem hi')
  · show s.gens.size ≤ (s.gens.setIfInBounds g x).size
    simp
theorem setGen_at {s : Shared} {g : Nat} {x : GenState} (h : g < s.gens.size) : (s.setGen g x).gens[g]? = some x := by
  show (s.gens.setIfInBounds g x)[g]? = some x
  simp [h]
theorem Later.trans {s s1 s2 : Shared} (a : Later s s1) (b : Later s1 s2) : Later s s2 := ⟨b.heap.trans a.heap, b.os.trans a.os, b.bare, Nat.le_trans a.size b.size⟩

section
variable {X Xg : Cx} {a : Addr} {go : Obj} {nm qn : Value} {B : Around} {tn : Nat → Heap → Prop} {fp : List Addr} {vs : List Nat} {σ0 : L2.St} {g0 : Nat}
  {W : Nat → Nat → Hp → Prop} {Fin : Hp → Prop} {Yl : V → Nat → Nat → Hp → Prop}
/-- the generator sleeps in s -/
structure Sleeps (Xg : Cx) (B : Around) (a : Addr) (tn : Nat → Heap → Prop) (fp : List Addr) (vs : List Nat) (σ0 : L2.St) (g0 : Nat) (W : Nat → Nat → Hp → Prop) (Fin : Hp → Prop) (Yl : V → Nat → Nat → Hp → Prop) (n : Nat) (s : Shared) : Prop where
  gen : s.heap.IsGen a g0
  lim : s.heap.NoLimit
  bare : AllBare s.gens
  goes : ∃ gs, s.gens[g0]? = some gs ∧ ∀ s', Later s s' → gs.Goes (model Xg.prog Xg.w) B (GRe Xg g0 Fin) (GYp Xg tn fp vs σ0 g0 W Yl) n (.send .none) s'

/-- the next item: it comes, or the end -/
theorem next_gen {n : Nat} {s : Shared} {E : Value → Shared → Prop} {Q : Option Value → Shared → Prop} (hh : B.handled = none) (hroom : B.depth < recursionLimit)
    (hgo : (a, go) ∈ Xg.pn) (hgen : go.cls = .type "generator" ∧ go.data = .fields #[.int g0 0, nm, qn] ∧ go.slots = #[])
    (S : Sleeps Xg B.in1 a tn fp vs σ0 g0 W Fin Yl n s)
    (hY : ∀ u y i m H s', RelV y u → GSt Xg tn fp vs σ0 g0 i H s' → AllBare s'.gens → Yl y i m H → m < n - 1 + 1 → (∀ m', m' < n - 1 → W i m' H → Sleeps Xg B.in1 a tn fp vs σ0 g0 W Fin Yl (n - 1) s') → Q (some u) s')
    (hE : ∀ σ H s', Inv Xg [] σ H s' → Fin H → Q none s') :
    wpAny (model Xg.prog Xg.w) B (pyNext (.ref a)) Q E s := by
  obtain ⟨h1, h2, h3, gs, h4, h5⟩ := S
  have g_of : ∀ {σ : L2.St} {H : Hp} {s : Shared}, Inv Xg [] σ H s → s.heap.IsGen a g0 := fun {σ H s} I => ⟨go, nm, qn, (I.pin (a, go) (List.mem_append_left _ hgo)).1, hgen.1, hgen.2.1, hgen.2.2⟩
  refine wpAny_pyNext_genexpQ (P := fun n s₀ s => ∃ σ H, Inv Xg [] σ H s ∧ Fin H ∧ g0 < s.gens.size) (Y := GYp Xg tn fp vs σ0 g0 W Yl) (n := n) hh h2 hroom h1 h4 (h5 _ (later_set h3 rfl)) (fun v s₁ gs' hb hv => ?_) (fun s₁ hp h' hk => ?_)
  · obtain ⟨y, i, m, H, r, S1, q, hm, kap⟩ := hv
    obtain ⟨⟨σ1, I1, e1⟩, t1, n1, gs1⟩ := S1
    have L : Later s₁ (s₁.setGen g0 gs') := later_set I1.bare hb
    refine hY v y i m H _ r ⟨⟨σ1, Inv.later I1 L, e1⟩, by rw [L.heap]; exact t1, n1, Nat.lt_of_lt_of_le gs1 L.size⟩ L.bare q hm fun m' hm' w' => ⟨?_, ?_, L.bare, gs', setGen_at gs1, fun s' l => ?_⟩
    · exact g_of (Inv.later I1 L)
    · exact Inv.nolimit (Inv.later I1 L)
    · have := kap s' (L.trans l) m' hm' w'
      cases n with
      | zero => exact absurd this (by simp)
      | succ k => exact this
  · obtain ⟨σ1, H1, I1, f1, gs1⟩ := hp
    have L : Later s₁ (s₁.setGen g0 .finished) := later_set I1.bare rfl
    have I2 := Inv.later I1 L
    exact hE σ1 H1 _ (I2.kept (h' := h') (t' := (s₁.setGen g0 .finished).toks) (fun b o e => hk b o (by rw [← L.heap]; exact e))) f1
/-- all's turns, any's turns -/
def YlA (W : Nat → Nat → Hp → Prop) (QF : Hp → Prop) (w : Bool) : V → Nat → Nat → Hp → Prop := fun y i m H => ∃ c, y = .bl c ∧ if c = w then ∃ m', m' < m ∧ W i m' H else QF H
theorem all_loop {QF : Hp → Prop} {R : Result → Shared → Prop} (hh : B.handled = none) (hroom : B.depth < recursionLimit) (hgo : (a, go) ∈ Xg.pn) (hgen : go.cls = .type "generator" ∧ go.data = .fields #[.int g0 0, nm, qn] ∧ go.slots = #[])
    (hT : ∀ σ H s', Inv Xg [] σ H s' → Fin H → R (.ok (.ret (.bool true))) s') (hF : ∀ σ H s', Inv Xg [] σ H s' → QF H → R (.ok (.ret (.bool false))) s') :
    ∀ (n : Nat) (s : Shared), Sleeps Xg B.in1.in1 a tn fp vs σ0 g0 W Fin (YlA W QF true) n s → codeAny (model Xg.prog Xg.w) B (.builtin "all.loop" ⟨[.ref a], []⟩) R s := by
  intro n
  induction n with
  | zero =>
    intro s S
    refine codeAny_builtin F.entry_all_loop ?_
    rw [Around.under_plainId F.plain_all_loop _]
    show wpAny _ B.in1 (pyNext (.ref a) >>= _) _ _ s
    refine wpAny_bind (next_gen (B := B.in1) hh hroom hgo hgen S (fun u y i m H s' r S1 b1 q hm k => ?_) fun σ H s' I f => ?_)
    · obtain ⟨c, rfl, q⟩ := q
      cases r
      refine wpAny_bind (wpAny_holding (wpAny_truthy_bool ?_))
      refine wpAny_bind (wpAny_letGo ?_)
      obtain ⟨⟨σ1, I1, _⟩, _⟩ := S1
      cases c with
      | true =>
        rw [if_pos rfl] at q
        obtain ⟨m', h1, _⟩ := q
        omega
      | false =>
        rw [if_neg Bool.false_ne_true] at q
        simp only [Bool.false_eq_true, if_false]
        exact wpAny_bind (wpAny_rule (wpAny_pure (hF σ1 H s' I1 q)))
    · exact wpAny_bind (wpAny_rule (wpAny_pure (hT σ H s' I f)))
  | succ n ih =>
    intro s S
    refine codeAny_builtin F.entry_all_loop ?_
    rw [Around.under_plainId F.plain_all_loop _]
    show wpAny _ B.in1 (pyNext (.ref a) >>= _) _ _ s
    refine wpAny_bind (next_gen (B := B.in1) hh hroom hgo hgen S (fun u y i m H s' r S1 b1 q hm k => ?_) fun σ H s' I f => ?_)
    · obtain ⟨c, rfl, q⟩ := q
      cases r
      refine wpAny_bind (wpAny_holding (wpAny_truthy_bool ?_))
      refine wpAny_bind (wpAny_letGo ?_)
      obtain ⟨⟨σ1, I1, _⟩, _⟩ := S1
      cases c with
      | true =>
        rw [if_pos rfl] at q
        obtain ⟨m', h1, w'⟩ := q
        simp only [if_true]
        exact wpAny_pure ⟨plainId_quiet F.plain_all_loop _, ih s' (k m' (by omega) w')⟩
      | false =>
        rw [if_neg Bool.false_ne_true] at q
        simp only [Bool.false_eq_true, if_false]
        exact wpAny_bind (wpAny_rule (wpAny_pure (hF σ1 H s' I1 q)))
    · exact wpAny_bind (wpAny_rule (wpAny_pure (hT σ H s' I f)))
theorem any_loop {QF : Hp → Prop} {R : Result → Shared → Prop} (hh : B.handled = none) (hroom : B.depth < recursionLimit) (hgo : (a, go) ∈ Xg.pn) (hgen : go.cls = .type "generator" ∧ go.data = .fields #[.int g0 0, nm, qn] ∧ go.slots = #[])
    (hT : ∀ σ H s', Inv Xg [] σ H s' → Fin H → R (.ok (.ret (.bool false))) s') (hF : ∀ σ H s', Inv Xg [] σ H s' → QF H → R (.ok (.ret (.bool true))) s') :
    ∀ (n : Nat) (s : Shared), Sleeps Xg B.in1.in1 a tn fp vs σ0 g0 W Fin (YlA W QF false) n s → codeAny (model Xg.prog Xg.w) B (.builtin "any.loop" ⟨[.ref a], []⟩) R s := by
  intro n
  induction n with
  | zero =>
    intro s S
    refine codeAny_builtin F.entry_any_loop ?_
    rw [Around.under_plainId F.plain_any_loop _]
    show wpAny _ B.in1 (pyNext (.ref a) >>= _) _ _ s
    refine wpAny_bind (next_gen (B := B.in1) hh hroom hgo hgen S (fun u y i m H s' r S1 b1 q hm k => ?_) fun σ H s' I f => ?_)
    · obtain ⟨c, rfl, q⟩ := q
      cases r
      refine wpAny_bind (wpAny_holding (wpAny_truthy_bool ?_))
      refine wpAny_bind (wpAny_letGo ?_)
      obtain ⟨⟨σ1, I1, _⟩, _⟩ := S1
      cases c with
      | false =>
        rw [if_pos rfl] at q
        obtain ⟨m', h1, _⟩ := q
        omega
      | true =>
        rw [if_neg (by decide)] at q
        simp only [if_true]
        exact wpAny_bind (wpAny_rule (wpAny_pure (hF σ1 H s' I1 q)))
    · exact wpAny_bind (wpAny_rule (wpAny_pure (hT σ H s' I f)))
  | succ n ih =>
    intro s S
    refine codeAny_builtin F.entry_any_loop ?_
    rw [Around.under_plainId F.plain_any_loop _]
    show wpAny _ B.in1 (pyNext (.ref a) >>= _) _ _ s
    refine wpAny_bind (next_gen (B := B.in1) hh hroom hgo hgen S (fun u y i m H s' r S1 b1 q hm k => ?_) fun σ H s' I f => ?_)
    · obtain ⟨c, rfl, q⟩ := q
      cases r
      refine wpAny_bind (wpAny_holding (wpAny_truthy_bool ?_))
      refine wpAny_bind (wpAny_letGo ?_)
      obtain ⟨⟨σ1, I1, _⟩, _⟩ := S1
      cases c with
      | false =>
        rw [if_pos rfl] at q
        obtain ⟨m', h1, w'⟩ := q
        simp only [Bool.false_eq_true, if_false]
        exact wpAny_pure ⟨plainId_quiet F.plain_any_loop _, ih s' (k m' (by omega) w')⟩
      | true =>
        rw [if_neg (by decide)] at q
        simp only [if_true]
        exact wpAny_bind (wpAny_rule (wpAny_pure (hF σ1 H s' I1 q)))
    · exact wpAny_bind (wpAny_rule (wpAny_pure (hT σ H s' I f)))
end
end Ux

namespace Ux
open PySem PySem.Spec PyProof.Rows L2 GxR GenW

/-- what a generator expression's block asks of its parts: whatever the frame -/
structure GenParts (X : Cx) (k : Nat) (elt tg iter : Expr) (ifs : List Expr) (scope : Scope) (own : List (Str × Nat)) (wi : TI) (g : TG) (tt : TT) (te : TE) : Prop where
  src : PI X tg iter wi
  ok : BlkOk X.N X.env.scope scope own
  cell : ∀ y ∈ scope.names, y.2 ≠ .cell
  co : scope.isCoroutine = false
  dot : scope.names.lookup (".0" : Str) = some NameKind.local
  tg : ∀ (A : Around) (s : Shared) (H : Hp) (C : Addr) (cl : List (Str × Addr)) (code : Value) (fp : List Addr) (pn : List (Addr × Obj)), Room k (A.deeper (genEnv scope cl C code builtinsNs X.env)) → PG (gcx X A s H (genEnv scope cl C code builtinsNs X.env) fp pn) tg g
  ifs : ∀ (A : Around) (s : Shared) (H : Hp) (C : Addr) (cl : List (Str × Addr)) (code : Value) (fp : List Addr) (pn : List (Addr × Obj)), Room k (A.deeper (genEnv scope cl C code builtinsNs X.env)) → PTs (gcx X A s H (genEnv scope cl C code builtinsNs X.env) fp pn) ifs tt
  elt : ∀ (A : Around) (s : Shared) (H : Hp) (C : Addr) (cl : List (Str × Addr)) (code : Value) (fp : List Addr) (pn : List (Addr × Obj)), Room k (A.deeper (genEnv scope cl C code builtinsNs X.env)) → PE (gcx X A s H (genEnv scope cl C code builtinsNs X.env) fp pn) elt te
  fold : ∀ v, genFold iter X.env v = pure v

/-- the turns of a generator expression: Fin at its end, Yl at an item -/
def GTurns (J : It) (g : TG) (tt : TT) (te : TE) (vs : List Nat) (σ0 : L2.St) (W : Nat → Nat → Hp → Prop) (Fin : Hp → Prop) (Yl : V → Nat → Nat → Hp → Prop) : Prop :=
  ∀ i m H, W i m H → (J.stop i H ∧ Fin H) ∨ (J.go i H ∧ ∃ Nx : Hp → Prop, (∀ H', Nx H' → ∃ m', m' < m ∧ W (i + 1) m' H') ∧ ∀ x H', J.yld i H x H' → ∀ σ, wipe σ vs = σ0 → g x σ H' fun σ2 H2 => wipe σ2 vs = σ0 ∧ tt σ2 H2 fun b H3 =>
      if b = true then te σ2 H3 fun y H4 => Yl y (i + 1) m H4 else Nx H3)

section
variable {X : Cx} {pins : List (Addr × Obj)} {σ : L2.St} {H : Hp} {s : Shared}
/-- the generator expression is made: it sleeps, and what comes of it is held -/
theorem gen_make {c P : Addr} {k : Nat} {elt tg iter : Expr} {ifs : List Expr} {scope : Scope} {own : List (Str × Nat)} {gpos : Pos} {wi : TI} {g : TG} {tt : TT} {te : TE} {Q' : Value → Shared → Prop} {R : It → Hp → Prop}
    (hr : Room (k + 1) X.A) (hc : X.calm = true) (hN : X.N.Nodup) (TB : TabB X.base X.mg c P) (hcode : X.env.code = .ref c) (G : GenParts X k elt tg iter ifs scope own wi g tt te)
    (I : Inv X pins σ H s) (h : wi σ H fun J H1 => TabG H1 P ∧ R J H1)
    (hQ : ∀ (J : It) (H1 H2 : Hp) (a : Addr) (s5 : Shared), R J H1 → Tabbed P H1 H2 →
      (∀ (W : Nat → Nat → Hp → Prop) (Fin : Hp → Prop) (Yl : V → Nat → Nat → Hp → Prop) (m : Nat), W 0 m H2 → GTurns J g tt te (own.map (·.2)) (wipe (wipe σ (own.map (·.2))) (own.map (·.2))) W Fin Yl →
        ∃ (Xg : Cx) (go : Obj) (nm qn : Value) (g0 : Nat) (tn : Nat → Heap → Prop) (fp : List Addr), Xg.prog = X.prog ∧ Xg.w = X.w ∧ (a, go) ∈ Xg.pn ∧ (go.cls = .type "generator" ∧ go.data = .fields #[.int g0 0, nm, qn] ∧ go.slots = #[]) ∧ s5.heap.IsGen a g0 ∧
          Sleeps Xg X.A.in1.in1 a tn fp (own.map (·.2)) (wipe (wipe σ (own.map (·.2))) (own.map (·.2))) g0 W Fin Yl (m + 1) s5 ∧ ∀ σ' H' s', Inv Xg [] σ' H' s' → Inv X pins σ H' s') → Q' (.ref a) s5) :
    wpAny (model X.prog X.w) X.A (eval (.GeneratorExp elt [⟨tg, iter, ifs, 0⟩] scope gpos) X.env) Q' X.xe s := by
  have hfree : ∀ y ∈ scope.names, y.2 = .free → ∃ c, X.env.cells.lookup y.1 = some c := fun y hy e => by
    rcases G.ok.free y hy e with k | k
    · exact I.ok.has _ (.inl k)
    · exact I.ok.has _ (.inr k)
  refine wpAny_GeneratorExp_make G.co (closure_ok hfree) G.cell G.dot G.ok.kind hr.depth ?_ G.fold
  refine thn (G.src.run pins s σ H _ I h) fun xv s1 h1 => thn h1 fun itv s2 h2 => ?_
  obtain ⟨it, fp, tn, J, H2, rfl, I2, T, st2, f2, hTab, hR⟩ := h2
  obtain ⟨ps, hP, ht⟩ := hTab
  have hPs : s2.heap.get? P = some { cls := .none, data := .fields ps } := I2.hok P _ hP
  have cd : PySem.W.CodeHd s2.heap c P := TB.code.keeps fun b u e => I2.bk b u e
  have cont : ∀ (code : Value) (h3 : Heap) (tk : Nat) (ps' : Array Value), Heap.ExtBut P s2.heap h3 → s2.heap.objs.size ≤ h3.objs.size → h3.get? P = some { cls := .none, data := .fields ps' } → (∃ more, ps' = ps ++ more) → TriplesOk ps'.toList →
      wpAny (model X.prog X.w) X.A (builtinsFor X.env.globals X.env.builtins) (fun bi s₄ =>
        ∀ h', h'.Ns s₄.heap.objs.size (fun y => if y = (".0" : Str) then some (.ref it) else none) → Heap.SameBut s₄.heap.objs.size (s₄.heap.push { cls := .type "frame", data := .dict #[] }) h' →
          Q' (.ref h'.objs.size) { s₄ with
            gens := s₄.gens.push (.fresh (.compStart (.GeneratorExp elt [⟨tg, iter, ifs, 0⟩] scope gpos) 0 (.ref it) .none (genEnv scope (cloFrom X.env.cells scope.names []) s₄.heap.objs.size code bi X.env))),
            toks := s₄.toks + 1 + 1 + 1,
            heap := h'.push { cls := .type "generator", data := .fields #[.int s₄.gens.size 0, .str "<genexpr>" (s₄.toks + 1), .str (X.env.qual ++ "<genexpr>") (s₄.toks + 1 + 1)] } }) X.xe { s2 with heap := h3, toks := tk } := by
    intro code h3 tk ps' hx hsz hP3 hmore ht3
    obtain ⟨bm, ob, e1, e2, e3, e4, e5, e6, e7, e8⟩ := TB.bm
    have keep3 : ∀ b u, b ≠ P → s2.heap.get? b = some u → h3.get? b = some u := fun b u hb e => hx b u hb e
    refine wpAny_builtinsFor (m := X.mg) (by rw [I2.ok.glob]; exact (I2.mod.glob.keeps I2.bk).extBut hx TB.gP) e1 e2 (keep3 _ _ e4 (I2.bk _ _ e5)) e6 e7 e8 ?_
    intro h' hn' hs'
    obtain ⟨more, rfl⟩ := hmore
    -- the table has grown
    have I3 : Inv X pins σ (upd H2 P (.tbl (ps ++ more))) { s2 with heap := h3, toks := tk } :=
      inv_tab (more := more) (h' := h3) (g' := s2.gens) (d' := s2.drawn) (t' := tk) I2 hP (fun b u hb e => keep3 b u hb e) hP3 I2.bare
    have hTd : Tabbed P H2 (upd H2 P (.tbl (ps ++ more))) := ⟨⟨_, upd_same, ht3⟩, fun b hb => upd_ne hb⟩
    refine hQ J H2 (upd H2 P (.tbl (ps ++ more))) _ _ hR hTd fun W Fin Yl m w0 turns => ?_
    have hfp3 : ∀ b ∈ fp, FpOk X pins (upd H2 P (.tbl (ps ++ more))) b ∧ b < h3.objs.size := fun b hb => by
      obtain ⟨o, e, _⟩ := T.obj _ _ st2 b hb
      obtain ⟨q0, q1, q2, q3, q4, q5⟩ := f2 b hb
      have nP : b ≠ P := fun z => by rw [z, hP] at q0; cases q0
      exact ⟨⟨by rw [upd_ne nP]; exact q0, q1, q2, q3, q4, q5⟩, Nat.lt_of_lt_of_le (Heap.lt_size e) hsz⟩
    have hd : X.A.in1.in1.handled = none := hr.hd
    have hfr : X.A.in1.in1.frames = some X.stack := by
      have := I.ok.frames
      exact this
    have hgp : ∀ (h : Heap) (o : Obj) (n : String), o.cls = .type n → True := fun _ _ _ _ => trivial
    generalize hgo : ({ cls := .type "generator", data := .fields #[.int s2.gens.size 0, .str "<genexpr>" (tk + 1), .str (X.env.qual ++ "<genexpr>") (tk + 1 + 1)] } : Obj) = go
    have hg1 : go.cls = .type "generator" := by rw [← hgo]
    have hg2 : go.data = .fields #[.int s2.gens.size 0, .str "<genexpr>" (tk + 1), .str (X.env.qual ++ "<genexpr>") (tk + 1 + 1)] := by rw [← hgo]
    have hg3 : go.slots = #[] := by rw [← hgo]
    have hgg : (h'.push go).get? h'.objs.size = some go := by
      rw [← hgo]
      exact Heap.get?_push_size _ rfl
    have hkp : ∀ b o, h3.get? b = some o → (h'.push go).get? b = some o := fun b o e => Heap.get?_push_of_some _ (by
      rw [hs'.2 b (Nat.ne_of_lt (Heap.lt_size e))]
      exact Heap.get?_push_of_some _ e)
    have hh' : h'.objs.size = h3.objs.size + 1 := by rw [hs'.1, Heap.size_push]
    generalize hG : s2.gens.push (.fresh (.compStart (.GeneratorExp elt [⟨tg, iter, ifs, 0⟩] scope gpos) 0 (.ref it) .none (genEnv scope (cloFrom X.env.cells scope.names []) h3.objs.size code builtinsNs X.env))) = Gs
    have hGb : AllBare Gs := by
      rw [← hG]
      exact I2.bare.push rfl
    have hGz : Gs.size = s2.gens.size + 1 := by rw [← hG, Array.size_push]
    have hG0 : Gs[s2.gens.size]? = some (.fresh (.compStart (.GeneratorExp elt [⟨tg, iter, ifs, 0⟩] scope gpos) 0 (.ref it) .none (genEnv scope (cloFrom X.env.cells scope.names []) h3.objs.size code builtinsNs X.env))) := by
      rw [← hG]
      exact Array.getElem?_push_size ..
    have IG := gen_start (A := X.A.in1.in1) (code := code) (it := .ref it) (h' := h') (go := go) (G := Gs) (tk := tk + 1 + 1 + 1) I3 G.ok G.cell hN hfp3 hd hfr hn' hs' hGb (fun v z => by rw [hg2] at z; cases z) hgg
    have st5 : tn 0 (h'.push go) := T.keep _ _ _ st2 fun b hb o e => hkp b o (keep3 b o (fun z => by
      have q0 := (f2 b hb).1
      rw [z, hP] at q0
      cases q0) e)
    refine ⟨gcx X X.A.in1.in1 { s2 with heap := h3, toks := tk } (upd H2 P (.tbl (ps ++ more))) (genEnv scope (cloFrom X.env.cells scope.names []) h3.objs.size code builtinsNs X.env) fp [(h'.objs.size, go)], go, .str "<genexpr>" (tk + 1), .str (X.env.qual ++ "<genexpr>") (tk + 1 + 1), s2.gens.size, tn, fp, rfl, rfl, List.mem_singleton.mpr rfl, ⟨hg1, hg2, hg3⟩, ⟨go, _, _, hgg, hg1, hg2, hg3⟩, ⟨⟨go, _, _, hgg, hg1, hg2, hg3⟩, IG.nolimit, hGb, _, hG0, fun s' l => ⟨rfl, ?_⟩⟩, fun σ' H' s' I' => ?_⟩
    · refine seg_gen0 (Xg := gcx X X.A.in1.in1 { s2 with heap := h3, toks := tk } (upd H2 P (.tbl (ps ++ more))) (genEnv scope (cloFrom X.env.cells scope.names []) h3.objs.size code builtinsNs X.env) fp [(h'.objs.size, go)]) T (by rw [l.heap]; exact st5) ?_
      have hrg : Room k (X.A.in1.in1.deeper (genEnv scope (cloFrom X.env.cells scope.names []) h3.objs.size code builtinsNs X.env)) :=
        ⟨hr.hd, by have := hr.dp; show X.A.depth + 1 + 3 * k + 5 < _; omega, by have := hr.un; show X.A.units + 1 + 1 + 3 + 16 * k + 200 < _; omega⟩
      refine seg_gen (Xg := gcx X X.A.in1.in1 { s2 with heap := h3, toks := tk } (upd H2 P (.tbl (ps ++ more))) (genEnv scope (cloFrom X.env.cells scope.names []) h3.objs.size code builtinsNs X.env) fp [(h'.objs.size, go)])
        (J := J) (g := g) (tt := tt) (te := te) rfl rfl hc G.co rfl T (fun H9 b hb hn9 => ?_) (G.tg _ _ _ _ _ _ _ _ hrg) (G.ifs _ _ _ _ _ _ _ _ hrg) (G.elt _ _ _ _ _ _ _ _ hrg) turns (m + 1) m 0 s' s' _ (Nat.lt_succ_self m) w0 ⟨⟨_, Inv.later IG l, rfl⟩, by rw [l.heap]; exact st5, fun b hb => (hfp3 b hb).1.1, ?_⟩
      · obtain ⟨⟨q0, q1, q2, q3, q4, q5⟩, q6⟩ := hfp3 b hb
        refine ⟨hn9, Nat.ne_of_lt q6, fun z => ?_, .inl hb, fun x c e z => ?_, fun p hp => ?_⟩
        · rcases List.mem_cons.mp (I3.stkSub b z) with z | z
          · exact q1 z
          · exact q2 z
        · rcases cloFrom_mem (PySem.mem_of_lookup (show (cloFrom X.env.cells scope.names []).lookup x = some c from e)) with hm | ⟨h1, rfl⟩
          · cases hm
          · obtain ⟨c2, hc2⟩ := hfree _ h1 rfl
            rw [hc2] at z
            exact q4 x c2 hc2 z
        · have hp : p = (h'.objs.size, go) := by
            rcases List.mem_append.mp hp with z | z
            · exact List.mem_singleton.mp z
            · cases z
          subst hp
          show h'.objs.size ≠ b
          refine Nat.ne_of_gt (Nat.lt_of_lt_of_le q6 ?_)
          rw [hh']
          exact Nat.le_succ _
      · have := l.size
        have this : Gs.size ≤ s'.gens.size := this
        omega
    · exact I3.call' (ch := fp) I'.os I'.base I'.hok I'.bare fun b hb => by
        obtain ⟨⟨q0, q1, q2, q3, q4, q5⟩, q6⟩ := hfp3 b hb
        exact ⟨q3, q1, q4, q5⟩
  refine ⟨I2.nolimit, ?_⟩
  cases hf : codeAmong gpos ps.toList with
  | none =>
    refine wpAny_genexprCodeX hcode (cd.code hPs ht) (cd.tab hPs) hf fun c' h' tk hx hge hlt hco' _ htab' _ => ?_
    obtain ⟨o1, vs, f1, tf, fl, tg, inF, tx, tt, op, _, _, _, _, _, _, _, _, _, htr, _⟩ := hco'
    exact cont _ h' tk _ hx (Nat.le_trans hge (Nat.le_of_lt hlt)) htab'.2 ⟨_, rfl⟩ htr
  | some cv =>
    refine wpAny_genexprCode_hit hcode (cd.code hPs ht) hf ?_
    exact cont cv s2.heap s2.toks ps (Heap.ExtBut.refl _ _) (Nat.le_refl _) hPs ⟨#[], by simp⟩ ht

/-- all(elt for tg in iter if ..), any(..): P the def's table -/
def tAllG (P : Addr) (wi : TI) (g : TG) (tt : TT) (te : TE) (vs : List Nat) (w : Bool) : TE := fun σ H Q => wi σ H fun J H1 => TabG H1 P ∧ ∀ H2, Tabbed P H1 H2 → ∃ W : Nat → Nat → Hp → Prop, (∃ m, W 0 m H2) ∧
  GTurns J g tt te vs (wipe (wipe σ vs) vs) W (fun H => Q (.bl w) H) (YlA W (fun H => Q (.bl (!w)) H) w)
theorem pe_allG {c P : Addr} {k : Nat} {elt tg iter : Expr} {ifs : List Expr} {scope : Scope} {own : List (Str × Nat)} {gpos p pos : Pos} {wi : TI} {g : TG} {tt : TT} {te : TE}
    (hr : Room (k + 1) X.A) (hc : X.calm = true) (hN : X.N.Nodup) (hg : Gl X "all") (hm : X.mg "all" = none) (hb : bootBuiltins "all" = some (.builtin "all")) (TB : TabB X.base X.mg c P) (hcode : X.env.code = .ref c) (G : GenParts X k elt tg iter ifs scope own wi g tt te) :
    PE X (.Call (.Name "all" p) [.GeneratorExp elt [⟨tg, iter, ifs, 0⟩] scope gpos] [] pos) (tAllG P wi g tt te (own.map (·.2)) true) := by
  refine ⟨fun pins s σ H Q I h => ?_⟩
  have he : starEach [.GeneratorExp elt [⟨tg, iter, ifs, 0⟩] scope gpos] X.env = (false, eval (.GeneratorExp elt [⟨tg, iter, ifs, 0⟩] scope gpos) X.env) :: starEach [] X.env := by rfl
  refine wpAny_Call_Name_kw (ld_blt I hg hm hb ?_)
  refine PyProof.Rows.callWith_builtin1 ?_ he (by rfl)
  rw [he]
  show wpAny _ _ (spliced ((false, eval (.GeneratorExp elt [⟨tg, iter, ifs, 0⟩] scope gpos) X.env) :: backTo pos (starEach [] X.env))) _ _ s
  refine Calls.spliced_cons (gen_make hr hc hN TB hcode G I h fun J H1 H2 a s5 hR hT mk => ?_)
  refine Calls.spliced_nil ?_
  obtain ⟨W, ⟨m, w0⟩, turns⟩ := hR H2 hT
  obtain ⟨Xg, go, nm, qn, g0, tn, fp, hP, hw, hgo, hgen, hig, S, back⟩ := mk W _ _ m w0 turns
  refine call_function_tree F.kind_all F.plain_all F.entry_all (F.args_all1 _) ?_
  unfold Builtin.«all»
  refine wpAny_bind (m := oneArg "all" _) (wpAny_pure ?_)
  refine wpAny_bind (wpAny_pyIter_gen hig ?_)
  refine wpAny_pure ⟨plainId_quiet F.plain_all_loop _, ?_⟩
  rw [← hP, ← hw]
  exact all_loop (Xg := Xg) (B := X.A) hr.hd hr.depth hgo hgen (fun σ' H' s' I' q => ⟨.bl true, H', back _ _ _ I', rfl, q⟩) (fun σ' H' s' I' q => ⟨.bl false, H', back _ _ _ I', rfl, q⟩) (m + 1) s5 S
theorem pe_anyG {c P : Addr} {k : Nat} {elt tg iter : Expr} {ifs : List Expr} {scope : Scope} {own : List (Str × Nat)} {gpos p pos : Pos} {wi : TI} {g : TG} {tt : TT} {te : TE}
    (hr : Room (k + 1) X.A) (hc : X.calm = true) (hN : X.N.Nodup) (hg : Gl X "any") (hm : X.mg "any" = none) (hb : bootBuiltins "any" = some (.builtin "any")) (TB : TabB X.base X.mg c P) (hcode : X.env.code = .ref c) (G : GenParts X k elt tg iter ifs scope own wi g tt te) :
    PE X (.Call (.Name "any" p) [.GeneratorExp elt [⟨tg, iter, ifs, 0⟩] scope gpos] [] pos) (tAllG P wi g tt te (own.map (·.2)) false) := by
  refine ⟨fun pins s σ H Q I h => ?_⟩
  have he : starEach [.GeneratorExp elt [⟨tg, iter, ifs, 0⟩] scope gpos] X.env = (false, eval (.GeneratorExp elt [⟨tg, iter, ifs, 0⟩] scope gpos) X.env) :: starEach [] X.env := by rfl
  refine wpAny_Call_Name_kw (ld_blt I hg hm hb ?_)
  refine PyProof.Rows.callWith_builtin1 ?_ he (by rfl)
  rw [he]
  show wpAny _ _ (spliced ((false, eval (.GeneratorExp elt [⟨tg, iter, ifs, 0⟩] scope gpos) X.env) :: backTo pos (starEach [] X.env))) _ _ s
  refine Calls.spliced_cons (gen_make hr hc hN TB hcode G I h fun J H1 H2 a s5 hR hT mk => ?_)
  refine Calls.spliced_nil ?_
  obtain ⟨W, ⟨m, w0⟩, turns⟩ := hR H2 hT
  obtain ⟨Xg, go, nm, qn, g0, tn, fp, hP, hw, hgo, hgen, hig, S, back⟩ := mk W _ _ m w0 turns
  refine call_function_tree F.kind_any F.plain_any F.entry_any (F.args_any1 _) ?_
  unfold Builtin.«any»
  refine wpAny_bind (m := oneArg "any" _) (wpAny_pure ?_)
  refine wpAny_bind (wpAny_pyIter_gen hig ?_)
  refine wpAny_pure ⟨plainId_quiet F.plain_any_loop _, ?_⟩
  rw [← hP, ← hw]
  exact any_loop (Xg := Xg) (B := X.A) hr.hd hr.depth hgo hgen (fun σ' H' s' I' q => ⟨.bl false, H', back _ _ _ I', rfl, q⟩) (fun σ' H' s' I' q => ⟨.bl true, H', back _ _ _ I', rfl, q⟩) (m + 1) s5 S
end
end Ux

namespace Ux
open PySem PySem.Spec PyProof.Rows L2 GxR

/-! ### data -/
inductive D where
  | non | bl (b : Bool) | int (i : Int) | str (x : Str) | strm | scr (ns : List Int)
  | tup (xs : List D) | lst (xs : List D)
  | dk (ks : List Key) (xs : List D) | dt (ks : List (List Key)) (xs : List D)

def D.isC : D → Bool
  | .lst _ => true | .dk _ _ => true | .dt _ _ => true | _ => false
mutual
def D.flat : D → Bool
  | .lst _ => false | .dk _ _ => false | .dt _ _ => false
  | .tup xs => D.flats xs
  | _ => true
def D.flats : List D → Bool
  | [] => true
  | d :: r => d.flat && D.flats r
end

structure Strm where
  xs : List Int
  cell : Int
  k : Nat
abbrev Wd := Option Strm
structure En where
  sl : List (Option (D × Bool))
  w : Wd
structure Ex where
  cls : Str
  fld : Str
  arg : V
inductive R (α : Type) where
  | ok (a : α) | err (x : Ex) (w : Wd) | no

/-! ### ghosts -/
structure Gh where
  fz : Addr → Prop
  sa : Option (Addr × Addr)
structure Gh.Le (g g' : Gh) : Prop where
  fz : ∀ b, g.fz b → g'.fz b
  sa : ∀ p, g.sa = some p → g'.sa = some p
theorem Gh.Le.refl (g : Gh) : g.Le g := ⟨fun _ h => h, fun _ h => h⟩
theorem Gh.Le.trans {a b c : Gh} (x : a.Le b) (y : b.Le c) : a.Le c := ⟨fun b h => y.fz b (x.fz b h), fun p h => y.sa p (x.sa p h)⟩

def MutO : HO → Prop
  | .lst _ => True | .dK _ => True | .dT _ => True | _ => False
def DctO : HO → Prop
  | .dK _ => True | .dT _ => True | _ => False
theorem DctO.mut {o : HO} (h : DctO o) : MutO o := by cases o <;> first | exact h.elim | exact trivial
/-- as it was, or a dict locked for good -/
def AsW (F : Prop) (o : HO) (u : Option HO) : Prop := u = some o ∨ (F ∧ DctO o ∧ ∃ od, u = some (.frz od o))
/-- all but what S holds and the tables is as it was; dicts that F holds may be locked -/
def Keep (S F : Addr → Prop) (H H' : Hp) : Prop := ∀ b o, H b = some o → ¬ S b → (∀ ps, o ≠ .tbl ps) → AsW (F b) o (H' b)
theorem Keep.refl (S F : Addr → Prop) (H : Hp) : Keep S F H H := fun _ _ h _ _ => .inl h
theorem Keep.trans {S S' F F' : Addr → Prop} {H H1 H2 : Hp} (a : Keep S F H H1) (b : Keep S' F' H1 H2) (l : ∀ c, F c → F' c) (h : ∀ c o, H c = some o → S' c → S c) : Keep S F' H H2 := fun c o e n t => by
  have n' : ¬ S' c := fun z => n (h c o e z)
  rcases a c o e n t with e1 | ⟨f, d, od, e1⟩
  · exact b c o e1 n' t
  · rcases b c _ e1 n' (fun ps z => by cases z) with e2 | ⟨_, d2, _⟩
    · exact .inr ⟨l c f, d, od, e2⟩
    · exact d2.elim
theorem Keep.mono {S F F' : Addr → Prop} {H H' : Hp} (a : Keep S F H H') (l : ∀ c, F c → F' c) : Keep S F' H H' := fun c o e n t => (a c o e n t).imp id fun ⟨f, r⟩ => ⟨l c f, r⟩

/-- a list that never changes -/
def FzL (K : PySem.W.Frag) (H : Hp) (a : Addr) (xs : List V) : Prop :=
  (∃ o, H a = some (.frz o (.lst xs))) ∨ ∃ (o : Obj) (its : Array Value) (n : Nat), K.lookup a = some o ∧ o.cls = .type "list" ∧ o.dict = none ∧ o.data = .seq its n ∧ its.size ≤ sizeLine ∧ Vals xs its.toList

mutual
inductive Rep (K : PySem.W.Frag) (g : Gh) (H : Hp) : V → D → Prop
  | non : Rep K g H .non .non
  | bl (b : Bool) : Rep K g H (.bl b) (.bl b)
  | int (i : Int) : Rep K g H (.int i) (.int i)
  | str (x : Str) : Rep K g H (.str x) (.str x)
  | strm {a L : Addr} : g.sa = some (a, L) → Rep K g H (.ref a) .strm
  | tup {a : Addr} {vs : List V} {ds : List D} : H a = some (.tup vs) → Reps K g H vs ds → Rep K g H (.ref a) (.tup ds)
  | scr {a : Addr} {ns : List Int} : FzL K H a (ns.map V.int) → Rep K g H (.ref a) (.scr ns)
  | lst {a : Addr} {vs : List V} {ds : List D} : g.fz a → H a = some (.lst vs) → Reps K g H vs ds → Rep K g H (.ref a) (.lst ds)
  | dk {a : Addr} {ks : List Key} {vs : List V} {ds : List D} : g.fz a → Rd H a (.dK (ks.zip vs)) → ks.length = vs.length → Reps K g H vs ds → Rep K g H (.ref a) (.dk ks ds)
  | dt {a : Addr} {ks : List (List Key)} {vs : List V} {ds : List D} : g.fz a → Rd H a (.dT (ks.zip vs)) → ks.length = vs.length → Reps K g H vs ds → Rep K g H (.ref a) (.dt ks ds)
inductive Reps (K : PySem.W.Frag) (g : Gh) (H : Hp) : List V → List D → Prop
  | nil : Reps K g H [] []
  | cons {v : V} {vs : List V} {d : D} {ds : List D} : Rep K g H v d → Reps K g H vs ds → Reps K g H (v :: vs) (d :: ds)
end
section
variable {K : PySem.W.Frag} {g g' : Gh} {H H' : Hp}
theorem Reps.length : ∀ {vs : List V} {ds : List D}, Reps K g H vs ds → vs.length = ds.length
  | _, _, .nil => rfl
  | _, _, .cons _ t => congrArg (· + 1) t.length
theorem Reps.append : ∀ {vs ws : List V} {ds es : List D}, Reps K g H vs ds → Reps K g H ws es → Reps K g H (vs ++ ws) (ds ++ es)
  | _, _, _, _, .nil, s => s
  | _, _, _, _, .cons r t, s => .cons r (t.append s)
theorem Reps.get : ∀ {vs : List V} {ds : List D} {i : Nat} {v : V}, Reps K g H vs ds → vs[i]? = some v → ∃ d, ds[i]? = some d ∧ Rep K g H v d
  | _, _, _, _, .nil, e => by simp at e
  | _, _, 0, _, .cons r _, e => by simp at e; subst e; exact ⟨_, rfl, r⟩
  | _, _, i + 1, _, .cons _ t, e => by
    obtain ⟨d, h1, h2⟩ := t.get (i := i) (by simpa using e)
    exact ⟨d, by simpa using h1, h2⟩
theorem Reps.get' : ∀ {vs : List V} {ds : List D} {i : Nat} {d : D}, Reps K g H vs ds → ds[i]? = some d → ∃ v, vs[i]? = some v ∧ Rep K g H v d
  | _, _, _, _, .nil, e => by simp at e
  | _, _, 0, _, .cons r _, e => by simp at e; subst e; exact ⟨_, rfl, r⟩
  | _, _, i + 1, _, .cons _ t, e => by
    obtain ⟨v, h1, h2⟩ := t.get' (i := i) (by simpa using e)
    exact ⟨v, by simpa using h1, h2⟩
theorem Reps.take : ∀ {vs : List V} {ds : List D} (n : Nat), Reps K g H vs ds → Reps K g H (vs.take n) (ds.take n)
  | _, _, 0, _ => .nil
  | _, _, _ + 1, .nil => .nil
  | _, _, n + 1, .cons r t => .cons r (t.take n)
theorem Reps.drop : ∀ {vs : List V} {ds : List D} (n : Nat), Reps K g H vs ds → Reps K g H (vs.drop n) (ds.drop n)
  | _, _, 0, r => r
  | _, _, _ + 1, .nil => .nil
  | _, _, n + 1, .cons _ t => t.drop n
theorem Reps.set {v : V} {d : D} (r : Rep K g H v d) : ∀ {vs : List V} {ds : List D} (i : Nat), Reps K g H vs ds → Reps K g H (vs.set i v) (ds.set i d)
  | _, _, _, .nil => .nil
  | _, _, 0, .cons _ t => .cons r t
  | _, _, i + 1, .cons q t => .cons q (t.set r i)
theorem Reps.eraseIdx : ∀ {vs : List V} {ds : List D} (i : Nat), Reps K g H vs ds → Reps K g H (vs.eraseIdx i) (ds.eraseIdx i)
  | _, _, _, .nil => .nil
  | _, _, 0, .cons _ t => t
  | _, _, i + 1, .cons r t => .cons r (t.eraseIdx i)
theorem Reps.rep {vs : List V} {ds : List D} (h : Reps K g H vs ds) : ∀ k : Nat, Reps K g H (List.replicate k vs).flatten (List.replicate k ds).flatten
  | 0 => .nil
  | k + 1 => by
    rw [List.replicate_succ, List.replicate_succ, List.flatten_cons, List.flatten_cons]
    exact h.append (h.rep k)
theorem Reps.reverse : ∀ {vs : List V} {ds : List D}, Reps K g H vs ds → Reps K g H vs.reverse ds.reverse
  | _, _, .nil => .nil
  | _, _, .cons r t => by
    rw [List.reverse_cons, List.reverse_cons]
    exact t.reverse.append (.cons r .nil)
theorem FzL.keep {a : Addr} {xs : List V} (h : FzL K H a xs) (k : ∀ b o, H b = some o → ¬ MutO o → (∀ ps, o ≠ .tbl ps) → H' b = some o) : FzL K H' a xs := by
  rcases h with ⟨o, e⟩ | h
  · exact .inl ⟨o, k _ _ e (fun z => z) (fun ps z => by cases z)⟩
  · exact .inr h
theorem SqT.keep {a : Addr} {xs : List V} (h : SqT K H a xs) (k : ∀ b o, H b = some o → ¬ MutO o → (∀ ps, o ≠ .tbl ps) → H' b = some o) : SqT K H' a xs := by
  rcases h with (h | ⟨o, h⟩) | h
  · exact .inl (.inl (k _ _ h (fun z => z) (fun ps z => by cases z)))
  · exact .inl (.inr ⟨o, k _ _ h (fun z => z) (fun ps z => by cases z)⟩)
  · exact .inr h
theorem lst_keep {a : Addr} {vs : List V} (h : AsW True (.lst vs) (H' a)) : H' a = some (.lst vs) := by
  rcases h with h | ⟨_, h, _⟩
  · exact h
  · exact h.elim
theorem rd_keep {a : Addr} {o : HO} (hd : DctO o) (h : Rd H a o) (f : g.fz a) (kf : ∀ b o, H b = some o → ¬ MutO o → (∀ ps, o ≠ .tbl ps) → H' b = some o) (kz : ∀ b, g.fz b → ∀ o, H b = some o → MutO o → AsW True o (H' b)) : Rd H' a o := by
  rcases h with h | ⟨od, h⟩
  · rcases kz a f o h hd.mut with e | ⟨_, _, od, e⟩
    · exact .inl e
    · exact .inr ⟨od, e⟩
  · exact .inr ⟨od, kf a _ h (fun z => z) (fun ps z => by cases z)⟩
mutual
theorem Rep.move (l : g.Le g') (kf : ∀ b o, H b = some o → ¬ MutO o → (∀ ps, o ≠ .tbl ps) → H' b = some o) (kz : ∀ b, g.fz b → ∀ o, H b = some o → MutO o → AsW True o (H' b)) : ∀ {v : V} {d : D}, Rep K g H v d → Rep K g' H' v d
  | _, _, .non => .non
  | _, _, .bl b => .bl b
  | _, _, .int i => .int i
  | _, _, .str x => .str x
  | _, _, .strm h => .strm (l.sa _ h)
  | _, _, .tup h t => .tup (kf _ _ h (fun z => z) (fun ps z => by cases z)) (Reps.move l kf kz t)
  | _, _, .scr h => .scr (h.keep kf)
  | _, _, .lst h1 h2 t => .lst (l.fz _ h1) (lst_keep (kz _ h1 _ h2 trivial)) (Reps.move l kf kz t)
  | _, _, .dk h1 h2 h3 t => .dk (l.fz _ h1) (rd_keep trivial h2 h1 kf kz) h3 (Reps.move l kf kz t)
  | _, _, .dt h1 h2 h3 t => .dt (l.fz _ h1) (rd_keep trivial h2 h1 kf kz) h3 (Reps.move l kf kz t)
theorem Reps.move (l : g.Le g') (kf : ∀ b o, H b = some o → ¬ MutO o → (∀ ps, o ≠ .tbl ps) → H' b = some o) (kz : ∀ b, g.fz b → ∀ o, H b = some o → MutO o → AsW True o (H' b)) : ∀ {vs : List V} {ds : List D}, Reps K g H vs ds → Reps K g' H' vs ds
  | _, _, .nil => .nil
  | _, _, .cons r t => .cons (Rep.move l kf kz r) (Reps.move l kf kz t)
end
mutual
/-- data without a list or a dict stays whatever is frozen -/
theorem Rep.flat (ls : ∀ p, g.sa = some p → g'.sa = some p) (kf : ∀ b o, H b = some o → ¬ MutO o → (∀ ps, o ≠ .tbl ps) → H' b = some o) : ∀ {v : V} {d : D}, d.flat = true → Rep K g H v d → Rep K g' H' v d
  | _, _, _, .non => .non
  | _, _, _, .bl b => .bl b
  | _, _, _, .int i => .int i
  | _, _, _, .str x => .str x
  | _, _, _, .strm h => .strm (ls _ h)
  | _, _, f, .tup h t => .tup (kf _ _ h (fun z => z) (fun ps z => by cases z)) (Reps.flat ls kf (by simpa [D.flat] using f) t)
  | _, _, _, .scr h => .scr (h.keep kf)
  | _, _, f, .lst _ _ _ => by simp [D.flat] at f
  | _, _, f, .dk _ _ _ _ => by simp [D.flat] at f
  | _, _, f, .dt _ _ _ _ => by simp [D.flat] at f
theorem Reps.flat (ls : ∀ p, g.sa = some p → g'.sa = some p) (kf : ∀ b o, H b = some o → ¬ MutO o → (∀ ps, o ≠ .tbl ps) → H' b = some o) : ∀ {vs : List V} {ds : List D}, D.flats ds = true → Reps K g H vs ds → Reps K g' H' vs ds
  | _, _, _, .nil => .nil
  | _, _, f, .cons r t => by
    simp only [D.flats, Bool.and_eq_true] at f
    exact .cons (Rep.flat ls kf f.1 r) (Reps.flat ls kf f.2 t)
end

/-- an object that one slot alone holds -/
def OwnAt (K : PySem.W.Frag) (g : Gh) (H : Hp) (a : Addr) : D → Prop
  | .lst ds => ∃ vs, H a = some (.lst vs) ∧ Reps K g H vs ds
  | .dk ks ds => ∃ vs, H a = some (.dK (ks.zip vs)) ∧ ks.length = vs.length ∧ Reps K g H vs ds
  | .dt ks ds => ∃ vs, H a = some (.dT (ks.zip vs)) ∧ ks.length = vs.length ∧ Reps K g H vs ds
  | _ => False
theorem OwnAt.mut {a : Addr} {d : D} (h : OwnAt K g H a d) : ∃ o, H a = some o ∧ MutO o := by
  cases d <;> first | exact h.elim | (obtain ⟨vs, e, _⟩ := h; exact ⟨_, e, trivial⟩)
/-- frozen from now on -/
theorem OwnAt.freeze {a : Addr} {d : D} (h : OwnAt K g H a d) (l : g.Le g') (f : g'.fz a) : Rep K g' H (.ref a) d := by
  have k1 : ∀ b o, H b = some o → ¬ MutO o → (∀ ps, o ≠ .tbl ps) → H b = some o := fun _ _ h _ _ => h
  have k2 : ∀ b, g.fz b → ∀ o, H b = some o → MutO o → AsW True o (H b) := fun _ _ _ h _ => .inl h
  cases d <;> first
    | exact h.elim
    | (obtain ⟨vs, e, t⟩ := h; exact .lst f e (Reps.move l k1 k2 t))
    | (obtain ⟨vs, e, n, t⟩ := h; exact .dk f (.inl e) n (Reps.move l k1 k2 t))
    | (obtain ⟨vs, e, n, t⟩ := h; exact .dt f (.inl e) n (Reps.move l k1 k2 t))
theorem OwnAt.move {a : Addr} {d : D} (h : OwnAt K g H a d) (l : g.Le g') (kf : ∀ b o, H b = some o → ¬ MutO o → (∀ ps, o ≠ .tbl ps) → H' b = some o) (kz : ∀ b, g.fz b → ∀ o, H b = some o → MutO o → AsW True o (H' b)) (ka : ∀ o, H a = some o → H' a = some o) : OwnAt K g' H' a d := by
  cases d <;> first
    | exact h.elim
    | (obtain ⟨vs, e, t⟩ := h; exact ⟨vs, ka _ e, Reps.move l kf kz t⟩)
    | (obtain ⟨vs, e, n, t⟩ := h; exact ⟨vs, ka _ e, n, Reps.move l kf kz t⟩)

/-- the stream's object and its list -/
def StRel (K : PySem.W.Frag) (g : Gh) (H : Hp) : Wd → Prop
  | none => g.sa = none
  | some s => ∃ a L vs, g.sa = some (a, L) ∧ ¬ g.fz a ∧ H a = some (.lst [.ref L, .int s.cell, .int s.k]) ∧ g.fz L ∧ H L = some (.lst vs) ∧ vs = s.xs.map V.int

/-- where a def was entered -/
structure B0 where
  g : Gh
  H : Hp
structure GRel (K : PySem.W.Frag) (tabs : List Addr) (b : B0) (g : Gh) (w : Wd) (H : Hp) : Prop where
  le : b.g.Le g
  str : StRel K g H w
  fzs : ∀ a, g.fz a → H a ≠ none
  tab : ∀ P ∈ tabs, TabG H P
  dom : ∀ a, b.H a ≠ none → H a ≠ none
  kp : Keep (fun a => ∃ L, g.sa = some (a, L)) g.fz b.H H
  fn : ∀ a, g.fz a → b.g.fz a ∨ b.H a = none
  sn : ∀ p, g.sa = some p → b.g.sa = some p ∨ b.H p.1 = none
/-- an object that is ours alone -/
structure PrivAt (K : PySem.W.Frag) (b : B0) (g : Gh) (H : Hp) (a : Addr) (d : D) : Prop where
  nf : ¬ g.fz a
  ns : ∀ p, g.sa = some p → p.1 ≠ a
  nb : b.H a = none
  own : OwnAt K g H a d
/-- slots, heap and ghosts against an environment -/
structure Rel (K : PySem.W.Frag) (tabs : List Addr) (b : B0) (g : Gh) (Γ : En) (σ : L2.St) (H : Hp) : Prop extends GRel K tabs b g Γ.w H where
  old : ∀ (i : Nat) (d : D), Γ.sl[i]? = some (some (d, false)) → ∃ v, σ[i]? = some (some v) ∧ Rep K g H v d
  own : ∀ (i : Nat) (d : D), Γ.sl[i]? = some (some (d, true)) → ∃ a, σ[i]? = some (some (.ref a)) ∧ PrivAt K b g H a d
  dis : ∀ (i j : Nat) (di dj : D) (a : Addr), i ≠ j → Γ.sl[i]? = some (some (di, true)) → Γ.sl[j]? = some (some (dj, true)) → σ[i]? = some (some (.ref a)) → σ[j]? = some (some (.ref a)) → False
  len : Γ.sl.length = σ.length

/-- what may change: the owned objects, the stream's -/
def Sof (g : Gh) (Γ : En) (σ : L2.St) : Addr → Prop := fun b => (∃ (i : Nat) (d : D), Γ.sl[i]? = some (some (d, true)) ∧ σ[i]? = some (some (.ref b))) ∨ ∃ L, g.sa = some (b, L)
end
end Ux

namespace Ux
open PySem PySem.Spec PyProof.Rows L2 GxR

theorem tuple_mulS (l : Addr) (items : Array Value) (n : Nat) (dd : Option Addr) (sl : Array (Option Value)) (x : Int) (u : Tok) (c0 : (decide (x < -(2 ^ 63)) || decide (x ≥ 2 ^ 63)) = false) (c1 : (items.isEmpty || x == 1) = true) :
    Meets (Builtin.«tuple.__mul__» ⟨[.ref l, .int x u], []⟩) (fun _ R s => s.heap.get? l = some { cls := .type "tuple", dict := dd, data := .seq items n, slots := sl } ∧
      R (.ok (.ret (Value.ref l))) s) :=
  .of_wp fun prog w A R s h => by
    obtain ⟨hp, g, d, tk, os⟩ := s
    obtain ⟨hl, h⟩ := h
    have f1 := AutoSeq1.idx_int
    wp_walk using wpAny_loadPart' hl
    repeat (first
      | (refine wpAny_ite_false (decide_eq_false (by rw [c0]; exact Bool.false_ne_true)) ?_; wp_walk using wpAny_loadPart' hl)
      | (refine wpAny_ite_true (decide_eq_true c1) ?_; wp_walk using wpAny_loadPart' hl))
    exact ⟨_, rfl, h⟩
theorem tuple_mul0 (l : Addr) (items : Array Value) (n : Nat) (dd : Option Addr) (sl : Array (Option Value)) (x : Int) (u : Tok) (c0 : (decide (x < -(2 ^ 63)) || decide (x ≥ 2 ^ 63)) = false) (c1 : (items.isEmpty || x == 1) = false) (c2 : (decide (x ≤ 0) || items.isEmpty) = true) :
    Meets (Builtin.«tuple.__mul__» ⟨[.ref l, .int x u], []⟩) (fun _ R s => s.heap.get? l = some { cls := .type "tuple", dict := dd, data := .seq items n, slots := sl } ∧
      R (.ok (.ret (Value.ref s.heap.objs.size))) { s with heap := s.heap.push { cls := Value.type "tuple", data := Data.seq #[] }, toks := s.toks }) :=
  .of_wp fun prog w A R s h => by
    obtain ⟨hp, g, d, tk, os⟩ := s
    obtain ⟨hl, h⟩ := h
    have f1 := AutoSeq1.idx_int
    wp_walk using wpAny_loadPart' hl
    repeat (first
      | (refine wpAny_ite_false (decide_eq_false (by rw [c0]; exact Bool.false_ne_true)) ?_; wp_walk using wpAny_loadPart' hl)
      | (refine wpAny_ite_false (decide_eq_false (by rw [c1]; exact Bool.false_ne_true)) ?_; wp_walk using wpAny_loadPart' hl)
      | (refine wpAny_ite_true (decide_eq_true c2) ?_; wp_walk using wpAny_loadPart' hl))
    exact ⟨_, rfl, h⟩
/-- tuple * int, the int 1 or nothing in it: the same object; nought or less: an empty one -/
def rRepO (K : PySem.W.Frag) : R2 := fun x y H Q => ∃ l k xs, x = .ref l ∧ y = .int k ∧ SqT K H l xs ∧ (xs = [] ∨ k ≤ 1) ∧ (-1000000 ≤ k ∧ k ≤ 1000000) ∧ (xs = [] ∨ k = 1 → Q (.ref l) H) ∧ (xs ≠ [] → k ≤ 0 → ∀ p, H p = none → Q (.ref p) (upd H p (.tup [])))
section
variable {X : Cx}
theorem op_repO : OpR X (binaryOp .Mult) (rRepO X.K) := by
  intro pins s σ H x y v u Q I rx ry h
  obtain ⟨l, k, xs, rfl, rfl, hT, h1, ⟨h2, h3⟩, q1, q2⟩ := h
  cases rx
  obtain ⟨t, rfl⟩ := ry
  obtain ⟨its, r, ⟨⟨cls, dd, data, sl⟩, ho, hc, n, hd⟩, hs⟩ := I.tuple hT
  simp only at hc hd
  subst hc hd
  have hle : its.length = xs.length := r.length.symm
  have c0 : (decide (k < -(2 ^ 63)) || decide (k ≥ 2 ^ 63)) = false := by
    rw [decide_eq_false (by omega), decide_eq_false (by omega)] <;> rfl
  by_cases hw : xs = [] ∨ k = 1
  · have c1 : (its.toArray.isEmpty || k == 1) = true := by
      rcases hw with e | e
      · rw [e] at hle
        have : its = [] := List.eq_nil_of_length_eq_zero hle
        subst this
        rfl
      · subst e
        simp
    refine wpAny_binaryOp_repeat_ref (T := "tuple") (U := "int") (by decide) ⟨_, ho, rfl⟩ (fun s' => typeIs_int s' k t) noFill_tuple_mul F.fills_int_mul F.slot_int_rmul repeat_tuple F.slot_int_index.lookup
      (call_meets F.slot_int_rmul (typeIs_int s k t) F.entry_int_rmul (F.args_int_rmul_2 _ _) (int_rmul_tuple k t l its.toArray n dd sl)
        ⟨ho, rfl, ⟨_, ho, rfl⟩, call_meets F.slot_tuple_mul ⟨_, ho, rfl⟩ F.entry_tuple_mul (F.args_tuple_mul_2 _ _) (tuple_mulS l its.toArray n dd sl k t c0 c1) ⟨ho, ?_⟩⟩)
    exact ⟨.ref l, H, I, rfl, q1 hw⟩
  · have hx : xs ≠ [] := fun e => hw (.inl e)
    have hk : k ≤ 0 := by
      have : k ≠ 1 := fun e => hw (.inr e)
      have := h1.resolve_left hx
      omega
    have hi : its.toArray.isEmpty = false := by
      cases its with
      | nil => exact absurd (List.eq_nil_of_length_eq_zero hle.symm) hx
      | cons a b => rfl
    have c1 : (its.toArray.isEmpty || k == 1) = false := by
      rw [hi, Bool.false_or]
      exact beq_eq_false_iff_ne.mpr (by omega)
    have c2 : (decide (k ≤ 0) || its.toArray.isEmpty) = true := by
      rw [decide_eq_true hk, Bool.true_or]
    refine wpAny_binaryOp_repeat_ref (T := "tuple") (U := "int") (by decide) ⟨_, ho, rfl⟩ (fun s' => typeIs_int s' k t) noFill_tuple_mul F.fills_int_mul F.slot_int_rmul repeat_tuple F.slot_int_index.lookup
      (call_meets F.slot_int_rmul (typeIs_int s k t) F.entry_int_rmul (F.args_int_rmul_2 _ _) (int_rmul_tuple k t l its.toArray n dd sl)
        ⟨ho, rfl, ⟨_, ho, rfl⟩, call_meets F.slot_tuple_mul ⟨_, ho, rfl⟩ F.entry_tuple_mul (F.args_tuple_mul_2 _ _) (tuple_mul0 l its.toArray n dd sl k t c0 c1 c2) ⟨ho, ?_⟩⟩)
    refine ⟨.ref s.heap.objs.size, _, I.laid (t' := s.toks) (o := .tup []) (fun b ob q => Heap.get?_push_of_some _ q) (Nat.le_refl _) ?_, rfl, q2 hx hk _ (I.hok.fresh (Nat.le_refl _))⟩
    exact ⟨Nat.zero_le _, [], .nil, IsTup.new _ _⟩
end
end Ux

namespace Ux
open PySem PySem.Spec PyProof.Rows L2 GxR
/-! ### a display of one pair -/
def tDisK (tk tv : TE) : TE := tDisp [(tk, tv)]
theorem pe_disK {X : Cx} {k v : Expr} {pos : Pos} {tk tv : TE} (hk : PE X k tk) (hv : PE X v tv) : PE X (.Dict [some k] [v] pos) (tDisK tk tv) :=
  pe_disp (pps_cons hk hv pps_nil) rfl rfl (by simp) (by simp)
/-- the key a flat tuple -/
def tDisT (tk tv : TE) : TE := fun σ H Q => ∀ p, H p = none → tk σ (upd H p (.dT [])) fun x H1 => tv σ H1 fun y H2 => H2 p = some (.dT []) ∧ ∃ (k : List Key) (b : Addr), x = .ref b ∧ H2 b = some (.tup (k.map kV)) ∧ Q (.ref p) (upd H2 p (.dT [(k, y)]))
theorem pe_disT {X : Cx} {k v : Expr} {pos : Pos} {tk tv : TE} (hu : X.A.units + 1 < cLine) (hk : PE X k tk) (hv : PE X v tv) : PE X (.Dict [some k] [v] pos) (tDisT tk tv) := by
  refine ⟨fun pins s σ H Q I q => ?_⟩
  have hn := I.hok.fresh (Nat.le_refl s.heap.objs.size)
  have I1 := I.laid (a := s.heap.objs.size) (o := .dT []) (h' := s.heap.push { cls := .type "dict", data := .dict #[] }) (t' := s.toks) (fun _ _ q => Heap.get?_push_of_some _ q) (Nat.le_refl _) (dt_empty s.heap I.big)
  have hsh := zip_pairTrees [some k] [v] X.env pos (by simp) (by simp)
  rw [arm_eval_Dict, hsh, dictDisplay_pairs _ (by simp [pairTrees]) (by simp [pairTrees])]
  refine wpAny_bind (wpAny_standAt (wpAny_bind (wpAny_subDictH (knd := tupleKind (mixKind X.prog X.w)) (Q := fun d s' => wpAny (model X.prog X.w) X.A (pure (Value.ref d)) _ _ s') (show X.A.units < cLine by omega) (by simp [pairTrees]) ?_)))
  refine pairTrees_cons_walk (thn (hk.run pins _ σ _ _ I1 (q _ hn)) fun u s1 ⟨x, H1, I2, rx, q1⟩ => thn (hv.run pins s1 σ H1 _ I2 q1) fun w2 s2 ⟨y, H2, I3, ry, e, kk, b, ex, eb, q2⟩ => pairTrees_nil_walk ?_)
  subst ex
  obtain rfl : u = Value.ref b := rx
  obtain ⟨z, hd, xs, rel, dd⟩ := dt_of I3.hok e
  cases rel
  refine ⟨[(kk, b, w2)], ⟨rfl, rfl, key_of I3.hok eb, trivial⟩, dd, fun h' tkn dd' hs => wpAny_pure ⟨.ref s.heap.objs.size, _, ?_, rfl, q2⟩⟩
  have he : storedAllH [] [(kk, b, w2)] = [(kk, b, w2)] := rfl
  rw [he] at dd'
  obtain ⟨o, es, ep, hq, h2, h3, h4, _, h5⟩ := dd'
  refine d_write I3 (by rw [e]; exact True.intro) hs ⟨o, hq⟩ ⟨by rw [sizeLine_eq]; show 1 ≤ 16777216; decide, hd, _, .cons ⟨rfl, ?_, ry⟩ .nil, o, es, ep, hq, h2, h3, h4, h5⟩
  show upd H2 _ _ b = _
  rw [upd_ne (ne_of eb e (fun z => nomatch z))]
  exact eb
end Ux

namespace Ux
open PySem PySem.Spec PyProof.Rows L2 GxR
open AutoSeq1 (wpAny_loadPart')
/-! ### enumerate of a tuple -/
abbrev TIt (q : Addr) : Obj := { cls := .type "tuple_iterator", data := .fields #[.ref q, .int 0 0] }
abbrev EnO (j : Addr) : Obj := { cls := .type "enumerate", data := .fields #[.none, .bool false, .ref j, rawInt 0, .none, .none] }
theorem new_enumT (q : Addr) (items : Array Value) (m : Nat) (dct : Option Addr) (sl : Array (Option Value)) :
    Meets (Builtin.«enumerate.__new__» ⟨[.type "enumerate", .ref q], []⟩) (fun _ R s => s.heap.get? q = some ⟨.type "tuple", dct, .seq items m, sl⟩ ∧ R (.ok (.ret (.ref (s.heap.push (TIt q)).objs.size))) { s with heap := (s.heap.push (TIt q)).push (EnO s.heap.objs.size) }) :=
  .of_wp fun prog w A R s hh => by
    obtain ⟨hp, g, dr, tk, os⟩ := s
    obtain ⟨e0, r0⟩ := hh
    have hse := sub_enumerate
    have ht : Heap.IsTuple (Shared.heap ⟨hp, g, dr, tk, os⟩) q items := ⟨_, e0, rfl, m, rfl⟩
    have it1 : ∀ {A' : Around} {E' : Value → Shared → Prop} {Q' : Value → Shared → Prop}, Q' (.ref hp.objs.size) ⟨hp.push (TIt q), g, dr, tk, os⟩ → wpAny (model prog w) A' (pyIter (.ref q)) Q' E' ⟨hp, g, dr, tk, os⟩ := fun z => wpAny_pyIter_tuple ht z
    wp_walk using wpAny_loadPart' e0
    refine wpAny_stack_any fun st0 => wpAny_pure ?_
    split
    case h_1 c0 _ _ _ _ _ =>
      cases (c0 == Value.type "enumerate") <;> (wp_walk using wpAny_loadPart' e0, it1; exact ⟨_, rfl, r0⟩)
    case h_2 => wp_walk using wpAny_loadPart' e0, it1; exact ⟨_, rfl, r0⟩
theorem call_enumT {prog : Program} {w : World} {A : Around} {E : Value → Shared → Prop} {s : Shared} {q : Addr} {items : Array Value} {Q : Value → Shared → Prop} (ht : s.heap.IsTuple q items)
    (k : ∀ h', IsEnum h' (s.heap.objs.size + 1) s.heap.objs.size 0 .none → h'.IsTupleIter s.heap.objs.size q 0 → (∀ b o, s.heap.get? b = some o → h'.get? b = some o) → Q (.ref (s.heap.objs.size + 1)) { s with heap := h' }) :
    wpAny (model prog w) A (call (.type "enumerate") [.ref q]) Q E s := by
  obtain ⟨⟨c, dct, dt, sl⟩, e0, ec, m, ed⟩ := ht
  have ec : c = .type "tuple" := ec
  have ed : dt = .seq items m := ed
  subst ec ed
  refine callType_new F.called_enumerate (by decide) (F.typeCall_enumerate_1 _) (F.newCall_enumerate_1 _) (fun z => F.args_object_init_2 z _) F.entry_enumerate_new (new_enumT q items m dct sl) ⟨e0, ?_⟩
  have sz : (s.heap.push (TIt q)).objs.size = s.heap.objs.size + 1 := Heap.size_push ..
  have e1 : IsEnum ((s.heap.push (TIt q)).push (EnO s.heap.objs.size)) (s.heap.objs.size + 1) s.heap.objs.size 0 .none := by
    have z := Heap.get?_push_size (s.heap.push (TIt q)) (o := EnO s.heap.objs.size) rfl
    rw [sz] at z
    exact z
  show _ ∧ _
  rw [sz]
  exact ⟨⟨_, e1, rfl⟩, k _ e1 ⟨_, Heap.get?_push_of_some _ (Heap.get?_push_size _ rfl), rfl, rfl⟩ fun b o z => Heap.get?_push_of_some _ (Heap.get?_push_of_some _ z)⟩
/-- the tuple at a, each item in a new pair with its number -/
def IteT (K : PySem.W.Frag) (a : Addr) : It where
  go i H := ∃ (vs : List V) (y : V), SqT K H a vs ∧ vs[i]? = some y
  yld i H v H' := ∃ T y, v = .ref T ∧ H T = none ∧ H' = upd H T (.tup [.int (i : Nat), y]) ∧ ∀ vs, SqT K H a vs → vs[i]? = some y
  stop i H := ∃ vs : List V, SqT K H a vs ∧ vs.length = i
theorem turn_enumT {P : Program} {w : World} {K : PySem.W.Frag} {elts : List Expr} {kk : Nat} {tpos : Pos} (a e it : Addr) :
    Turn P w K (.Tuple elts kk tpos) (IteT K a) [e, it] e (fun i h => (∃ old, IsEnum h e it ((i : Nat) : Int) old) ∧ h.IsTupleIter it a i ∧ e ≠ it ∧ e ≠ a ∧ a ≠ it) where
  mem := by simp
  obj := fun i h ⟨⟨old, h1⟩, ⟨o, h2, _, h3⟩, _⟩ b hb => by
    rcases (by simpa using hb : b = e ∨ b = it) with rfl | rfl
    · exact ⟨_, h1, fun v z => nomatch z⟩
    · exact ⟨o, h2, fun v z => by rw [h3] at z; cases z⟩
  keep := fun i h h' ⟨⟨old, h1⟩, h2, n⟩ k => ⟨⟨old, k e (by simp) _ h1⟩, h2.at fun o z => k it (by simp) o z, n⟩
  item := by
    intro X hP hw hK hc i pins s σ H E I hf ⟨⟨old, h1⟩, h2, n1, n2, n3⟩ ⟨vs, y, hq, hy⟩
    subst hP hw hK
    obtain ⟨its, rv, p, hz⟩ := I.tuple hq
    obtain ⟨u, hu, ru⟩ := rv.get hy
    have ht : s.heap.IsTuple a its.toArray := p
    have hh : X.A.in1.handled = none := I.ok.hd hc
    have le : e < s.heap.objs.size := Heap.lt_size h1
    have li : it < s.heap.objs.size := by obtain ⟨_, z, _⟩ := h2; exact Heap.lt_size z
    have hi : i < its.toArray.size := by
      have := (List.getElem?_eq_some_iff.mp hu).1
      simpa using this
    refine wpAny_pyNext_enum_itemD (Draws.tuple hh it a n3 its.toArray) h1 ⟨h2, ht⟩ hi n1 (by simp [n1, n2]) fun x h' tk px ho hst hT hsz hk => ?_
    have ex : x = u := by
      have z : its[i]? = some x := by simpa using px
      rw [hu] at z
      exact (Option.some.inj z).symm
    subst ex
    refine ⟨_, rfl, wpAny_letOwnedTupleGo_enum (s := { s with heap := h', toks := tk + 1 }) ho fun h2' he' sb => ?_⟩
    have hT2 : h2'.get? s.heap.objs.size = some { cls := .type "tuple", data := .seq #[.int i tk, x] } := (sb.2 _ (Nat.ne_of_gt le)).trans hT
    have nw : ObjOk X.prog X.w (upd H s.heap.objs.size (.tup [.int (i : Nat), y])) h2' s.heap.objs.size (.tup [.int (i : Nat), y]) := ⟨by show 2 ≤ sizeLine; decide, [.int i tk, x], .cons ⟨_, rfl⟩ (.cons ru .nil), ⟨_, hT2, rfl, _, rfl⟩⟩
    have J : Inv X pins σ (upd H s.heap.objs.size (.tup [.int (i : Nat), y])) { s with heap := h2', toks := tk + 1 } :=
      I.turnedNew (ch := [e, it]) (fun b ob hb z => (sb.2 b (fun z' => hb (by simp [z']))).trans (hk b ob (fun z' => hb (by simp [z'])) (fun z' => hb (by simp [z'])) z)) hf (Nat.le_refl _) nw
    refine ⟨.ref s.heap.objs.size, _, J, rfl, ⟨_, y, rfl, I.hok.fresh (Nat.le_refl _), rfl, fun ws hws => ?_⟩, ⟨⟨x, ?_⟩, hst.1.at fun o z => (sb.2 it (Ne.symm n1)).trans z, n1, n2, n3⟩, fun b hb => ?_⟩
    · rw [I.tuple_inj hws hq]; exact hy
    · rw [show ((i + 1 : Nat) : Int) = (i : Int) + 1 by omega]; exact he'
    · have lb : b < s.heap.objs.size := by
        rcases (by simpa using hb : b = e ∨ b = it) with z | z <;> rw [z] <;> assumption
      rw [upd_ne (Nat.ne_of_lt lb)]
      exact (hf b hb).1
  done := by
    intro X hP hw hK hc i pins s σ H E I hf ⟨⟨old, h1⟩, h2, n1, n2, n3⟩ ⟨vs, hq, hl⟩
    subst hP hw hK
    obtain ⟨its, rv, p, hz⟩ := I.tuple hq
    have ht : s.heap.IsTuple a its.toArray := p
    have hh : X.A.in1.handled = none := I.ok.hd hc
    obtain ⟨f0, f1, f2, f3, f4, f5⟩ := hf it (by simp)
    have hn : i = its.toArray.size := by rw [← hl, rv.length]; simp
    subst hn
    exact wpAny_pyNext_enum_endD (Draws.tuple hh it a n3 its.toArray) h1 ⟨h2, ht⟩ fun h' eb => ⟨rfl, I.turned (t' := s.toks) (fun b o hb z => eb b o hb z) f0 f1 f3 f4 f5⟩
  self := fun A i s Q E ⟨⟨_, h1⟩, _⟩ h => wpAny_pyIter_enum h1 h
theorem boot_enum : bootBuiltins "enumerate" = some (.type "enumerate") := by kernel_rfl
/-- for i, x in enumerate(e), e a tuple or a list -/
def iEnumA (K : PySem.W.Frag) (ta : TA) : TI := fun σ H R => ta σ H fun us H1 => ∃ a vs, us = [.ref a] ∧ ((SqT K H1 a vs ∧ R (IteT K a) H1) ∨ (SqL K H1 a vs ∧ R (Ite K a) H1))
theorem pi_enumA {X : Cx} {e : Expr} {ta : TA} {p pos tpos : Pos} {elts : List Expr} {kk : Nat} (hg : Gl X "enumerate") (hm : X.mg "enumerate" = none) (ha : PA X [e] ta) (hs : starEach [e] X.env = [(false, eval e X.env)] := by rfl) :
    PI X (.Tuple elts kk tpos) (.Call (.Name "enumerate" p) [e] [] pos) (iEnumA X.K ta) := by
  refine ⟨fun pins s σ H R I h => ?_⟩
  refine Call_ (ld_blt I hg hm boot_enum (PyProof.Rows.callWith_type1 (thn (ha.run pos pins s σ H _ I h) fun us s1 ⟨vs0, H1, I1, r1, a, vs, ex, q⟩ => ?_) hs rfl))
  subst ex
  cases r1 with
  | cons r rr =>
    cases rr
    cases r
    have ne1 : ∀ b : Addr, s1.heap.objs.size ≤ b → FpOk X pins H1 b := fun b hb => I1.fpOk hb (I1.hok.fresh hb)
    have ne2 : ∀ b : Addr, b ∈ [s1.heap.objs.size + 1, s1.heap.objs.size] → FpOk X pins H1 b := fun b hb => ne1 b (by
      rcases (by simpa using hb : b = s1.heap.objs.size + 1 ∨ b = s1.heap.objs.size) with z | z <;> rw [z]
      · exact Nat.le_succ _
      · exact Nat.le_refl _)
    rcases q with ⟨hq, q⟩ | ⟨hq, q⟩
    · obtain ⟨its, rv, p', hz⟩ := I1.tuple hq
      have la : a < s1.heap.objs.size := by obtain ⟨_, z, _⟩ := (p' : s1.heap.IsTuple a its.toArray); exact Heap.lt_size z
      refine call_enumT (items := its.toArray) p' fun h' e1 e2 hk => wpAny_pyIter_enum e1 ?_
      have J : Inv X pins σ H1 { s1 with heap := h' } := I1.kept (t' := s1.toks) hk
      exact ⟨_, [_, _], _, _, H1, rfl, J, turn_enumT a (s1.heap.objs.size + 1) s1.heap.objs.size, ⟨⟨.none, e1⟩, e2, Nat.succ_ne_self _, fun z => by rw [← z] at la; exact absurd la (Nat.not_lt_of_le (Nat.le_succ _)), fun z => by rw [z] at la; exact absurd la (Nat.lt_irrefl _)⟩, ne2, q⟩
    · obtain ⟨its, rv, p', hz⟩ := I1.list hq
      refine call_enumerate_list p'.isList fun h' e1 e2 hsz hk => wpAny_pyIter_enum e1 ?_
      have J : Inv X pins σ H1 { s1 with heap := h' } := I1.kept (t' := s1.toks) hk
      exact ⟨_, [_, _], _, _, H1, rfl, J, turn_enum a (s1.heap.objs.size + 1) s1.heap.objs.size, ⟨⟨.none, e1⟩, e2, Nat.succ_ne_self _⟩, ne2, q⟩
end Ux

namespace Ux
open PySem PySem.Spec PyProof.Rows L2 GxR

inductive Op2 where
  | add | sub | mul | fdiv | mod | pow
inductive Cm2 where
  | eq | ne | lt | le | gt | ge | inn | nin
inductive Bfn where
  | len | abs | int | list | tuple | sorted | all | any | max | min | sum
inductive Mth where
  | append | extend | popAt | get
inductive IK where
  | val | rng1 | rng2 | enm

mutual
inductive MT where
  | name (i : Nat)
  | tup (ts : MTs)
inductive MTs where
  | nil | cons (t : MT) (ts : MTs)
end
mutual
inductive ME where
  | var (i : Nat)
  | con (v : V)
  | glo (x : Str) (v : V)
  | tup (es : MEs) | lst (es : MEs)
  | ix (a b : ME)
  | slc (a : ME) (lo hi : MO)
  | op (o : Op2) (a b : ME)
  | neg (a : ME)
  | cmp (o : Cm2) (a b : ME)
  | isn (w : Bool) (a : ME)
  | chn (o p : Cm2) (a b c : ME)
  | bop (w : Bool) (e : ME) (es : MEs)
  | not (a : ME)
  | ife (c : MC) (a b : ME)
  | call (f : Str) (es : MEs)
  | bfn (o : Bfn) (a : ME)
  | isi (T : String) (a : ME)
  | lrg (w : Bool) (k : IK) (es : MEs)
  | mth (o : Mth) (r : ME) (es : MEs)
  | lc (own : List Nat) (t : MT) (k : IK) (es : MEs) (ifs : MI) (el : ME)
  | gen (w : Bool) (own : List Nat) (t : MT) (k : IK) (es : MEs) (ifs : MI) (el : ME)
  | dk0 (t : Bool)
  | dk1 (t : Bool) (k v : ME)
  | bf2 (w : Bool) (a b : ME)
  | dc (own : List Nat) (t : MT) (k : IK) (es : MEs) (ifs : MI) (kx vx : ME)
  | bad
inductive MEs where
  | nil | cons (e : ME) (es : MEs)
inductive MO where
  | none | some (e : ME)
inductive MI where
  | none | some (e : MC)
inductive MC where
  | tv (e : ME)
  | cmp (o : Cm2) (a b : ME)
  | isn (w : Bool) (a : ME)
  | chn (o p : Cm2) (a b c : ME)
  | bop (w : Bool) (c : MC) (cs : MCs)
  | not (c : MC)
inductive MCs where
  | nil | cons (c : MC) (cs : MCs)
end
/- what a handler gives back: its error.s field, written values, tuples and lists of these -/
mutual
inductive MHe where
  | fld (f : Str) | con (v : V) | tup (es : MHes) | lst (es : MHes)
inductive MHes where
  | nil | cons (e : MHe) (es : MHes)
end
/-- a handler: return ..; return .. if isinstance(e, ..) and isinstance(e, ..) else .., of an error of one class, that both take -/
inductive MHs where
  | ret (e : MHe)
  | ite (cn : Str) (a b : MHe)
mutual
inductive MS where
  | set (i : Nat) (e : ME)
  | unp (t : MT) (e : ME)
  | sub (o i v : ME)
  | ex (e : ME)
  | ret (e : ME)
  | retn
  | ite (c : MC) (a b : MSs)
  | whl (c : MC) (b : MSs)
  | fr (t : MT) (k : IK) (es : MEs) (b : MSs)
  | pass | brk | cnt | nev
  | rs (c fld : Str) (e : ME)
  | trr (b : MSs) (c : Str) (cs ns : List Str) (i : Nat) (h : MHs)
inductive MSs where
  | nil | cons (s : MS) (r : MSs)
end

def mem (x : Str) : List Str → Bool
  | [] => false
  | y :: r => if y = x then true else mem x r
/-! ### relations -/
def opr : Op2 → Operator
  | .add => .Add | .sub => .Sub | .mul => .Mult | .fdiv => .FloorDiv | .mod => .Mod | .pow => .Pow
def cmr : Cm2 → CmpOp
  | .eq => .Eq | .ne => .NotEq | .lt => .Lt | .le => .LtE | .gt => .Gt | .ge => .GtE | .inn => .In | .nin => .NotIn
def orR (r r' : R2) : R2 := fun x y H Q => r x y H Q ∨ r' x y H Q
def r2 (K : PySem.W.Frag) : Op2 → R2
  | .add => orR (rI0 fun i j => .int (i + j)) (orR (rCatA K) (orR rCat fun x y H Q => ∃ i j, x = .str i ∧ y = .str j ∧ i.length + j.length ≤ sizeLine ∧ Q (.str (i ++ j)) H))
  | .sub => rI0 fun i j => .int (i - j)
  | .mul => orR (rI CMul fun i j => .int (i * j)) (orR rRep (orR (rRepT K) (rRepO K)))
  | .fdiv => rI CDiv fun i j => .int (i / j)
  | .mod => rI (fun _ j => 0 < j) fun i j => .int (i % j)
  | .pow => rI CPow fun i j => .int (i ^ j.toNat)
def rDin (w : Bool) : R2 := fun y x H Q => ∃ a o, x = .ref a ∧ DGet H a y o ∧ Q (.bl (if w then o.isSome else !o.isSome)) H
def c2 (K : PySem.W.Frag) : Cm2 → R2
  | .eq => rEqD K
  | .ne => rNeD K
  | .lt => rI0 fun i j => .bl (decide (i < j))
  | .le => rI0 fun i j => .bl (decide (i ≤ j))
  | .gt => rI0 fun i j => .bl (decide (j < i))
  | .ge => rI0 fun i j => .bl (decide (j ≤ i))
  | .inn => orR (rIn K false) (orR (rDin true) (rInD K))
  | .nin => orR (rIn K true) (orR (rDin false) (rNotInD K))
def rDix : R2 := fun x y H Q => ∃ a v, x = .ref a ∧ DGet H a y (some v) ∧ Q v H
def rIxA (K : PySem.W.Frag) : R2 := orR (rIx K) rDix
def rSlc (K : PySem.W.Frag) : V → Option Int → Option Int → Hp → VK → Prop := fun x lo hi H Q => rSlA K x lo hi H Q ∨ rSlL K x lo hi H Q
def rLen (K : PySem.W.Frag) : List V → Hp → VK → Prop := fun xs H Q => (∃ x n, xs = [x] ∧ LenV K x H n ∧ Q (.int n) H) ∨ (∃ a kvs, xs = [.ref a] ∧ Rd H a (.dK kvs) ∧ Q (.int kvs.length) H) ∨ ∃ a kvs, xs = [.ref a] ∧ Rd H a (.dT kvs) ∧ Q (.int kvs.length) H
def rSrtI (K : PySem.W.Frag) : List V → Hp → VK → Prop := fun xs H Q => rSorted K xs H Q ∨ ∃ (a : Addr) (kvs : List (Key × V)) (ks : List Int), xs = [.ref a] ∧ Rd H a (.dK kvs) ∧ kvs.map (·.1) = ks.map Sum.inl ∧ ks.length < 64 ∧
   ∀ (ys : List Int) (p : Addr), ys.Perm ks → ys.Pairwise (· ≤ ·) → H p = none → Q (.ref p) (upd H p (.lst (ys.map V.int)))
def rB (K : PySem.W.Frag) : Bfn → List V → Hp → VK → Prop
  | .len => rLen K
  | .abs => fun xs H Q => ∃ i, xs = [.int i] ∧ Q (.int (if i < 0 then -i else i)) H
  | .int => fun xs H Q => (∃ i, xs = [.int i] ∧ Q (.int i) H) ∨ ∃ k, xs = [.bl k] ∧ Q (.int (if k then 1 else 0)) H
  | .list => fun xs H Q => ∃ p ys, xs = [.ref p] ∧ (SqL K H p ys ∨ SqT K H p ys) ∧ ∀ l, H l = none → Q (.ref l) (upd H l (.lst ys))
  | .tuple => fun xs H Q => ∃ p ys, xs = [.ref p] ∧ ((SqL K H p ys ∧ ∀ l, H l = none → Q (.ref l) (upd H l (.tup ys))) ∨ (SqT K H p ys ∧ Q (.ref p) H))
  | .sorted => rSrtI K
  | .all => rAll K
  | .any => rAny K
  | .max => rMax K
  | .min => rMin K
  | .sum => rSum K
def bval : Bfn → Value
  | .len => .builtin "len" | .abs => .builtin "abs" | .int => .type "int" | .list => .type "list" | .tuple => .type "tuple" | .sorted => .builtin "sorted" | .all => .builtin "all" | .any => .builtin "any" | .max => .builtin "max" | .min => .builtin "min" | .sum => .builtin "sum"
def bnm : Bfn → Str
  | .len => "len" | .abs => "abs" | .int => "int" | .list => "list" | .tuple => "tuple" | .sorted => "sorted" | .all => "all" | .any => "any" | .max => "max" | .min => "min" | .sum => "sum"

def mty : Mth → String
  | .append => "list" | .extend => "list" | .popAt => "list" | .get => "dict"
def mnm : Mth → Str
  | .append => "append" | .extend => "extend" | .popAt => "pop" | .get => "get"
def mid : Mth → String
  | .append => "list.append" | .extend => "list.extend" | .popAt => "list.pop" | .get => "dict.get"
def rGet : V → List V → Hp → VK → Prop := fun x xs H Q => ∃ a y o, x = .ref a ∧ xs = [y] ∧ DGet H a y o ∧ Q (o.getD .non) H
def rM : Mth → V → List V → Hp → VK → Prop
  | .append => rAppend
  | .extend => rExtend
  | .popAt => rPopAt
  | .get => rGet

/-! ### the text's parts as predicate transformers -/
structure Fe where
  f : Addr
  fd : FuncData
  ps : List Str
  lv : Nat
  sp : Sp
structure Tb where
  N : List Str
  fn : Str → Option Fe
  gl : Str → Option V
  bn : List Str
  P : Addr
  /-- error classes: where they stand, their field -/
  xt : Str → Option (Addr × Str)
  /-- classes that handlers name; which error which of them takes -/
  xh : Str → Option Addr
  xm : Str → Str → Bool
  /-- what else is known of the classes -/
  px : PySem.W.Frag → (Str → Option Value) → Prop
def tA (l : List TE) : TA := l.foldr tCons tNil
def iSeq (K : PySem.W.Frag) (tl : TE) : TI := fun σ H R => tl σ H fun x H1 => ∃ a, x = .ref a ∧ (((∃ xs, SqL K H1 a xs) ∧ R (Itl K a) H1) ∨ ((∃ xs, SqT K H1 a xs) ∧ R (Itt K a) H1))
/-- a dict, locked from now on -/
def tLk (te : TE) : TE := fun σ H Q => te σ H fun x H1 => ∃ d u, x = .ref d ∧ DctO u ∧ Rd H1 d u ∧ ∀ o, (H1 d = some u ∨ H1 d = some (.frz o u)) → Q x (upd H1 d (.frz o u))
theorem upd_again {H : Hp} {a : Addr} {o : HO} (h : H a = some o) : upd H a o = H := by
  funext b
  by_cases e : b = a
  · subst e; rw [upd_same, h]
  · rw [upd_ne e]
theorem pe_lk {X : Cx} {e : Expr} {te : TE} (he : PE X e te) : PE X e (tLk te) := by
  refine ⟨fun pins s σ H Q I h => ?_⟩
  refine thn (he.run pins s σ H _ I h) fun u s1 ⟨x, H1, I1, rx, d, u, ex, du, hd, q⟩ => ?_
  rcases hd with hd | ⟨od, hd⟩
  · obtain ⟨od, I2⟩ := I1.lock hd (by cases u <;> first | exact du.elim | exact True.intro)
    exact ⟨x, _, I2, rx, q od (.inl hd)⟩
  · have := q od (.inr hd)
    rw [upd_again hd] at this
    exact ⟨x, _, I1, rx, this⟩
/-- one or the other, whichever stands -/
def iOr (i j : TI) : TI := fun σ H R => i σ H R ∨ j σ H R
theorem pi_or {X : Cx} {tg e : Expr} {i j : TI} (hi : PI X tg e i) (hj : PI X tg e j) : PI X tg e (iOr i j) := ⟨fun pins s σ H R I h => h.elim (hi.run pins s σ H R I) (hj.run pins s σ H R I)⟩
def iSrc (K : PySem.W.Frag) : IK → List TE → TI
  | .val, [t] => iOr (iSeq K t) (iKeys (tLk t))
  | .enm, [t] => iEnumA K (tA [t])
  | .rng1, [t] => iRng1 (tA [t])
  | .rng2, [t, u] => iRng2 (tA [t, u])
  | _, _ => fun _ _ _ => False
def tRgs : IK → List TE → L2.St → Hp → (Int → Int → Hp → Prop) → Prop
  | .rng1, [t] => tRg1 t
  | .rng2, [t, u] => tRg2 t u
  | _, _ => fun _ _ _ => False
mutual
def trG (K : PySem.W.Frag) : MT → TG
  | .name i => gName i
  | .tup ts => gTup K ts.len (trGs K ts)
def trGs (K : PySem.W.Frag) : MTs → TGs
  | .nil => gNil
  | .cons t ts => gCons (trG K t) (trGs K ts)
def MTs.len : MTs → Nat
  | .nil => 0
  | .cons _ ts => ts.len + 1
end
def tTru (K : PySem.W.Frag) (t : TE) : TT := fun σ H Q => t σ H fun x H' => ∃ k, TruV K x H' k ∧ Q k H'
def tNeg (t : TE) : TE := tUn (rU fun i => .int (-i)) t
/-- no exception is let out -/
def W0 : WX := fun _ _ _ _ => False
/-- an error is made: its class at C, its own dict new, with the field -/
def tMkX (C : Addr) (fld : Str) (ta : TA) : L2.St → Hp → XK → Prop := fun σ H Q => ta σ H fun vs H1 => ∃ v, vs = [v] ∧ ∀ d, H1 d = none → Q (.ref C) (some d) (upd H1 d (.xd [(fld, v)]))
def rB2 (w : Bool) : List V → Hp → VK → Prop := fun xs H Q => ∃ i j, xs = [.int i, .int j] ∧ Q (.int (if w then (if j > i then j else i) else (if j < i then j else i))) H
mutual
def trE (K : PySem.W.Frag) (T : Tb) (W : WX) : ME → TE
  | .var i => tVar i
  | .con v => tC v
  | .glo _ v => tC v
  | .tup es => tTup (tA (trEs K T W es))
  | .lst es => tLst (tA (trEs K T W es))
  | .ix a b => tOp (rIxA K) (trE K T W a) (trE K T W b)
  | .slc a lo hi => tSl (rSlc K) (trE K T W a) (trO K T W lo) (trO K T W hi)
  | .op o a b => tOp (r2 K o) (trE K T W a) (trE K T W b)
  | .neg a => tNeg (trE K T W a)
  | .cmp o a b => tOp (c2 K o) (trE K T W a) (trE K T W b)
  | .isn w a => if w then tIsN (trE K T W a) else tNotN (trE K T W a)
  | .chn o p a b c => tChain (c2 K o) (c2 K p) (trE K T W a) (trE K T W b) (trE K T W c)
  | .bop w e es => trB K T W w (trE K T W e) es
  | .not a => tNotV (trE K T W a)
  | .ife c a b => tIf (trC K T W c) (trE K T W a) (trE K T W b)
  | .call f es => match T.fn f with
    | some fe => tCallS fe.sp (WE W) (tA (trEs K T W es))
    | none => fun σ H Q => tA (trEs K T W es) σ H fun _ _ => False
  | .bfn o a => tCB (rB K o) (tA [trE K T W a])
  | .isi n a => tCB (rIsi K) (tA [trE K T W a, tC (.ty n)])
  | .lrg w k es => if w then tLstRg (tRgs k (trEs K T W es)) else tTupRg (tRgs k (trEs K T W es))
  | .mth o r es => tBM K (mty o) (rM o) (trE K T W r) (tA (trEs K T W es))
  | .lc own t k es ifs el => tLc (iSrc K k (trEs K T W es)) (trG K t) (trI K T W0 ifs) (trE K T W0 el) own
  | .gen w own t k es ifs el => tAllG T.P (iSrc K k (trEs K T W es)) (trG K t) (trI K T W0 ifs) (trE K T W0 el) own w
  | .dk0 t => if t then tDNewT else tDNewK
  | .dk1 t k v => if t then tDisT (trE K T W k) (trE K T W v) else tDisK (trE K T W k) (trE K T W v)
  | .bf2 w a b => tCB (rB2 w) (tA [trE K T W a, trE K T W b])
  | .dc own t k es ifs kx vx => tDc (iSrc K k (trEs K T W es)) (trG K t) (trI K T W0 ifs) (trE K T W0 kx) (trE K T W0 vx) own
  | .bad => fun _ _ _ => False
def trB (K : PySem.W.Frag) (T : Tb) (W : WX) (w : Bool) (t : TE) : MEs → TE
  | .nil => t
  | .cons e es => if w then tAndV t (trB K T W w (trE K T W e) es) else tOrV t (trB K T W w (trE K T W e) es)
def trEs (K : PySem.W.Frag) (T : Tb) (W : WX) : MEs → List TE
  | .nil => []
  | .cons e es => trE K T W e :: trEs K T W es
def trO (K : PySem.W.Frag) (T : Tb) (W : WX) : MO → TO
  | .none => tNoPart
  | .some e => tPart (trE K T W e)
def trI (K : PySem.W.Frag) (T : Tb) (W : WX) : MI → TT
  | .none => tYes
  | .some c => trC K T W c
def trC (K : PySem.W.Frag) (T : Tb) (W : WX) : MC → TT
  | .tv e => tTru K (trE K T W e)
  | .cmp o a b => tTest (tOp (c2 K o) (trE K T W a) (trE K T W b))
  | .isn w a => tB (if w then tIsN (trE K T W a) else tNotN (trE K T W a))
  | .chn o p a b c => tTest (tChain (c2 K o) (c2 K p) (trE K T W a) (trE K T W b) (trE K T W c))
  | .bop w c cs => trCB K T W w (trC K T W c) cs
  | .not c => tNot (trC K T W c)
def trCB (K : PySem.W.Frag) (T : Tb) (W : WX) (w : Bool) (t : TT) : MCs → TT
  | .nil => t
  | .cons c cs => if w then tAnd t (trCB K T W w (trC K T W c) cs) else tOr t (trCB K T W w (trC K T W c) cs)
end
def gSubA (K : PySem.W.Frag) (to ti : TE) : TG := gSub to ti fun o i v H Q => rSetL o i v H Q ∨ ∃ a H4, o = .ref a ∧ DPut H a i v H4 ∧ Q H4
mutual
def trHe (K : PySem.W.Frag) (a : Addr) (d : Option Addr) (C : Addr) (fld : Str) (i : Nat) : MHe → TE
  | .fld f => fun σ H Q => f = fld ∧ tXf a (.ref C) d C f (tVar i) σ H Q
  | .con v => tC v
  | .tup es => tTup (tA (trHes K a d C fld i es))
  | .lst es => tLst (tA (trHes K a d C fld i es))
def trHes (K : PySem.W.Frag) (a : Addr) (d : Option Addr) (C : Addr) (fld : Str) (i : Nat) : MHes → List TE
  | .nil => []
  | .cons e es => trHe K a d C fld i e :: trHes K a d C fld i es
end
/-- a handler's reading: the caught error stands at a, its class is cls, its own dict d -/
def trH (K : PySem.W.Frag) (T : Tb) (a : Addr) (cls : Value) (d : Option Addr) (i : Nat) : MHs → TS
  | .ret e => fun D σ H => ∃ c C fld, T.xt c = some (C, fld) ∧ cls = .ref C ∧ tRet (trHe K a d C fld i e) D σ H
  | .ite cn e _ => fun D σ H => ∃ C fld kvs dd, T.xt cn = some (C, fld) ∧ cls = .ref C ∧ d = some dd ∧ H dd = some (.xd kvs) ∧ σ[i]? = some (some (.ref a)) ∧ tRet (trHe K a d C fld i e) D σ H
mutual
def trS (K : PySem.W.Frag) (T : Tb) (W : WX) : MS → TS
  | .set i e => tAsg (trE K T W e) (gName i)
  | .unp t e => tAsg (trE K T W e) (trG K t)
  | .sub o i v => tAsg (trE K T W v) (gSubA K (trE K T W o) (trE K T W i))
  | .ex e => tDrop (trE K T W e)
  | .ret e => tRet (trE K T W e)
  | .retn => tRetN
  | .ite c a b => tIfS (trC K T W c) (trSs K T W a) (trSs K T W b)
  | .whl c b => tWhile (trC K T W c) (trSs K T W b)
  | .fr t k es b => tFor (iSrc K k (trEs K T W es)) (trG K t) (trSs K T W b)
  | .pass => tNext
  | .brk => tBreak
  | .cnt => tCont
  | .nev => tNever
  | .rs c fld e => fun _ σ H => tA [trE K T W e] σ H fun vs H1 => ∃ v, vs = [v] ∧ ∀ C, T.xt c = some (C, fld) → ∀ d, H1 d = none → W (.ref C) (some d) σ (upd H1 d (.xd [(fld, v)]))
  | .trr b c cs ns i h => fun D σ H => ∀ C, T.xh c = some C → (∀ x, mem x cs = true → T.xm x c = true) → (∀ x, mem x ns = true → T.xm x c = false) → trSs K T (wAs K (.ref C) i (fun a cls d => trH K T a cls d i h) W D) b D σ H
def trSs (K : PySem.W.Frag) (T : Tb) (W : WX) : MSs → TS
  | .nil => tNext
  | .cons s r => tSeq (trS K T W s) (trSs K T W r)
end
end Ux

namespace Ux
open PySem PySem.Spec PyProof.Rows L2 GxR

def dctD : D → Bool
  | .dk _ _ => true | .dt _ _ => true | _ => false
/-- no slot owns a dict -/
def noDct (Γ : En) : Bool := Γ.sl.all fun q => match q with
  | some (d, o) => !(o && dctD d)
  | none => true
def R.bd {α β : Type} (r : R α) (k : α → R β) : R β := match r with
  | .ok a => k a
  | .err x w => .err x w
  | .no => .no
@[simp] theorem R.bd_ok {α β : Type} (a : α) (k : α → R β) : (R.ok a).bd k = k a := rfl
@[simp] theorem R.bd_no {α β : Type} (k : α → R β) : (R.no : R α).bd k = R.no := rfl
@[simp] theorem R.bd_err {α β : Type} (x : Ex) (w : Wd) (k : α → R β) : (R.err x w : R α).bd k = R.err x w := rfl
/-- errors are not let out -/
def R.st {α : Type} (r : R α) : R α := match r with
  | .ok a => .ok a
  | _ => .no
@[simp] theorem R.st_ok {α : Type} (a : α) : (R.ok a).st = R.ok a := rfl
@[simp] theorem R.st_no {α : Type} : (R.no : R α).st = R.no := rfl
def R.of {α : Type} : Option α → R α
  | some a => .ok a
  | none => .no
@[simp] theorem R.of_some {α : Type} (a : α) : R.of (some a) = R.ok a := rfl
@[simp] theorem R.of_none {α : Type} : R.of (none : Option α) = R.no := rfl

/-- what an expression gives: a datum that stays, a new object, an owned slot's object -/
inductive Pv where
  | old (d : D) | frs (d : D) | vr (i : Nat)
def rd (Γ : En) : Pv → Option D
  | .old d => some d
  | .frs d => some d
  | .vr i => match Γ.sl[i]? with
    | some (some (d, _)) => some d
    | _ => none
def fzn (Γ : En) (i : Nat) : En := match Γ.sl[i]? with
  | some (some (d, _)) => { Γ with sl := Γ.sl.set i (some (d, false)) }
  | _ => Γ
def fzp (Γ : En) : Pv → En
  | .vr i => fzn Γ i
  | _ => Γ
def rds (Γ : En) : List Pv → Option (List D)
  | [] => some []
  | p :: ps => match rd Γ p, rds Γ ps with
    | some d, some ds => some (d :: ds)
    | _, _ => none
def fzps (Γ : En) (ps : List Pv) : En := ps.foldl fzp Γ
def isVr : Pv → Nat → Bool
  | .vr j, i => j == i
  | _, _ => false
def LIM : Nat := 1000000
def ofV : V → D
  | .non => .non | .bl b => .bl b | .int i => .int i | .str x => .str x | _ => .strm
def okV : V → Bool
  | .non => true | .bl _ => true | .int _ => true | .str _ => true | _ => false

/-! ### operations on data -/
mutual
def toPD : D → Option PyData
  | .non => some .none
  | .bl b => some (.bool b)
  | .int i => some (.int i)
  | .str x => some (.str x)
  | .tup xs => (toPDs xs).map .tuple
  | .lst xs => (toPDs xs).map .list
  | _ => none
def toPDs : List D → Option (List PyData)
  | [] => some []
  | d :: r => match toPD d, toPDs r with
    | some x, some xs => some (x :: xs)
    | _, _ => none
end
def dEq (d e : D) : Option Bool := match toPD d, toPD e with
  | some a, some b => if SeqAt.shaped a && SeqAt.shaped b then some (PyData.eqv a b) else none
  | _, _ => none
def D.sc : D → Bool
  | .non => true | .bl _ => true | .int _ => true | .str _ => true | _ => false
def eqS : D → D → Bool
  | .non, .non => true
  | .bl a, .bl b => a == b
  | .bl a, .int b => (if a then 1 else 0) == b
  | .int a, .bl b => a == (if b then 1 else 0)
  | .int a, .int b => a == b
  | .str a, .str b => a == b
  | _, _ => false
def keyD : D → Option Key
  | .int i => some (.inl i)
  | .str x => some (.inr x)
  | _ => none
def keysD : List D → Option (List Key)
  | [] => some []
  | d :: r => match keyD d, keysD r with
    | some k, some ks => some (k :: ks)
    | _, _ => none
def tkeyD : D → Option (List Key)
  | .tup xs => keysD xs
  | _ => none
def findK {κ : Type} [DecidableEq κ] (k : κ) : List κ → List D → Option D
  | x :: xs, d :: ds => if x = k then some d else findK k xs ds
  | _, _ => none
def setK {κ : Type} [DecidableEq κ] (k : κ) (v : D) : List κ → List D → List D
  | x :: xs, d :: ds => (if x = k then v else d) :: setK k v xs ds
  | _, _ => []
def memK {κ : Type} [DecidableEq κ] (k : κ) : List κ → Bool
  | x :: xs => if x = k then true else memK k xs
  | [] => false
theorem memK_iff {κ : Type} [DecidableEq κ] {k : κ} : ∀ {ks : List κ}, memK k ks = true ↔ k ∈ ks
  | [] => by simp [memK]
  | x :: xs => by
    unfold memK
    by_cases h : x = k
    · simp [h]
    · rw [if_neg h, memK_iff (ks := xs), List.mem_cons]
      exact ⟨.inr, fun z => z.resolve_left fun w => h w.symm⟩
def inD (x : D) : D → Option Bool
  | .tup ys => if x.sc && ys.all D.sc then some (ys.any fun y => eqS y x) else none
  | .lst ys => if x.sc && ys.all D.sc then some (ys.any fun y => eqS y x) else match toPD x, toPDs ys with
    | some a, some bs => if SeqAt.shaped a && SeqAt.shaped (.list bs) then some (bs.any fun z => PyData.eqv z a) else none
    | _, _ => none
  | .dk ks ds => match keyD x with
    | some k => some (findK k ks ds).isSome
    | none => none
  | .dt ks ds => match tkeyD x with
    | some k => some (findK k ks ds).isSome
    | none => none
  | _ => none
def opD : Op2 → D → D → Option (D × Bool)
  | .add, .int i, .int j => some (.int (i + j), false)
  | .add, .tup xs, .tup ys => if xs.length + ys.length < LIM then some (.tup (xs ++ ys), false) else none
  | .add, .lst xs, .lst ys => if xs.length + ys.length < LIM then some (.lst (xs ++ ys), true) else none
  | .add, .str x, .str y => if x.length + y.length < LIM then some (.str (x ++ y), false) else none
  | .sub, .int i, .int j => some (.int (i - j), false)
  | .mul, .int i, .int j => if (decide (-(2 ^ 64) < i) && decide (i < 2 ^ 64)) || (decide (-(2 ^ 64) < j) && decide (j < 2 ^ 64)) then some (.int (i * j), false) else none
  | .mul, .lst xs, .int k => if decide (0 ≤ k) && decide (k < 1000) && decide (xs.length < 1000) then some (.lst (List.replicate k.toNat xs).flatten, true) else none
  | .mul, .tup xs, .int k => if decide (-1000000 ≤ k) && decide (k ≤ 1000) && decide (xs.length ≤ 1000) then some (.tup (List.replicate k.toNat xs).flatten, false) else none
  | .fdiv, .int i, .int j => if decide (0 < j) && decide (j < 1073741824) then some (.int (i / j), false) else none
  | .mod, .int i, .int j => if 0 < j then some (.int (i % j), false) else none
  | .pow, .int i, .int j => if decide (0 ≤ j) && decide (j ≤ 1000000) && decide (i.natAbs < 2 ^ 64) then some (.int (i ^ j.toNat), false) else none
  | _, _, _ => none
def cmD : Cm2 → D → D → Option Bool
  | .eq, d, e => dEq d e
  | .ne, d, e => (dEq d e).map (!·)
  | .lt, .int i, .int j => some (decide (i < j))
  | .le, .int i, .int j => some (decide (i ≤ j))
  | .gt, .int i, .int j => some (decide (j < i))
  | .ge, .int i, .int j => some (decide (j ≤ i))
  | .inn, x, ys => inD x ys
  | .nin, x, ys => (inD x ys).map (!·)
  | _, _, _ => none
def ixD : D → D → Option D
  | .tup xs, .int i => atI xs i
  | .lst xs, .int i => atI xs i
  | .str z, .int i => if z.length < LIM then (atI z.cps.toList i).map fun c => .str ⟨#[c]⟩ else none
  | .dk ks ds, k => match keyD k with
    | some k => findK k ks ds
    | none => none
  | .dt ks ds, k => match tkeyD k with
    | some k => findK k ks ds
    | none => none
  | _, _ => none
def cutL {α : Type} (xs : List α) (lo hi : Option Int) : List α := (xs.drop (HT.sIx xs.length 0 lo)).take (HT.sIx xs.length xs.length hi - HT.sIx xs.length 0 lo)
def cutD : D → Option Int → Option Int → Option (D × Bool)
  | .tup xs, lo, hi => some (.tup (cutL xs lo hi), false)
  | .lst xs, lo, hi => some (.lst (cutL xs lo hi), true)
  | _, _, _ => none
def intsD : List D → Option (List Int)
  | [] => some []
  | .int i :: r => (intsD r).map (i :: ·)
  | _ => none
def keyInts : List Key → Option (List Int)
  | [] => some []
  | .inl i :: r => (keyInts r).map (i :: ·)
  | _ => none
def blsD : List D → Option (List Bool)
  | [] => some []
  | .bl b :: r => (blsD r).map (b :: ·)
  | _ => none
def insI (x : Int) : List Int → List Int
  | [] => [x]
  | y :: ys => if x ≤ y then x :: y :: ys else y :: insI x ys
def sortI : List Int → List Int
  | [] => []
  | x :: xs => insI x (sortI xs)
def maxI : Int → List Int → Int
  | m, [] => m
  | m, x :: xs => maxI (if m < x then x else m) xs
def minI : Int → List Int → Int
  | m, [] => m
  | m, x :: xs => minI (if x < m then x else m) xs
def sumI : List Int → Int
  | [] => 0
  | x :: xs => x + sumI xs
def lenD : D → Option Nat
  | .tup xs => some xs.length
  | .lst xs => some xs.length
  | .str x => if x.length < LIM then some x.length else none
  | .dk ks ds => some ds.length
  | .dt ks ds => some ds.length
  | _ => none
def bfD : Bfn → D → Option (D × Bool)
  | .len, d => (lenD d).map fun n : Nat => (D.int (n : Int), false)
  | .abs, .int i => some (.int (if i < 0 then -i else i), false)
  | .int, .int i => some (.int i, false)
  | .int, .bl k => some (.int (if k then 1 else 0), false)
  | .list, .tup xs => some (.lst xs, true)
  | .list, .lst xs => some (.lst xs, true)
  | .tuple, .tup xs => some (.tup xs, false)
  | .tuple, .lst xs => some (.tup xs, false)
  | .sorted, .lst xs => match intsD xs with
    | some ns => if ns.length < 64 then some (.lst ((sortI ns).map .int), true) else none
    | none => none
  | .sorted, .dk ks ds => match keyInts ks with
    | some ns => if ns.length < 64 then some (.lst ((sortI ns).map .int), true) else none
    | none => none
  | .all, .lst xs => (blsD xs).map fun bs => (.bl (bs.all id), false)
  | .any, .lst xs => (blsD xs).map fun bs => (.bl (bs.any id), false)
  | .max, .lst xs => match intsD xs with
    | some (n :: ns) => some (.int (maxI n ns), false)
    | _ => none
  | .min, .lst xs => match intsD xs with
    | some (n :: ns) => some (.int (minI n ns), false)
    | _ => none
  | .sum, .lst xs => match intsD xs with
    | some ns => some (.int (sumI ns), false)
    | none => none
  | _, _ => none
def nonD : D → Bool
  | .non => true | _ => false
def tyD : D → Option String
  | .non => some "NoneType" | .bl _ => some "bool" | .int _ => some "int" | .str _ => some "str" | .tup _ => some "tuple" | .lst _ => some "list"
  | _ => none
def isiB (t T : String) : Option Bool :=
  if T = "int" then some (t = "int" || t = "bool") else if T = "bool" then some (t = "bool") else if T = "str" then some (t = "str") else if T = "tuple" then some (t = "tuple") else if T = "list" then some (t = "list") else none
def isiD (T : String) (d : D) : Option Bool := (tyD d).bind fun t => isiB t T
def truD : D → Option Bool
  | .non => some false
  | .bl b => some b
  | .int i => some (i != 0)
  | .str y => if y.length < LIM then some ((y.length : Int) != 0) else none
  | .tup xs => some (!xs.isEmpty)
  | .lst xs => some (!xs.isEmpty)
  | _ => none
def rgD (a b : Int) : List D := (List.range (b - a).toNat).map fun i => D.int (a + (i : Nat))
def rgOkB (a b : Int) : Bool := decide (-1000000 ≤ a) && decide (a ≤ 1000000) && decide (-1000000 ≤ b) && decide (b ≤ 1000000)
def kDat : Key → D
  | .inl i => .int i
  | .inr x => .str x
def itD : D → Option (List D)
  | .tup xs => some xs
  | .lst xs => some xs
  | .dk ks _ => some (ks.map kDat)
  | .dt ks _ => some (ks.map fun k => .tup (k.map kDat))
  | _ => none
def seqD : D → Option (List D)
  | .tup xs => some xs
  | .lst xs => some xs
  | _ => none
def numD : Nat → List D → List D
  | _, [] => []
  | i, x :: xs => .tup [.int (i : Nat), x] :: numD (i + 1) xs
/-- what a source hands out; keys: of a new dict alone -/
def srcD : IK → List D → Option (List D)
  | .val, [d] => itD d
  | .enm, [d] => (seqD d).map (numD 0)
  | .rng1, [.int n] => if rgOkB 0 n then some (rgD 0 n) else none
  | .rng2, [.int a, .int b] => if rgOkB a b then some (rgD a b) else none
  | _, _ => none
def srcP (k : IK) (ps : List Pv) (ds : List D) : Option (List D) := srcD k ds
def mutM (Γ : En) (i : Nat) (d : D) : En := { Γ with sl := Γ.sl.set i (some (d, true)) }

mutual
def asg (Γ : En) : MT → D → Option En
  | .name i, d => some { Γ with sl := Γ.sl.set i (some (d, false)) }
  | .tup ts, .tup ds => asgs Γ ts ds
  | _, _ => none
def asgs (Γ : En) : MTs → List D → Option En
  | .nil, [] => some Γ
  | .cons t ts, d :: ds => match asg Γ t d with
    | some Γ' => asgs Γ' ts ds
    | none => none
  | _, _ => none
end
def wipeE (sl : List (Option (D × Bool))) : List Nat → List (Option (D × Bool))
  | [] => sl
  | v :: vs => (wipeE sl vs).set v none
def backE (sl sl0 : List (Option (D × Bool))) : List Nat → List (Option (D × Bool))
  | [] => sl
  | v :: vs => (backE sl sl0 vs).set v ((sl0[v]?).getD none)

inductive Fl where
  | nx (Γ : En) | brk (Γ : En) | cnt (Γ : En) | ret (d : D) (fr : Bool) (w : Wd)

mutual
def tgIn (vs : Nat → Bool) : MT → Bool
  | .name i => vs i
  | .tup ts => tgsIn vs ts
def tgsIn (vs : Nat → Bool) : MTs → Bool
  | .nil => true
  | .cons t ts => tgIn vs t && tgsIn vs ts
end
/-- the slots of a comprehension's own names may be wiped -/
def noOwn (Γ : En) (vs : List Nat) : Bool := vs.all fun i => match Γ.sl[i]? with
  | some none => true
  | some (some (_, o)) => !o
  | none => false
/-- a comprehension's turns -/
def lcN (vs : List Nat) (asg : En → D → Option En) (tst : En → R (Bool × En)) (el : En → R (Pv × En)) : List D → List D → En → R (List D × En)
  | [], acc, Γ => .ok (acc, Γ)
  | x :: xs, acc, Γ => (R.of (asg Γ x)).bd fun Γ1 => (tst Γ1).bd fun (b, Γ2) => if b then (el Γ2).bd fun (p, Γ3) => (R.of (rd Γ3 p)).bd fun d => if acc.length < LIM then lcN vs asg tst el xs (acc ++ [d]) { fzp Γ3 p with sl := wipeE (fzp Γ3 p).sl vs } else .no
    else lcN vs asg tst el xs acc { Γ2 with sl := wipeE Γ2.sl vs }
def dcN (vs : List Nat) (asg : En → D → Option En) (tst : En → R (Bool × En)) (kx vx : En → R (Pv × En)) : List D → List Key → List D → En → R (List Key × List D × En)
  | [], ks, acc, Γ => .ok (ks, acc, Γ)
  | x :: xs, ks, acc, Γ => (R.of (asg Γ x)).bd fun Γ1 => (tst Γ1).bd fun (b, Γ2) => if b then (kx Γ2).bd fun (p, Γ3) => (vx Γ3).bd fun (r, Γ4) => (R.of (rd Γ4 p)).bd fun d => (R.of (keyD d)).bd fun k => (R.of (rd Γ4 r)).bd fun v => if acc.length < LIM then
      (if memK k ks = true then dcN vs asg tst kx vx xs ks (setK k v ks acc) { fzp Γ4 r with sl := wipeE (fzp Γ4 r).sl vs } else dcN vs asg tst kx vx xs (ks ++ [k]) (acc ++ [v]) { fzp Γ4 r with sl := wipeE (fzp Γ4 r).sl vs }) else .no
    else dcN vs asg tst kx vx xs ks acc { Γ2 with sl := wipeE Γ2.sl vs }
def allN (vs : List Nat) (w : Bool) (asg : En → D → Option En) (tst : En → R (Bool × En)) (el : En → R (Pv × En)) : List D → En → R (Bool × En)
  | [], Γ => .ok (w, Γ)
  | x :: xs, Γ => (R.of (asg Γ x)).bd fun Γ1 => (tst Γ1).bd fun (b, Γ2) => if b then (el Γ2).bd fun (p, Γ3) => match p with
      | .old (.bl c) => if c = w then allN vs w asg tst el xs { Γ3 with sl := wipeE Γ3.sl vs } else .ok (!w, { Γ3 with sl := wipeE Γ3.sl vs })
      | _ => .no
    else allN vs w asg tst el xs { Γ2 with sl := wipeE Γ2.sl vs }
def forN (asg : En → D → Option En) (body : En → R Fl) : List D → En → R Fl
  | [], Γ => .ok (.nx Γ)
  | x :: xs, Γ => (R.of (asg Γ x)).bd fun Γ1 => (body Γ1).bd fun f => match f with
    | .nx Γ2 => forN asg body xs Γ2
    | .cnt Γ2 => forN asg body xs Γ2
    | .brk Γ2 => .ok (.nx Γ2)
    | .ret d fr w => .ok (.ret d fr w)
def whN (tst : En → R (Bool × En)) (body : En → R Fl) : Nat → En → R Fl
  | 0, _ => .no
  | n + 1, Γ => (tst Γ).bd fun (b, Γ1) => if b then (body Γ1).bd fun f => match f with
      | .nx Γ2 => whN tst body n Γ2
      | .cnt Γ2 => whN tst body n Γ2
      | .brk Γ2 => .ok (.nx Γ2)
      | .ret d fr w => .ok (.ret d fr w)
    else .ok (.nx Γ1)
def mkP (r : D × Bool) : Pv := if r.2 && r.1.isC then .frs r.1 else .old r.1
abbrev Fn := List D → Wd → R (D × Bool × Wd)
/-- a call of a built-in's method -/
def mthE (o : Mth) (Γ : En) (p : Pv) (qs : List Pv) : R (Pv × En) := match o, p, qs with
  | .append, .vr i, [q] => match Γ.sl[i]?, rd Γ q with
    | some (some (.lst xs, true)), some d => if xs.length < LIM ∧ isVr q i = false then .ok (.old .non, mutM (fzp Γ q) i (.lst (xs ++ [d]))) else .no
    | _, _ => .no
  | .extend, .vr i, [q] => match Γ.sl[i]?, rd Γ q with
    | some (some (.lst xs, true)), some (.lst ys) => if xs.length + ys.length < LIM ∧ isVr q i = false then .ok (.old .non, mutM Γ i (.lst (xs ++ ys))) else .no
    | _, _ => .no
  | .popAt, .vr i, [q] => match Γ.sl[i]?, rd Γ q with
    | some (some (.lst xs, true)), some (.int k) => if 0 ≤ k ∧ k < LIM then (match xs[k.toNat]? with
      | some d => .ok (.old d, mutM Γ i (.lst (xs.eraseIdx k.toNat)))
      | none => .no) else .no
    | _, _ => .no
  | .get, p, [q] => match rd Γ p, rd Γ q with
    | some (.dk ks ds), some k => match keyD k with
      | some k => .ok (.old ((findK k ks ds).getD .non), Γ)
      | none => .no
    | some (.dt ks ds), some k => match tkeyD k with
      | some k => .ok (.old ((findK k ks ds).getD .non), Γ)
      | none => .no
    | _, _ => .no
  | _, _, _ => .no
/-- the receiver's kind -/
def ownD (Γ : En) : Pv → Bool
  | .frs d => dctD d
  | .vr i => match Γ.sl[i]? with
    | some (some (d, true)) => dctD d
    | _ => false
  | _ => false
def lstD : Option D → Bool
  | some (.lst _) => true
  | _ => false
def tyM (o : Mth) (Γ : En) (p : Pv) : Bool := match o with
  | .get => ownD Γ p
  | _ => lstD (rd Γ p)
mutual
def evE (F : Str → Fn) : ME → En → R (Pv × En)
  | .var i, Γ => match Γ.sl[i]? with
    | some (some (d, true)) => .ok (.vr i, Γ)
    | some (some (d, false)) => .ok (.old d, Γ)
    | _ => .no
  | .con v, Γ => if okV v then .ok (.old (ofV v), Γ) else .no
  | .glo _ v, Γ => if okV v then .ok (.old (ofV v), Γ) else .no
  | .tup es, Γ => (evEs F es Γ).bd fun (ps, Γ1) => (R.of (rds Γ1 ps)).bd fun ds => if ds.length < LIM then .ok (.old (.tup ds), fzps Γ1 ps) else .no
  | .lst es, Γ => (evEs F es Γ).bd fun (ps, Γ1) => (R.of (rds Γ1 ps)).bd fun ds => if ds.length < LIM then .ok (.frs (.lst ds), fzps Γ1 ps) else .no
  | .ix a b, Γ => (evE F a Γ).bd fun (p, Γ1) => (evE F b Γ1).bd fun (q, Γ2) => (R.of (rd Γ2 p)).bd fun d => (R.of (rd Γ2 q)).bd fun e => (R.of (ixD d e)).bd fun r => .ok (.old r, Γ2)
  | .slc a lo hi, Γ => (evE F a Γ).st.bd fun (p, Γ1) => (evO F lo Γ1).st.bd fun (l, Γ2) => (evO F hi Γ2).st.bd fun (h, Γ3) => (R.of (rd Γ3 p)).bd fun d => (R.of (cutD d l h)).bd fun r => .ok (mkP r, Γ3)
  | .op o a b, Γ => (evE F a Γ).bd fun (p, Γ1) => (evE F b Γ1).bd fun (q, Γ2) => (R.of (rd Γ2 p)).bd fun d => (R.of (rd Γ2 q)).bd fun e => (R.of (opD o d e)).bd fun r => .ok (mkP r, Γ2)
  | .neg a, Γ => (evE F a Γ).st.bd fun (p, Γ1) => match p with
    | .old (.int i) => .ok (.old (.int (-i)), Γ1)
    | _ => .no
  | .cmp o a b, Γ => (evE F a Γ).bd fun (p, Γ1) => (evE F b Γ1).bd fun (q, Γ2) => (R.of (rd Γ2 p)).bd fun d => (R.of (rd Γ2 q)).bd fun e => (R.of (cmD o d e)).bd fun c => .ok (.old (.bl c), Γ2)
  | .isn w a, Γ => (evE F a Γ).bd fun (p, Γ1) => (R.of (rd Γ1 p)).bd fun d => .ok (.old (.bl (if w then nonD d else !nonD d)), Γ1)
  | .chn o o2 a b c, Γ => (evE F a Γ).st.bd fun (p, Γ1) => (evE F b Γ1).st.bd fun (q, Γ2) => (R.of (rd Γ2 p)).bd fun d => (R.of (rd Γ2 q)).bd fun e => (R.of (cmD o d e)).bd fun k => if k then
      (evE F c Γ2).st.bd fun (r, Γ3) => (R.of (rd Γ3 q)).bd fun e => (R.of (rd Γ3 r)).bd fun f => (R.of (cmD o2 e f)).bd fun k => .ok (.old (.bl k), Γ3) else .ok (.old (.bl false), Γ2)
  | .bop w e es, Γ => (evE F e Γ).bd fun (p, Γ1) => evB F w es p Γ1
  | .not a, Γ => (evE F a Γ).bd fun (p, Γ1) => match p with
    | .old (.bl c) => .ok (.old (.bl (!c)), Γ1)
    | _ => .no
  | .ife c a b, Γ => (evC F c Γ).bd fun (t, Γ1) => if t then evE F a Γ1 else evE F b Γ1
  | .call f es, Γ => (evEs F es Γ).bd fun (ps, Γ1) => (R.of (rds Γ1 ps)).bd fun ds => (F f ds Γ1.w).bd fun (d, fr, w) =>
      .ok (mkP (d, fr), { (if d.flat && (Γ1.w.isSome == w.isSome) && noDct Γ1 then Γ1 else fzps Γ1 ps) with w := w })
  | .bfn o a, Γ => (evE F a Γ).bd fun (p, Γ1) => (R.of (rd Γ1 p)).bd fun d => (R.of (bfD o d)).bd fun r => .ok (mkP r, Γ1)
  | .isi T a, Γ => (evE F a Γ).bd fun (p, Γ1) => (R.of (rd Γ1 p)).bd fun d => (R.of (isiD T d)).bd fun c => .ok (.old (.bl c), Γ1)
  | .lrg w k es, Γ => (evEs F es Γ).st.bd fun (ps, Γ1) => (R.of (rds Γ1 ps)).bd fun ds => (R.of (srcD k ds)).bd fun xs => if (k matches .val) || (k matches .enm) then .no else .ok (if w then .frs (.lst xs) else .old (.tup xs), Γ1)
  | .mth o r es, Γ => (evE F r Γ).bd fun (p, Γ1) => if tyM o Γ1 p then (evEs F es Γ1).bd fun (qs, Γ2) => mthE o Γ2 p qs else .no
  | .lc vs t k es ifs el, Γ => (evEs F es Γ).st.bd fun (ps, Γ1) => (R.of (rds Γ1 ps)).bd fun ds => (R.of (srcP k ps ds)).bd fun xs =>
      if noOwn (fzps Γ1 ps) vs && tgIn (fun i => vs.contains i) t then (lcN vs (fun Γ d => asg Γ t d) (fun Γ => evI F ifs Γ) (fun Γ => evE F el Γ) xs [] { fzps Γ1 ps with sl := wipeE (fzps Γ1 ps).sl vs }).st.bd fun (acc, Γ2) => .ok (.frs (.lst acc), { Γ2 with sl := backE Γ2.sl (fzps Γ1 ps).sl vs }) else .no
  | .gen w vs t k es ifs el, Γ => (evEs F es Γ).st.bd fun (ps, Γ1) => (R.of (rds Γ1 ps)).bd fun ds => (R.of (srcP k ps ds)).bd fun xs =>
      if noOwn (fzps Γ1 ps) vs && tgIn (fun i => vs.contains i) t then (allN vs w (fun Γ d => asg Γ t d) (fun Γ => evI F ifs Γ) (fun Γ => evE F el Γ) xs { fzps Γ1 ps with sl := wipeE (fzps Γ1 ps).sl vs }).st.bd fun (b, Γ2) => .ok (.old (.bl b), { Γ2 with sl := backE Γ2.sl (fzps Γ1 ps).sl vs }) else .no
  | .dk0 t, Γ => .ok (if t then .frs (.dt [] []) else .frs (.dk [] []), Γ)
  | .dk1 t k v, Γ => (evE F k Γ).st.bd fun (p, Γ1) => (evE F v Γ1).st.bd fun (q, Γ2) => (R.of (rd Γ2 p)).bd fun d => (R.of (rd Γ2 q)).bd fun e =>
      if t then (R.of (tkeyD d)).bd fun κ => .ok (.frs (.dt [κ] [e]), fzp Γ2 q) else (R.of (keyD d)).bd fun κ => .ok (.frs (.dk [κ] [e]), fzp Γ2 q)
  | .bf2 w a b, Γ => (evE F a Γ).st.bd fun (p, Γ1) => (evE F b Γ1).st.bd fun (q, Γ2) => match p, q with
    | .old (.int i), .old (.int j) => .ok (.old (.int (if w then (if j > i then j else i) else (if j < i then j else i))), Γ2)
    | _, _ => .no
  | .dc vs t k es ifs kx vx, Γ => (evEs F es Γ).st.bd fun (ps, Γ1) => (R.of (rds Γ1 ps)).bd fun ds => (R.of (srcP k ps ds)).bd fun xs =>
      if noOwn (fzps Γ1 ps) vs && tgIn (fun i => vs.contains i) t then (dcN vs (fun Γ d => asg Γ t d) (fun Γ => evI F ifs Γ) (fun Γ => evE F kx Γ) (fun Γ => evE F vx Γ) xs [] [] { fzps Γ1 ps with sl := wipeE (fzps Γ1 ps).sl vs }).st.bd fun (ks, acc, Γ2) => .ok (.frs (.dk ks acc), { Γ2 with sl := backE Γ2.sl (fzps Γ1 ps).sl vs }) else .no
  | .bad, Γ => .no
def evB (F : Str → Fn) (w : Bool) : MEs → Pv → En → R (Pv × En)
  | .nil, p, Γ => .ok (p, Γ)
  | .cons e es, p, Γ => match p with
    | .old (.bl c) => if c = w then (evE F e Γ).bd fun (q, Γ1) => evB F w es q Γ1 else .ok (.old (.bl (!w)), Γ)
    | _ => .no
def evEs (F : Str → Fn) : MEs → En → R (List Pv × En)
  | .nil, Γ => .ok ([], Γ)
  | .cons e es, Γ => (evE F e Γ).bd fun (p, Γ1) => (evEs F es Γ1).bd fun (ps, Γ2) => .ok (p :: ps, Γ2)
def evO (F : Str → Fn) : MO → En → R (Option Int × En)
  | .none, Γ => .ok (none, Γ)
  | .some e, Γ => (evE F e Γ).bd fun (p, Γ1) => match p with
    | .old (.int i) => .ok (some i, Γ1)
    | _ => .no
def evI (F : Str → Fn) : MI → En → R (Bool × En)
  | .none, Γ => .ok (true, Γ)
  | .some c, Γ => evC F c Γ
def evC (F : Str → Fn) : MC → En → R (Bool × En)
  | .tv e, Γ => (evE F e Γ).bd fun (p, Γ1) => (R.of (rd Γ1 p)).bd fun d => (R.of (truD d)).bd fun b => .ok (b, Γ1)
  | .cmp o a b, Γ => (evE F a Γ).bd fun (p, Γ1) => (evE F b Γ1).bd fun (q, Γ2) => (R.of (rd Γ2 p)).bd fun d => (R.of (rd Γ2 q)).bd fun e => (R.of (cmD o d e)).bd fun c => .ok (c, Γ2)
  | .isn w a, Γ => (evE F a Γ).bd fun (p, Γ1) => (R.of (rd Γ1 p)).bd fun d => .ok ((if w then nonD d else !nonD d), Γ1)
  | .chn o o2 a b c, Γ => (evE F a Γ).st.bd fun (p, Γ1) => (evE F b Γ1).st.bd fun (q, Γ2) => (R.of (rd Γ2 p)).bd fun d => (R.of (rd Γ2 q)).bd fun e => (R.of (cmD o d e)).bd fun k => if k then
      (evE F c Γ2).st.bd fun (r, Γ3) => (R.of (rd Γ3 q)).bd fun e => (R.of (rd Γ3 r)).bd fun f => (R.of (cmD o2 e f)).bd fun k => .ok (k, Γ3) else .ok (false, Γ2)
  | .bop w c cs, Γ => (evC F c Γ).bd fun (b, Γ1) => evCB F w cs b Γ1
  | .not c, Γ => (evC F c Γ).bd fun (b, Γ1) => .ok (!b, Γ1)
def evCB (F : Str → Fn) (w : Bool) : MCs → Bool → En → R (Bool × En)
  | .nil, b, Γ => .ok (b, Γ)
  | .cons c cs, b, Γ => if b = w then (evC F c Γ).bd fun (b', Γ1) => evCB F w cs b' Γ1 else .ok (!w, Γ)
end
mutual
def evHe (x : Ex) : MHe → Option D
  | .fld f => if f = x.fld && okV x.arg then some (ofV x.arg) else none
  | .con v => if okV v then some (ofV v) else none
  | .tup es => match evHes x es with
    | some ds => if ds.length < LIM && D.flats ds then some (.tup ds) else none
    | none => none
  | .lst es => match evHes x es with
    | some ds => if ds.length < LIM && D.flats ds then some (.lst ds) else none
    | none => none
def evHes (x : Ex) : MHes → Option (List D)
  | .nil => some []
  | .cons e es => match evHe x e, evHes x es with
    | some d, some ds => some (d :: ds)
    | _, _ => none
end
def evH (x : Ex) : MHs → Option D
  | .ret e => evHe x e
  | .ite cn a _ => if x.cls = cn then evHe x a else none
def vOf : D → Option V
  | .non => some .non | .bl b => some (.bl b) | .int i => some (.int i) | .str x => some (.str x)
  | _ => none
def FUEL : Nat := 1000000
def subE (Γ : En) (p q r : Pv) : R En := match p with
  | .vr i => match Γ.sl[i]?, rd Γ q, rd Γ r with
    | some (some (.lst xs, true)), some (.int k), some v => if 0 ≤ k ∧ k < xs.length ∧ isVr r i = false then .ok (mutM (fzp Γ r) i (.lst (xs.set k.toNat v))) else .no
    | some (some (.dk ks ds, true)), some k, some v => match keyD k with
      | some k => if ds.length < LIM ∧ isVr r i = false then (if memK k ks = true then .ok (mutM (fzp Γ r) i (.dk ks (setK k v ks ds))) else .ok (mutM (fzp Γ r) i (.dk (ks ++ [k]) (ds ++ [v])))) else .no
      | none => .no
    | some (some (.dt ks ds, true)), some k, some v => match tkeyD k with
      | some k => if ds.length < LIM ∧ isVr r i = false then (if memK k ks = true then .ok (mutM (fzp Γ r) i (.dt ks (setK k v ks ds))) else .ok (mutM (fzp Γ r) i (.dt (ks ++ [k]) (ds ++ [v])))) else .no
      | none => .no
    | _, _, _ => .no
  | _ => .no
mutual
def evS (F : Str → Fn) : MS → En → R Fl
  | .set i e, Γ => (evE F e Γ).bd fun (p, Γ1) => match p with
    | .old d => .ok (.nx { Γ1 with sl := Γ1.sl.set i (some (d, false)) })
    | .frs d => .ok (.nx { Γ1 with sl := Γ1.sl.set i (some (d, true)) })
    | .vr j => (R.of (rd Γ1 (.vr j))).bd fun d => .ok (.nx { fzn Γ1 j with sl := (fzn Γ1 j).sl.set i (some (d, false)) })
  | .unp t e, Γ => (evE F e Γ).bd fun (p, Γ1) => (R.of (rd Γ1 p)).bd fun d => (R.of (asg (fzp Γ1 p) t d)).bd fun Γ2 => .ok (.nx Γ2)
  | .sub o i v, Γ => (evE F v Γ).bd fun (r, Γ1) => (evE F o Γ1).st.bd fun (p, Γ2) => (evE F i Γ2).st.bd fun (q, Γ3) => (subE Γ3 p q r).bd fun Γ4 => .ok (.nx Γ4)
  | .ex e, Γ => (evE F e Γ).bd fun (p, Γ1) => .ok (.nx Γ1)
  | .ret e, Γ => (evE F e Γ).bd fun (p, Γ1) => match p with
    | .old d => .ok (.ret d false Γ1.w)
    | .frs d => .ok (.ret d true Γ1.w)
    | .vr j => match Γ1.sl[j]? with
      | some (some (d, o)) => .ok (.ret d o Γ1.w)
      | _ => .no
  | .retn, Γ => .ok (.ret .non false Γ.w)
  | .ite c a b, Γ => (evC F c Γ).bd fun (t, Γ1) => if t then evSs F a Γ1 else evSs F b Γ1
  | .whl c b, Γ => whN (fun Γ => (evC F c Γ).st) (fun Γ => evSs F b Γ) FUEL Γ
  | .fr t k es b, Γ => (evEs F es Γ).st.bd fun (ps, Γ1) => (R.of (rds Γ1 ps)).bd fun ds => (R.of (srcP k ps ds)).bd fun xs => forN (fun Γ d => asg Γ t d) (fun Γ => evSs F b Γ) xs (fzps Γ1 ps)
  | .pass, Γ => .ok (.nx Γ)
  | .brk, Γ => .ok (.brk Γ)
  | .cnt, Γ => .ok (.cnt Γ)
  | .nev, Γ => .no
  | .rs c fld e, Γ => (evE F e Γ).bd fun (p, Γ1) => (R.of (rd Γ1 p)).bd fun d => (R.of (vOf d)).bd fun v => .err ⟨c, fld, v⟩ Γ1.w
  | .trr b c cs ns i h, Γ => match evSs F b Γ with
    | .ok fl => .ok fl
    | .no => .no
    | .err x w => if mem x.cls cs && decide (i < Γ.sl.length) then (R.of (evH x h)).bd fun d => .ok (.ret d (d.isC) w) else if mem x.cls ns && !mem x.cls cs then .err x w else .no
def evSs (F : Str → Fn) : MSs → En → R Fl
  | .nil, Γ => .ok (.nx Γ)
  | .cons s r, Γ => (evS F s Γ).bd fun f => match f with
    | .nx Γ1 => evSs F r Γ1
    | .brk Γ1 => .ok (.brk Γ1)
    | .cnt Γ1 => .ok (.cnt Γ1)
    | .ret d fr w => .ok (.ret d fr w)
end
/-- a def: its slots, its body -/
structure Df where
  ar : Nat
  n : Nat
  body : MSs
def runD (F : Str → Fn) (f : Df) : Fn := fun ds w => if ds.length ≠ f.ar then .no else (evSs F f.body { sl := ds.map (fun d => some (d, false)) ++ List.replicate (f.n - ds.length) none, w := w }).bd fun fl => match fl with
  | .ret d fr w => .ok (d, fr, w)
  | .nx Γ => .ok (.non, false, Γ.w)
  | _ => .no
end Ux

namespace Ux
open PySem PySem.Spec PyProof.Rows L2 GxR
section
variable {K : PySem.W.Frag} {tabs : List Addr} {b : B0} {g g' : Gh} {Γ Γ' : En} {σ : L2.St} {H H' : Hp}

theorem Rel.mutS (r : Rel K tabs b g Γ σ H) {a : Addr} (h : Sof g Γ σ a) : ¬ g.fz a ∧ ∃ o, H a = some o ∧ MutO o := by
  rcases h with ⟨i, d, h1, h2⟩ | ⟨L, h⟩
  · obtain ⟨a', e, p⟩ := r.own i d h1
    rw [h2] at e
    cases e
    exact ⟨p.nf, p.own.mut⟩
  · have s := r.str
    cases hw : Γ.w with
    | none =>
      rw [hw] at s
      have s : g.sa = none := s
      rw [h] at s; cases s
    | some st =>
      rw [hw] at s
      obtain ⟨a', L', vs, e, n, e2, _⟩ := s
      rw [h] at e
      cases e
      exact ⟨n, _, e2, trivial⟩
/-- the steps that an expression may take -/
structure Post (K : PySem.W.Frag) (tabs : List Addr) (b : B0) (g : Gh) (Γ : En) (σ : L2.St) (H : Hp) (g' : Gh) (Γ' : En) (H' : Hp) : Prop where
  le : g.Le g'
  rel : Rel K tabs b g' Γ' σ H'
  kp : Keep (Sof g Γ σ) g'.fz H H'
  ow : ∀ (i : Nat) (d : D), Γ'.sl[i]? = some (some (d, true)) → ∃ d0, Γ.sl[i]? = some (some (d0, true))
  sh : ∀ (i : Nat) q, Γ.sl[i]? = some (some q) → ∃ q', Γ'.sl[i]? = some (some q')
  sn : ∀ p, g'.sa = some p → g.sa = some p ∨ H p.1 = none
  dm : ∀ a, H a ≠ none → H' a ≠ none
  fn : ∀ a, g'.fz a → g.fz a ∨ (∃ (i : Nat) (d : D), Γ.sl[i]? = some (some (d, true)) ∧ σ[i]? = some (some (.ref a))) ∨ H a = none
theorem none_of {H H' : Hp} (dm : ∀ a, H a ≠ none → H' a ≠ none) {a : Addr} (h : H' a = none) : H a = none := by
  cases q : H a with
  | none => rfl
  | some o => exact absurd h (dm a (by rw [q]; simp))
theorem Post.refl (r : Rel K tabs b g Γ σ H) : Post K tabs b g Γ σ H g Γ H :=
  ⟨.refl g, r, .refl _ _ _, fun _ d h => ⟨d, h⟩, fun _ q h => ⟨q, h⟩, fun _ h => .inl h, fun _ h => h, fun _ h => .inl h⟩
theorem Post.trans {g1 g2 : Gh} {Γ1 Γ2 : En} {H1 H2 : Hp} (x : Post K tabs b g Γ σ H g1 Γ1 H1) (y : Post K tabs b g1 Γ1 σ H1 g2 Γ2 H2) : Post K tabs b g Γ σ H g2 Γ2 H2 where
  le := x.le.trans y.le
  rel := y.rel
  kp := x.kp.trans y.kp y.le.fz fun c o e h => by
    rcases h with ⟨i, d, h1, h2⟩ | ⟨L, h⟩
    · obtain ⟨d0, h0⟩ := x.ow i d h1
      exact .inl ⟨i, d0, h0, h2⟩
    · rcases x.sn _ h with h | h
      · exact .inr ⟨L, h⟩
      · rw [e] at h; cases h
  ow := fun i d h => by
    obtain ⟨d1, h1⟩ := y.ow i d h
    exact x.ow i d1 h1
  sh := fun i q h => by
    obtain ⟨q1, h1⟩ := x.sh i q h
    exact y.sh i q1 h1
  sn := fun p h => by
    rcases y.sn p h with h | h
    · exact x.sn p h
    · refine .inr ?_
      cases q : H p.1 with
      | none => rfl
      | some o => exact absurd h (x.dm _ (by rw [q]; simp))
  dm := fun a h => y.dm a (x.dm a h)
  fn := fun a h => by
    rcases y.fn a h with h | ⟨i, d, h1, h2⟩ | h
    · exact x.fn a h
    · obtain ⟨d0, h0⟩ := x.ow i d h1
      exact .inr (.inl ⟨i, d0, h0, h2⟩)
    · exact .inr (.inr (none_of x.dm h))
theorem AsW.ex {F : Prop} {o : HO} {u : Option HO} (h : AsW F o u) (n : ¬ DctO o) : u = some o := h.resolve_right fun z => n z.2.1
theorem Post.kf (x : Post K tabs b g Γ σ H g' Γ' H') (r : Rel K tabs b g Γ σ H) : ∀ c o, H c = some o → ¬ MutO o → (∀ ps, o ≠ .tbl ps) → H' c = some o := fun c o e n t => (x.kp c o e (fun s => by
  obtain ⟨_, o', e', m⟩ := r.mutS s
  rw [e] at e'
  cases e'
  exact n m) t).ex fun d => n d.mut
theorem Post.kz (x : Post K tabs b g Γ σ H g' Γ' H') (r : Rel K tabs b g Γ σ H) : ∀ c, g.fz c → ∀ o, H c = some o → MutO o → AsW True o (H' c) := fun c f o e m => (x.kp c o e (fun s => (r.mutS s).1 f) (fun ps z => by subst z; exact m)).imp id fun z => ⟨trivial, z.2⟩
theorem Post.rep (x : Post K tabs b g Γ σ H g' Γ' H') (r : Rel K tabs b g Γ σ H) {v : V} {d : D} (h : Rep K g H v d) : Rep K g' H' v d := Rep.move x.le (x.kf r) (x.kz r) h
theorem Post.reps (x : Post K tabs b g Γ σ H g' Γ' H') (r : Rel K tabs b g Γ σ H) {v : List V} {d : List D} (h : Reps K g H v d) : Reps K g' H' v d := Reps.move x.le (x.kf r) (x.kz r) h

/-! ### what an expression gives -/
def RepP (K : PySem.W.Frag) (b : B0) (H0 : Hp) (g : Gh) (Γ : En) (σ : L2.St) (H : Hp) (v : V) : Pv → Prop
  | .old d => Rep K g H v d
  | .frs d => ∃ a, v = .ref a ∧ H0 a = none ∧ PrivAt K b g H a d ∧ ∀ (i : Nat) (d' : D), Γ.sl[i]? = some (some (d', true)) → σ[i]? ≠ some (some (.ref a))
  | .vr i => (∃ q, Γ.sl[i]? = some (some q)) ∧ σ[i]? = some (some v)
/-- .. as an operand: a new object is frozen -/
def RepO (K : PySem.W.Frag) (g : Gh) (Γ : En) (σ : L2.St) (H : Hp) (v : V) : Pv → Prop
  | .old d => Rep K g H v d
  | .frs d => Rep K g H v d
  | .vr i => (∃ q, Γ.sl[i]? = some (some q)) ∧ σ[i]? = some (some v)
theorem RepO.step {v : V} {p : Pv} (h : RepO K g Γ σ H v p) (r : Rel K tabs b g Γ σ H) (x : Post K tabs b g Γ σ H g' Γ' H') : RepO K g' Γ' σ H' v p := by
  cases p with
  | old d => exact x.rep r h
  | frs d => exact x.rep r h
  | vr i =>
    obtain ⟨⟨q, h1⟩, h2⟩ := h
    exact ⟨x.sh i q h1, h2⟩
/-- one more address frozen -/
def Gh.ad (g : Gh) (a : Addr) : Gh := { g with fz := fun c => g.fz c ∨ c = a }
theorem Gh.le_ad (g : Gh) (a : Addr) : g.Le (g.ad a) := ⟨fun _ h => .inl h, fun _ h => h⟩
theorem StRel.ad {w : Wd} {a : Addr} (s : StRel K g H w) (ns : ∀ p, g.sa = some p → p.1 ≠ a) : StRel K (g.ad a) H w := by
  cases w with
  | none => exact s
  | some st =>
    obtain ⟨c, L, vs, e, n, h⟩ := s
    refine ⟨c, L, vs, e, fun z => ?_, h.1, .inl h.2.1, h.2.2⟩
    rcases z with z | z
    · exact n z
    · exact ns _ e z
theorem same1 (H : Hp) : ∀ c o, H c = some o → ¬ MutO o → (∀ ps, o ≠ .tbl ps) → H c = some o := fun _ _ h _ _ => h
theorem same2 (g : Gh) (H : Hp) : ∀ c, g.fz c → ∀ o, H c = some o → MutO o → AsW True o (H c) := fun _ _ _ h _ => .inl h
theorem PrivAt.ad {a c : Addr} {d : D} (p : PrivAt K b g H a d) (ne : a ≠ c) : PrivAt K b (g.ad c) H a d :=
  ⟨fun z => z.elim p.nf ne, p.ns, p.nb, p.own.move (g.le_ad c) (same1 H) (same2 g H) fun _ h => h⟩
theorem GRel.ad {w : Wd} {a : Addr} (r : GRel K tabs b g w H) (ns : ∀ p, g.sa = some p → p.1 ≠ a) (hn : H a ≠ none) (hb : b.H a = none) : GRel K tabs b (g.ad a) w H where
  le := r.le.trans (g.le_ad a)
  str := r.str.ad ns
  fzs := fun c h => by
    rcases h with h | h
    · exact r.fzs c h
    · rw [h]; exact hn
  tab := r.tab
  dom := r.dom
  kp := r.kp.mono (g.le_ad a).fz
  fn := fun c h => by
    rcases h with h | h
    · exact r.fn c h
    · rw [h]; exact .inr hb
  sn := r.sn
/-- freezing a private object that no slot owns -/
theorem Rel.ad {a : Addr} (r : Rel K tabs b g Γ σ H) (ns : ∀ p, g.sa = some p → p.1 ≠ a) (hn : H a ≠ none) (hb : b.H a = none) (no : ∀ (i : Nat) (d' : D), Γ.sl[i]? = some (some (d', true)) → σ[i]? ≠ some (some (.ref a))) : Rel K tabs b (g.ad a) Γ σ H where
  toGRel := r.toGRel.ad ns hn hb
  old := fun i d h => by
    obtain ⟨v, h1, h2⟩ := r.old i d h
    exact ⟨v, h1, Rep.move (g.le_ad a) (same1 H) (same2 g H) h2⟩
  own := fun i d h => by
    obtain ⟨c, h1, p⟩ := r.own i d h
    exact ⟨c, h1, p.ad fun z => no i d h (by rw [← z]; exact h1)⟩
  dis := r.dis
  len := r.len
theorem OwnAt.ne {a : Addr} {d : D} (h : OwnAt K g H a d) : H a ≠ none := by
  obtain ⟨o, e, _⟩ := h.mut
  rw [e]; simp
theorem RepP.freeze {H0 : Hp} {v : V} {p : Pv} (h : RepP K b H0 g Γ σ H v p) (r : Rel K tabs b g Γ σ H) : ∃ g', g.Le g' ∧ Rel K tabs b g' Γ σ H ∧ RepO K g' Γ σ H v p ∧ g'.sa = g.sa ∧ ∀ c, g'.fz c → g.fz c ∨ H0 c = none := by
  cases p with
  | old d => exact ⟨g, .refl g, r, h, rfl, fun _ h => .inl h⟩
  | vr i => exact ⟨g, .refl g, r, h, rfl, fun _ h => .inl h⟩
  | frs d =>
    obtain ⟨a, rfl, h0, p, no⟩ := h
    exact ⟨g.ad a, g.le_ad a, r.ad p.ns p.own.ne p.nb no, p.own.freeze (g.le_ad a) (.inr rfl), rfl, fun c h => h.imp id fun e => by rw [e]; exact h0⟩
/-- read: frozen, or a slot's own -/
def RepB (K : PySem.W.Frag) (g : Gh) (H : Hp) (v : V) (d : D) : Prop := Rep K g H v d ∨ ∃ a, v = .ref a ∧ OwnAt K g H a d
theorem RepO.read {v : V} {p : Pv} {d : D} (h : RepO K g Γ σ H v p) (r : Rel K tabs b g Γ σ H) (e : rd Γ p = some d) : RepB K g H v d := by
  cases p with
  | old d' => cases e; exact .inl h
  | frs d' => cases e; exact .inl h
  | vr i =>
    obtain ⟨⟨⟨d', o⟩, h1⟩, h2⟩ := h
    simp only [rd, h1, Option.some.injEq] at e
    subst e
    cases o with
    | false =>
      obtain ⟨v', e1, e2⟩ := r.old i _ h1
      rw [h2] at e1
      cases e1
      exact .inl e2
    | true =>
      obtain ⟨a, e1, p⟩ := r.own i _ h1
      rw [h2] at e1
      cases e1
      exact .inr ⟨a, rfl, p.own⟩
/-- a new object is laid -/
theorem upd_none {p : Addr} {o : HO} (hn : H p = none) {a : Addr} {u : HO} (e : H a = some u) : upd H p o a = some u := by rw [upd_ne (ne_of_none e hn)]; exact e
theorem Keep.alloc {S F : Addr → Prop} {p : Addr} {o : HO} (hn : H p = none) : Keep S F H (upd H p o) := fun a u e _ _ => .inl (upd_none hn e)
theorem StRel.alloc {w : Wd} {p : Addr} {o : HO} (s : StRel K g H w) (hn : H p = none) : StRel K g (upd H p o) w := by
  cases w with
  | none => exact s
  | some st =>
    obtain ⟨c, L, vs, e, n, e1, f, e2, e3⟩ := s
    exact ⟨c, L, vs, e, n, upd_none hn e1, f, upd_none hn e2, e3⟩
theorem GRel.alloc {w : Wd} {p : Addr} {o : HO} (r : GRel K tabs b g w H) (hn : H p = none) : GRel K tabs b g w (upd H p o) where
  le := r.le
  str := r.str.alloc hn
  fzs := fun c h => by
    have := r.fzs c h
    cases q : H c with
    | none => exact absurd q this
    | some u => rw [upd_none hn q]; simp
  tab := fun P h => by
    obtain ⟨ps, e, t⟩ := r.tab P h
    exact ⟨ps, upd_none hn e, t⟩
  dom := fun c h => by
    have := r.dom c h
    cases q : H c with
    | none => exact absurd q this
    | some u => rw [upd_none hn q]; simp
  kp := r.kp.trans (Keep.alloc (S := fun _ => False) (F := g.fz) hn) (fun _ z => z) fun _ _ _ z => z.elim
  fn := r.fn
  sn := r.sn
theorem Rep.alloc {p : Addr} {o : HO} (hn : H p = none) {v : V} {d : D} (h : Rep K g H v d) : Rep K g (upd H p o) v d := Rep.move (.refl g) (fun _ _ e _ _ => upd_none hn e) (fun _ _ _ e _ => .inl (upd_none hn e)) h
theorem Reps.alloc {p : Addr} {o : HO} (hn : H p = none) {v : List V} {d : List D} (h : Reps K g H v d) : Reps K g (upd H p o) v d := Reps.move (.refl g) (fun _ _ e _ _ => upd_none hn e) (fun _ _ _ e _ => .inl (upd_none hn e)) h
theorem Rel.alloc {p : Addr} {o : HO} (r : Rel K tabs b g Γ σ H) (hn : H p = none) : Rel K tabs b g Γ σ (upd H p o) where
  toGRel := r.toGRel.alloc hn
  old := fun i d h => by
    obtain ⟨v, h1, h2⟩ := r.old i d h
    exact ⟨v, h1, h2.alloc hn⟩
  own := fun i d h => by
    obtain ⟨c, h1, q⟩ := r.own i d h
    exact ⟨c, h1, q.nf, q.ns, q.nb, q.own.move (.refl g) (fun _ _ e _ _ => upd_none hn e) (fun _ _ _ e _ => .inl (upd_none hn e)) fun _ e => upd_none hn e⟩
  dis := r.dis
  len := r.len
theorem Post.alloc {p : Addr} {o : HO} (r : Rel K tabs b g Γ σ H) (hn : H p = none) : Post K tabs b g Γ σ H g Γ (upd H p o) :=
  ⟨.refl g, r.alloc hn, .alloc hn, fun _ d h => ⟨d, h⟩, fun _ q h => ⟨q, h⟩, fun _ h => .inl h, fun c h => by
    cases q : H c with
    | none => exact absurd q h
    | some u => rw [upd_none hn q]; simp, fun _ h => .inl h⟩
/-- a new private object -/
theorem Rel.priv {p : Addr} {o : HO} {d : D} (r : Rel K tabs b g Γ σ H) (hn : H p = none) (own : OwnAt K g (upd H p o) p d) : RepP K b H g Γ σ (upd H p o) (.ref p) (.frs d) := by
  refine ⟨p, rfl, hn, ⟨fun z => r.fzs p z hn, fun q e z => ?_, ?_, own⟩, fun i d' h e => ?_⟩
  · have s := r.str
    cases hw : Γ.w with
    | none =>
      rw [hw] at s
      have s : g.sa = none := s
      rw [e] at s; cases s
    | some st =>
      rw [hw] at s
      obtain ⟨a', L', vs, e', _, e2, _⟩ := s
      rw [e] at e'
      cases e'
      have z : a' = p := z
      rw [z, hn] at e2
      cases e2
  · cases q : b.H p with
    | none => rfl
    | some u => exact absurd hn (r.dom p (by rw [q]; simp))
  · obtain ⟨a, e1, q⟩ := r.own i d' h
    rw [e] at e1
    cases e1
    exact q.own.ne hn
/-- what is ours alone stays so -/
theorem RepP.step {H0 : Hp} {v : V} {p : Pv} (h : RepP K b H0 g Γ σ H v p) (r : Rel K tabs b g Γ σ H) (x : Post K tabs b g Γ σ H g' Γ' H') : RepP K b H0 g' Γ' σ H' v p := by
  cases p with
  | old d => exact x.rep r h
  | vr i =>
    obtain ⟨⟨q, h1⟩, h2⟩ := h
    exact ⟨x.sh i q h1, h2⟩
  | frs d =>
    obtain ⟨a, rfl, h0, p, no⟩ := h
    have ns : ¬ Sof g Γ σ a := fun z => by
      rcases z with ⟨i, d', h1, h2⟩ | ⟨L, h⟩
      · exact no i d' h1 h2
      · exact p.ns _ h rfl
    have nz : ¬ g'.fz a := fun z => by
      rcases x.fn a z with z | ⟨i, d', h1, h2⟩ | z
      · exact p.nf z
      · exact no i d' h1 h2
      · exact p.own.ne z
    refine ⟨a, rfl, h0, ⟨nz, fun q e z => ?_, p.nb, p.own.move x.le (x.kf r) (x.kz r) fun o e => ?_⟩, fun i d' h1 h2 => ?_⟩
    · rcases x.sn q e with e | e
      · exact p.ns q e z
      · rw [z] at e; exact p.own.ne e
    · refine (x.kp a o e ns fun ps z => ?_).resolve_right fun z => nz z.1
      obtain ⟨o', e', m⟩ := p.own.mut
      rw [e] at e'
      cases e'
      subst z
      exact m
    · obtain ⟨d0, h0⟩ := x.ow i d' h1
      exact no i d0 h0 h2
end
end Ux

namespace Ux
open PySem PySem.Spec PyProof.Rows L2 GxR

theorem R.bd_eq {α β : Type} {r : R α} {k : α → R β} {x : β} (h : r.bd k = .ok x) : ∃ a, r = .ok a ∧ k a = .ok x := by
  cases r with
  | ok a => exact ⟨a, rfl, h⟩
  | err e w => cases h
  | no => cases h
theorem R.st_eq {α : Type} {r : R α} {x : α} (h : r.st = .ok x) : r = .ok x := by
  cases r with
  | ok a => exact h
  | err e w => cases h
  | no => cases h
theorem R.bd_er {α β : Type} {r : R α} {k : α → R β} {x : Ex} {w : Wd} (h : r.bd k = .err x w) : r = .err x w ∨ ∃ a, r = .ok a ∧ k a = .err x w := by
  cases r with
  | ok a => exact .inr ⟨a, rfl, h⟩
  | err e w =>
    have h : (R.err e w : R β) = .err x _ := h
    cases h
    exact .inl rfl
  | no => cases h
theorem R.of_er {α β : Type} {o : Option α} {k : α → R β} {x : Ex} {w : Wd} (h : (R.of o).bd k = .err x w) : ∃ a, o = some a ∧ k a = .err x w := by
  cases o with
  | none => cases h
  | some a => exact ⟨a, rfl, h⟩
theorem R.st_er {α β : Type} {r : R α} {k : α → R β} {x : Ex} {w : Wd} (h : r.st.bd k = .err x w) : ∃ a, r = .ok a ∧ k a = .err x w := by
  cases r with
  | ok a => exact ⟨a, rfl, h⟩
  | err e w => cases h
  | no => cases h
theorem R.of_eq {α : Type} {o : Option α} {x : α} (h : R.of o = .ok x) : o = some x := by
  cases o with
  | none => cases h
  | some a => cases h; rfl

section
variable {K : PySem.W.Frag} {tabs : List Addr} {b : B0} {g g' : Gh} {Γ Γ' : En} {σ : L2.St} {H H' : Hp}
theorem RepB.int {v : V} {i : Int} (h : RepB K g H v (.int i)) : v = .int i := by
  rcases h with h | ⟨a, _, h⟩
  · cases h; rfl
  · exact h.elim
theorem RepB.bl {v : V} {i : Bool} (h : RepB K g H v (.bl i)) : v = .bl i := by
  rcases h with h | ⟨a, _, h⟩
  · cases h; rfl
  · exact h.elim
theorem RepB.non {v : V} (h : RepB K g H v .non) : v = .non := by
  rcases h with h | ⟨a, _, h⟩
  · cases h; rfl
  · exact h.elim
theorem RepB.str {v : V} {i : Str} (h : RepB K g H v (.str i)) : v = .str i := by
  rcases h with h | ⟨a, _, h⟩
  · cases h; rfl
  · exact h.elim
theorem RepB.tup {v : V} {ds : List D} (h : RepB K g H v (.tup ds)) : ∃ a vs, v = .ref a ∧ H a = some (.tup vs) ∧ Reps K g H vs ds := by
  rcases h with h | ⟨a, _, h⟩
  · cases h with
    | tup h1 h2 => exact ⟨_, _, rfl, h1, h2⟩
  · exact h.elim
theorem RepB.lst {v : V} {ds : List D} (h : RepB K g H v (.lst ds)) : ∃ a vs, v = .ref a ∧ H a = some (.lst vs) ∧ Reps K g H vs ds := by
  rcases h with h | ⟨a, e, vs, h⟩
  · cases h with
    | lst h1 h2 h3 => exact ⟨_, _, rfl, h2, h3⟩
  · exact ⟨a, vs, e, h⟩
theorem RepB.dk {v : V} {ks : List Key} {ds : List D} (h : RepB K g H v (.dk ks ds)) : ∃ a vs, v = .ref a ∧ Rd H a (.dK (ks.zip vs)) ∧ ks.length = vs.length ∧ Reps K g H vs ds := by
  rcases h with h | ⟨a, e, vs, h⟩
  · cases h with
    | dk h1 h2 h3 h4 => exact ⟨_, _, rfl, h2, h3, h4⟩
  · exact ⟨a, vs, e, .inl h.1, h.2⟩
theorem RepB.dt {v : V} {ks : List (List Key)} {ds : List D} (h : RepB K g H v (.dt ks ds)) : ∃ a vs, v = .ref a ∧ Rd H a (.dT (ks.zip vs)) ∧ ks.length = vs.length ∧ Reps K g H vs ds := by
  rcases h with h | ⟨a, e, vs, h⟩
  · cases h with
    | dt h1 h2 h3 h4 => exact ⟨_, _, rfl, h2, h3, h4⟩
  · exact ⟨a, vs, e, .inl h.1, h.2⟩

/-! ### freezing slots -/
theorem Post.still {g' : Gh} {Γ' : En} (l : g.Le g') (r : Rel K tabs b g' Γ' σ H) (hs : g'.sa = g.sa) (ow : ∀ (i : Nat) (d : D), Γ'.sl[i]? = some (some (d, true)) → ∃ d0, Γ.sl[i]? = some (some (d0, true)))
    (sh : ∀ (i : Nat) q, Γ.sl[i]? = some (some q) → ∃ q', Γ'.sl[i]? = some (some q')) (fn : ∀ a, g'.fz a → g.fz a ∨ (∃ (i : Nat) (d : D), Γ.sl[i]? = some (some (d, true)) ∧ σ[i]? = some (some (.ref a))) ∨ H a = none) : Post K tabs b g Γ σ H g' Γ' H :=
  ⟨l, r, .refl _ _ _, ow, sh, fun p h => .inl (by rw [← hs]; exact h), fun _ h => h, fn⟩
theorem fzn_get (Γ : En) (i j : Nat) : (fzn Γ i).sl[j]? = Γ.sl[j]? ∨ (j = i ∧ ∃ d o, Γ.sl[i]? = some (some (d, o)) ∧ (fzn Γ i).sl[j]? = some (some (d, false))) := by
  unfold fzn
  split
  · rename_i d o h
    by_cases e : j = i
    · subst e
      refine .inr ⟨rfl, d, o, h, ?_⟩
      have hl : j < Γ.sl.length := by
        rcases Nat.lt_or_ge j Γ.sl.length with z | z
        · exact z
        · rw [List.getElem?_eq_none z] at h; cases h
      simp [hl]
    · left
      show (Γ.sl.set i _)[j]? = _
      rw [List.getElem?_set_ne (Ne.symm e)]
  · exact .inl rfl
theorem fzn_w (Γ : En) (i : Nat) : (fzn Γ i).w = Γ.w := by unfold fzn; split <;> rfl
theorem fzn_len (Γ : En) (i : Nat) : (fzn Γ i).sl.length = Γ.sl.length := by unfold fzn; split <;> simp
theorem rd_fzn (Γ : En) (i : Nat) (q : Pv) : rd (fzn Γ i) q = rd Γ q := by
  cases q with
  | old d => rfl
  | frs d => rfl
  | vr j =>
    rcases fzn_get Γ i j with h | ⟨rfl, d, o, h1, h2⟩
    · simp only [rd, h]
    · simp only [rd, h1, h2]
theorem rd_fzp (Γ : En) (p q : Pv) : rd (fzp Γ p) q = rd Γ q := by
  cases p <;> first | rfl | exact rd_fzn Γ _ q
theorem Rel.fzn {i : Nat} {d : D} {o : Bool} {v : V} (r : Rel K tabs b g Γ σ H) (h : Γ.sl[i]? = some (some (d, o))) (hv : σ[i]? = some (some v)) :
    ∃ g', Post K tabs b g Γ σ H g' (fzn Γ i) H ∧ Rep K g' H v d := by
  have hl : i < Γ.sl.length := by
    rcases Nat.lt_or_ge i Γ.sl.length with z | z
    · exact z
    · rw [List.getElem?_eq_none z] at h; cases h
  have ow : ∀ (j : Nat) (d : D), (Ux.fzn Γ i).sl[j]? = some (some (d, true)) → j ≠ i ∧ Γ.sl[j]? = some (some (d, true)) := fun j d' e => by
    rcases fzn_get Γ i j with z | ⟨_, d0, o0, h1, h2⟩
    · refine ⟨fun q => ?_, by rw [← z]; exact e⟩
      subst q
      rw [z, h] at e
      cases e
      have : (Ux.fzn Γ j).sl[j]? = some (some (d, false)) := by
        unfold Ux.fzn
        rw [h]
        simp [hl]
      rw [z, h] at this
      cases this
    · rw [h2] at e; cases e
  have sh : ∀ (j : Nat) q, Γ.sl[j]? = some (some q) → ∃ q', (Ux.fzn Γ i).sl[j]? = some (some q') := fun j q e => by
    rcases fzn_get Γ i j with z | ⟨_, d0, o0, h1, h2⟩
    · exact ⟨q, by rw [z]; exact e⟩
    · exact ⟨_, h2⟩
  have go : ∀ g', g.Le g' → g'.sa = g.sa → GRel K tabs b g' Γ.w H → Rep K g' H v d → (∀ (j : Nat) (d : D), Γ.sl[j]? = some (some (d, true)) → j ≠ i → ∃ a, σ[j]? = some (some (.ref a)) ∧ PrivAt K b g' H a d) → Rel K tabs b g' (Ux.fzn Γ i) σ H := fun g' l hs gr rp ow' => {
    toGRel := by rw [fzn_w]; exact gr
    old := fun j d' e => by
      rcases fzn_get Γ i j with z | ⟨rfl, d0, o0, h1, h2⟩
      · rw [z] at e
        obtain ⟨v', e1, e2⟩ := r.old j d' e
        exact ⟨v', e1, Rep.move l (same1 H) (same2 g H) e2⟩
      · rw [h2] at e
        cases e
        rw [h] at h1
        cases h1
        exact ⟨v, hv, rp⟩
    own := fun j d' e => by
      obtain ⟨ne, e⟩ := ow j d' e
      exact ow' j d' e ne
    dis := fun j k dj dk a ne e1 e2 => r.dis j k dj dk a ne (ow j dj e1).2 (ow k dk e2).2
    len := by rw [fzn_len]; exact r.len }
  cases o with
  | false =>
    obtain ⟨v', e1, e2⟩ := r.old i d h
    rw [hv] at e1
    cases e1
    exact ⟨g, Post.still (.refl g) (go g (.refl g) rfl r.toGRel e2 fun j d' e _ => r.own j d' e) rfl (fun j d' e => ⟨d', (ow j d' e).2⟩) sh fun _ h => .inl h, e2⟩
  | true =>
    obtain ⟨a, e1, p⟩ := r.own i d h
    rw [hv] at e1
    cases e1
    have rp : Rep K (g.ad a) H (.ref a) d := p.own.freeze (g.le_ad a) (.inr rfl)
    refine ⟨g.ad a, Post.still (g.le_ad a) (go (g.ad a) (g.le_ad a) rfl (r.toGRel.ad p.ns p.own.ne p.nb) rp fun j d' e ne => ?_) rfl (fun j d' e => ⟨d', (ow j d' e).2⟩) sh fun c z => z.imp id fun z => .inl ⟨i, d, h, by rw [z]; exact hv⟩, rp⟩
    obtain ⟨c, e1, q⟩ := r.own j d' e
    refine ⟨c, e1, q.ad fun z => ?_⟩
    rw [z] at e1
    exact r.dis j i d' d a ne e h e1 hv
theorem RepO.fz {v : V} {p : Pv} {d : D} (h : RepO K g Γ σ H v p) (r : Rel K tabs b g Γ σ H) (e : rd Γ p = some d) : ∃ g', Post K tabs b g Γ σ H g' (fzp Γ p) H ∧ Rep K g' H v d := by
  cases p with
  | old d' => cases e; exact ⟨g, .refl r, h⟩
  | frs d' => cases e; exact ⟨g, .refl r, h⟩
  | vr i =>
    obtain ⟨⟨⟨d', o⟩, h1⟩, h2⟩ := h
    simp only [rd, h1, Option.some.injEq] at e
    subst e
    exact r.fzn h1 h2
def RepOs (K : PySem.W.Frag) (g : Gh) (Γ : En) (σ : L2.St) (H : Hp) : List V → List Pv → Prop
  | [], [] => True
  | v :: vs, p :: ps => RepO K g Γ σ H v p ∧ RepOs K g Γ σ H vs ps
  | _, _ => False
theorem RepOs.step : ∀ {vs : List V} {ps : List Pv}, RepOs K g Γ σ H vs ps → Rel K tabs b g Γ σ H → Post K tabs b g Γ σ H g' Γ' H' → RepOs K g' Γ' σ H' vs ps
  | [], [], _, _, _ => trivial
  | v :: vs, p :: ps, h, r, x => ⟨h.1.step r x, RepOs.step h.2 r x⟩
theorem rds_cons {p : Pv} {ps : List Pv} {ds : List D} (h : rds Γ (p :: ps) = some ds) : ∃ d r, ds = d :: r ∧ rd Γ p = some d ∧ rds Γ ps = some r := by
  unfold rds at h
  split at h
  · rename_i d r h1 h2
    cases h
    exact ⟨d, r, rfl, h1, h2⟩
  · cases h
theorem rds_eq {Γ' : En} (h : ∀ q, rd Γ' q = rd Γ q) : ∀ ps, rds Γ' ps = rds Γ ps
  | [] => rfl
  | p :: ps => by unfold rds; rw [h p, rds_eq h ps]
theorem RepOs.fz : ∀ {vs : List V} {ps : List Pv} {ds : List D} {g : Gh} {Γ : En}, RepOs K g Γ σ H vs ps → Rel K tabs b g Γ σ H → rds Γ ps = some ds → ∃ g', Post K tabs b g Γ σ H g' (fzps Γ ps) H ∧ Reps K g' H vs ds
  | [], [], ds, g, Γ, _, r, e => by
    cases e
    exact ⟨g, .refl r, .nil⟩
  | v :: vs, p :: ps, ds, g, Γ, h, r, e => by
    obtain ⟨d, ds', rfl, e1, e2⟩ := rds_cons e
    obtain ⟨g1, x1, r1⟩ := h.1.fz r e1
    obtain ⟨g2, x2, r2⟩ := RepOs.fz (h.2.step r x1) x1.rel (by rw [rds_eq (rd_fzp Γ p)]; exact e2)
    exact ⟨g2, x1.trans x2, .cons (x2.rep x1.rel r1) r2⟩
/-- read without freezing -/
def RepBs (K : PySem.W.Frag) (g : Gh) (H : Hp) : List V → List D → Prop
  | [], [] => True
  | v :: vs, d :: ds => RepB K g H v d ∧ RepBs K g H vs ds
  | _, _ => False
theorem RepOs.read : ∀ {vs : List V} {ps : List Pv} {ds : List D}, RepOs K g Γ σ H vs ps → Rel K tabs b g Γ σ H → rds Γ ps = some ds → RepBs K g H vs ds
  | [], [], ds, _, r, e => by cases e; trivial
  | v :: vs, p :: ps, ds, h, r, e => by
    obtain ⟨d, ds', rfl, e1, e2⟩ := rds_cons e
    exact ⟨h.1.read r e1, RepOs.read h.2 r e2⟩
end

/-! ### soundness -/
def SE (K : PySem.W.Frag) (tabs : List Addr) (t : TE) (r : En → R (Pv × En)) : Prop := ∀ (b : B0) (g : Gh) (Γ : En) (σ : L2.St) (H : Hp) (Q : VK) (p : Pv) (Γ' : En), r Γ = .ok (p, Γ') → Rel K tabs b g Γ σ H →
  (∀ v g' H', Post K tabs b g Γ σ H g' Γ' H' → RepP K b H g' Γ' σ H' v p → Q v H') → t σ H Q
def SA (K : PySem.W.Frag) (tabs : List Addr) (t : TA) (r : En → R (List Pv × En)) : Prop := ∀ (b : B0) (g : Gh) (Γ : En) (σ : L2.St) (H : Hp) (Q : List V → Hp → Prop) (ps : List Pv) (Γ' : En), r Γ = .ok (ps, Γ') → Rel K tabs b g Γ σ H →
  (∀ vs g' H', Post K tabs b g Γ σ H g' Γ' H' → RepOs K g' Γ' σ H' vs ps → Q vs H') → t σ H Q
def SC (K : PySem.W.Frag) (tabs : List Addr) (t : TT) (r : En → R (Bool × En)) : Prop := ∀ (b : B0) (g : Gh) (Γ : En) (σ : L2.St) (H : Hp) (Q : Bool → Hp → Prop) (c : Bool) (Γ' : En), r Γ = .ok (c, Γ') → Rel K tabs b g Γ σ H →
  (∀ g' H', Post K tabs b g Γ σ H g' Γ' H' → Q c H') → t σ H Q
def SO (K : PySem.W.Frag) (tabs : List Addr) (t : TO) (r : En → R (Option Int × En)) : Prop := ∀ (b : B0) (g : Gh) (Γ : En) (σ : L2.St) (H : Hp) (Q : Option Int → Hp → Prop) (c : Option Int) (Γ' : En), r Γ = .ok (c, Γ') → Rel K tabs b g Γ σ H →
  (∀ g' H', Post K tabs b g Γ σ H g' Γ' H' → Q c H') → t σ H Q
section
variable {K : PySem.W.Frag} {tabs : List Addr} {b : B0} {g g' : Gh} {Γ Γ' : En} {σ : L2.St} {H H' : Hp}
/-- as an operand -/
theorem SE.o {t : TE} {r : En → R (Pv × En)} (h : SE K tabs t r) {Q : VK} {p : Pv} (e : r Γ = .ok (p, Γ')) (R0 : Rel K tabs b g Γ σ H)
    (q : ∀ v g' H', Post K tabs b g Γ σ H g' Γ' H' → RepO K g' Γ' σ H' v p → Q v H') : t σ H Q := h b g Γ σ H Q p Γ' e R0 fun v g1 H1 x rp => by
  obtain ⟨g2, l, r2, ro, hs, hf⟩ := rp.freeze x.rel
  refine q v g2 H1 { le := x.le.trans l, rel := r2, kp := x.kp.mono l.fz, ow := x.ow, sh := x.sh, sn := fun p e => x.sn p (by rw [← hs]; exact e), dm := x.dm, fn := fun a z => ?_ } ro
  rcases hf a z with z | z
  · exact x.fn a z
  · exact .inr (.inr z)
theorem SE.o1 {t : TE} {r : En → R (Pv × En)} (h : SE K tabs t r) {Q : VK} {p : Pv} {d : D} (e : r Γ = .ok (p, Γ')) (ed : rd Γ' p = some d) (R0 : Rel K tabs b g Γ σ H)
    (q : ∀ v g' H', Post K tabs b g Γ σ H g' Γ' H' → RepB K g' H' v d → Q v H') : t σ H Q := h.o e R0 fun v g1 H1 x ro => q v g1 H1 x (ro.read x.rel ed)
theorem SE.two {ta tb : TE} {ra rb : En → R (Pv × En)} (ha : SE K tabs ta ra) (hb : SE K tabs tb rb) {k : V → V → Hp → Prop} {p q : Pv} {Γ1 Γ2 : En} {d e : D} (e1 : ra Γ = .ok (p, Γ1)) (e2 : rb Γ1 = .ok (q, Γ2)) (ed : rd Γ2 p = some d) (ee : rd Γ2 q = some e)
    (R0 : Rel K tabs b g Γ σ H) (h : ∀ v w g' H', Post K tabs b g Γ σ H g' Γ2 H' → RepB K g' H' v d → RepB K g' H' w e → k v w H') : ta σ H fun v H1 => tb σ H1 fun w H2 => k v w H2 :=
  ha.o e1 R0 fun v g1 H1 x1 o1 => hb.o e2 x1.rel fun w g2 H2 x2 o2 => h v w g2 H2 (x1.trans x2) ((o1.step x1.rel x2).read x2.rel ed) (o2.read x2.rel ee)
end
end Ux

namespace Ux
open PySem PySem.Spec PyProof.Rows L2 GxR
section
variable {K : PySem.W.Frag} {tabs : List Addr} {b : B0} {g g' : Gh} {Γ Γ' : En} {σ : L2.St} {H H' : Hp}
theorem lim_line {n : Nat} (h : n < LIM) : n < sizeLine := by
  rw [sizeLine_eq]
  have : n < 1000000 := h
  omega
mutual
theorem Rep.pd : ∀ {v : V} {d : D} {x : PyData}, Rep K g H v d → toPD d = some x → Dp K H v x
  | _, _, _, .non, e => by cases e; exact .non
  | _, _, _, .bl c, e => by cases e; exact .bl c
  | _, _, _, .int i, e => by cases e; exact .int i
  | _, _, _, .str y, e => by cases e; exact .str y
  | _, _, _, .strm _, e => by cases e
  | _, _, _, .scr _, e => by cases e
  | _, _, _, .tup h t, e => by
    simp only [toPD, Option.map_eq_some_iff] at e
    obtain ⟨xs, e1, rfl⟩ := e
    exact .tup (.of h) (Reps.pd t e1)
  | _, _, _, .lst h1 h2 t, e => by
    simp only [toPD, Option.map_eq_some_iff] at e
    obtain ⟨xs, e1, rfl⟩ := e
    exact .lst (.of h2) (Reps.pd t e1)
  | _, _, _, .dk _ _ _ _, e => by cases e
  | _, _, _, .dt _ _ _ _, e => by cases e
theorem Reps.pd : ∀ {vs : List V} {ds : List D} {xs : List PyData}, Reps K g H vs ds → toPDs ds = some xs → DpAll K H vs xs
  | _, _, _, .nil, e => by cases e; exact .nil
  | _, _, _, .cons r t, e => by
    unfold toPDs at e
    split at e
    · rename_i x xs h1 h2
      cases e
      exact .cons (Rep.pd r h1) (Reps.pd t h2)
    · cases e
end
theorem RepB.pd {v : V} {d : D} {x : PyData} (h : RepB K g H v d) (e : toPD d = some x) : Dp K H v x := by
  rcases h with h | ⟨a, rfl, h⟩
  · exact h.pd e
  · cases d with
    | lst ds =>
      obtain ⟨vs, h1, h2⟩ := h
      simp only [toPD, Option.map_eq_some_iff] at e
      obtain ⟨xs, e1, rfl⟩ := e
      exact .lst (.of h1) (h2.pd e1)
    | dk _ _ => cases e
    | dt _ _ => cases e
    | _ => exact h.elim
theorem dEq_ok {v w : V} {d e : D} {c : Bool} (h1 : RepB K g H v d) (h2 : RepB K g H w e) (h : dEq d e = some c) : ∃ x y, Dp K H v x ∧ Dp K H w y ∧ SeqAt.shaped x = true ∧ SeqAt.shaped y = true ∧ PyData.eqv x y = c := by
  unfold dEq at h
  split at h
  · rename_i x y e1 e2
    split at h
    · rename_i hs
      cases h
      rw [Bool.and_eq_true] at hs
      exact ⟨x, y, h1.pd e1, h2.pd e2, hs.1, hs.2, rfl⟩
    · cases h
  · cases h
theorem Rep.flat1 {v : V} {d : D} (h : Rep K g H v d) (f : d.sc = true) : flatV v = true := by
  cases h <;> first | rfl | (simp [D.sc] at f)
theorem Rep.eqv1 {v w : V} {d e : D} (h : Rep K g H v d) (h' : Rep K g H w e) (f : d.sc = true) (f' : e.sc = true) : eqV v w = eqS d e := by
  cases h <;> first
    | (simp [D.sc] at f; done)
    | (cases h' <;> first | rfl | (simp [D.sc] at f'; done))
theorem Reps.flat1 : ∀ {vs : List V} {ds : List D}, Reps K g H vs ds → ds.all D.sc = true → vs.all flatV = true
  | _, _, .nil, _ => rfl
  | _, _, .cons r t, f => by
    rw [List.all_cons, Bool.and_eq_true] at f ⊢
    exact ⟨r.flat1 f.1, Reps.flat1 t f.2⟩
theorem RepB.sc {v : V} {d : D} (h : RepB K g H v d) (f : d.sc = true) : Rep K g H v d := by
  rcases h with h | ⟨a, _, h⟩
  · exact h
  · cases d <;> first | exact h.elim | (simp [D.sc] at f; done)
theorem Reps.inV {x : V} {d : D} (hx : Rep K g H x d) (fx : d.sc = true) : ∀ {vs : List V} {ds : List D}, Reps K g H vs ds → ds.all D.sc = true → inV x vs = ds.any fun y => eqS y d
  | _, _, .nil, _ => rfl
  | _, _, .cons r t, f => by
    rw [List.all_cons, Bool.and_eq_true] at f
    have ih := Reps.inV hx fx t f.2
    unfold L2.inV at ih ⊢
    rw [List.any_cons, List.any_cons, ih, r.eqv1 hx f.1 fx]
theorem RepB.key {v : V} {d : D} {k : Key} (h : RepB K g H v d) (e : keyD d = some k) : v = kV k := by
  cases d with
  | int i => cases e; exact h.int
  | str x => cases e; exact h.str
  | _ => cases e
theorem Reps.keys : ∀ {vs : List V} {ds : List D} {ks : List Key}, Reps K g H vs ds → keysD ds = some ks → vs = ks.map kV
  | _, _, _, .nil, e => by cases e; rfl
  | _, _, _, .cons r t, e => by
    unfold keysD at e
    split at e
    · rename_i k ks h1 h2
      cases e
      rw [List.map_cons, ← Reps.keys t h2, RepB.key (.inl r) h1]
    · cases e
theorem findK_ok {κ : Type} [DecidableEq κ] (k : κ) : ∀ {ks : List κ} {vs : List V} {ds : List D}, Reps K g H vs ds → ks.length = vs.length →
    (match findK k ks ds with | some d => ∃ v, valV (ks.zip vs) k = some v ∧ Rep K g H v d | none => valV (ks.zip vs) k = none)
  | [], _, _, .nil, _ => rfl
  | x :: ks, _, _, .cons (v := v) r t, h => by
    unfold findK
    by_cases e : x = k
    · rw [if_pos e]
      exact ⟨_, by rw [List.zip_cons_cons]; exact valV_pos e, r⟩
    · rw [if_neg e, List.zip_cons_cons, valV_neg (show ¬ (x, v).1 = k from e)]
      exact findK_ok k t (Nat.succ.inj h)
  | [], _, _, .cons _ _, h => by cases h
theorem RepB.dget {v w : V} {ks : List Key} {ds : List D} {d : D} {k : Key} (h : RepB K g H v (.dk ks ds)) (h' : RepB K g H w d) (e : keyD d = some k) :
    ∃ a o, v = .ref a ∧ DGet H a w o ∧ (match findK k ks ds with | some d => ∃ v, o = some v ∧ Rep K g H v d | none => o = none) := by
  obtain ⟨a, vs, rfl, h1, h2, h3⟩ := h.dk
  refine ⟨a, _, rfl, by rw [h'.key e]; exact .inl ⟨_, _, h1, rfl, rfl⟩, ?_⟩
  have := findK_ok k h3 h2
  split at this
  · rename_i d' e'
    obtain ⟨v, e1, e2⟩ := this
    exact ⟨v, e1, e2⟩
  · rename_i e'
    exact this
/-- the key of a table of tuples -/
theorem RepB.dgetT {v w : V} {ks : List (List Key)} {ds : List D} {d : D} {k : List Key} (h : RepB K g H v (.dt ks ds)) (h' : RepB K g H w d) (e : tkeyD d = some k) :
    ∃ a o, v = .ref a ∧ DGet H a w o ∧ (match findK k ks ds with | some d => ∃ v, o = some v ∧ Rep K g H v d | none => o = none) := by
  obtain ⟨a, vs, rfl, h1, h2, h3⟩ := h.dt
  cases d with
  | tup ds' =>
    obtain ⟨c, ws, rfl, hx, hr⟩ := h'.tup
    have ek := Reps.keys hr e
    refine ⟨a, _, rfl, .inr ⟨_, k, c, h1, rfl, by rw [hx, ← ek], rfl⟩, ?_⟩
    have := findK_ok k h3 h2
    split at this
    · rename_i d' e'
      obtain ⟨v, e1, e2⟩ := this
      exact ⟨v, e1, e2⟩
    · rename_i e'
      exact this
  | _ => cases e
end
end Ux

namespace Ux
open PySem PySem.Spec PyProof.Rows L2 GxR
/-- what may come of an expression that has been read -/
def Res (K : PySem.W.Frag) (tabs : List Addr) (b : B0) (g : Gh) (Γ : En) (σ : L2.St) (H : Hp) (p : Pv) (Q : VK) : Prop := ∀ z g' H', Post K tabs b g Γ σ H g' Γ H' → RepP K b H g' Γ σ H' z p → Q z H'
section
variable {K : PySem.W.Frag} {tabs : List Addr} {b : B0} {g g' : Gh} {Γ Γ' : En} {σ : L2.St} {H H' : Hp} {Q : VK}
theorem Res.old {d : D} {z : V} (h : Res K tabs b g Γ σ H (.old d) Q) (r : Rel K tabs b g Γ σ H) (hz : Rep K g H z d) : Q z H := h z g H (.refl r) hz
theorem Res.newT {p : Addr} {vs : List V} {ds : List D} (h : Res K tabs b g Γ σ H (.old (.tup ds)) Q) (r : Rel K tabs b g Γ σ H) (hn : H p = none) (hz : Reps K g H vs ds) : Q (.ref p) (upd H p (.tup vs)) :=
  h _ g _ (.alloc r hn) (.tup (upd_same) (hz.alloc hn))
theorem Res.newL {p : Addr} {vs : List V} {ds : List D} (h : Res K tabs b g Γ σ H (.frs (.lst ds)) Q) (r : Rel K tabs b g Γ σ H) (hn : H p = none) (hz : Reps K g H vs ds) : Q (.ref p) (upd H p (.lst vs)) :=
  h _ g _ (.alloc r hn) (r.priv hn ⟨vs, upd_same, hz.alloc hn⟩)
theorem and3 {p q r : Bool} (h : (p && q && r) = true) : p = true ∧ q = true ∧ r = true := by
  cases p <;> cases q <;> cases r <;> simp_all
theorem and2 {p q : Bool} (h : (p && q) = true) : p = true ∧ q = true := by
  cases p <;> cases q <;> simp_all
theorem len_flat (xs : List V) : ∀ k : Nat, (List.replicate k xs).flatten.length = k * xs.length
  | 0 => by simp
  | k + 1 => by rw [List.replicate_succ, List.flatten_cons, List.length_append, len_flat xs k, Nat.succ_mul, Nat.add_comm]
theorem op_ok (r : Rel K tabs b g Γ σ H) {o : Op2} {d e : D} {x : D × Bool} (h : opD o d e = some x) {v w : V} (h1 : RepB K g H v d) (h2 : RepB K g H w e) (q : Res K tabs b g Γ σ H (mkP x) Q) : r2 K o v w H Q := by
  have hI : ∀ {i j : Int} {d e : D} (f : Int → Int → V) (z : V), True := fun _ _ => trivial
  cases o with
  | add =>
    cases d <;> cases e <;> simp only [opD, reduceCtorEq] at h
    · cases h
      exact .inl ⟨_, _, h1.int, h2.int, q.old r (.int _)⟩
    · split at h
      · rename_i hl
        cases h
        refine .inr (.inr (.inr ⟨_, _, h1.str, h2.str, ?_, q.old r (.str _)⟩))
        exact Nat.le_of_lt (lim_line hl)
      · cases h
    · split at h
      · rename_i hl
        cases h
        obtain ⟨a, xs, rfl, e1, r1⟩ := h1.tup
        obtain ⟨c, ys, rfl, e2, r2⟩ := h2.tup
        have q : Res K tabs b g Γ σ H (.old (.tup _)) Q := q
        refine .inr (.inl ⟨a, c, xs, ys, rfl, rfl, .of e1, .of e2, ?_, fun z => ?_, fun _ z => ?_, fun _ _ p hn => q.newT r hn (r1.append r2)⟩)
        · rw [r1.length, r2.length]; exact Nat.le_of_lt (lim_line hl)
        · subst z
          cases r1
          exact q.old r (.tup e2 r2)
        · subst z
          cases r2
          rw [List.append_nil] at q
          exact q.old r (.tup e1 r1)
      · cases h
    · split at h
      · rename_i hl
        cases h
        obtain ⟨a, xs, rfl, e1, r1⟩ := h1.lst
        obtain ⟨c, ys, rfl, e2, r2⟩ := h2.lst
        have q : Res K tabs b g Γ σ H (.frs (.lst _)) Q := q
        refine .inr (.inr (.inl ⟨a, c, xs, ys, rfl, rfl, e1, e2, ?_, fun p hn => q.newL r hn (r1.append r2)⟩))
        rw [r1.length, r2.length]; exact Nat.le_of_lt (lim_line hl)
      · cases h
  | sub =>
    cases d <;> cases e <;> simp only [opD, reduceCtorEq] at h
    cases h
    exact ⟨_, _, h1.int, h2.int, q.old r (.int _)⟩
  | mul =>
    cases d <;> cases e <;> simp only [opD, reduceCtorEq] at h
    · split at h
      · rename_i hl
        cases h
        refine .inl ⟨_, _, h1.int, h2.int, ?_, q.old r (.int _)⟩
        simp only [Bool.or_eq_true, Bool.and_eq_true, decide_eq_true_eq] at hl
        exact hl
      · cases h
    · split at h
      · rename_i ds' k hl
        cases h
        obtain ⟨l1, l2, l3⟩ := and3 hl
        have l1 := of_decide_eq_true l1
        have l2 := of_decide_eq_true l2
        have l3 := of_decide_eq_true l3
        obtain ⟨a, xs, rfl, e1, r1⟩ := h1.tup
        obtain rfl := h2.int
        have q : Res K tabs b g Γ σ H (.old (.tup _)) Q := q
        have hlen := r1.length
        by_cases hx : xs = []
        · subst hx
          cases r1
          have q0 := q.old r (.tup e1 (by
            have : ∀ n : Nat, (List.replicate n ([] : List D)).flatten = [] := fun n => by simp
            rw [this]; exact .nil))
          exact .inr (.inr (.inr ⟨a, k, [], rfl, rfl, .of e1, .inl rfl, ⟨l1, by omega⟩, fun _ => q0, fun z => absurd rfl z⟩))
        · by_cases hk : k ≤ 1
          · refine .inr (.inr (.inr ⟨a, k, xs, rfl, rfl, .of e1, .inr hk, ⟨l1, by omega⟩, fun z => ?_, fun _ z p hn => ?_⟩))
            · rcases z with z | z
              · exact absurd z hx
              · subst z
                refine q.old r (.tup e1 ?_)
                show Reps K g H xs (List.replicate 1 ds').flatten
                simpa using r1
            · have : k.toNat = 0 := by omega
              rw [this] at q
              exact q.newT r hn .nil
          · refine .inr (.inr (.inl ⟨a, k, xs, rfl, rfl, .of e1, hx, by omega, l2, by omega, fun p hn => q.newT r hn (r1.rep _)⟩))
      · cases h
    · split at h
      · rename_i ds' k hl
        cases h
        obtain ⟨l1, l2, l3⟩ := and3 hl
        have l1 := of_decide_eq_true l1
        have l2 := of_decide_eq_true l2
        have l3 := of_decide_eq_true l3
        obtain ⟨a, xs, rfl, e1, r1⟩ := h1.lst
        obtain rfl := h2.int
        have q : Res K tabs b g Γ σ H (.frs (.lst _)) Q := q
        have hlen := r1.length
        refine .inr (.inl ⟨a, k, xs, rfl, rfl, e1, by omega, by omega, ?_, fun p hn => q.newL r hn (r1.rep _)⟩)
        rw [sizeLine_eq, hlen]
        have : ds'.length * k.toNat ≤ 1000 * 1000 := Nat.mul_le_mul (by omega) (by omega)
        omega
      · cases h
  | fdiv =>
    cases d <;> cases e <;> simp only [opD, reduceCtorEq] at h
    split at h
    · rename_i hl
      cases h
      have hl := and2 hl
      exact ⟨_, _, h1.int, h2.int, ⟨of_decide_eq_true hl.1, of_decide_eq_true hl.2⟩, q.old r (.int _)⟩
    · cases h
  | mod =>
    cases d <;> cases e <;> simp only [opD, reduceCtorEq] at h
    split at h
    · rename_i hl
      cases h
      exact ⟨_, _, h1.int, h2.int, hl, q.old r (.int _)⟩
    · cases h
  | pow =>
    cases d <;> cases e <;> simp only [opD, reduceCtorEq] at h
    split at h
    · rename_i hl
      cases h
      obtain ⟨l1, l2, l3⟩ := and3 hl
      exact ⟨_, _, h1.int, h2.int, ⟨of_decide_eq_true l1, of_decide_eq_true l2, of_decide_eq_true l3⟩, q.old r (.int _)⟩
    · cases h
end
end Ux

namespace Ux
open PySem PySem.Spec PyProof.Rows L2 GxR
section
variable {K : PySem.W.Frag} {tabs : List Addr} {b : B0} {g g' : Gh} {Γ Γ' : En} {σ : L2.St} {H H' : Hp} {Q : VK}
theorem shaped_tl {bs : List PyData} (h : SeqAt.shaped (.list bs) = true) : SeqAt.shaped (.list bs) = true := h
theorem in_ok {x : D} {ys : D} {c : Bool} (h : inD x ys = some c) {v w : V} (h1 : RepB K g H v x) (h2 : RepB K g H w ys) (neg : Bool) :
    (∃ p xs, w = .ref p ∧ (SqL K H p xs ∨ SqT K H p xs) ∧ flatV v = true ∧ xs.all flatV = true ∧ L2.inV v xs = c) ∨ (∃ a o, w = .ref a ∧ DGet H a v o ∧ o.isSome = c) ∨
    ∃ d ds, Dp K H v d ∧ Dp K H w (.list ds) ∧ SeqAt.shaped d = true ∧ SeqAt.shaped (.list ds) = true ∧ (ds.any fun z => PyData.eqv z d) = c := by
  cases ys with
  | tup ys =>
    simp only [inD] at h
    split at h
    · rename_i hs
      cases h
      have hs := and2 hs
      obtain ⟨a, xs, rfl, e, r⟩ := h2.tup
      exact .inl ⟨a, xs, rfl, .inr (.of e), (h1.sc hs.1).flat1 hs.1, Reps.flat1 r hs.2, Reps.inV (h1.sc hs.1) hs.1 r hs.2⟩
    · cases h
  | lst ys =>
    simp only [inD] at h
    obtain ⟨a, xs, rfl, e, r⟩ := h2.lst
    split at h
    · rename_i hs
      cases h
      have hs := and2 hs
      exact .inl ⟨a, xs, rfl, .inl (.of e), (h1.sc hs.1).flat1 hs.1, Reps.flat1 r hs.2, Reps.inV (h1.sc hs.1) hs.1 r hs.2⟩
    · split at h
      · rename_i d ds e1 e2
        split at h
        · rename_i hs
          cases h
          have hs := and2 hs
          exact .inr (.inr ⟨d, ds, h1.pd e1, .lst (.of e) (r.pd e2), hs.1, hs.2, rfl⟩)
        · cases h
      · cases h
  | dk ks ds =>
    simp only [inD] at h
    split at h
    · rename_i k ek
      cases h
      obtain ⟨a, o, rfl, dg, m⟩ := h2.dget h1 ek
      refine .inr (.inl ⟨a, o, rfl, dg, ?_⟩)
      split at m
      · rename_i d' e'
        obtain ⟨v, rfl, _⟩ := m
        rw [e']; rfl
      · rename_i e'
        rw [m, e']; rfl
    · cases h
  | dt ks ds =>
    simp only [inD] at h
    split at h
    · rename_i k ek
      cases h
      obtain ⟨a, o, rfl, dg, m⟩ := h2.dgetT h1 ek
      refine .inr (.inl ⟨a, o, rfl, dg, ?_⟩)
      split at m
      · rename_i d' e'
        obtain ⟨v, rfl, _⟩ := m
        rw [e']; rfl
      · rename_i e'
        rw [m, e']; rfl
    · cases h
  | _ => cases h
theorem cm_ok {o : Cm2} {d e : D} {c : Bool} (h : cmD o d e = some c) {v w : V} (h1 : RepB K g H v d) (h2 : RepB K g H w e) (q : Q (.bl c) H) : c2 K o v w H Q := by
  cases o with
  | eq =>
    have h : dEq d e = some c := by simpa [cmD] using h
    obtain ⟨x, y, a1, a2, a3, a4, rfl⟩ := dEq_ok h1 h2 h
    exact ⟨x, y, a1, a2, a3, a4, q⟩
  | ne =>
    have h : (dEq d e).map (!·) = some c := by simpa [cmD] using h
    obtain ⟨c', h', rfl⟩ := Option.map_eq_some_iff.mp h
    obtain ⟨x, y, a1, a2, a3, a4, rfl⟩ := dEq_ok h1 h2 h'
    exact ⟨x, y, a1, a2, a3, a4, q⟩
  | lt => cases d <;> cases e <;> simp only [cmD, reduceCtorEq] at h; cases h; exact ⟨_, _, h1.int, h2.int, q⟩
  | le => cases d <;> cases e <;> simp only [cmD, reduceCtorEq] at h; cases h; exact ⟨_, _, h1.int, h2.int, q⟩
  | gt => cases d <;> cases e <;> simp only [cmD, reduceCtorEq] at h; cases h; exact ⟨_, _, h1.int, h2.int, q⟩
  | ge => cases d <;> cases e <;> simp only [cmD, reduceCtorEq] at h; cases h; exact ⟨_, _, h1.int, h2.int, q⟩
  | inn =>
    have h : inD d e = some c := by simpa [cmD] using h
    rcases in_ok h h1 h2 false with ⟨p, xs, e1, e2, e3, e4, e5⟩ | ⟨a, o, e1, e2, e3⟩ | ⟨d, ds, e1, e2, e3, e4, e5⟩
    · exact .inl ⟨p, xs, e1, e2, e3, e4, by rw [e5]; exact q⟩
    · exact .inr (.inl ⟨a, o, e1, e2, by rw [if_pos rfl, e3]; exact q⟩)
    · exact .inr (.inr ⟨d, ds, e1, e2, e3, e4, by rw [e5]; exact q⟩)
  | nin =>
    have h : (inD d e).map (!·) = some c := by simpa [cmD] using h
    obtain ⟨c', h', rfl⟩ := Option.map_eq_some_iff.mp h
    rcases in_ok h' h1 h2 false with ⟨p, xs, e1, e2, e3, e4, e5⟩ | ⟨a, o, e1, e2, e3⟩ | ⟨d, ds, e1, e2, e3, e4, e5⟩
    · exact .inl ⟨p, xs, e1, e2, e3, e4, by rw [if_pos rfl, e5]; exact q⟩
    · exact .inr (.inl ⟨a, o, e1, e2, by rw [if_neg (by simp), e3]; exact q⟩)
    · exact .inr (.inr ⟨d, ds, e1, e2, e3, e4, by rw [e5]; exact q⟩)
theorem Reps.atI {vs : List V} {ds : List D} {i : Int} {d : D} (h : Reps K g H vs ds) (e : L2.atI ds i = some d) : ∃ v, L2.atI vs i = some v ∧ Rep K g H v d := by
  unfold L2.atI at e ⊢
  rw [h.length]
  obtain ⟨j, e1, e2⟩ := Option.bind_eq_some_iff.mp e
  rw [e1]
  exact h.get' e2
theorem ix_ok (r : Rel K tabs b g Γ σ H) {d e x : D} (h : ixD d e = some x) {v w : V} (h1 : RepB K g H v d) (h2 : RepB K g H w e) (q : Res K tabs b g Γ σ H (.old x) Q) : rIxA K v w H Q := by
  unfold ixD at h
  split at h
  · obtain ⟨a, xs, rfl, e, rr⟩ := h1.tup
    obtain rfl := h2.int
    obtain ⟨u, e1, e2⟩ := rr.atI h
    exact .inl (.inr (.inl ⟨a, xs, _, u, rfl, rfl, .of e, e1, q.old r e2⟩))
  · obtain ⟨a, xs, rfl, e, rr⟩ := h1.lst
    obtain rfl := h2.int
    obtain ⟨u, e1, e2⟩ := rr.atI h
    exact .inl (.inl ⟨a, xs, _, u, rfl, rfl, .of e, e1, q.old r e2⟩)
  · split at h
    · rename_i hl
      obtain ⟨c, e1, rfl⟩ := Option.map_eq_some_iff.mp h
      obtain rfl := h1.str
      obtain rfl := h2.int
      exact .inl (.inr (.inr ⟨_, _, c, rfl, rfl, Nat.le_of_lt (lim_line hl), e1, q.old r (.str _)⟩))
    · cases h
  · split at h
    · rename_i k ek
      obtain ⟨a, o, rfl, dg, m⟩ := h1.dget h2 ek
      rw [h] at m
      obtain ⟨u, rfl, ru⟩ := m
      exact .inr ⟨a, u, rfl, dg, q.old r ru⟩
    · cases h
  · split at h
    · rename_i k ek
      obtain ⟨a, o, rfl, dg, m⟩ := h1.dgetT h2 ek
      rw [h] at m
      obtain ⟨u, rfl, ru⟩ := m
      exact .inr ⟨a, u, rfl, dg, q.old r ru⟩
    · cases h
  · cases h
theorem Reps.cut {vs : List V} {ds : List D} (h : Reps K g H vs ds) (lo hi : Option Int) : Reps K g H (cutV vs lo hi) (cutL ds lo hi) := by
  unfold cutV cutL
  rw [h.length]
  exact (h.drop _).take _
theorem cut_whole {α : Type} (xs : List α) {lo hi : Option Int} (h : HT.sIx xs.length 0 lo = 0 ∧ HT.sIx xs.length xs.length hi = xs.length) : cutL xs lo hi = xs := by
  unfold cutL
  rw [h.1, h.2]
  simp
theorem cut_ok (r : Rel K tabs b g Γ σ H) {d : D} {lo hi : Option Int} {x : D × Bool} (h : cutD d lo hi = some x) {v : V} (h1 : RepB K g H v d) (q : Res K tabs b g Γ σ H (mkP x) Q) : rSlc K v lo hi H Q := by
  unfold cutD at h
  split at h
  · cases h
    obtain ⟨a, xs, rfl, e, rr⟩ := h1.tup
    have q : Res K tabs b g Γ σ H (.old (.tup _)) Q := q
    refine .inl ⟨a, xs, rfl, .of e, fun z => ?_, fun _ p hn => q.newT r hn (rr.cut lo hi)⟩
    rw [rr.length] at z
    rw [cut_whole _ z] at q
    exact q.old r (.tup e rr)
  · cases h
    obtain ⟨a, xs, rfl, e, rr⟩ := h1.lst
    have q : Res K tabs b g Γ σ H (.frs (.lst _)) Q := q
    exact .inr ⟨a, xs, rfl, .of e, fun p hn => q.newL r hn (rr.cut lo hi)⟩
  · cases h
theorem Reps.emp {vs : List V} {ds : List D} (h : Reps K g H vs ds) : vs.isEmpty = ds.isEmpty := by cases h <;> rfl
theorem zip_emp {κ : Type} {ks : List κ} {vs : List V} (h : ks.length = vs.length) : (ks.zip vs).isEmpty = vs.isEmpty := by
  cases ks <;> cases vs <;> first | rfl | cases h
theorem tru_ok' {d : D} {c : Bool} (h : truD d = some c) {v : V} (h1 : RepB K g H v d) : TruV K v H c := by
  unfold truD at h
  split at h
  · cases h; rw [h1.non]; rfl
  · cases h; rw [h1.bl]; rfl
  · cases h; rw [h1.int]; rfl
  · split at h
    · rename_i hl
      cases h; rw [h1.str]; exact ⟨Nat.le_of_lt (lim_line hl), rfl⟩
    · cases h
  · cases h
    obtain ⟨a, xs, rfl, e, rr⟩ := h1.tup
    exact .inr (.inl ⟨xs, .of e, by rw [rr.emp]⟩)
  · cases h
    obtain ⟨a, xs, rfl, e, rr⟩ := h1.lst
    exact .inl ⟨xs, .of e, by rw [rr.emp]⟩
  · cases h
theorem RepB.nonB {v : V} {d : D} (h : RepB K g H v d) : decide (v = .non) = nonD d := by
  cases d with
  | non => rw [h.non]; rfl
  | bl _ => rw [h.bl]; rfl
  | int _ => rw [h.int]; rfl
  | str _ => rw [h.str]; rfl
  | strm =>
    rcases h with h | ⟨a, rfl, h⟩
    · cases h; rfl
    · rfl
  | scr _ =>
    rcases h with h | ⟨a, rfl, h⟩
    · cases h; rfl
    · rfl
  | tup _ => obtain ⟨a, _, rfl, _⟩ := h.tup; rfl
  | lst _ => obtain ⟨a, _, rfl, _⟩ := h.lst; rfl
  | dk _ _ => obtain ⟨a, _, rfl, _⟩ := h.dk; rfl
  | dt _ _ => obtain ⟨a, _, rfl, _⟩ := h.dt; rfl
end
end Ux

namespace Ux
open PySem PySem.Spec PyProof.Rows L2 GxR
section
variable {K : PySem.W.Frag} {tabs : List Addr} {b : B0} {g g' : Gh} {Γ Γ' : En} {σ : L2.St} {H H' : Hp} {Q : VK}
theorem perm_sorted_eq : ∀ {xs ys : List Int}, xs.Perm ys → xs.Pairwise (· ≤ ·) → ys.Pairwise (· ≤ ·) → xs = ys
  | [], ys, p, _, _ => (List.nil_perm.mp p).symm
  | x :: xs, [], p, _, _ => absurd (List.perm_nil.mp p) (by simp)
  | x :: xs, y :: ys, p, h1, h2 => by
    have hx : x ∈ y :: ys := p.mem_iff.mp (by simp)
    have hy : y ∈ x :: xs := p.mem_iff.mpr (by simp)
    rw [List.pairwise_cons] at h1 h2
    have e : x = y := by
      rcases List.mem_cons.mp hx with e | hx
      · exact e
      · rcases List.mem_cons.mp hy with e | hy
        · exact e.symm
        · exact Int.le_antisymm (h1.1 y hy) (h2.1 x hx)
    subst e
    rw [perm_sorted_eq (List.perm_cons x |>.mp p) h1.2 h2.2]
theorem insI_perm (x : Int) : ∀ ys : List Int, (insI x ys).Perm (x :: ys)
  | [] => .refl _
  | y :: ys => by
    unfold insI
    by_cases h : x ≤ y
    · rw [if_pos h]
    · rw [if_neg h]
      exact ((insI_perm x ys).cons y).trans (.swap x y ys)
theorem insI_sorted (x : Int) : ∀ ys : List Int, ys.Pairwise (· ≤ ·) → (insI x ys).Pairwise (· ≤ ·)
  | [], _ => by simp [insI]
  | y :: ys, h => by
    unfold insI
    have h' := List.pairwise_cons.mp h
    by_cases c : x ≤ y
    · rw [if_pos c]
      refine List.pairwise_cons.mpr ⟨fun z hz => ?_, h⟩
      rcases List.mem_cons.mp hz with e | hz
      · rw [e]; exact c
      · exact Int.le_trans c (h'.1 z hz)
    · rw [if_neg c]
      refine List.pairwise_cons.mpr ⟨fun z hz => ?_, insI_sorted x ys h'.2⟩
      rcases List.mem_cons.mp ((insI_perm x ys).mem_iff.mp hz) with e | hz
      · rw [e]; omega
      · exact h'.1 z hz
theorem sortI_perm : ∀ ns : List Int, (sortI ns).Perm ns
  | [] => .refl _
  | x :: xs => (insI_perm x _).trans ((sortI_perm xs).cons x)
theorem sortI_sorted : ∀ ns : List Int, (sortI ns).Pairwise (· ≤ ·)
  | [] => .nil
  | x :: xs => insI_sorted x _ (sortI_sorted xs)
theorem maxI_ge : ∀ (ns : List Int) (m : Int), m ≤ maxI m ns ∧ ∀ x ∈ ns, x ≤ maxI m ns
  | [], m => ⟨Int.le_refl _, fun _ h => nomatch h⟩
  | x :: xs, m => by
    have ih := maxI_ge xs (if m < x then x else m)
    unfold maxI
    refine ⟨Int.le_trans ?_ ih.1, fun y hy => ?_⟩
    · split <;> omega
    · rcases List.mem_cons.mp hy with e | hy
      · rw [e]
        refine Int.le_trans ?_ ih.1
        split <;> omega
      · exact ih.2 y hy
theorem maxI_mem : ∀ (ns : List Int) (m : Int), maxI m ns = m ∨ maxI m ns ∈ ns
  | [], m => .inl rfl
  | x :: xs, m => by
    unfold maxI
    rcases maxI_mem xs (if m < x then x else m) with h | h
    · rw [h]
      split
      · exact .inr (by simp)
      · exact .inl rfl
    · exact .inr (List.mem_cons_of_mem _ h)
theorem minI_le : ∀ (ns : List Int) (m : Int), minI m ns ≤ m ∧ ∀ x ∈ ns, minI m ns ≤ x
  | [], m => ⟨Int.le_refl _, fun _ h => nomatch h⟩
  | x :: xs, m => by
    have ih := minI_le xs (if x < m then x else m)
    unfold minI
    refine ⟨Int.le_trans ih.1 ?_, fun y hy => ?_⟩
    · split <;> omega
    · rcases List.mem_cons.mp hy with e | hy
      · rw [e]
        refine Int.le_trans ih.1 ?_
        split <;> omega
      · exact ih.2 y hy
theorem minI_mem : ∀ (ns : List Int) (m : Int), minI m ns = m ∨ minI m ns ∈ ns
  | [], m => .inl rfl
  | x :: xs, m => by
    unfold minI
    rcases minI_mem xs (if x < m then x else m) with h | h
    · rw [h]
      split
      · exact .inr (by simp)
      · exact .inl rfl
    · exact .inr (List.mem_cons_of_mem _ h)
theorem sumI_sum : ∀ ns : List Int, sumI ns = ns.sum
  | [] => rfl
  | x :: xs => by
    unfold sumI
    rw [sumI_sum xs, List.sum_cons]
theorem Reps.ints : ∀ {vs : List V} {ds : List D} {ns : List Int}, Reps K g H vs ds → intsD ds = some ns → vs = ns.map V.int
  | _, _, _, .nil, e => by cases e; rfl
  | _, _, _, .cons (d := d) (ds := ds) r t, e => by
    cases d <;> simp only [intsD, reduceCtorEq, Option.map_eq_some_iff] at e
    obtain ⟨ns, e1, rfl⟩ := e
    cases r
    rw [Reps.ints t e1]; rfl
theorem Reps.bls : ∀ {vs : List V} {ds : List D} {ns : List Bool}, Reps K g H vs ds → blsD ds = some ns → vs = ns.map V.bl
  | _, _, _, .nil, e => by cases e; rfl
  | _, _, _, .cons (d := d) (ds := ds) r t, e => by
    cases d <;> simp only [blsD, reduceCtorEq, Option.map_eq_some_iff] at e
    obtain ⟨ns, e1, rfl⟩ := e
    cases r
    rw [Reps.bls t e1]; rfl
theorem Reps.ofInts (K : PySem.W.Frag) (g : Gh) (H : Hp) : ∀ ns : List Int, Reps K g H (ns.map V.int) (ns.map D.int)
  | [] => .nil
  | i :: r => .cons (.int i) (Reps.ofInts K g H r)
theorem keyInts_eq : ∀ {ks : List Key} {ns : List Int}, keyInts ks = some ns → ks = ns.map Sum.inl
  | [], _, e => by cases e; rfl
  | k :: ks, ns, e => by
    cases k <;> simp only [keyInts, reduceCtorEq, Option.map_eq_some_iff] at e
    obtain ⟨ns, e1, rfl⟩ := e
    rw [keyInts_eq e1]; rfl
theorem map_zip_fst {κ : Type} : ∀ {ks : List κ} {vs : List V}, ks.length = vs.length → (ks.zip vs).map (·.1) = ks
  | [], _, _ => rfl
  | k :: ks, [], e => by cases e
  | k :: ks, v :: vs, e => by rw [List.zip_cons_cons, List.map_cons, map_zip_fst (by simpa using e)]
theorem len_ok {d : D} {n : Nat} (h : lenD d = some n) {v : V} (h1 : RepB K g H v d) (q : Q (.int n) H) : rLen K [v] H Q := by
  unfold lenD at h
  split at h
  · cases h
    obtain ⟨a, xs, rfl, e, rr⟩ := h1.tup
    exact .inl ⟨_, _, rfl, .inr ⟨xs, .of e, rr.length.symm⟩, q⟩
  · cases h
    obtain ⟨a, xs, rfl, e, rr⟩ := h1.lst
    exact .inl ⟨_, _, rfl, .inl ⟨xs, .of e, rr.length.symm⟩, q⟩
  · split at h
    · rename_i hl
      cases h; obtain rfl := h1.str; exact .inl ⟨_, _, rfl, ⟨Nat.le_of_lt (lim_line hl), rfl⟩, q⟩
    · cases h
  · cases h
    obtain ⟨a, xs, rfl, e, hl, rr⟩ := h1.dk
    refine .inr (.inl ⟨a, _, rfl, e, ?_⟩)
    rw [List.length_zip, hl, Nat.min_self, rr.length]
    exact q
  · cases h
    obtain ⟨a, xs, rfl, e, hl, rr⟩ := h1.dt
    refine .inr (.inr ⟨a, _, rfl, e, ?_⟩)
    rw [List.length_zip, hl, Nat.min_self, rr.length]
    exact q
  · cases h
theorem bf_ok (r : Rel K tabs b g Γ σ H) {o : Bfn} {d : D} {x : D × Bool} (h : bfD o d = some x) {v : V} (h1 : RepB K g H v d) (q : Res K tabs b g Γ σ H (mkP x) Q) : rB K o [v] H Q := by
  unfold bfD at h
  split at h
  · obtain ⟨n, e, rfl⟩ := Option.map_eq_some_iff.mp h
    exact len_ok e h1 (q.old r (.int _))
  · cases h
    obtain rfl := h1.int
    exact ⟨_, rfl, q.old r (.int _)⟩
  · cases h
    obtain rfl := h1.int
    exact .inl ⟨_, rfl, q.old r (.int _)⟩
  · cases h
    obtain rfl := h1.bl
    exact .inr ⟨_, rfl, q.old r (.int _)⟩
  · cases h
    have q : Res K tabs b g Γ σ H (.frs (.lst _)) Q := q
    obtain ⟨a, xs, rfl, e, rr⟩ := h1.tup
    exact ⟨a, xs, rfl, .inr (.of e), fun p hn => q.newL r hn rr⟩
  · cases h
    have q : Res K tabs b g Γ σ H (.frs (.lst _)) Q := q
    obtain ⟨a, xs, rfl, e, rr⟩ := h1.lst
    exact ⟨a, xs, rfl, .inl (.of e), fun p hn => q.newL r hn rr⟩
  · cases h
    have q : Res K tabs b g Γ σ H (.old (.tup _)) Q := q
    obtain ⟨a, xs, rfl, e, rr⟩ := h1.tup
    exact ⟨a, xs, rfl, .inr ⟨.of e, q.old r (.tup e rr)⟩⟩
  · cases h
    have q : Res K tabs b g Γ σ H (.old (.tup _)) Q := q
    obtain ⟨a, xs, rfl, e, rr⟩ := h1.lst
    exact ⟨a, xs, rfl, .inl ⟨.of e, fun p hn => q.newT r hn rr⟩⟩
  · split at h
    · rename_i ns e0
      split at h
      · rename_i hl
        cases h
        have q : Res K tabs b g Γ σ H (.frs (.lst _)) Q := q
        obtain ⟨a, xs, rfl, e, rr⟩ := h1.lst
        obtain rfl := rr.ints e0
        refine .inl ⟨a, ns, rfl, .of e, hl, fun ns' p hp hs hn => ?_⟩
        rw [perm_sorted_eq (hp.trans (sortI_perm ns).symm) hs (sortI_sorted ns)]
        exact q.newL r hn (Reps.ofInts ..)
      · cases h
    · cases h
  · split at h
    · rename_i ns e0
      split at h
      · rename_i hl
        cases h
        have q : Res K tabs b g Γ σ H (.frs (.lst _)) Q := q
        obtain ⟨a, xs, rfl, e, hz, rr⟩ := h1.dk
        refine .inr ⟨a, _, ns, rfl, e, by rw [map_zip_fst hz, keyInts_eq e0], hl, fun ns' p hp hs hn => ?_⟩
        rw [perm_sorted_eq (hp.trans (sortI_perm ns).symm) hs (sortI_sorted ns)]
        exact q.newL r hn (Reps.ofInts ..)
      · cases h
    · cases h
  · obtain ⟨bs, e0, rfl⟩ := Option.map_eq_some_iff.mp h
    obtain ⟨a, xs, rfl, e, rr⟩ := h1.lst
    obtain rfl := rr.bls e0
    exact ⟨a, bs, rfl, .of e, q.old r (.bl _)⟩
  · obtain ⟨bs, e0, rfl⟩ := Option.map_eq_some_iff.mp h
    obtain ⟨a, xs, rfl, e, rr⟩ := h1.lst
    obtain rfl := rr.bls e0
    exact ⟨a, bs, rfl, .of e, q.old r (.bl _)⟩
  · split at h
    · rename_i n ns e0
      cases h
      obtain ⟨a, xs, rfl, e, rr⟩ := h1.lst
      obtain rfl := rr.ints e0
      refine ⟨a, n :: ns, rfl, .of e, by simp, fun m hm hall => ?_⟩
      have g := maxI_ge ns n
      have e1 : m = maxI n ns := by
        apply Int.le_antisymm
        · rcases List.mem_cons.mp hm with z | z
          · rw [z]; exact g.1
          · exact g.2 _ z
        · rcases maxI_mem ns n with z | z
          · rw [z]; exact hall n (by simp)
          · exact hall _ (by simp [z])
      rw [e1]
      exact q.old r (.int _)
    · cases h
  · split at h
    · rename_i n ns e0
      cases h
      obtain ⟨a, xs, rfl, e, rr⟩ := h1.lst
      obtain rfl := rr.ints e0
      refine ⟨a, n :: ns, rfl, .of e, by simp, fun m hm hall => ?_⟩
      have g := minI_le ns n
      have e1 : m = minI n ns := by
        apply Int.le_antisymm
        · rcases minI_mem ns n with z | z
          · rw [z]; exact hall n (by simp)
          · exact hall _ (by simp [z])
        · rcases List.mem_cons.mp hm with z | z
          · rw [z]; exact g.1
          · exact g.2 _ z
      rw [e1]
      exact q.old r (.int _)
    · cases h
  · split at h
    · rename_i ns e0
      cases h
      obtain ⟨a, xs, rfl, e, rr⟩ := h1.lst
      obtain rfl := rr.ints e0
      refine ⟨a, ns, rfl, .of e, ?_⟩
      have q := q.old r (.int _)
      rw [sumI_sum] at q
      exact q
    · cases h
  · cases h
theorem ty_ok {d : D} {t : String} (h : tyD d = some t) {v : V} (h1 : RepB K g H v d) : TyX K H v (.type t) := by
  cases d <;> simp only [tyD, Option.some.injEq, reduceCtorEq] at h
  · subst h; rw [h1.non]; exact .base .non
  · subst h; rw [h1.bl]; exact .base (.bl _)
  · subst h; rw [h1.int]; exact .base (.int _)
  · subst h; rw [h1.str]; exact .base (.str _)
  · subst h; obtain ⟨a, xs, rfl, e, rr⟩ := h1.tup; exact .base (.tup e)
  · subst h; obtain ⟨a, xs, rfl, e, rr⟩ := h1.lst; exact .base (.lst e)
theorem isiB_ok {t T : String} {c : Bool} (ht : t ∈ ["NoneType", "bool", "int", "str", "tuple", "list", "dict"]) (h : isiB t T = some c) : L2.kitB t T = some c := by
  unfold isiB at h
  simp only [List.mem_cons, List.not_mem_nil, or_false] at ht
  split at h
  · rename_i e; subst e
    rcases ht with rfl | rfl | rfl | rfl | rfl | rfl | rfl <;> (cases h; decide +kernel)
  · split at h
    · rename_i e; subst e
      rcases ht with rfl | rfl | rfl | rfl | rfl | rfl | rfl <;> (cases h; decide +kernel)
    · split at h
      · rename_i e; subst e
        rcases ht with rfl | rfl | rfl | rfl | rfl | rfl | rfl <;> (cases h; decide +kernel)
      · split at h
        · rename_i e; subst e
          rcases ht with rfl | rfl | rfl | rfl | rfl | rfl | rfl <;> (cases h; decide +kernel)
        · split at h
          · rename_i e; subst e
            rcases ht with rfl | rfl | rfl | rfl | rfl | rfl | rfl <;> (cases h; decide +kernel)
          · cases h
theorem isi_ok {T : String} {d : D} {c : Bool} (h : isiD T d = some c) {v : V} (h1 : RepB K g H v d) (q : Q (.bl c) H) : rIsi K [v, .ty T] H Q := by
  obtain ⟨t, e1, e2⟩ := Option.bind_eq_some_iff.mp h
  refine ⟨v, .ty T, .type t, .type T, c, rfl, .ty T, ty_ok e1 h1, kit_ty (isiB_ok ?_ e2), q⟩
  cases d <;> simp only [tyD, Option.some.injEq, reduceCtorEq] at e1 <;> (subst e1; simp)
end
end Ux

namespace Ux
open PySem PySem.Spec PyProof.Rows L2 GxR
section
variable {K : PySem.W.Frag} {tabs : List Addr} {b : B0} {g g' : Gh} {Γ Γ' : En} {σ : L2.St} {H H' : Hp} {Q : VK}
theorem Reps.upd1 {a : Addr} {o o' : HO} (nf : ¬ g.fz a) (e : H a = some o') (m : MutO o') {vs : List V} {ds : List D} (h : Reps K g H vs ds) : Reps K g (upd H a o) vs ds :=
  Reps.move (.refl g) (fun c u h n _ => by rw [upd_ne (fun z => by subst z; rw [e] at h; cases h; exact n m)]; exact h) (fun c f u h _ => by rw [upd_ne (fun z => by subst z; exact nf f)]; exact .inl h) h
theorem Rep.upd1 {a : Addr} {o o' : HO} (nf : ¬ g.fz a) (e : H a = some o') (m : MutO o') {vs : V} {ds : D} (h : Rep K g H vs ds) : Rep K g (upd H a o) vs ds :=
  Rep.move (.refl g) (fun c u h n _ => by rw [upd_ne (fun z => by subst z; rw [e] at h; cases h; exact n m)]; exact h) (fun c f u h _ => by rw [upd_ne (fun z => by subst z; exact nf f)]; exact .inl h) h
theorem GRel.upd1 {w : Wd} {a : Addr} {o o' : HO} (r : GRel K tabs b g w H) (nf : ¬ g.fz a) (ns : ∀ p, g.sa = some p → p.1 ≠ a) (nb : b.H a = none) (e : H a = some o') (m : MutO o') : GRel K tabs b g w (upd H a o) where
  le := r.le
  str := by
    have s := r.str
    cases w with
    | none => exact s
    | some st =>
      obtain ⟨c, L, vs, e1, n, e2, f, e3, e4⟩ := s
      exact ⟨c, L, vs, e1, n, by rw [upd_ne (ns _ e1)]; exact e2, f, by rw [upd_ne (fun z => nf (by rw [← z]; exact f))]; exact e3, e4⟩
  fzs := fun c h => by
    by_cases z : c = a
    · subst z; rw [upd_same]; simp
    · rw [upd_ne z]; exact r.fzs c h
  tab := fun P h => by
    obtain ⟨ps, e1, t⟩ := r.tab P h
    refine ⟨ps, ?_, t⟩
    rw [upd_ne (fun z => by subst z; rw [e1] at e; cases e; exact m)]
    exact e1
  dom := fun c h => by
    by_cases z : c = a
    · subst z; rw [upd_same]; simp
    · rw [upd_ne z]; exact r.dom c h
  kp := fun c u h n t => by
    have := r.kp c u h n t
    rw [upd_ne (fun z => by subst z; rw [nb] at h; cases h)]
    exact this
  fn := r.fn
  sn := r.sn
theorem PrivAt.upd1 {a c : Addr} {o o' : HO} {d : D} (p : PrivAt K b g H c d) (ne : c ≠ a) (nf : ¬ g.fz a) (e : H a = some o') (m : MutO o') : PrivAt K b g (upd H a o) c d :=
  ⟨p.nf, p.ns, p.nb, p.own.move (.refl g) (fun c u h n _ => by rw [upd_ne (fun z => by subst z; rw [e] at h; cases h; exact n m)]; exact h) (fun c f u h _ => by rw [upd_ne (fun z => by subst z; exact nf f)]; exact .inl h) fun u h => by rw [upd_ne ne]; exact h⟩
/-- an owned slot's object changes -/
theorem Post.mut {i : Nat} {d d' : D} {a : Addr} {o : HO} (r : Rel K tabs b g Γ σ H) (h : Γ.sl[i]? = some (some (d, true))) (hv : σ[i]? = some (some (.ref a))) (own : OwnAt K g (upd H a o) a d') : Post K tabs b g Γ σ H g (mutM Γ i d') (upd H a o) := by
  obtain ⟨a', e1, p⟩ := r.own i d h
  rw [hv] at e1
  cases e1
  obtain ⟨o', e, m⟩ := p.own.mut
  have hl : i < Γ.sl.length := by
    rcases Nat.lt_or_ge i Γ.sl.length with z | z
    · exact z
    · rw [List.getElem?_eq_none z] at h; cases h
  have g1 : ∀ j, j ≠ i → (mutM Γ i d').sl[j]? = Γ.sl[j]? := fun j ne => List.getElem?_set_ne (Ne.symm ne)
  have g2 : (mutM Γ i d').sl[i]? = some (some (d', true)) := by
    show (Γ.sl.set i _)[i]? = _
    rw [List.getElem?_set_self hl]
  refine ⟨.refl g, { toGRel := r.toGRel.upd1 p.nf p.ns p.nb e m, old := fun j dj ej => ?_, own := fun j dj ej => ?_, dis := fun j k dj dk c ne ej ek => ?_, len := ?_ }, fun c u h1 h2 _ => ?_, fun j dj ej => ?_, fun j q ej => ?_, fun _ h => .inl h, fun c h => ?_, fun _ h => .inl h⟩
  · by_cases ji : j = i
    · subst ji; rw [g2] at ej; cases ej
    · rw [g1 j ji] at ej
      obtain ⟨v, h1, h2⟩ := r.old j dj ej
      exact ⟨v, h1, h2.upd1 p.nf e m⟩
  · by_cases ji : j = i
    · subst ji
      rw [g2] at ej
      cases ej
      exact ⟨a, hv, p.nf, p.ns, p.nb, own⟩
    · rw [g1 j ji] at ej
      obtain ⟨c, h1, h2⟩ := r.own j dj ej
      refine ⟨c, h1, h2.upd1 (fun z => ?_) p.nf e m⟩
      subst z
      exact r.dis j i dj d c ji ej h h1 hv
  · have fj : ∃ d0, Γ.sl[j]? = some (some (d0, true)) := by
      by_cases ji : j = i
      · subst ji; exact ⟨_, h⟩
      · rw [g1 j ji] at ej; exact ⟨_, ej⟩
    have fk : ∃ d0, Γ.sl[k]? = some (some (d0, true)) := by
      by_cases ji : k = i
      · subst ji; exact ⟨_, h⟩
      · rw [g1 k ji] at ek; exact ⟨_, ek⟩
    obtain ⟨d1, fj⟩ := fj
    obtain ⟨d2, fk⟩ := fk
    exact r.dis j k d1 d2 c ne fj fk
  · show (Γ.sl.set i _).length = _
    rw [List.length_set]
    exact r.len
  · rw [upd_ne (fun z => by subst z; exact h2 (.inl ⟨i, d, h, hv⟩))]; exact .inl h1
  · by_cases ji : j = i
    · subst ji; exact ⟨_, h⟩
    · rw [g1 j ji] at ej; exact ⟨_, ej⟩
  · by_cases ji : j = i
    · subst ji; exact ⟨_, g2⟩
    · exact ⟨q, by rw [g1 j ji]; exact ej⟩
  · by_cases z : c = a
    · subst z; rw [upd_same]; simp
    · rw [upd_ne z]; exact h
theorem fzp_get {q : Pv} {i : Nat} (ne : isVr q i = false) : (fzp Γ q).sl[i]? = Γ.sl[i]? := by
  cases q with
  | old _ => rfl
  | frs _ => rfl
  | vr j =>
    rcases fzn_get Γ j i with z | ⟨z, _⟩
    · exact z
    · subst z; simp [isVr] at ne
/-- an operand is frozen, then an owned slot's object changes -/
theorem Post.put {i : Nat} {d d' : D} {a : Addr} {o : HO} {q : Pv} {w : V} {e : D} (r : Rel K tabs b g Γ σ H) (h : Γ.sl[i]? = some (some (d, true))) (hv : σ[i]? = some (some (.ref a))) (hq : RepO K g Γ σ H w q) (eq : rd Γ q = some e) (ne : isVr q i = false)
    (own : ∀ g', g.Le g' → Rep K g' H w e → OwnAt K g' H a d → ¬ g'.fz a → (∃ o', H a = some o' ∧ MutO o') → OwnAt K g' (upd H a o) a d') : ∃ g', Post K tabs b g Γ σ H g' (mutM (fzp Γ q) i d') (upd H a o) := by
  obtain ⟨g1, x, rw1⟩ := hq.fz r eq
  have h1 : (fzp Γ q).sl[i]? = some (some (d, true)) := by rw [fzp_get ne]; exact h
  obtain ⟨a', e1, p⟩ := x.rel.own i d h1
  rw [hv] at e1
  cases e1
  exact ⟨g1, x.trans (Post.mut x.rel h1 hv (own g1 x.le rw1 p.own p.nf p.own.mut))⟩
theorem seqIx {n : Nat} {k : Int} (h0 : 0 ≤ k) (h1 : k.toNat < n) : seqIndex? k n = some k.toNat := by
  have : ixN n k = some k.toNat := by
    unfold ixN
    rw [if_pos h0, if_pos (by omega)]
  exact (ixN_seq this).1
theorem RepO.slot {v : V} {i : Nat} {d : D} (h : RepO K g Γ σ H v (.vr i)) (r : Rel K tabs b g Γ σ H) (e : Γ.sl[i]? = some (some (d, true))) : ∃ a, v = .ref a ∧ σ[i]? = some (some (.ref a)) ∧ PrivAt K b g H a d := by
  obtain ⟨a, e1, p⟩ := r.own i d e
  have := h.2
  rw [e1] at this
  cases this
  exact ⟨a, rfl, e1, p⟩
theorem mthE_ok {o : Mth} {p : Pv} {qs : List Pv} {x : Pv} {v : V} {vs : List V} (h : mthE o Γ p qs = .ok (x, Γ')) (r : Rel K tabs b g Γ σ H) (hp : RepO K g Γ σ H v p) (hq : RepOs K g Γ σ H vs qs)
    (q : ∀ z g' H', Post K tabs b g Γ σ H g' Γ' H' → RepP K b H g' Γ' σ H' z x → Q z H') : rM o v vs H Q := by
  unfold mthE at h
  split at h
  · rename_i i q0
    split at h
    · rename_i xs d e1 e2
      split at h
      · rename_i hl
        cases h
        obtain ⟨a, rfl, hv, pa⟩ := hp.slot r e1
        obtain ⟨vs0, ea, rr⟩ := pa.own
        match vs, hq with
        | [y], hq =>
          refine ⟨a, vs0, y, rfl, rfl, ea, by rw [rr.length]; exact lim_line hl.1, ?_⟩
          obtain ⟨g', x⟩ := Post.put (d' := .lst (xs ++ [d])) (o := .lst (vs0 ++ [y])) r e1 hv hq.1 e2 hl.2 (fun g' l ry oa nf ⟨o', eo, m⟩ => by
            obtain ⟨vs1, ea1, rr1⟩ := oa
            rw [ea] at ea1
            cases ea1
            exact ⟨_, upd_same, Reps.upd1 nf eo m (rr1.append (.cons ry .nil))⟩)
          exact q _ g' _ x .non
      · cases h
    · cases h
  · rename_i i q0
    split at h
    · rename_i xs ys e1 e2
      split at h
      · rename_i hl
        cases h
        obtain ⟨a, rfl, hv, pa⟩ := hp.slot r e1
        obtain ⟨vs0, ea, rr⟩ := pa.own
        match vs, hq with
        | [y], hq =>
          have ry := hq.1.read r e2
          obtain ⟨c, zs, rfl, ec, rz⟩ := ry.lst
          refine ⟨a, c, vs0, zs, rfl, rfl, ea, ec, by rw [rr.length, rz.length]; exact Nat.le_of_lt (lim_line hl.1), ?_⟩
          exact q _ g _ (Post.mut r e1 hv ⟨_, upd_same, Reps.upd1 pa.nf ea trivial (rr.append rz)⟩) .non
      · cases h
    · cases h
  · rename_i i q0
    split at h
    · rename_i xs k e1 e2
      split at h
      · rename_i hl
        split at h
        · rename_i d e3
          cases h
          obtain ⟨a, rfl, hv, pa⟩ := hp.slot r e1
          obtain ⟨vs0, ea, rr⟩ := pa.own
          match vs, hq with
          | [y], hq =>
            have ry := hq.1.read r e2
            obtain rfl := ry.int
            obtain ⟨u, e4, ru⟩ := rr.get' e3
            have hk : k.toNat < vs0.length := by
              rcases Nat.lt_or_ge k.toNat vs0.length with z | z
              · exact z
              · rw [List.getElem?_eq_none z] at e4; cases e4
            have hL : LIM = 1000000 := rfl
            refine ⟨a, vs0, k, k.toNat, u, rfl, rfl, ea, by omega, by omega, seqIx hl.1 hk, e4, ?_⟩
            exact q _ g _ (Post.mut r e1 hv ⟨_, upd_same, Reps.upd1 pa.nf ea trivial (rr.eraseIdx _)⟩) (Rep.upd1 pa.nf ea trivial ru)
        · cases h
      · cases h
    · cases h
  · rename_i q0
    split at h
    · rename_i ks ds k e1 e2
      split at h
      · rename_i k' ek
        cases h
        match vs, hq with
        | [y], hq =>
          obtain ⟨a, o, rfl, dg, m⟩ := (hp.read r e1).dget (hq.1.read r e2) ek
          refine ⟨a, y, o, rfl, rfl, dg, q _ g H (.refl r) ?_⟩
          split at m
          · rename_i d' e'
            obtain ⟨u, rfl, ru⟩ := m
            rw [e']
            exact ru
          · rename_i e'
            subst m
            rw [e']
            exact Rep.non
      · cases h
    · rename_i ks ds k e1 e2
      split at h
      · rename_i k' ek
        cases h
        match vs, hq with
        | [y], hq =>
          obtain ⟨a, o, rfl, dg, m⟩ := (hp.read r e1).dgetT (hq.1.read r e2) ek
          refine ⟨a, y, o, rfl, rfl, dg, q _ g H (.refl r) ?_⟩
          split at m
          · rename_i d' e'
            obtain ⟨u, rfl, ru⟩ := m
            rw [e']
            exact ru
          · rename_i e'
            subst m
            rw [e']
            exact Rep.non
      · cases h
    · cases h
  · cases h
/-- what the receiver is, not locked -/
def OwnP (K : PySem.W.Frag) (Γ : En) (H : Hp) (v : V) (p : Pv) : Prop := ownD Γ p = true → ∃ (a : Addr) (g0 : Gh) (d : D), v = .ref a ∧ dctD d = true ∧ OwnAt K g0 H a d
theorem RepP.ownP {H0 : Hp} {v : V} {p : Pv} (h : RepP K b H0 g Γ σ H v p) (r : Rel K tabs b g Γ σ H) : OwnP K Γ H v p := fun hd => by
  cases p with
  | old d => cases hd
  | frs d =>
    obtain ⟨a, rfl, _, p, _⟩ := h
    exact ⟨a, g, d, rfl, hd, p.own⟩
  | vr i =>
    obtain ⟨_, hv⟩ := h
    unfold ownD at hd
    simp only at hd
    split at hd
    · rename_i d e
      obtain ⟨a, e1, p⟩ := r.own i d e
      rw [hv] at e1
      cases e1
      exact ⟨a, g, d, rfl, hd, p.own⟩
    · cases hd
theorem SE.o2 {t : TE} {r : En → R (Pv × En)} (h : SE K tabs t r) {Q : VK} {p : Pv} (e : r Γ = .ok (p, Γ')) (R0 : Rel K tabs b g Γ σ H)
    (q : ∀ v g' H', Post K tabs b g Γ σ H g' Γ' H' → RepO K g' Γ' σ H' v p → OwnP K Γ' H' v p → Q v H') : t σ H Q := h b g Γ σ H Q p Γ' e R0 fun v g1 H1 x rp => by
  obtain ⟨g2, l, r2, ro, hs, hf⟩ := rp.freeze x.rel
  refine q v g2 H1 { le := x.le.trans l, rel := r2, kp := x.kp.mono l.fz, ow := x.ow, sh := x.sh, sn := fun p e => x.sn p (by rw [← hs]; exact e), dm := x.dm, fn := fun a z => ?_ } ro (rp.ownP x.rel)
  rcases hf a z with z | z
  · exact x.fn a z
  · exact .inr (.inr z)
theorem tyM_ok {o : Mth} {p : Pv} {v : V} (r : Rel K tabs b g Γ σ H) (hp : RepO K g Γ σ H v p) (ho : OwnP K Γ H v p) (h : tyM o Γ p = true) : tyV K (mty o) v H := by
  have lst : lstD (rd Γ p) = true → ∃ a vs, v = .ref a ∧ H a = some (.lst vs) := fun h => by
    cases e : rd Γ p with
    | none => rw [e] at h; cases h
    | some d =>
      rw [e] at h
      cases d <;> first
        | (cases h; done)
        | (obtain ⟨a, vs, rfl, e1, _⟩ := (hp.read r e).lst
           exact ⟨a, vs, rfl, e1⟩)
  cases o with
  | get =>
    obtain ⟨a, g0, d, rfl, hd, own⟩ := ho h
    cases d <;> first
      | (cases hd; done)
      | (obtain ⟨vs, e1, _⟩ := own; exact .inr (.inr (.inl ⟨rfl, .inl ⟨_, e1⟩⟩)))
      | (obtain ⟨vs, e1, _⟩ := own; exact .inr (.inr (.inl ⟨rfl, .inr ⟨_, e1⟩⟩)))
  | append => obtain ⟨a, vs, rfl, e1⟩ := lst h; exact .inl ⟨rfl, _, .of e1⟩
  | extend => obtain ⟨a, vs, rfl, e1⟩ := lst h; exact .inl ⟨rfl, _, .of e1⟩
  | popAt => obtain ⟨a, vs, rfl, e1⟩ := lst h; exact .inl ⟨rfl, _, .of e1⟩
end
end Ux

namespace Ux
open PySem PySem.Spec PyProof.Rows L2 GxR
section
variable {K : PySem.W.Frag} {tabs : List Addr} {b : B0} {g g' : Gh} {Γ Γ' : En} {σ : L2.St} {H H' : Hp}
theorem any_zip {κ : Type} [DecidableEq κ] (k : κ) : ∀ {ks : List κ} {vs : List V}, ks.length = vs.length → ((ks.zip vs).any fun kv => decide (kv.1 = k)) = decide (k ∈ ks)
  | [], _, _ => rfl
  | x :: ks, [], e => by cases e
  | x :: ks, v :: vs, e => by
    rw [List.zip_cons_cons, List.any_cons, any_zip k (by simpa using e)]
    simp only [List.mem_cons]
    by_cases h : x = k
    · simp [h]
    · have : ¬ k = x := fun z => h z.symm
      simp [h, this]
def setV {κ : Type} [DecidableEq κ] (k : κ) (v : V) : List κ → List V → List V
  | x :: xs, d :: ds => (if x = k then v else d) :: setV k v xs ds
  | _, _ => []
theorem map_zip_set {κ : Type} [DecidableEq κ] (k : κ) (v : V) : ∀ {ks : List κ} {vs : List V}, (ks.zip vs).map (fun kv => if kv.1 = k then (kv.1, v) else kv) = ks.zip (setV k v ks vs)
  | [], _ => rfl
  | x :: ks, [] => rfl
  | x :: ks, w :: vs => by
    unfold setV
    rw [List.zip_cons_cons, List.map_cons, map_zip_set k v, List.zip_cons_cons]
    by_cases h : x = k
    · simp [h]
    · simp [h]
theorem setV_len {κ : Type} [DecidableEq κ] (k : κ) (v : V) : ∀ {ks : List κ} {vs : List V}, ks.length = vs.length → (setV k v ks vs).length = vs.length
  | [], [], _ => rfl
  | [], v :: vs, e => by cases e
  | x :: ks, [], e => by cases e
  | x :: ks, w :: vs, e => by
    unfold setV
    rw [List.length_cons, List.length_cons, setV_len k v (by simpa using e)]
theorem Reps.setK {κ : Type} [DecidableEq κ] {k : κ} {v : V} {d : D} (h : Rep K g H v d) : ∀ {ks : List κ} {vs : List V} {ds : List D}, Reps K g H vs ds → Reps K g H (setV k v ks vs) (Ux.setK k d ks ds)
  | [], _, _, _ => by unfold setV Ux.setK; exact .nil
  | x :: ks, _, _, .nil => .nil
  | x :: ks, _, _, .cons r t => by
    unfold setV Ux.setK
    by_cases e : x = k
    · rw [if_pos e, if_pos e]; exact .cons h (Reps.setK h t)
    · rw [if_neg e, if_neg e]; exact .cons r (Reps.setK h t)
theorem zip_snoc {κ : Type} {ks : List κ} {vs : List V} {k : κ} {v : V} (h : ks.length = vs.length) : ks.zip vs ++ [(k, v)] = (ks ++ [k]).zip (vs ++ [v]) := by
  rw [List.zip_append h]; rfl
theorem putK_zip {κ : Type} [DecidableEq κ] {ks : List κ} {vs : List V} {k : κ} {v : V} (h : ks.length = vs.length) : L2.putK (ks.zip vs) k v = if k ∈ ks then ks.zip (setV k v ks vs) else (ks ++ [k]).zip (vs ++ [v]) := by
  unfold L2.putK
  rw [any_zip k h, map_zip_set, zip_snoc h]
  by_cases e : k ∈ ks <;> simp [e]
theorem sub_ok {p q r : Pv} {o i v : V} {Q : Hp → Prop} (h : subE Γ p q r = .ok Γ') (R0 : Rel K tabs b g Γ σ H) (hp : RepO K g Γ σ H o p) (hq : RepO K g Γ σ H i q) (hr : RepO K g Γ σ H v r)
    (qq : ∀ g' H', Post K tabs b g Γ σ H g' Γ' H' → Q H') : rSetL o i v H Q ∨ ∃ a H4, o = .ref a ∧ DPut H a i v H4 ∧ Q H4 := by
  unfold subE at h
  split at h
  · rename_i s
    split at h
    · rename_i xs k w e1 e2 e3
      split at h
      · rename_i hl
        cases h
        obtain ⟨a, rfl, hv, pa⟩ := hp.slot R0 e1
        obtain ⟨vs0, ea, rr⟩ := pa.own
        obtain rfl := (hq.read R0 e2).int
        have hlen := rr.length
        obtain ⟨g', x⟩ := Post.put (d' := .lst (xs.set k.toNat w)) (o := .lst (vs0.set k.toNat v)) R0 e1 hv hr e3 hl.2.2 (fun g' l ry oa nf ⟨o', eo, m⟩ => by
          obtain ⟨vs1, ea1, rr1⟩ := oa
          rw [ea] at ea1
          cases ea1
          exact ⟨_, upd_same, Reps.upd1 nf eo m (Reps.set ry _ rr1)⟩)
        refine .inl ⟨a, vs0, k, k.toNat, rfl, rfl, ea, ?_, qq g' _ x⟩
        unfold ixN
        rw [if_pos hl.1, if_pos (by omega)]
      · cases h
    · rename_i ks ds k w e1 e2 e3
      split at h
      · rename_i k' ek
        split at h
        · rename_i hl
          obtain ⟨a, rfl, hv, pa⟩ := hp.slot R0 e1
          obtain ⟨vs0, ea, hz, rr⟩ := pa.own
          obtain rfl := (hq.read R0 e2).key ek
          have hlen : (ks.zip vs0).length < sizeLine := by
            rw [List.length_zip, hz, Nat.min_self, rr.length]; exact lim_line hl.1
          refine .inr ⟨a, _, rfl, DPut.k ea hlen, ?_⟩
          rw [putK_zip hz]
          split at h
          · rename_i hk
            cases h
            rw [if_pos (memK_iff.mp hk)]
            obtain ⟨g', x⟩ := Post.put (d' := .dk ks (setK k' w ks ds)) (o := .dK (ks.zip (setV k' v ks vs0))) R0 e1 hv hr e3 hl.2 (fun g' l ry oa nf ⟨o', eo, m⟩ => by
              obtain ⟨vs1, ea1, hz1, rr1⟩ := oa
              rw [ea] at ea1
              have hvs : vs0 = vs1 := by
                have e := congrArg (fun z : List (Key × V) => z.map (·.2)) (HO.dK.inj (Option.some.inj ea1))
                rw [List.map_snd_zip (by omega), List.map_snd_zip (by omega)] at e
                exact e
              subst hvs
              exact ⟨_, upd_same, by rw [setV_len _ _ hz]; exact hz, Reps.upd1 nf eo m (Reps.setK ry rr1)⟩)
            exact qq g' _ x
          · rename_i hk
            cases h
            rw [if_neg (fun z => hk (memK_iff.mpr z))]
            obtain ⟨g', x⟩ := Post.put (d' := .dk (ks ++ [k']) (ds ++ [w])) (o := .dK ((ks ++ [k']).zip (vs0 ++ [v]))) R0 e1 hv hr e3 hl.2 (fun g' l ry oa nf ⟨o', eo, m⟩ => by
              obtain ⟨vs1, ea1, hz1, rr1⟩ := oa
              rw [ea] at ea1
              have hvs : vs0 = vs1 := by
                have e := congrArg (fun z : List (Key × V) => z.map (·.2)) (HO.dK.inj (Option.some.inj ea1))
                rw [List.map_snd_zip (by omega), List.map_snd_zip (by omega)] at e
                exact e
              subst hvs
              exact ⟨_, upd_same, by simp [hz], Reps.upd1 nf eo m (rr1.append (.cons ry .nil))⟩)
            exact qq g' _ x
        · cases h
      · cases h
    · rename_i ks ds k w e1 e2 e3
      split at h
      · rename_i k' ek
        split at h
        · rename_i hl
          obtain ⟨a, rfl, hv, pa⟩ := hp.slot R0 e1
          obtain ⟨vs0, ea, hz, rr⟩ := pa.own
          have hlen : (ks.zip vs0).length < sizeLine := by
            rw [List.length_zip, hz, Nat.min_self, rr.length]; exact lim_line hl.1
          have hkey : ∃ c, i = .ref c ∧ H c = some (.tup (k'.map kV)) := by
            have hb := hq.read R0 e2
            cases k with
            | tup ds' =>
              obtain ⟨c, ws, rfl, hx, hr⟩ := hb.tup
              exact ⟨c, rfl, by rw [hx, Reps.keys hr ek]⟩
            | _ => cases ek
          obtain ⟨c, rfl, ec⟩ := hkey
          refine .inr ⟨a, _, rfl, DPut.t ea ec hlen, ?_⟩
          rw [putK_zip hz]
          split at h
          · rename_i hk
            cases h
            rw [if_pos (memK_iff.mp hk)]
            obtain ⟨g', x⟩ := Post.put (d' := .dt ks (setK k' w ks ds)) (o := .dT (ks.zip (setV k' v ks vs0))) R0 e1 hv hr e3 hl.2 (fun g' l ry oa nf ⟨o', eo, m⟩ => by
              obtain ⟨vs1, ea1, hz1, rr1⟩ := oa
              rw [ea] at ea1
              have hvs : vs0 = vs1 := by
                have e := congrArg (fun z : List (List Key × V) => z.map (·.2)) (HO.dT.inj (Option.some.inj ea1))
                rw [List.map_snd_zip (by omega), List.map_snd_zip (by omega)] at e
                exact e
              subst hvs
              exact ⟨_, upd_same, by rw [setV_len _ _ hz]; exact hz, Reps.upd1 nf eo m (Reps.setK ry rr1)⟩)
            exact qq g' _ x
          · rename_i hk
            cases h
            rw [if_neg (fun z => hk (memK_iff.mpr z))]
            obtain ⟨g', x⟩ := Post.put (d' := .dt (ks ++ [k']) (ds ++ [w])) (o := .dT ((ks ++ [k']).zip (vs0 ++ [v]))) R0 e1 hv hr e3 hl.2 (fun g' l ry oa nf ⟨o', eo, m⟩ => by
              obtain ⟨vs1, ea1, hz1, rr1⟩ := oa
              rw [ea] at ea1
              have hvs : vs0 = vs1 := by
                have e := congrArg (fun z : List (List Key × V) => z.map (·.2)) (HO.dT.inj (Option.some.inj ea1))
                rw [List.map_snd_zip (by omega), List.map_snd_zip (by omega)] at e
                exact e
              subst hvs
              exact ⟨_, upd_same, by simp [hz], Reps.upd1 nf eo m (rr1.append (.cons ry .nil))⟩)
            exact qq g' _ x
        · cases h
      · cases h
    · cases h
  · cases h
end
end Ux

namespace Ux
open PySem PySem.Spec PyProof.Rows L2 GxR
/-- what a step keeps -/
structure Stp (g : Gh) (H : Hp) (g' : Gh) (H' : Hp) : Prop where
  le : g.Le g'
  kf : ∀ c o, H c = some o → ¬ MutO o → (∀ ps, o ≠ .tbl ps) → H' c = some o
  kz : ∀ c, g.fz c → ∀ o, H c = some o → MutO o → AsW True o (H' c)
theorem Stp.refl (g : Gh) (H : Hp) : Stp g H g H := ⟨.refl g, fun _ _ h _ _ => h, fun _ _ _ h _ => .inl h⟩
theorem Stp.trans {g g1 g2 : Gh} {H H1 H2 : Hp} (x : Stp g H g1 H1) (y : Stp g1 H1 g2 H2) : Stp g H g2 H2 :=
  ⟨x.le.trans y.le, fun c o e n t => y.kf c o (x.kf c o e n t) n t, fun c f o e m => by
    rcases x.kz c f o e m with e1 | ⟨_, d, od, e1⟩
    · exact y.kz c (x.le.fz c f) o e1 m
    · exact .inr ⟨trivial, d, od, y.kf c _ e1 (fun z => z) (fun ps z => by cases z)⟩⟩
section
variable {K : PySem.W.Frag} {tabs : List Addr} {b : B0} {g g' : Gh} {Γ Γ' : En} {σ σ' : L2.St} {H H' : Hp}
theorem Post.stp (x : Post K tabs b g Γ σ H g' Γ' H') (r : Rel K tabs b g Γ σ H) : Stp g H g' H' := ⟨x.le, x.kf r, x.kz r⟩
theorem Stp.rep (s : Stp g H g' H') {v : V} {d : D} (h : Rep K g H v d) : Rep K g' H' v d := Rep.move s.le s.kf s.kz h
theorem Stp.reps (s : Stp g H g' H') {v : List V} {d : List D} (h : Reps K g H v d) : Reps K g' H' v d := Reps.move s.le s.kf s.kz h

/-! ### sources -/
inductive SrcIs (K : PySem.W.Frag) (g : Gh) (H : Hp) : It → List D → Prop
  | lst {a : Addr} {vs : List V} {xs : List D} : g.fz a → H a = some (.lst vs) → Reps K g H vs xs → SrcIs K g H (Itl K a) xs
  | tup {a : Addr} {vs : List V} {xs : List D} : H a = some (.tup vs) → Reps K g H vs xs → SrcIs K g H (Itt K a) xs
  | keys {d : Addr} {o : Obj} {ks : List Key} {vs : List V} : H d = some (.frz o (.dK (ks.zip vs))) → ks.length = vs.length → SrcIs K g H (Itk d o (ks.zip vs)) (ks.map kDat)
  | keysT {d : Addr} {o : Obj} {ks : List (List Key)} {vs : List V} : H d = some (.frz o (.dT (ks.zip vs))) → ks.length = vs.length → SrcIs K g H (Itkt d o (ks.zip vs)) (ks.map fun k => D.tup (k.map kDat))
  | enT {a : Addr} {vs : List V} {xs : List D} : H a = some (.tup vs) → Reps K g H vs xs → SrcIs K g H (IteT K a) (numD 0 xs)
  | enL {a : Addr} {vs : List V} {xs : List D} : g.fz a → H a = some (.lst vs) → Reps K g H vs xs → SrcIs K g H (Ite K a) (numD 0 xs)
  | rng (lo : Int) (n : Nat) : SrcIs K g H (Itr lo n) ((List.range n).map fun i => D.int (lo + (i : Nat)))
theorem SrcIs.step {J : It} {xs : List D} (h : SrcIs K g H J xs) (s : Stp g H g' H') : SrcIs K g' H' J xs := by
  cases h with
  | lst h1 h2 h3 => exact .lst (s.le.fz _ h1) (lst_keep (s.kz _ h1 _ h2 trivial)) (s.reps h3)
  | tup h2 h3 => exact .tup (s.kf _ _ h2 (fun z => z) (fun ps z => by cases z)) (s.reps h3)
  | keys h2 h3 => exact .keys (s.kf _ _ h2 (fun z => z) (fun ps z => by cases z)) h3
  | keysT h2 h3 => exact .keysT (s.kf _ _ h2 (fun z => z) (fun ps z => by cases z)) h3
  | enT h2 h3 => exact .enT (s.kf _ _ h2 (fun z => z) (fun ps z => by cases z)) (s.reps h3)
  | enL h1 h2 h3 => exact .enL (s.le.fz _ h1) (lst_keep (s.kz _ h1 _ h2 trivial)) (s.reps h3)
  | rng lo n => exact .rng lo n
theorem SqL.uniq {a : Addr} {vs ws : List V} (h : H a = some (.lst vs)) (kt : True) (q : Rd H a (.lst ws)) : ws = vs := by
  rcases q with q | ⟨o, q⟩
  · rw [h] at q; cases q; rfl
  · rw [h] at q; cases q
theorem numD_len : ∀ (i : Nat) (xs : List D), (numD i xs).length = xs.length
  | _, [] => rfl
  | i, x :: xs => by unfold numD; rw [List.length_cons, numD_len (i + 1) xs]; rfl
theorem numD_get : ∀ (i : Nat) (xs : List D) (j : Nat), (numD i xs)[j]? = xs[j]?.map fun x => D.tup [.int ((i + j : Nat) : Int), x]
  | _, [], j => by simp [numD]
  | i, x :: xs, 0 => rfl
  | i, x :: xs, j + 1 => by
    unfold numD
    rw [List.getElem?_cons_succ, List.getElem?_cons_succ, numD_get (i + 1) xs j, show i + 1 + j = i + (j + 1) by omega]
theorem SrcIs.go {J : It} {xs : List D} (h : SrcIs K g H J xs) {i : Nat} (hi : i < xs.length) : J.go i H := by
  cases h with
  | lst h1 h2 h3 =>
    have hl := h3.length
    exact ⟨_, _, .of h2, List.getElem?_eq_getElem (by omega)⟩
  | tup h2 h3 =>
    have hl := h3.length
    exact ⟨_, _, .of h2, List.getElem?_eq_getElem (by omega)⟩
  | enT h2 h3 =>
    have hl := h3.length
    rw [numD_len] at hi
    exact ⟨_, _, .of h2, List.getElem?_eq_getElem (by omega)⟩
  | enL h1 h2 h3 =>
    have hl := h3.length
    rw [numD_len] at hi
    exact ⟨_, _, .of h2, List.getElem?_eq_getElem (by omega)⟩
  | keys h2 h3 =>
    refine ⟨h2, ?_⟩
    rw [List.length_zip, h3, Nat.min_self, ← h3]
    simpa using hi
  | keysT h2 h3 =>
    refine ⟨h2, ?_⟩
    rw [List.length_zip, h3, Nat.min_self, ← h3]
    simpa using hi
  | rng lo n =>
    have : i < n := by simpa using hi
    exact this
theorem SrcIs.stop {J : It} {xs : List D} (h : SrcIs K g H J xs) {i : Nat} (hi : xs.length ≤ i) (hx : i ≤ xs.length) : J.stop i H := by
  cases h with
  | lst h1 h2 h3 => exact ⟨_, .of h2, by rw [h3.length]; exact hi⟩
  | tup h2 h3 => exact ⟨_, .of h2, by rw [h3.length]; exact hi⟩
  | enT h2 h3 =>
    rw [numD_len] at hi hx
    exact ⟨_, .of h2, by rw [h3.length]; omega⟩
  | enL h1 h2 h3 =>
    rw [numD_len] at hi hx
    exact ⟨_, .of h2, by rw [h3.length]; omega⟩
  | keys h2 h3 =>
    refine ⟨h2, ?_⟩
    rw [List.length_zip, h3, Nat.min_self, ← h3]
    simpa using hi
  | keysT h2 h3 =>
    refine ⟨h2, ?_⟩
    rw [List.length_zip, h3, Nat.min_self, ← h3]
    simpa using hi
  | rng lo n =>
    have : n ≤ i := by simpa using hi
    exact this
theorem kDats : ∀ {k : List Key}, Reps K g H (k.map kV) (k.map kDat)
  | [] => .nil
  | .inl i :: k => .cons (.int i) kDats
  | .inr z :: k => .cons (.str z) kDats
/-- a turn: the item, maybe new -/
theorem SrcIs.turn {J : It} {xs : List D} (h : SrcIs K g H J xs) (r : Rel K tabs b g Γ σ H) {i : Nat} {x : V} {H2 : Hp} (hi : i < xs.length) (y : J.yld i H x H2) : ∃ d, xs[i]? = some d ∧ Post K tabs b g Γ σ H g Γ H2 ∧ Rep K g H2 x d := by
  cases h with
  | lst h1 h2 h3 =>
    obtain ⟨e, y⟩ := y
    subst e
    obtain ⟨d, e1, e2⟩ := h3.get (y _ (.of h2))
    exact ⟨d, e1, .refl r, e2⟩
  | tup h2 h3 =>
    obtain ⟨e, y⟩ := y
    subst e
    obtain ⟨d, e1, e2⟩ := h3.get (y _ (.of h2))
    exact ⟨d, e1, .refl r, e2⟩
  | enT h2 h3 =>
    obtain ⟨T, u, rfl, hn, rfl, hu⟩ := y
    obtain ⟨d, e1, e2⟩ := h3.get (hu _ (.of h2))
    refine ⟨.tup [.int (i : Nat), d], by rw [numD_get, e1, Nat.zero_add]; rfl, Post.alloc r hn, .tup upd_same (.cons (.int _) (.cons (Rep.alloc hn e2) .nil))⟩
  | enL h1 h2 h3 =>
    obtain ⟨T, u, rfl, hn, rfl, hu⟩ := y
    obtain ⟨d, e1, e2⟩ := h3.get (hu _ (.of h2))
    refine ⟨.tup [.int (i : Nat), d], by rw [numD_get, e1, Nat.zero_add]; rfl, Post.alloc r hn, .tup upd_same (.cons (.int _) (.cons (Rep.alloc hn e2) .nil))⟩
  | keys h2 h3 =>
    obtain ⟨e, k, v, e1, rfl⟩ := y
    subst e
    rw [List.getElem?_zip_eq_some] at e1
    refine ⟨kDat k, by rw [List.getElem?_map, e1.1]; rfl, .refl r, ?_⟩
    cases k with
    | inl i => exact .int i
    | inr z => exact .str z
  | keysT h2 h3 =>
    obtain ⟨e, k, v, q, e1, rfl, e2⟩ := y
    subst e
    rw [List.getElem?_zip_eq_some] at e1
    exact ⟨.tup (k.map kDat), by rw [List.getElem?_map, e1.1]; rfl, .refl r, .tup e2 kDats⟩
  | rng lo n =>
    obtain ⟨e, rfl⟩ := y
    subst e
    have hi : i < n := by simpa using hi
    exact ⟨.int (lo + (i : Nat)), by simp [hi], .refl r, .int _⟩
theorem rgD_len (a c : Int) : (rgD a c).length = (c - a).toNat := by simp [rgD]
theorem rg_ok {a c : Int} (h : rgOkB a c = true) : -1000000 ≤ a ∧ a ≤ 1000000 ∧ -1000000 ≤ c ∧ c ≤ 1000000 := by
  unfold rgOkB at h
  simp only [Bool.and_eq_true, decide_eq_true_eq] at h
  exact ⟨h.1.1.1, h.1.1.2, h.1.2, h.2⟩
/-- a frozen dict is locked -/
theorem Rel.lock {a : Addr} {u : HO} {o : Obj} (r : Rel K tabs b g Γ σ H) (f : g.fz a) (du : DctO u) (e : H a = some u) : Post K tabs b g Γ σ H g Γ (upd H a (.frz o u)) := by
  have kf : ∀ c o', H c = some o' → ¬ MutO o' → (∀ ps, o' ≠ .tbl ps) → (upd H a (.frz o u)) c = some o' := fun c o' h n _ => by
    rw [upd_ne (fun z => by subst z; rw [e] at h; cases h; exact n du.mut)]; exact h
  have as : ∀ c o', H c = some o' → AsW (g.fz c) o' ((upd H a (.frz o u)) c) := fun c o' h => by
    by_cases z : c = a
    · subst z
      rw [e] at h
      cases h
      exact .inr ⟨f, du, o, upd_same⟩
    · exact .inl (by rw [upd_ne z]; exact h)
  have kz : ∀ c, g.fz c → ∀ o', H c = some o' → MutO o' → AsW True o' ((upd H a (.frz o u)) c) := fun c _ o' h _ => (as c o' h).imp id fun z => ⟨trivial, z.2⟩
  have nn : ∀ c, H c ≠ none → (upd H a (.frz o u)) c ≠ none := fun c h => by
    by_cases z : c = a
    · subst z; rw [upd_same]; simp
    · rw [upd_ne z]; exact h
  refine ⟨.refl g, { le := r.le, str := ?_, fzs := fun c h => nn c (r.fzs c h), tab := fun P h => ?_, dom := fun c h => nn c (r.dom c h), kp := fun c o' h n t => ?_, fn := r.fn, sn := r.sn, old := fun j d h => ?_, own := fun j d h => ?_, dis := r.dis, len := r.len }, fun c o' h _ _ => as c o' h, fun _ d h => ⟨d, h⟩, fun _ q h => ⟨q, h⟩, fun _ h => .inl h, nn, fun _ h => .inl h⟩
  · have s := r.str
    cases hw : Γ.w with
    | none => rw [hw] at s; exact s
    | some st =>
      rw [hw] at s
      obtain ⟨c, L, vs, e1, n, e2, f2, e3, e4⟩ := s
      exact ⟨c, L, vs, e1, n, by rw [upd_ne (fun z => by subst z; rw [e] at e2; cases e2; exact du.elim)]; exact e2, f2, by rw [upd_ne (fun z => by subst z; rw [e] at e3; cases e3; exact du.elim)]; exact e3, e4⟩
  · obtain ⟨ps, e1, t⟩ := r.tab P h
    refine ⟨ps, ?_, t⟩
    rw [upd_ne (fun z => by subst z; rw [e1] at e; cases e; exact du.elim)]
    exact e1
  · rcases r.kp c o' h n t with h1 | ⟨f1, d1, od, h1⟩
    · exact as c o' h1
    · refine .inr ⟨f1, d1, od, ?_⟩
      rw [upd_ne (fun z => by subst z; rw [e] at h1; cases h1; exact du.elim)]
      exact h1
  · obtain ⟨v, h1, h2⟩ := r.old j d h
    exact ⟨v, h1, Rep.move (.refl g) kf kz h2⟩
  · obtain ⟨c, h1, p⟩ := r.own j d h
    exact ⟨c, h1, p.nf, p.ns, p.nb, p.own.move (.refl g) kf kz fun o' h => by rw [upd_ne (fun z => by subst z; exact p.nf f)]; exact h⟩
theorem Rel.lockR {a : Addr} {u : HO} {o : Obj} (r : Rel K tabs b g Γ σ H) (f : g.fz a) (du : DctO u) (e : H a = some u ∨ H a = some (.frz o u)) : Post K tabs b g Γ σ H g Γ (upd H a (.frz o u)) := by
  rcases e with e | e
  · exact r.lock f du e
  · rw [upd_again e]; exact .refl r
/-- a source: its operands are frozen -/
theorem src_ok {k : IK} {ts : List TE} {r : En → R (List Pv × En)} (hs : SA K tabs (tA ts) r) {ps : List Pv} {ds xs : List D} {Γ1 : En} (hlen : ts.length = ds.length) (e1 : r Γ = .ok (ps, Γ1)) (e2 : rds Γ1 ps = some ds) (e3 : srcD k ds = some xs)
    (R0 : Rel K tabs b g Γ σ H) {RR : It → Hp → Prop} (q : ∀ J g' H', Post K tabs b g Γ σ H g' (fzps Γ1 ps) H' → SrcIs K g' H' J xs → RR J H') : iSrc K k ts σ H RR := by
  have go : ∀ P : List V → Hp → Prop, (∀ vs g1 H1, Post K tabs b g Γ σ H g1 (fzps Γ1 ps) H1 → Reps K g1 H1 vs ds → P vs H1) → tA ts σ H P := fun P h => hs b g Γ σ H P ps Γ1 e1 R0 fun vs g1 H1 x ro => by
    obtain ⟨g2, x2, rs⟩ := ro.fz x.rel e2
    exact h vs g2 H1 (x.trans x2) rs
  unfold srcD at e3
  split at e3
  · rename_i d
    match ts, hlen with
    | [t], _ =>
      by_cases hd : dctD d = true
      · have key : ∀ (ks : Nat) , True := fun _ => trivial
        refine .inr ?_
        show tA [t] σ H (fun vs H1 => match vs with
          | [x] => ∃ d u, x = .ref d ∧ DctO u ∧ Rd H1 d u ∧ ∀ o, (H1 d = some u ∨ H1 d = some (.frz o u)) → (∃ d' o', x = .ref d' ∧ ((∃ kvs, (upd H1 d (.frz o u)) d' = some (.frz o' (.dK kvs)) ∧ RR (Itk d' o' kvs) (upd H1 d (.frz o u))) ∨ ∃ kvs, (upd H1 d (.frz o u)) d' = some (.frz o' (.dT kvs)) ∧ RR (Itkt d' o' kvs) (upd H1 d (.frz o u))))
          | _ => False)
        refine go _ fun vs g1 H1 x rs => ?_
        cases rs with
        | cons r0 rs =>
          cases rs
          cases d <;> first
            | (cases hd; done)
            | skip
          · simp only [itD, Option.some.injEq] at e3
            subst e3
            cases r0 with
            | dk f h1 h2 h3 => exact ⟨_, .dK _, rfl, (show DctO (.dK _) from trivial), h1, fun o ho => ⟨_, o, rfl, .inl ⟨_, upd_same, q _ g1 _ (x.trans (x.rel.lockR f (show DctO (.dK _) from trivial) ho)) (.keys upd_same h2)⟩⟩⟩
          · simp only [itD, Option.some.injEq] at e3
            subst e3
            cases r0 with
            | dt f h1 h2 h3 => exact ⟨_, .dT _, rfl, (show DctO (.dT _) from trivial), h1, fun o ho => ⟨_, o, rfl, .inr ⟨_, upd_same, q _ g1 _ (x.trans (x.rel.lockR f (show DctO (.dT _) from trivial) ho)) (.keysT upd_same h2)⟩⟩⟩
      · refine .inl ?_
        show tA [t] σ H (fun vs H1 => match vs with
          | [x] => ∃ a, x = .ref a ∧ (((∃ xs, SqL K H1 a xs) ∧ RR (Itl K a) H1) ∨ ((∃ xs, SqT K H1 a xs) ∧ RR (Itt K a) H1))
          | _ => False)
        refine go _ fun vs g1 H1 x rs => ?_
        cases rs with
        | cons r0 rs =>
          cases rs
          cases d <;> first
            | (simp only [itD, reduceCtorEq] at e3; done)
            | (exact absurd rfl hd)
            | skip
          · simp only [itD, Option.some.injEq] at e3
            subst e3
            cases r0 with
            | tup h1 h2 => exact ⟨_, rfl, .inr ⟨⟨_, .of h1⟩, q _ g1 H1 x (.tup h1 h2)⟩⟩
          · simp only [itD, Option.some.injEq] at e3
            subst e3
            cases r0 with
            | lst h1 h2 h3 => exact ⟨_, rfl, .inl ⟨⟨_, .of h2⟩, q _ g1 H1 x (.lst h1 h2 h3)⟩⟩
  · rename_i d
    match ts, hlen with
    | [t], _ =>
      obtain ⟨ys, e4, rfl⟩ := Option.map_eq_some_iff.mp e3
      show tA [t] σ H (fun us H1 => ∃ a vs, us = [.ref a] ∧ ((SqT K H1 a vs ∧ RR (IteT K a) H1) ∨ (SqL K H1 a vs ∧ RR (Ite K a) H1)))
      refine go _ fun vs g1 H1 x rs => ?_
      cases rs with
      | cons r0 rs =>
        cases rs
        cases d <;> simp only [seqD, Option.some.injEq, reduceCtorEq] at e4
        · subst e4
          cases r0 with
          | tup h1 h2 => exact ⟨_, _, rfl, .inl ⟨.of h1, q _ g1 H1 x (.enT h1 h2)⟩⟩
        · subst e4
          cases r0 with
          | lst h1 h2 h3 => exact ⟨_, _, rfl, .inr ⟨.of h2, q _ g1 H1 x (.enL h1 h2 h3)⟩⟩
  · rename_i n
    match ts, hlen with
    | [t], _ =>
      split at e3
      · rename_i hr
        cases e3
        have hr := rg_ok hr
        show tA [t] σ H (fun vs H1 => ∃ j : Int, vs = [.int j] ∧ -(2 ^ 62) ≤ j ∧ j < 2 ^ 62 ∧ RR (Itr 0 j.toNat) H1)
        refine go _ fun vs g1 H1 x rs => ?_
        cases rs with
        | cons r0 rs =>
          cases rs
          cases r0
          refine ⟨n, rfl, by omega, by omega, q _ g1 H1 x ?_⟩
          have := SrcIs.rng (K := K) (g := g1) (H := H1) 0 n.toNat
          unfold rgD
          rw [Int.sub_zero]
          exact this
      · cases e3
  · rename_i a c
    match ts, hlen with
    | [t, u], _ =>
      split at e3
      · rename_i hr
        cases e3
        have hr := rg_ok hr
        show tA [t, u] σ H (fun vs H1 => ∃ i j : Int, vs = [.int i, .int j] ∧ (-(2 ^ 62) ≤ i ∧ i < 2 ^ 62 ∧ -(2 ^ 62) ≤ j ∧ j < 2 ^ 62) ∧ RR (Itr i (j - i).toNat) H1)
        refine go _ fun vs g1 H1 x rs => ?_
        cases rs with
        | cons r0 rs =>
          cases rs with
          | cons r1 rs =>
            cases rs
            cases r0
            cases r1
            exact ⟨a, c, rfl, ⟨by omega, by omega, by omega, by omega⟩, q _ g1 H1 x (SrcIs.rng ..)⟩
      · cases e3
  · cases e3

/-! ### targets -/
structure Asg (K : PySem.W.Frag) (tabs : List Addr) (b : B0) (g : Gh) (Γ : En) (σ : L2.St) (H : Hp) (Γ' : En) (σ' : L2.St) (vs : Nat → Bool) : Prop where
  rel : Rel K tabs b g Γ' σ' H
  ow : ∀ (i : Nat) (d : D), Γ'.sl[i]? = some (some (d, true)) → Γ.sl[i]? = some (some (d, true)) ∧ σ'[i]? = σ[i]?
  sh : ∀ (i : Nat) q, Γ.sl[i]? = some (some q) → ∃ q', Γ'.sl[i]? = some (some q')
  out : ∀ i, vs i = false → Γ'.sl[i]? = Γ.sl[i]? ∧ σ'[i]? = σ[i]?
  len : Γ'.sl.length = Γ.sl.length
  w : Γ'.w = Γ.w
theorem Asg.refl {vs : Nat → Bool} (r : Rel K tabs b g Γ σ H) : Asg K tabs b g Γ σ H Γ σ vs := ⟨r, fun _ _ h => ⟨h, rfl⟩, fun _ q h => ⟨q, h⟩, fun _ _ => ⟨rfl, rfl⟩, rfl, rfl⟩
theorem Asg.trans {Γ1 Γ2 : En} {σ1 σ2 : L2.St} {vs : Nat → Bool} (x : Asg K tabs b g Γ σ H Γ1 σ1 vs) (y : Asg K tabs b g Γ1 σ1 H Γ2 σ2 vs) : Asg K tabs b g Γ σ H Γ2 σ2 vs where
  rel := y.rel
  ow := fun i d h => by
    obtain ⟨h1, h2⟩ := y.ow i d h
    obtain ⟨h3, h4⟩ := x.ow i d h1
    exact ⟨h3, h2.trans h4⟩
  sh := fun i q h => by
    obtain ⟨q1, h1⟩ := x.sh i q h
    exact y.sh i q1 h1
  out := fun i h => ⟨(y.out i h).1.trans (x.out i h).1, (y.out i h).2.trans (x.out i h).2⟩
  len := y.len.trans x.len
  w := y.w.trans x.w
theorem get_set {α : Type} (xs : List α) (i j : Nat) (v : α) : (xs.set i v)[j]? = if i = j ∧ i < xs.length then some v else xs[j]? := by
  rw [List.getElem?_set]
  by_cases h : i = j
  · subst h
    by_cases h2 : i < xs.length
    · simp [h2]
    · simp [h2, List.getElem?_eq_none (Nat.le_of_not_lt h2)]
  · simp [h]
/-- a name is bound to what stays -/
theorem Rel.bind {i : Nat} {d : D} {v : V} (r : Rel K tabs b g Γ σ H) (h : Rep K g H v d) : Rel K tabs b g { Γ with sl := Γ.sl.set i (some (d, false)) } (σ.set i (some v)) H where
  toGRel := r.toGRel
  old := fun j dj e => by
    have e : (Γ.sl.set i (some (d, false)))[j]? = some (some (dj, false)) := e
    rw [get_set] at e ⊢
    by_cases hc : i = j ∧ i < Γ.sl.length
    · rw [if_pos hc] at e
      rw [if_pos ⟨hc.1, by rw [← r.len]; exact hc.2⟩]
      cases e
      exact ⟨v, rfl, h⟩
    · rw [if_neg hc] at e
      rw [if_neg (by rw [← r.len]; exact hc)]
      exact r.old j dj e
  own := fun j dj e => by
    have e : (Γ.sl.set i (some (d, false)))[j]? = some (some (dj, true)) := e
    rw [get_set] at e ⊢
    by_cases hc : i = j ∧ i < Γ.sl.length
    · rw [if_pos hc] at e; cases e
    · rw [if_neg hc] at e
      rw [if_neg (by rw [← r.len]; exact hc)]
      exact r.own j dj e
  dis := fun j k dj dk a ne e1 e2 => by
    have e1 : (Γ.sl.set i (some (d, false)))[j]? = some (some (dj, true)) := e1
    have e2 : (Γ.sl.set i (some (d, false)))[k]? = some (some (dk, true)) := e2
    rw [get_set] at e1 e2 ⊢
    rw [get_set]
    by_cases hc : i = j ∧ i < Γ.sl.length
    · rw [if_pos hc] at e1; cases e1
    · by_cases hk : i = k ∧ i < Γ.sl.length
      · rw [if_pos hk] at e2; cases e2
      · rw [if_neg hc] at e1
        rw [if_neg hk] at e2
        rw [if_neg (by rw [← r.len]; exact hc), if_neg (by rw [← r.len]; exact hk)]
        exact r.dis j k dj dk a ne e1 e2
  len := by
    show (Γ.sl.set i _).length = _
    rw [List.length_set, List.length_set]; exact r.len
theorem Asg.bind {i : Nat} {d : D} {v : V} {vs : Nat → Bool} (r : Rel K tabs b g Γ σ H) (h : Rep K g H v d) (hi : vs i = true) : Asg K tabs b g Γ σ H { Γ with sl := Γ.sl.set i (some (d, false)) } (σ.set i (some v)) vs where
  rel := r.bind h
  ow := fun j dj e => by
    have e : (Γ.sl.set i (some (d, false)))[j]? = some (some (dj, true)) := e
    rw [get_set] at e
    by_cases hc : i = j ∧ i < Γ.sl.length
    · rw [if_pos hc] at e; cases e
    · rw [if_neg hc] at e
      refine ⟨e, ?_⟩
      rw [get_set, if_neg (by rw [← r.len]; exact hc)]
  sh := fun j q e => by
    show ∃ q', (Γ.sl.set i (some (d, false)))[j]? = some (some q')
    rw [get_set]
    by_cases hc : i = j ∧ i < Γ.sl.length
    · rw [if_pos hc]; exact ⟨_, rfl⟩
    · rw [if_neg hc]; exact ⟨q, e⟩
  out := fun j e => by
    have ne : i ≠ j := fun z => by rw [← z, hi] at e; cases e
    exact ⟨List.getElem?_set_ne ne, List.getElem?_set_ne ne⟩
  len := List.length_set
  w := rfl
mutual
theorem asg_ok {vs : Nat → Bool} : ∀ (t : MT) {d : D} {v : V} {b : B0} {g : Gh} {Γ Γ' : En} {σ : L2.St} {H : Hp} {Q : L2.St → Hp → Prop}, asg Γ t d = some Γ' → tgIn vs t = true → Rel K tabs b g Γ σ H → Rep K g H v d → (∀ σ', Asg K tabs b g Γ σ H Γ' σ' vs → Q σ' H) → trG K t v σ H Q
  | .name i, d, v, b, g, Γ, Γ', σ, H, Q, e, hi, r, h, q => by
    simp only [asg, Option.some.injEq] at e
    subst e
    exact q _ (Asg.bind r h (by simpa [tgIn] using hi))
  | .tup ts, d, v, b, g, Γ, Γ', σ, H, Q, e, hi, r, h, q => by
    cases d <;> simp only [asg, reduceCtorEq] at e
    cases h with
    | tup h1 h2 => 
      refine ⟨_, _, rfl, .of h1, ?_, asgs_ok ts e (by simpa [tgIn] using hi) r h2 q⟩
      rw [h2.length]
      exact asgs_len ts e
theorem asgs_ok {vs : Nat → Bool} : ∀ (t : MTs) {d : List D} {v : List V} {b : B0} {g : Gh} {Γ Γ' : En} {σ : L2.St} {H : Hp} {Q : L2.St → Hp → Prop}, asgs Γ t d = some Γ' → tgsIn vs t = true → Rel K tabs b g Γ σ H → Reps K g H v d → (∀ σ', Asg K tabs b g Γ σ H Γ' σ' vs → Q σ' H) → trGs K t v σ H Q
  | .nil, d, v, b, g, Γ, Γ', σ, H, Q, e, hi, r, h, q => by
    cases h with
    | nil =>
      simp only [asgs, Option.some.injEq] at e
      subst e
      exact ⟨rfl, q _ (.refl r)⟩
    | cons _ _ => simp only [asgs, reduceCtorEq] at e
  | .cons t ts, d, v, b, g, Γ, Γ', σ, H, Q, e, hi, r, h, q => by
    cases h with
    | nil => simp only [asgs, reduceCtorEq] at e
    | cons h1 h2 =>
      simp only [asgs] at e
      split at e
      · rename_i Γ1 e1
        have hi := and2 (by simpa [tgsIn] using hi)
        exact ⟨_, _, rfl, asg_ok t e1 hi.1 r h1 fun σ1 x => asgs_ok ts e hi.2 x.rel h2 fun σ2 y => q σ2 (x.trans y)⟩
      · cases e
theorem asgs_len : ∀ (t : MTs) {d : List D} {Γ Γ' : En}, asgs Γ t d = some Γ' → d.length = t.len
  | .nil, [], _, _, _ => rfl
  | .nil, _ :: _, _, _, e => by simp only [asgs, reduceCtorEq] at e
  | .cons t ts, [], _, _, e => by simp only [asgs, reduceCtorEq] at e
  | .cons t ts, d :: ds, Γ, Γ', e => by
    simp only [asgs] at e
    split at e
    · show ds.length + 1 = ts.len + 1
      rw [asgs_len ts e]
    · cases e
end
mutual
theorem tgIn_all : ∀ t : MT, tgIn (fun _ => true) t = true
  | .name _ => rfl
  | .tup ts => by unfold tgIn; exact tgsIn_all ts
theorem tgsIn_all : ∀ t : MTs, tgsIn (fun _ => true) t = true
  | .nil => rfl
  | .cons t ts => by unfold tgsIn; rw [tgIn_all t, tgsIn_all ts]; rfl
end
end
end Ux

namespace Ux
open PySem PySem.Spec PyProof.Rows L2 GxR
open Classical in
/-- what a def gives back -/
def RetP (K : PySem.W.Frag) (b : B0) (g : Gh) (H : Hp) (v : V) (d : D) (fr : Bool) : Prop := if (fr && d.isC) = true then ∃ a, v = .ref a ∧ PrivAt K b g H a d else Rep K g H v d
/-- an error as the heap holds it -/
theorem noDct_get {Γ : En} (h : noDct Γ = true) {j : Nat} {d : D} {o : Bool} (e : Γ.sl[j]? = some (some (d, o))) : (o && dctD d) = false := by
  have hm := List.mem_of_getElem? e
  have := List.all_eq_true.mp h _ hm
  have t : (!(o && dctD d)) = true := this
  cases z : (o && dctD d) with
  | false => rfl
  | true => rw [z] at t; cases t
/-- an error as the heap holds it -/
def XAt (xt : Str → Option (Addr × Str)) (x : Ex) (H : Hp) (cls : Value) (od : Option Addr) : Prop := ∃ C d, xt x.cls = some (C, x.fld) ∧ cls = .ref C ∧ od = some d ∧ H d = some (.xd [(x.fld, x.arg)])
/-- a def that answers as M says -/
def spOf (K : PySem.W.Frag) (tabs : List Addr) (xt : Str → Option (Addr × Str)) (M : Fn) : Sp := fun vs H Q E => ∃ g ds w, GRel K tabs ⟨g, H⟩ g w H ∧ Reps K g H vs ds ∧
  ((∃ d fr w', M ds w = .ok (d, fr, w') ∧ ∀ v g' H', GRel K tabs ⟨g, H⟩ g' w' H' → RetP K ⟨g, H⟩ g' H' v d fr → Q v H') ∨
   (∃ x w', M ds w = .err x w' ∧ ∀ cls od g' H', GRel K tabs ⟨g, H⟩ g' w' H' → XAt xt x H' cls od → E cls od H'))
section
variable {K : PySem.W.Frag} {tabs : List Addr} {b : B0} {g g' : Gh} {Γ Γ' : En} {σ σ' : L2.St} {H H' : Hp}
theorem GRel.rebase {w : Wd} (r : GRel K tabs b g w H) : GRel K tabs ⟨g, H⟩ g w H := ⟨.refl g, r.str, r.fzs, r.tab, fun _ h => h, .refl _ _ _, fun _ h => .inl h, fun _ h => .inl h⟩
theorem GRel.strm {w : Wd} (r : GRel K tabs b g w H) {a L : Addr} (h : g.sa = some (a, L)) : ¬ g.fz a ∧ g.fz L ∧ ∃ o, H a = some o ∧ MutO o := by
  have s := r.str
  cases w with
  | none =>
    have s : g.sa = none := s
    rw [h] at s; cases s
  | some st =>
    obtain ⟨a', L', vs, e, n, e2, f, _⟩ := s
    rw [h] at e
    cases e
    exact ⟨n, f, _, e2, trivial⟩
/-- what a call keeps, as a step -/
theorem GRel.stp {w w' : Wd} (r : GRel K tabs b g w H) (x : GRel K tabs ⟨g, H⟩ g' w' H') : Stp g H g' H' := by
  have no : ∀ c o L, H c = some o → g'.sa = some (c, L) → ¬ g.fz c ∧ MutO o := fun c o L e h => by
    rcases x.sn _ h with h | h
    · obtain ⟨n, _, o', e', m⟩ := r.strm h
      rw [e] at e'
      cases e'
      exact ⟨n, m⟩
    · have h : H c = none := h
      rw [e] at h; cases h
  exact ⟨x.le, fun c o e n t => (x.kp c o e (fun ⟨L, h⟩ => n (no c o L e h).2) t).ex fun d => n d.mut, fun c f o e m => (x.kp c o e (fun ⟨L, h⟩ => (no c o L e h).1 f) fun ps z => by subst z; exact m).imp id fun z => ⟨trivial, z.2⟩⟩
theorem GRel.trans {g1 g2 : Gh} {H1 H2 : Hp} {w1 w2 : Wd} (x : GRel K tabs b g1 w1 H1) (y : GRel K tabs ⟨g1, H1⟩ g2 w2 H2) : GRel K tabs b g2 w2 H2 where
  le := x.le.trans y.le
  str := y.str
  fzs := y.fzs
  tab := y.tab
  dom := fun a h => y.dom a (x.dom a h)
  kp := fun c o e n t => by
    rcases x.kp c o e (fun ⟨L, h⟩ => n ⟨L, y.le.sa _ h⟩) t with e1 | ⟨f, d, od, e1⟩
    · exact y.kp c o e1 n t
    · rcases y.kp c _ e1 n (fun ps z => by cases z) with e2 | ⟨_, d2, _⟩
      · exact .inr ⟨y.le.fz c f, d, od, e2⟩
      · exact d2.elim
  fn := fun a h => by
    rcases y.fn a h with h | h
    · exact x.fn a h
    · exact .inr (none_of x.dom h)
  sn := fun p h => by
    rcases y.sn p h with h | h
    · exact x.sn p h
    · exact .inr (none_of x.dom h)
theorem Rel.call {w' : Wd} (r : Rel K tabs b g Γ σ H) (x : GRel K tabs ⟨g, H⟩ g' w' H') : Post K tabs b g Γ σ H g' { Γ with w := w' } H' := by
  have s := r.toGRel.stp x
  have ka : ∀ (j : Nat) dj a, Γ.sl[j]? = some (some (dj, true)) → PrivAt K b g H a dj → PrivAt K b g' H' a dj := fun j dj a e p => by
    have ns : ∀ q, g'.sa = some q → q.1 ≠ a := fun q h z => by
      rcases x.sn q h with h | h
      · exact p.ns q h z
      · rw [z] at h; exact p.own.ne h
    have nz : ¬ g'.fz a := fun z => by
      rcases x.fn a z with z | z
      · exact p.nf z
      · exact p.own.ne z
    refine ⟨nz, ns, p.nb, p.own.move s.le s.kf s.kz fun o h => (x.kp a o h (fun ⟨L, h⟩ => ns _ h rfl) fun ps z => ?_).resolve_right fun z => nz z.1⟩
    · obtain ⟨o', e', m⟩ := p.own.mut
      rw [h] at e'; cases e'; subst z; exact m
  refine ⟨s.le, { toGRel := r.toGRel.trans x, old := fun j dj e => ?_, own := fun j dj e => ?_, dis := r.dis, len := r.len }, fun c o e n t => ?_, fun j dj e => ⟨dj, e⟩, fun j q e => ⟨q, e⟩, fun p h => x.sn p h, x.dom, fun a h => (x.fn a h).imp id .inr⟩
  · obtain ⟨v, h1, h2⟩ := r.old j dj e
    exact ⟨v, h1, s.rep h2⟩
  · obtain ⟨a, h1, h2⟩ := r.own j dj e
    exact ⟨a, h1, ka j dj a e h2⟩
  · refine x.kp c o e (fun ⟨L, h⟩ => ?_) t
    rcases x.sn _ h with h | h
    · exact n (.inr ⟨L, h⟩)
    · have h : H c = none := h
      rw [e] at h; cases h
/-- the same, the borrowed objects given back -/
theorem Rel.lend {g2 : Gh} {w' : Wd} (r : Rel K tabs b g Γ σ H) (l : g.Le g2) (hs : ∀ p, g2.sa = some p → g.sa = some p) (hf : ∀ c, g2.fz c → g.fz c ∨ (∃ (i : Nat) (d : D), Γ.sl[i]? = some (some (d, true)) ∧ σ[i]? = some (some (.ref c))) ∨ H c = none)
    (r2 : GRel K tabs b g2 Γ.w H) (x : GRel K tabs ⟨g2, H⟩ g' w' H') (hw : Γ.w.isSome = w'.isSome) (nd : noDct Γ = true) : ∃ g'', Post K tabs b g Γ σ H g'' { Γ with w := w' } H' ∧ g''.sa = g'.sa := by
  have s := r2.stp x
  let Ow : Addr → Prop := fun c => ∃ (i : Nat) (d : D), Γ.sl[i]? = some (some (d, true)) ∧ σ[i]? = some (some (.ref c))
  have own : ∀ c, Ow c → ∃ d, PrivAt K b g H c d := fun c ⟨i, d, h1, h2⟩ => by
    obtain ⟨a, e1, p⟩ := r.own i d h1
    rw [h2] at e1
    cases e1
    exact ⟨d, p⟩
  let g'' : Gh := ⟨fun c => g'.fz c ∧ ¬ Ow c, g'.sa⟩
  have le : g.Le g'' := ⟨fun c h => ⟨s.le.fz c (l.fz c h), fun o => by
    obtain ⟨d, p⟩ := own c o
    exact p.nf h⟩, fun p h => s.le.sa p (l.sa p h)⟩
  have kf := s.kf
  have kz : ∀ c, g.fz c → ∀ o, H c = some o → MutO o → AsW True o (H' c) := fun c f => s.kz c (l.fz c f)
  have fn : ∀ a, g''.fz a → g.fz a ∨ H a = none := fun a ⟨h, no⟩ => by
    rcases x.fn a h with h | h
    · rcases hf a h with h | h | h
      · exact .inl h
      · exact absurd h no
      · exact .inr h
    · exact .inr h
  have sn : ∀ p, g''.sa = some p → g.sa = some p ∨ H p.1 = none := fun p h => (x.sn p h).imp (hs p) id
  have ka : ∀ (j : Nat) dj a, Γ.sl[j]? = some (some (dj, true)) → σ[j]? = some (some (.ref a)) → PrivAt K b g H a dj → PrivAt K b g'' H' a dj := fun j dj a e ev p => by
    have ns : ∀ q, g'.sa = some q → q.1 ≠ a := fun q h z => by
      rcases sn q h with h | h
      · exact p.ns q h z
      · rw [z] at h; exact p.own.ne h
    refine ⟨fun z => z.2 ⟨j, dj, e, ev⟩, ns, p.nb, p.own.move le kf kz fun o h => (x.kp a o h (fun ⟨L, h⟩ => ns _ h rfl) fun ps z => ?_).ex fun dc => ?_⟩
    · obtain ⟨o', e', m⟩ := p.own.mut
      rw [h] at e'; cases e'; subst z; exact m
    · have nj := noDct_get nd e
      cases dj <;> first
        | exact p.own.elim
        | (obtain ⟨vs, e', _⟩ := p.own; rw [h] at e'; cases e'; exact dc)
        | (cases nj)
  have str : StRel K g'' H' w' := by
    have sx := x.str
    have s0 := r.str
    cases w' with
    | none => exact sx
    | some st' =>
      obtain ⟨a, L, vs, e1, e2, e3, e4, e5⟩ := sx
      cases hΓ : Γ.w with
      | none => rw [hΓ] at hw; cases hw
      | some st =>
        rw [hΓ] at s0
        obtain ⟨a0, L0, vs0, f1, f2, f3, f4, f5⟩ := s0
        have := s.le.sa _ (l.sa _ f1)
        rw [e1] at this
        cases this
        refine ⟨a, L, vs, e1, fun z => e2 z.1, e3, ⟨e4, fun o => ?_⟩, e5⟩
        obtain ⟨d, p⟩ := own L o
        exact p.nf f4
  refine ⟨g'', ⟨le, { le := r.le.trans le, str := str, fzs := fun a h => x.fzs a h.1, tab := x.tab, dom := fun a h => x.dom a (r.dom a h), kp := fun c o e n t => ?_, fn := fun a h => ?_, sn := fun p h => ?_, old := fun j dj e => ?_, own := fun j dj e => ?_, dis := r.dis, len := r.len }, fun c o e n t => ?_, fun j dj e => ⟨dj, e⟩, fun j q e => ⟨q, e⟩, sn, x.dom, fun a h => (fn a h).imp id .inr⟩, rfl⟩
  · rcases r.kp c o e (fun ⟨L, h⟩ => n ⟨L, le.sa _ h⟩) t with e1 | ⟨f, d, od, e1⟩
    · refine (x.kp c o e1 n t).imp id fun ⟨f, z⟩ => ⟨⟨f, fun ow => ?_⟩, z⟩
      obtain ⟨d, p⟩ := own c ow
      have := p.nb
      rw [e] at this; cases this
    · rcases x.kp c _ e1 n (fun ps z => by cases z) with e2 | ⟨_, d2, _⟩
      · exact .inr ⟨le.fz c f, d, od, e2⟩
      · exact d2.elim
  · rcases fn a h with h | h
    · exact r.fn a h
    · exact .inr (none_of r.dom h)
  · rcases sn p h with h | h
    · exact r.sn p h
    · exact .inr (none_of r.dom h)
  · obtain ⟨v, h1, h2⟩ := r.old j dj e
    exact ⟨v, h1, Rep.move le kf kz h2⟩
  · obtain ⟨a, h1, h2⟩ := r.own j dj e
    exact ⟨a, h1, ka j dj a e h1 h2⟩
  · refine (x.kp c o e (fun ⟨L, h⟩ => ?_) t).imp id fun ⟨f, z⟩ => ⟨⟨f, fun ow => n (.inl ow)⟩, z⟩
    rcases sn _ h with h | h
    · exact n (.inr ⟨L, h⟩)
    · have h : H c = none := h
      rw [e] at h; cases h
theorem fzp_w (Γ : En) (p : Pv) : (fzp Γ p).w = Γ.w := by cases p <;> first | rfl | exact fzn_w ..
theorem fzps_w : ∀ (ps : List Pv) (Γ : En), (fzps Γ ps).w = Γ.w
  | [], _ => rfl
  | p :: ps, Γ => by
    show (fzps (fzp Γ p) ps).w = _
    rw [fzps_w ps, fzp_w]
theorem fzp_len (Γ : En) (p : Pv) : (fzp Γ p).sl.length = Γ.sl.length := by cases p <;> first | rfl | exact fzn_len ..
theorem flat_notC {d : D} (h : d.flat = true) : d.isC = false := by cases d <;> first | rfl | (simp [D.flat] at h)
theorem call_ok {xt : Str → Option (Addr × Str)} {W : WX} {M : Fn} {sp : Sp} (hsp : ∀ vs H Q E, spOf K tabs xt M vs H Q E → sp vs H Q E) {ts : List TE} {r : En → R (List Pv × En)} (hs : SA K tabs (tA ts) r) {ps : List Pv} {ds : List D} {Γ1 : En} {d : D} {fr : Bool} {w : Wd}
    (e1 : r Γ = .ok (ps, Γ1)) (e2 : rds Γ1 ps = some ds) (hM : M ds Γ1.w = .ok (d, fr, w)) (R0 : Rel K tabs b g Γ σ H) {Q : VK}
    (q : ∀ v g' H', Post K tabs b g Γ σ H g' { (if d.flat && (Γ1.w.isSome == w.isSome) && noDct Γ1 then Γ1 else fzps Γ1 ps) with w := w } H' → RepP K b H g' { (if d.flat && (Γ1.w.isSome == w.isSome) && noDct Γ1 then Γ1 else fzps Γ1 ps) with w := w } σ H' v (mkP (d, fr)) → Q v H') :
    tCallS sp (WE W) (tA ts) σ H Q := hs b g Γ σ H _ ps Γ1 e1 R0 fun vs g1 H1 x ro => by
  obtain ⟨g2, x2, rs⟩ := ro.fz x.rel e2
  show sp vs H1 Q (WE W σ)
  have r2 : GRel K tabs b g2 Γ1.w H1 := by
    have := x2.rel.toGRel
    rw [fzps_w] at this
    exact this
  refine hsp vs H1 Q _ ⟨g2, ds, Γ1.w, r2.rebase, rs, .inl ⟨d, fr, w, hM, fun v g' H' y ret => ?_⟩⟩
  by_cases hc : (d.flat && (Γ1.w.isSome == w.isSome) && noDct Γ1) = true
  · have hc3 := and2 hc
    have hc2 := and2 hc3.1
    obtain ⟨g'', z, hsa⟩ := x.rel.lend x2.le (fun p h => by
      rcases x2.sn p h with h' | h'
      · exact h'
      · obtain ⟨_, _, o, e, _⟩ := r2.strm (a := p.1) (L := p.2) h
        rw [h'] at e; cases e) x2.fn r2 y (by simpa using hc2.2) hc3.2
    rw [if_pos hc] at q
    refine q v g'' H' (x.trans z) ?_
    have nc := flat_notC hc2.1
    unfold RetP at ret
    rw [nc, Bool.and_false, if_neg (by simp)] at ret
    unfold mkP
    simp only [nc, Bool.and_false, Bool.false_eq_true, if_false]
    exact Rep.flat (fun p h => by rw [hsa]; exact h) (fun c o e n t => e) hc2.1 ret
  · rw [if_neg hc] at q
    have z := x2.rel.call y
    refine q v g' H' (x.trans (x2.trans z)) ?_
    unfold RetP at ret
    unfold mkP
    by_cases hd : (fr && d.isC) = true
    · rw [if_pos hd] at ret
      simp only [hd, if_true]
      obtain ⟨a, rfl, p⟩ := ret
      have h1 : H1 a = none := p.nb
      refine ⟨a, rfl, none_of x.dm h1, ⟨p.nf, p.ns, none_of x.rel.dom h1, p.own⟩, fun i d' e ev => ?_⟩
      obtain ⟨a', e', p'⟩ := x2.rel.own i d' e
      rw [ev] at e'
      cases e'
      exact p'.own.ne h1
    · rw [if_neg hd] at ret
      have hd : (fr && d.isC) = false := by simpa using hd
      simp only [hd, Bool.false_eq_true, if_false]
      exact ret
/-- .. that ends in an error -/
theorem call_err {xt : Str → Option (Addr × Str)} {W : WX} {M : Fn} {sp : Sp} (hsp : ∀ vs H Q E, spOf K tabs xt M vs H Q E → sp vs H Q E) {ts : List TE} {r : En → R (List Pv × En)} (hs : SA K tabs (tA ts) r) {ps : List Pv} {ds : List D} {Γ1 : En} {x : Ex} {w : Wd}
    (e1 : r Γ = .ok (ps, Γ1)) (e2 : rds Γ1 ps = some ds) (hM : M ds Γ1.w = .err x w) (R0 : Rel K tabs b g Γ σ H) {Q : VK}
    (q : ∀ cls od g' H', GRel K tabs b g' w H' → Stp g H g' H' → XAt xt x H' cls od → W cls od σ H') :
    tCallS sp (WE W) (tA ts) σ H Q := hs b g Γ σ H _ ps Γ1 e1 R0 fun vs g1 H1 y ro => by
  obtain ⟨g2, x2, rs⟩ := ro.fz y.rel e2
  show sp vs H1 Q (WE W σ)
  have r2 : GRel K tabs b g2 Γ1.w H1 := by
    have := x2.rel.toGRel
    rw [fzps_w] at this
    exact this
  refine hsp vs H1 Q _ ⟨g2, ds, Γ1.w, r2.rebase, rs, .inr ⟨x, w, hM, fun cls od g' H' z hx => ?_⟩⟩
  exact q cls od g' H' (r2.trans z) ((y.stp R0).trans ((x2.stp y.rel).trans (r2.stp z))) hx
end
end Ux

namespace Ux
open PySem PySem.Spec PyProof.Rows L2 GxR
theorem wipe_get (σ : L2.St) (i : Nat) : ∀ vs : List Nat, (wipe σ vs)[i]? = if i ∈ vs ∧ i < σ.length then some none else σ[i]?
  | [] => by simp [wipe]
  | v :: vs => by
    unfold wipe
    rw [get_set, wipe_get σ i vs, wipe_length]
    by_cases h : v = i
    · subst h
      by_cases h2 : v < σ.length <;> simp [h2]
    · have : ¬ i = v := fun z => h z.symm
      simp [h, this]
theorem wipeE_len (sl : List (Option (D × Bool))) : ∀ vs : List Nat, (wipeE sl vs).length = sl.length
  | [] => rfl
  | v :: vs => by unfold wipeE; rw [List.length_set, wipeE_len sl vs]
theorem wipeE_get (sl : List (Option (D × Bool))) (i : Nat) : ∀ vs : List Nat, (wipeE sl vs)[i]? = if i ∈ vs ∧ i < sl.length then some none else sl[i]?
  | [] => by simp [wipeE]
  | v :: vs => by
    unfold wipeE
    rw [get_set, wipeE_get sl i vs, wipeE_len]
    by_cases h : v = i
    · subst h
      by_cases h2 : v < sl.length <;> simp [h2]
    · have : ¬ i = v := fun z => h z.symm
      simp [h, this]
theorem backE_len (sl sl0 : List (Option (D × Bool))) : ∀ vs : List Nat, (backE sl sl0 vs).length = sl.length
  | [] => rfl
  | v :: vs => by unfold backE; rw [List.length_set, backE_len sl sl0 vs]
theorem backE_get (sl sl0 : List (Option (D × Bool))) (i : Nat) : ∀ vs : List Nat, (backE sl sl0 vs)[i]? = if i ∈ vs ∧ i < sl.length then some ((sl0[i]?).getD none) else sl[i]?
  | [] => by simp [backE]
  | v :: vs => by
    unfold backE
    rw [get_set, backE_get sl sl0 i vs, backE_len]
    by_cases h : v = i
    · subst h
      by_cases h2 : v < sl.length <;> simp [h2]
    · have : ¬ i = v := fun z => h z.symm
      simp [h, this]
theorem get_lt {α : Type} {xs : List α} {i : Nat} {x : α} (h : xs[i]? = some x) : i < xs.length := by
  rcases Nat.lt_or_ge i xs.length with z | z
  · exact z
  · rw [List.getElem?_eq_none z] at h; cases h
/-- some slots forgotten -/
def Wiped (Γ : En) (vs : List Nat) : Prop := ∀ i, i ∈ vs → ∀ q, Γ.sl[i]? ≠ some (some q)
theorem wiped_E (Γ : En) (vs : List Nat) : Wiped { Γ with sl := wipeE Γ.sl vs } vs := fun i hi q e => by
  have e : (wipeE Γ.sl vs)[i]? = some (some q) := e
  rw [wipeE_get] at e
  by_cases h : i < Γ.sl.length
  · rw [if_pos ⟨hi, h⟩] at e; cases e
  · rw [if_neg (fun z => h z.2)] at e; exact h (get_lt e)
theorem wipeE_some {sl : List (Option (D × Bool))} {vs : List Nat} {i : Nat} {q : D × Bool} (h : (wipeE sl vs)[i]? = some (some q)) : i ∉ vs ∧ sl[i]? = some (some q) := by
  rw [wipeE_get] at h
  by_cases hc : i ∈ vs ∧ i < sl.length
  · rw [if_pos hc] at h; cases h
  · rw [if_neg hc] at h
    exact ⟨fun z => hc ⟨z, get_lt h⟩, h⟩
theorem wipeE_out {sl : List (Option (D × Bool))} {vs : List Nat} {i : Nat} (h : i ∉ vs) : (wipeE sl vs)[i]? = sl[i]? := by
  rw [wipeE_get, if_neg (fun z => h z.1)]
section
variable {K : PySem.W.Frag} {tabs : List Addr} {b : B0} {g g' : Gh} {Γ Γ' : En} {σ σ' : L2.St} {H H' : Hp}
/-- fewer slots, other values where none is told -/
theorem Rel.re (r : Rel K tabs b g Γ σ H) (hw : Γ'.w = Γ.w) (hl : Γ'.sl.length = σ'.length) (h : ∀ (j : Nat) q, Γ'.sl[j]? = some (some q) → Γ.sl[j]? = some (some q) ∧ σ'[j]? = σ[j]?) : Rel K tabs b g Γ' σ' H where
  toGRel := by rw [hw]; exact r.toGRel
  old := fun j d e => by
    obtain ⟨h1, h2⟩ := h j _ e
    rw [h2]; exact r.old j d h1
  own := fun j d e => by
    obtain ⟨h1, h2⟩ := h j _ e
    rw [h2]; exact r.own j d h1
  dis := fun i j di dj a ne e1 e2 v1 v2 => by
    obtain ⟨h1, h2⟩ := h i _ e1
    obtain ⟨h3, h4⟩ := h j _ e2
    rw [h2] at v1
    rw [h4] at v2
    exact r.dis i j di dj a ne h1 h3 v1 v2
  len := hl
/-- a turn: bound, run, forgotten -/
theorem Post.turn {vs : List Nat} {σ0 σ1 σa : L2.St} {Γa Γ3 : En} (wi : Wiped Γ vs) (h1 : ∀ i, i ∉ vs → σ1[i]? = σ0[i]?) (hl : σ1.length = σ0.length) (hΓ : Γ.sl.length = σ0.length) (a : Asg K tabs b g Γ σ1 H Γa σa (fun i => vs.contains i)) (x : Post K tabs b g Γa σa H g' Γ3 H') : Post K tabs b g Γ σ0 H g' { Γ3 with sl := wipeE Γ3.sl vs } H' := by
  have out : ∀ i, i ∉ vs → σa[i]? = σ0[i]? := fun i h => ((a.out i (by simpa using h)).2).trans (h1 i h)
  have hla : σa.length = σ0.length := by rw [← a.rel.len, a.len]; exact hΓ
  have own : ∀ (i : Nat) (d : D) c, Γa.sl[i]? = some (some (d, true)) → σa[i]? = some (some (.ref c)) → Γ.sl[i]? = some (some (d, true)) ∧ σ0[i]? = some (some (.ref c)) := fun i d c e v => by
    obtain ⟨e1, e2⟩ := a.ow i d e
    have : i ∉ vs := fun z => wi i z _ e1
    rw [e2, h1 i this] at v
    exact ⟨e1, v⟩
  refine ⟨x.le, x.rel.re rfl ?_ fun j q e => ?_, fun c o e n t => x.kp c o e (fun s => n ?_) t, fun i d e => ?_, fun i q e => ?_, x.sn, x.dm, fun c f => ?_⟩
  · show (wipeE Γ3.sl vs).length = _
    rw [wipeE_len, x.rel.len, hla]
  · obtain ⟨h1, h2⟩ := wipeE_some e
    exact ⟨h2, (out j h1).symm⟩
  · rcases s with ⟨i, d, e1, e2⟩ | s
    · obtain ⟨e3, e4⟩ := own i d c e1 e2
      exact .inl ⟨i, d, e3, e4⟩
    · exact .inr s
  · obtain ⟨_, h2⟩ := wipeE_some e
    obtain ⟨d1, h3⟩ := x.ow i d h2
    exact ⟨d1, (a.ow i d1 h3).1⟩
  · have hi : i ∉ vs := fun z => wi i z _ e
    obtain ⟨q1, h3⟩ := a.sh i q e
    obtain ⟨q2, h4⟩ := x.sh i q1 h3
    exact ⟨q2, (wipeE_out hi).trans h4⟩
  · rcases x.fn c f with h | ⟨i, d, e1, e2⟩ | h
    · exact .inl h
    · obtain ⟨e3, e4⟩ := own i d c e1 e2
      exact .inr (.inl ⟨i, d, e3, e4⟩)
    · exact .inr (.inr h)
theorem noOwn_get {vs : List Nat} (h : noOwn Γ vs = true) {i : Nat} (hi : i ∈ vs) : i < Γ.sl.length ∧ ∀ d, Γ.sl[i]? ≠ some (some (d, true)) := by
  have := List.all_eq_true.mp h i hi
  split at this
  · rename_i e
    exact ⟨get_lt e, fun d z => by rw [e] at z; cases z⟩
  · rename_i d o e
    exact ⟨get_lt e, fun d' z => by rw [e] at z; cases z; cases this⟩
  · cases this
/-- a comprehension's end: its names are what they were -/
theorem Post.back {vs : List Nat} {σ0 : L2.St} {Γ2 : En} (r : Rel K tabs b g Γ σ H) (no : noOwn Γ vs = true) (h1 : ∀ i, i ∉ vs → σ0[i]? = σ[i]?) (hl : σ0.length = σ.length)
    (x : Post K tabs b g { Γ with sl := wipeE Γ.sl vs } σ0 H g' Γ2 H') : Post K tabs b g Γ σ H g' { Γ2 with sl := backE Γ2.sl Γ.sl vs } H' := by
  have ln : Γ2.sl.length = Γ.sl.length := by rw [x.rel.len, hl, r.len]
  have s0 : Rel K tabs b g { Γ with sl := wipeE Γ.sl vs } σ0 H := r.re rfl (by show (wipeE _ _).length = _; rw [wipeE_len, r.len, hl]) fun j q e => by
    obtain ⟨e1, e2⟩ := wipeE_some e
    exact ⟨e2, h1 j e1⟩
  have s := x.stp s0
  have get : ∀ (j : Nat) q, (backE Γ2.sl Γ.sl vs)[j]? = some (some q) → (j ∈ vs ∧ Γ.sl[j]? = some (some q)) ∨ (j ∉ vs ∧ Γ2.sl[j]? = some (some q)) := fun j q e => by
    rw [backE_get] at e
    by_cases hj : j ∈ vs
    · left
      have := (noOwn_get no hj).1
      rw [if_pos ⟨hj, by omega⟩] at e
      refine ⟨hj, ?_⟩
      rw [List.getElem?_eq_getElem this] at e ⊢
      simpa using e
    · right
      rw [if_neg (fun z => hj z.1)] at e
      exact ⟨hj, e⟩
  have own : ∀ (i : Nat) (d : D) c, (wipeE Γ.sl vs)[i]? = some (some (d, true)) → σ0[i]? = some (some (.ref c)) → Γ.sl[i]? = some (some (d, true)) ∧ σ[i]? = some (some (.ref c)) := fun i d c e v => by
    obtain ⟨e1, e2⟩ := wipeE_some e
    rw [h1 i e1] at v
    exact ⟨e2, v⟩
  refine ⟨x.le, { toGRel := x.rel.toGRel, old := fun j d e => ?_, own := fun j d e => ?_, dis := fun i j di dj a ne e1 e2 v1 v2 => ?_, len := ?_ }, fun c o e n t => x.kp c o e (fun s => n ?_) t, fun i d e => ?_, fun i q e => ?_, x.sn, x.dm, fun c f => ?_⟩
  · rcases get j _ e with ⟨hj, e⟩ | ⟨hj, e⟩
    · obtain ⟨v, e1, e2⟩ := r.old j d e
      exact ⟨v, e1, s.rep e2⟩
    · obtain ⟨v, e1, e2⟩ := x.rel.old j d e
      exact ⟨v, by rw [← h1 j hj]; exact e1, e2⟩
  · rcases get j _ e with ⟨hj, e⟩ | ⟨hj, e⟩
    · exact absurd e ((noOwn_get no hj).2 d)
    · obtain ⟨v, e1, e2⟩ := x.rel.own j d e
      exact ⟨v, by rw [← h1 j hj]; exact e1, e2⟩
  · rcases get i _ e1 with ⟨hi, e1⟩ | ⟨hi, e1⟩
    · exact absurd e1 ((noOwn_get no hi).2 di)
    · rcases get j _ e2 with ⟨hj, e2⟩ | ⟨hj, e2⟩
      · exact absurd e2 ((noOwn_get no hj).2 dj)
      · rw [← h1 i hi] at v1
        rw [← h1 j hj] at v2
        exact x.rel.dis i j di dj a ne e1 e2 v1 v2
  · show (backE _ _ _).length = _
    rw [backE_len, ln, r.len]
  · rcases s with ⟨i, d, e1, e2⟩ | s
    · obtain ⟨e3, e4⟩ := own i d c e1 e2
      exact .inl ⟨i, d, e3, e4⟩
    · exact .inr s
  · rcases get i _ e with ⟨hj, e⟩ | ⟨hj, e⟩
    · exact absurd e ((noOwn_get no hj).2 d)
    · obtain ⟨d1, e1⟩ := x.ow i d e
      exact ⟨d1, (wipeE_some e1).2⟩
  · by_cases hi : i ∈ vs
    · refine ⟨q, ?_⟩
      show (backE Γ2.sl Γ.sl vs)[i]? = _
      have := get_lt e
      rw [backE_get, if_pos ⟨hi, by omega⟩, e]
      rfl
    · obtain ⟨q', e'⟩ := x.sh i q ((wipeE_out hi).trans e)
      refine ⟨q', ?_⟩
      show (backE Γ2.sl Γ.sl vs)[i]? = _
      rw [backE_get, if_neg (fun z => hi z.1)]
      exact e'
  · rcases x.fn c f with h | ⟨i, d, e1, e2⟩ | h
    · exact .inl h
    · obtain ⟨e3, e4⟩ := own i d c e1 e2
      exact .inr (.inl ⟨i, d, e3, e4⟩)
    · exact .inr (.inr h)
/-- an object that is ours and no slot's changes -/
theorem Post.updP {g0 : Gh} {Γ0 : En} {σ0 : L2.St} {H0 : Hp} {D : Addr} {d d' : Ux.D} {o : HO} (x : Post K tabs b g0 Γ0 σ0 H0 g Γ H) (h : RepP K b H0 g Γ σ0 H (.ref D) (.frs d)) (own' : OwnAt K g (upd H D o) D d') :
    Post K tabs b g0 Γ0 σ0 H0 g Γ (upd H D o) ∧ RepP K b H0 g Γ σ0 (upd H D o) (.ref D) (.frs d') := by
  obtain ⟨D', e, h0, p, no⟩ := h
  cases e
  obtain ⟨o', e, m⟩ := p.own.mut
  have r := x.rel
  refine ⟨⟨x.le, { toGRel := r.toGRel.upd1 p.nf p.ns p.nb e m, old := fun j dj ej => ?_, own := fun j dj ej => ?_, dis := r.dis, len := r.len }, fun c u h1 h2 h3 => ?_, x.ow, x.sh, x.sn, fun c h => ?_, x.fn⟩, ⟨D, rfl, h0, ⟨p.nf, p.ns, p.nb, own'⟩, no⟩⟩
  · obtain ⟨v, h1, h2⟩ := r.old j dj ej
    exact ⟨v, h1, h2.upd1 p.nf e m⟩
  · obtain ⟨c, h1, h2⟩ := r.own j dj ej
    exact ⟨c, h1, h2.upd1 (fun z => by subst z; exact no j dj ej h1) p.nf e m⟩
  · rw [upd_ne (fun z => by subst z; rw [h0] at h1; cases h1)]; exact x.kp c u h1 h2 h3
  · by_cases z : c = D
    · subst z; rw [upd_same]; simp
    · rw [upd_ne z]; exact x.dm c h
theorem Post.tabbed {P : Addr} (r : Rel K tabs b g Γ σ H) (hP : TabG H P) (t : Tabbed P H H') : Post K tabs b g Γ σ H g Γ H' := by
  obtain ⟨ps, eP, _⟩ := hP
  have nt : ∀ c o, H c = some o → (∀ ps, o ≠ .tbl ps) → H' c = some o := fun c o e n => by
    rw [t.2 c (fun z => by subst z; rw [eP] at e; cases e; exact n _ rfl)]; exact e
  have nn : ∀ c, H c ≠ none → H' c ≠ none := fun c h => by
    by_cases z : c = P
    · subst z
      obtain ⟨ps', e, _⟩ := t.1
      rw [e]; simp
    · rw [t.2 c z]; exact h
  have mt : ∀ {o : HO}, MutO o → ∀ ps, o ≠ .tbl ps := fun m ps z => by subst z; exact m
  have kz : ∀ c, g.fz c → ∀ o, H c = some o → MutO o → AsW True o (H' c) := fun c _ o e m => .inl (nt c o e (mt m))
  have kf : ∀ c o, H c = some o → ¬ MutO o → (∀ ps, o ≠ .tbl ps) → H' c = some o := fun c o e _ n => nt c o e n
  refine ⟨.refl g, { le := r.le, str := ?_, fzs := fun c h => nn c (r.fzs c h), tab := fun P' h => ?_, dom := fun c h => nn c (r.dom c h), kp := fun c o e n tt => (r.kp c o e n tt).imp (fun z => nt c o z tt) fun ⟨f, d, od, z⟩ => ⟨f, d, od, nt c _ z (fun ps z => by cases z)⟩, fn := r.fn, sn := r.sn, old := fun j dj ej => ?_, own := fun j dj ej => ?_, dis := r.dis, len := r.len }, fun c o e _ n => .inl (nt c o e n), fun _ d h => ⟨d, h⟩, fun _ q h => ⟨q, h⟩, fun _ h => .inl h, nn, fun _ h => .inl h⟩
  · have s := r.str
    cases hw : Γ.w with
    | none => rw [hw] at s; exact s
    | some st =>
      rw [hw] at s
      obtain ⟨c, L, vs, e, n, e1, f, e2, e3⟩ := s
      exact ⟨c, L, vs, e, n, nt _ _ e1 (fun ps z => by cases z), f, nt _ _ e2 (fun ps z => by cases z), e3⟩
  · by_cases z : P' = P
    · subst z; exact t.1
    · obtain ⟨ps', e, tt⟩ := r.tab P' h
      exact ⟨ps', by rw [t.2 _ z]; exact e, tt⟩
  · obtain ⟨v, h1, h2⟩ := r.old j dj ej
    exact ⟨v, h1, Rep.move (.refl g) kf kz h2⟩
  · obtain ⟨c, h1, h2⟩ := r.own j dj ej
    refine ⟨c, h1, h2.nf, h2.ns, h2.nb, h2.own.move (.refl g) kf kz fun o e => ?_⟩
    obtain ⟨o', e', m⟩ := h2.own.mut
    rw [e] at e'
    cases e'
    exact nt c o e (mt m)
/-- an object that is ours and no slot's is let go, whatever stands there -/
theorem Post.drop {g0 : Gh} {Γ0 : En} {σ0 : L2.St} {H0 : Hp} {D : Addr} {d : Ux.D} {o : HO} (x : Post K tabs b g0 Γ0 σ0 H0 g Γ H) (h : RepP K b H0 g Γ σ0 H (.ref D) (.frs d)) :
    Post K tabs b g0 Γ0 σ0 H0 g Γ (upd H D o) := by
  obtain ⟨D', e, h0, p, no⟩ := h
  cases e
  obtain ⟨o', e, m⟩ := p.own.mut
  have r := x.rel
  refine ⟨x.le, { toGRel := r.toGRel.upd1 p.nf p.ns p.nb e m, old := fun j dj ej => ?_, own := fun j dj ej => ?_, dis := r.dis, len := r.len }, fun c u h1 h2 h3 => ?_, x.ow, x.sh, x.sn, fun c h => ?_, x.fn⟩
  · obtain ⟨v, h1, h2⟩ := r.old j dj ej
    exact ⟨v, h1, h2.upd1 p.nf e m⟩
  · obtain ⟨c, h1, h2⟩ := r.own j dj ej
    exact ⟨c, h1, h2.upd1 (fun z => by subst z; exact no j dj ej h1) p.nf e m⟩
  · rw [upd_ne (fun z => by subst z; rw [h0] at h1; cases h1)]; exact x.kp c u h1 h2 h3
  · by_cases z : c = D
    · subst z; rw [upd_same]; simp
    · rw [upd_ne z]; exact x.dm c h
end
end Ux

namespace Ux
open PySem PySem.Spec PyProof.Rows L2 GxR
section
variable {K : PySem.W.Frag} {tabs : List Addr} {b : B0} {g g' : Gh} {Γ Γ' : En} {σ σ' : L2.St} {H H' : Hp}
theorem wipe_same {σ2 σ : L2.St} {vs : List Nat} (hl : σ2.length = σ.length) (h : ∀ i, i ∉ vs → σ2[i]? = σ[i]?) : wipe σ2 vs = wipe σ vs := by
  apply List.ext_getElem?
  intro i
  rw [wipe_get, wipe_get, hl]
  by_cases hi : i ∈ vs
  · by_cases h2 : i < σ.length
    · rw [if_pos ⟨hi, h2⟩, if_pos ⟨hi, h2⟩]
    · rw [if_neg (fun z => h2 z.2), if_neg (fun z => h2 z.2), List.getElem?_eq_none (by omega), List.getElem?_eq_none (by omega)]
  · rw [if_neg (fun z => hi z.1), if_neg (fun z => hi z.1)]; exact h i hi
theorem wipe_outs {σ2 σ : L2.St} {vs : List Nat} (h : wipe σ2 vs = wipe σ vs) {i : Nat} (hi : i ∉ vs) : σ2[i]? = σ[i]? := by
  have := congrArg (fun z : L2.St => z[i]?) h
  simp only [wipe_get] at this
  rw [if_neg (fun z => hi z.1), if_neg (fun z => hi z.1)] at this
  exact this
theorem wipe_lens {σ2 σ : L2.St} {vs : List Nat} (h : wipe σ2 vs = wipe σ vs) : σ2.length = σ.length := by
  have := congrArg List.length h
  rwa [wipe_length, wipe_length] at this
theorem drop_cons {α : Type} {xs : List α} {i : Nat} {d : α} (h : xs[i]? = some d) : xs.drop i = d :: xs.drop (i + 1) := by
  have hl := get_lt h
  rw [List.drop_eq_getElem_cons hl]
  rw [List.getElem?_eq_getElem hl] at h
  cases h
  rfl
/-- the environment with a comprehension's names forgotten -/
theorem Rel.wiped {vs : List Nat} (r : Rel K tabs b g Γ σ H) : Rel K tabs b g { Γ with sl := wipeE Γ.sl vs } (wipe σ vs) H := r.re rfl (by show (wipeE _ _).length = _; rw [wipeE_len, wipe_length, r.len]) fun j q e => by
  obtain ⟨e1, e2⟩ := wipeE_some e
  exact ⟨e2, wipe_out e1⟩
theorem putK_set {a : Addr} {ks : List Key} {vs : List V} {ds : List D} {k : Key} {v : V} {d : D} (nf : ¬ g.fz a) (e : H a = some (.dK (ks.zip vs))) (hz : ks.length = vs.length) (rr : Reps K g H vs ds) (r : Rep K g H v d) (m : k ∈ ks) : OwnAt K g (upd H a (.dK (putK (ks.zip vs) k v))) a (.dk ks (setK k d ks ds)) := by
  rw [putK_zip hz, if_pos m]
  exact ⟨_, upd_same, by rw [setV_len _ _ hz]; exact hz, Reps.upd1 nf e trivial (Reps.setK r rr)⟩
theorem putK_new {a : Addr} {ks : List Key} {vs : List V} {ds : List D} {k : Key} {v : V} {d : D} (nf : ¬ g.fz a) (e : H a = some (.dK (ks.zip vs))) (hz : ks.length = vs.length) (rr : Reps K g H vs ds) (r : Rep K g H v d) (m : k ∉ ks) : OwnAt K g (upd H a (.dK (putK (ks.zip vs) k v))) a (.dk (ks ++ [k]) (ds ++ [d])) := by
  rw [putK_zip hz, if_neg m]
  exact ⟨_, upd_same, by simp [hz], Reps.upd1 nf e trivial (rr.append (.cons r .nil))⟩
theorem lc_ok {J : It} {t : MT} {tt : TT} {te : TE} {vs : List Nat} {tst : En → R (Bool × En)} {el : En → R (Pv × En)} {xs acc : List D} {Γ2 : En} {Q : VK} (hs : SrcIs K g H J xs) (ht : tgIn (fun i => vs.contains i) t = true) (hno : noOwn Γ vs = true) (hc : SC K tabs tt tst) (he : SE K tabs te el)
    (e : lcN vs (fun Γ d => asg Γ t d) tst el xs [] { Γ with sl := wipeE Γ.sl vs } = .ok (acc, Γ2)) (R0 : Rel K tabs b g Γ σ H)
    (q : ∀ v g' H', Post K tabs b g Γ σ H g' { Γ2 with sl := backE Γ2.sl Γ.sl vs } H' → RepP K b H g' { Γ2 with sl := backE Γ2.sl Γ.sl vs } σ H' v (.frs (.lst acc)) → Q v H') :
    ∀ Da, H Da = none → ∃ W : Nat → Nat → Hp → Prop, (∃ m, W 0 m (upd H Da (.lst []))) ∧ ∀ i m H, W i m H →
      (J.stop i H ∧ Q (.ref Da) H) ∨ (J.go i H ∧ ∃ Nx : Hp → Prop, (∀ H', Nx H' → ∃ m', m' < m ∧ W (i + 1) m' H') ∧ ∀ x H', J.yld i H x H' → trG K t x (wipe σ vs) H' fun σ2 H2 => wipe σ2 vs = wipe σ vs ∧ tt σ2 H2 fun b H3 =>
        if b = true then te σ2 H3 fun y H4 => ∃ acc, H4 Da = some (.lst acc) ∧ acc.length < sizeLine ∧ Nx (upd H4 Da (.lst (acc ++ [y]))) else Nx H3) := by
  intro Da hn
  have Rw : Rel K tabs b g { Γ with sl := wipeE Γ.sl vs } (wipe σ vs) H := R0.wiped
  refine ⟨fun i m H' => i + m = xs.length ∧ ∃ g' Γi ac, Post K tabs b g { Γ with sl := wipeE Γ.sl vs } (wipe σ vs) H g' Γi H' ∧ Wiped Γi vs ∧ RepP K b H g' Γi (wipe σ vs) H' (.ref Da) (.frs (.lst ac)) ∧ lcN vs (fun Γ d => asg Γ t d) tst el (xs.drop i) ac Γi = .ok (acc, Γ2),
    ⟨xs.length, by omega, g, _, [], Post.alloc Rw hn, wiped_E Γ vs, Rw.priv hn ⟨[], upd_same, .nil⟩, e⟩, fun i m H1 hW => ?_⟩
  obtain ⟨hm, g1, Γi, ac, x, wi, rp, e⟩ := hW
  have S1 := hs.step (x.stp Rw)
  rcases Nat.lt_or_ge i xs.length with hi | hi
  · right
    refine ⟨S1.go hi, fun H' => i + 1 + (m - 1) = xs.length ∧ ∃ g' Γi ac, Post K tabs b g { Γ with sl := wipeE Γ.sl vs } (wipe σ vs) H g' Γi H' ∧ Wiped Γi vs ∧ RepP K b H g' Γi (wipe σ vs) H' (.ref Da) (.frs (.lst ac)) ∧ lcN vs (fun Γ d => asg Γ t d) tst el (xs.drop (i + 1)) ac Γi = .ok (acc, Γ2), fun H' h => ⟨m - 1, by omega, h⟩, fun v H' y => ?_⟩
    obtain ⟨d, ed, x0, rd0⟩ := S1.turn x.rel hi y
    have rp := rp.step x.rel x0
    have x := x.trans x0
    rw [drop_cons ed] at e
    unfold lcN at e
    obtain ⟨Γa, e1, e⟩ := R.bd_eq e
    have e1 := R.of_eq e1
    obtain ⟨⟨c, Γb⟩, e2, e⟩ := R.bd_eq e
    refine asg_ok t e1 ht x.rel rd0 fun σ2 a => ?_
    have hl0 : σ2.length = (wipe σ vs).length := by rw [← a.rel.len, a.len, x.rel.len]
    have hw2 : wipe σ2 vs = wipe σ vs := by
      apply wipe_same (by rw [hl0, wipe_length])
      intro i hi
      rw [(a.out i (by simpa using hi)).2, wipe_out hi]
    refine ⟨hw2, hc b g1 Γa σ2 H' _ c Γb e2 a.rel fun g2 H3 x2 => ?_⟩
    have turn : ∀ {g3 Γ3 H4}, Post K tabs b g1 Γa σ2 H' g3 Γ3 H4 → Post K tabs b g1 Γi (wipe σ vs) H' g3 { Γ3 with sl := wipeE Γ3.sl vs } H4 := fun z => Post.turn wi (fun _ _ => rfl) rfl x.rel.len a z
    cases c with
    | false =>
      have z := turn x2
      refine ⟨by omega, g2, _, ac, x.trans z, wiped_E _ _, rp.step x.rel z, ?_⟩
      simpa using e
    | true =>
      simp only [if_true] at e
      obtain ⟨⟨p, Γ3⟩, e3, e⟩ := R.bd_eq e
      obtain ⟨d3, e4, e⟩ := R.bd_eq e
      have e4 := R.of_eq e4
      split at e
      · rename_i hlim
        refine he.o e3 x2.rel fun y g3 H4 x3 ro => ?_
        obtain ⟨g4, x4, r4⟩ := ro.fz x3.rel e4
        have z := turn (x2.trans (x3.trans x4))
        have rp4 := rp.step x.rel z
        obtain ⟨D', eD, h0, pD, no⟩ := rp4
        cases eD
        obtain ⟨vac, ev, rv⟩ := pD.own
        have hup := Post.updP (x.trans z) (d := .lst ac) (d' := .lst (ac ++ [d3])) (o := .lst (vac ++ [y])) ⟨Da, rfl, h0, pD, no⟩ ⟨_, upd_same, Reps.upd1 pD.nf ev trivial (rv.append (.cons r4 .nil))⟩
        refine ⟨vac, ev, by rw [rv.length]; exact lim_line hlim, by omega, g4, _, ac ++ [d3], hup.1, wiped_E _ _, hup.2, e⟩
      · cases e
  · left
    have : xs.drop i = [] := List.drop_eq_nil_of_le hi
    rw [this] at e
    unfold lcN at e
    cases e
    have z := Post.back R0 hno (fun i hi => wipe_out hi) (wipe_length _ _) x
    refine ⟨S1.stop hi (by omega), q _ g1 H1 z ?_⟩
    obtain ⟨D', eD, h0, pD, no⟩ := rp
    cases eD
    refine ⟨Da, rfl, h0, pD, fun i d' e1 ev => ?_⟩
    obtain ⟨a', e', p'⟩ := z.rel.own i d' e1
    obtain ⟨d0, e0⟩ := z.ow i d' e1
    obtain ⟨a0, f1, f2⟩ := R0.own i d0 e0
    rw [ev] at f1
    cases f1
    exact f2.own.ne hn
theorem dc_ok {J : It} {t : MT} {tt : TT} {tk te : TE} {vs : List Nat} {tst : En → R (Bool × En)} {kx el : En → R (Pv × En)} {xs acc : List D} {kk : List Key} {Γ2 : En} {Q : VK} (hs : SrcIs K g H J xs) (ht : tgIn (fun i => vs.contains i) t = true) (hno : noOwn Γ vs = true) (hc : SC K tabs tt tst) (hk : SE K tabs tk kx) (he : SE K tabs te el)
    (e : dcN vs (fun Γ d => asg Γ t d) tst kx el xs [] [] { Γ with sl := wipeE Γ.sl vs } = .ok (kk, acc, Γ2)) (R0 : Rel K tabs b g Γ σ H)
    (q : ∀ v g' H', Post K tabs b g Γ σ H g' { Γ2 with sl := backE Γ2.sl Γ.sl vs } H' → RepP K b H g' { Γ2 with sl := backE Γ2.sl Γ.sl vs } σ H' v (.frs (.dk kk acc)) → Q v H') :
    ∀ Da, H Da = none → ∃ W : Nat → Nat → Hp → Prop, (∃ m, W 0 m (upd H Da (.dK []))) ∧ ∀ i m H, W i m H →
      (J.stop i H ∧ Q (.ref Da) H) ∨ (J.go i H ∧ ∃ Nx : Hp → Prop, (∀ H', Nx H' → ∃ m', m' < m ∧ W (i + 1) m' H') ∧ ∀ x H', J.yld i H x H' → trG K t x (wipe σ vs) H' fun σ2 H2 => wipe σ2 vs = wipe σ vs ∧ tt σ2 H2 fun b H3 =>
        if b = true then tk σ2 H3 fun y H4 => te σ2 H4 fun z H5 => ∃ kvs k, y = kV k ∧ H5 Da = some (.dK kvs) ∧ kvs.length < sizeLine ∧ Nx (upd H5 Da (.dK (putK kvs k z))) else Nx H3) := by
  intro Da hn
  have Rw : Rel K tabs b g { Γ with sl := wipeE Γ.sl vs } (wipe σ vs) H := R0.wiped
  refine ⟨fun i m H' => i + m = xs.length ∧ ∃ g' Γi kc ac, Post K tabs b g { Γ with sl := wipeE Γ.sl vs } (wipe σ vs) H g' Γi H' ∧ Wiped Γi vs ∧ RepP K b H g' Γi (wipe σ vs) H' (.ref Da) (.frs (.dk kc ac)) ∧ dcN vs (fun Γ d => asg Γ t d) tst kx el (xs.drop i) kc ac Γi = .ok (kk, acc, Γ2),
    ⟨xs.length, by omega, g, _, [], [], Post.alloc Rw hn, wiped_E Γ vs, Rw.priv hn ⟨[], upd_same, rfl, .nil⟩, e⟩, fun i m H1 hW => ?_⟩
  obtain ⟨hm, g1, Γi, kc, ac, x, wi, rp, e⟩ := hW
  have S1 := hs.step (x.stp Rw)
  rcases Nat.lt_or_ge i xs.length with hi | hi
  · right
    refine ⟨S1.go hi, fun H' => i + 1 + (m - 1) = xs.length ∧ ∃ g' Γi kc ac, Post K tabs b g { Γ with sl := wipeE Γ.sl vs } (wipe σ vs) H g' Γi H' ∧ Wiped Γi vs ∧ RepP K b H g' Γi (wipe σ vs) H' (.ref Da) (.frs (.dk kc ac)) ∧ dcN vs (fun Γ d => asg Γ t d) tst kx el (xs.drop (i + 1)) kc ac Γi = .ok (kk, acc, Γ2), fun H' h => ⟨m - 1, by omega, h⟩, fun v H' y => ?_⟩
    obtain ⟨d, ed, x0, rd0⟩ := S1.turn x.rel hi y
    have rp := rp.step x.rel x0
    have x := x.trans x0
    rw [drop_cons ed] at e
    unfold dcN at e
    obtain ⟨Γa, e1, e⟩ := R.bd_eq e
    have e1 := R.of_eq e1
    obtain ⟨⟨c, Γb⟩, e2, e⟩ := R.bd_eq e
    refine asg_ok t e1 ht x.rel rd0 fun σ2 a => ?_
    have hl0 : σ2.length = (wipe σ vs).length := by rw [← a.rel.len, a.len, x.rel.len]
    have hw2 : wipe σ2 vs = wipe σ vs := by
      apply wipe_same (by rw [hl0, wipe_length])
      intro i hi
      rw [(a.out i (by simpa using hi)).2, wipe_out hi]
    refine ⟨hw2, hc b g1 Γa σ2 H' _ c Γb e2 a.rel fun g2 H3 x2 => ?_⟩
    have turn : ∀ {g3 Γ3 H4}, Post K tabs b g1 Γa σ2 H' g3 Γ3 H4 → Post K tabs b g1 Γi (wipe σ vs) H' g3 { Γ3 with sl := wipeE Γ3.sl vs } H4 := fun z => Post.turn wi (fun _ _ => rfl) rfl x.rel.len a z
    cases c with
    | false =>
      have z := turn x2
      refine ⟨by omega, g2, _, kc, ac, x.trans z, wiped_E _ _, rp.step x.rel z, ?_⟩
      simpa using e
    | true =>
      simp only [if_true] at e
      obtain ⟨⟨p, Γ3⟩, e3, e⟩ := R.bd_eq e
      obtain ⟨⟨r, Γ4⟩, e5, e⟩ := R.bd_eq e
      obtain ⟨d3, e4, e⟩ := R.bd_eq e
      obtain ⟨k3, e6, e⟩ := R.bd_eq e
      obtain ⟨v3, e7, e⟩ := R.bd_eq e
      have e4 := R.of_eq e4
      have e6 := R.of_eq e6
      have e7 := R.of_eq e7
      split at e
      · rename_i hlim
        refine hk.o e3 x2.rel fun y g3 H4 x3 ro => he.o e5 x3.rel fun u g4 H5 x4 ru => ?_
        have yk := ((ro.step x3.rel x4).read x4.rel e4).key e6
        obtain ⟨g5, x5, r5⟩ := ru.fz x4.rel e7
        have z := turn (x2.trans (x3.trans (x4.trans x5)))
        have rp4 := rp.step x.rel z
        obtain ⟨D', eD, h0, pD, no⟩ := rp4
        cases eD
        obtain ⟨vac, ev, el0, rv⟩ := pD.own
        have ll : (kc.zip vac).length < sizeLine := by
          rw [List.length_zip, el0, Nat.min_self, rv.length]; exact lim_line hlim
        split at e
        · rename_i hm2
          have mk := memK_iff.mp hm2
          have hup := Post.updP (x.trans z) (d := .dk kc ac) (d' := .dk kc (setK k3 v3 kc ac)) (o := .dK (putK (kc.zip vac) k3 u)) ⟨Da, rfl, h0, pD, no⟩ (putK_set pD.nf ev el0 rv r5 mk)
          exact ⟨_, k3, yk, ev, ll, by omega, g5, _, kc, _, hup.1, wiped_E _ _, hup.2, e⟩
        · rename_i hm2
          have mk : k3 ∉ kc := fun z => hm2 (memK_iff.mpr z)
          have hup := Post.updP (x.trans z) (d := .dk kc ac) (d' := .dk (kc ++ [k3]) (ac ++ [v3])) (o := .dK (putK (kc.zip vac) k3 u)) ⟨Da, rfl, h0, pD, no⟩ (putK_new pD.nf ev el0 rv r5 mk)
          exact ⟨_, k3, yk, ev, ll, by omega, g5, _, _, _, hup.1, wiped_E _ _, hup.2, e⟩
      · cases e
  · left
    have : xs.drop i = [] := List.drop_eq_nil_of_le hi
    rw [this] at e
    unfold dcN at e
    cases e
    have z := Post.back R0 hno (fun i hi => wipe_out hi) (wipe_length _ _) x
    refine ⟨S1.stop hi (by omega), q _ g1 H1 z ?_⟩
    obtain ⟨D', eD, h0, pD, no⟩ := rp
    cases eD
    refine ⟨Da, rfl, h0, pD, fun i d' e1 ev => ?_⟩
    obtain ⟨a', e', p'⟩ := z.rel.own i d' e1
    obtain ⟨d0, e0⟩ := z.ow i d' e1
    obtain ⟨a0, f1, f2⟩ := R0.own i d0 e0
    rw [ev] at f1
    cases f1
    exact f2.own.ne hn
theorem gen_ok {J : It} {t : MT} {tt : TT} {te : TE} {vs : List Nat} {w : Bool} {tst : En → R (Bool × En)} {el : En → R (Pv × En)} {xs : List D} {c : Bool} {Γ2 : En} {Q : VK} {P : Addr} {H1 : Hp} (hs : SrcIs K g H J xs) (ht : tgIn (fun i => vs.contains i) t = true) (hno : noOwn Γ vs = true) (hc : SC K tabs tt tst) (he : SE K tabs te el)
    (e : allN vs w (fun Γ d => asg Γ t d) tst el xs { Γ with sl := wipeE Γ.sl vs } = .ok (c, Γ2)) (R0 : Rel K tabs b g Γ σ H) (hP : TabG H P) (hT : Tabbed P H H1)
    (q : ∀ g' H', Post K tabs b g Γ σ H g' { Γ2 with sl := backE Γ2.sl Γ.sl vs } H' → Q (.bl c) H') :
    ∃ W : Nat → Nat → Hp → Prop, (∃ m, W 0 m H1) ∧ GTurns J (trG K t) tt te vs (wipe (wipe σ vs) vs) W (fun H => Q (.bl w) H) (YlA W (fun H => Q (.bl (!w)) H) w) := by
  have hww : wipe (wipe σ vs) vs = wipe σ vs := by
    apply wipe_same (wipe_length _ _)
    intro i hi
    exact wipe_out hi
  rw [hww]
  have Rw : Rel K tabs b g { Γ with sl := wipeE Γ.sl vs } (wipe σ vs) H := R0.wiped
  refine ⟨fun i m H' => i + m = xs.length ∧ ∃ g' Γi, Post K tabs b g { Γ with sl := wipeE Γ.sl vs } (wipe σ vs) H g' Γi H' ∧ Wiped Γi vs ∧ allN vs w (fun Γ d => asg Γ t d) tst el (xs.drop i) Γi = .ok (c, Γ2),
    ⟨xs.length, by omega, g, _, Post.tabbed Rw hP hT, wiped_E Γ vs, e⟩, fun i m H1 hW => ?_⟩
  obtain ⟨hm, g1, Γi, x, wi, e⟩ := hW
  have S1 := hs.step (x.stp Rw)
  rcases Nat.lt_or_ge i xs.length with hi | hi
  · right
    refine ⟨S1.go hi, fun H' => i + 1 + (m - 1) = xs.length ∧ ∃ g' Γi, Post K tabs b g { Γ with sl := wipeE Γ.sl vs } (wipe σ vs) H g' Γi H' ∧ Wiped Γi vs ∧ allN vs w (fun Γ d => asg Γ t d) tst el (xs.drop (i + 1)) Γi = .ok (c, Γ2), fun H' h => ⟨m - 1, by omega, h⟩, fun v H' y σ1 hσ1 => ?_⟩
    obtain ⟨d, ed, x0, rd0⟩ := S1.turn x.rel hi y
    have x := x.trans x0
    rw [drop_cons ed] at e
    unfold allN at e
    obtain ⟨Γa, e1, e⟩ := R.bd_eq e
    have e1 := R.of_eq e1
    obtain ⟨⟨k, Γb⟩, e2, e⟩ := R.bd_eq e
    have o1 : ∀ i, i ∉ vs → σ1[i]? = (wipe σ vs)[i]? := fun i hi => by rw [wipe_outs hσ1 hi, wipe_out hi]
    have l1 : σ1.length = (wipe σ vs).length := by rw [wipe_lens hσ1, wipe_length]
    have r1 : Rel K tabs b g1 Γi σ1 H' := x.rel.re rfl (by rw [x.rel.len, l1]) fun j q e => ⟨e, o1 j fun z => wi j z _ e⟩
    refine asg_ok t e1 ht r1 rd0 fun σ2 a => ?_
    have hl0 : σ2.length = (wipe σ vs).length := by rw [← a.rel.len, a.len, x.rel.len]
    have hw2 : wipe σ2 vs = wipe σ vs := by
      apply wipe_same (by rw [hl0, wipe_length])
      intro i hi
      rw [(a.out i (by simpa using hi)).2, o1 i hi, wipe_out hi]
    refine ⟨hw2, hc b g1 Γa σ2 H' _ k Γb e2 a.rel fun g2 H3 x2 => ?_⟩
    have turn : ∀ {g3 Γ3 H4}, Post K tabs b g1 Γa σ2 H' g3 Γ3 H4 → Post K tabs b g1 Γi (wipe σ vs) H' g3 { Γ3 with sl := wipeE Γ3.sl vs } H4 := fun z => Post.turn wi o1 l1 x.rel.len a z
    cases k with
    | false =>
      have z := turn x2
      refine ⟨by omega, g2, _, x.trans z, wiped_E _ _, ?_⟩
      simpa using e
    | true =>
      simp only [if_true] at e
      obtain ⟨⟨p, Γ3⟩, e3, e⟩ := R.bd_eq e
      split at e
      · rename_i p0 k' hp
        have hp : p = Pv.old (.bl k') := hp
        subst hp
        refine he b g2 Γb σ2 H3 _ _ Γ3 e3 x2.rel fun y g3 H4 x3 rp => ?_
        cases rp
        have z := turn (x2.trans x3)
        refine ⟨_, rfl, ?_⟩
        split at e
        · rename_i hk
          rw [if_pos hk]
          exact ⟨m - 1, by omega, by omega, g3, _, x.trans z, wiped_E _ _, e⟩
        · rename_i hk
          rw [if_neg hk]
          cases e
          exact q g3 H4 (Post.back R0 hno (fun i hi => wipe_out hi) (wipe_length _ _) (x.trans z))
      · cases e
  · left
    have : xs.drop i = [] := List.drop_eq_nil_of_le hi
    rw [this] at e
    unfold allN at e
    cases e
    exact ⟨S1.stop hi (by omega), q g1 H1 (Post.back R0 hno (fun i hi => wipe_out hi) (wipe_length _ _) x)⟩
end
end Ux

namespace Ux
open PySem PySem.Spec PyProof.Rows L2 GxR
section
variable {K : PySem.W.Frag} {tabs : List Addr} {b : B0} {g g' : Gh} {Γ Γ' : En} {σ σ' : L2.St} {H H' : Hp}
theorem RepP.weak {H0 H1 : Hp} {v : V} {p : Pv} (h : RepP K b H1 g Γ σ H v p) (hn : ∀ a, H1 a = none → H0 a = none) : RepP K b H0 g Γ σ H v p := by
  cases p with
  | old d => exact h
  | vr i => exact h
  | frs d =>
    obtain ⟨a, e, h0, r⟩ := h
    exact ⟨a, e, hn a h0, r⟩
theorem Res.of {g1 : Gh} {Γ1 : En} {H1 : Hp} {p : Pv} {Q : VK} (x : Post K tabs b g Γ σ H g1 Γ1 H1) (q : ∀ v g' H', Post K tabs b g Γ σ H g' Γ1 H' → RepP K b H g' Γ1 σ H' v p → Q v H') : Res K tabs b g1 Γ1 σ H1 p Q :=
  fun z g' H' y rp => q z g' H' (x.trans y) (rp.weak fun a => none_of x.dm)
theorem ofV_rep {v : V} (h : okV v = true) : Rep K g H v (ofV v) := by
  cases v <;> first | (simp [okV] at h; done) | exact .non | exact .bl _ | exact .int _ | exact .str _
end
def MEs.len : MEs → Nat
  | .nil => 0
  | .cons _ es => es.len + 1
theorem evEs_len {F : Str → Fn} : ∀ (es : MEs) {Γ Γ1 : En} {ps : List Pv}, evEs F es Γ = .ok (ps, Γ1) → ps.length = es.len
  | .nil, _, _, _, e => by unfold evEs at e; cases e; rfl
  | .cons m es, Γ, Γ1, ps, e => by
    unfold evEs at e
    obtain ⟨⟨p, Γa⟩, e1, e⟩ := R.bd_eq e
    obtain ⟨⟨qs, Γb⟩, e2, e⟩ := R.bd_eq e
    cases e
    show qs.length + 1 = es.len + 1
    rw [evEs_len es e2]
theorem rds_len {Γ : En} : ∀ {ps : List Pv} {ds : List D}, rds Γ ps = some ds → ps.length = ds.length
  | [], _, e => by cases e; rfl
  | p :: ps, ds, e => by
    obtain ⟨d, r, rfl, _, e2⟩ := rds_cons e
    rw [List.length_cons, List.length_cons, rds_len e2]
theorem trEs_len (K : PySem.W.Frag) (T : Tb) (W : WX) : ∀ es : MEs, (trEs K T W es).length = es.len
  | .nil => by unfold trEs; rfl
  | .cons e es => by
    unfold trEs
    rw [List.length_cons, trEs_len K T W es]; rfl
section
variable {K : PySem.W.Frag} {tabs : List Addr} {b : B0} {g g' : Gh} {Γ Γ' : En} {σ σ' : L2.St} {H H' : Hp}
theorem rg_reps (K : PySem.W.Frag) (g : Gh) (H : Hp) (a c : Int) : Reps K g H (rgV a c) (rgD a c) := by
  unfold rgV rgD
  generalize List.range (c - a).toNat = xs
  induction xs with
  | nil => exact .nil
  | cons x xs ih => exact .cons (.int _) ih
/-- a source: its operands are frozen, or a new dict is locked -/
theorem srcP_ok {T : Tb} {W : WX} {F : Str → Fn} {k : IK} {es : MEs} (hs : SA K tabs (tA (trEs K T W es)) (evEs F es)) (h1 : ∀ e, es = .cons e .nil → SE K tabs (trE K T W e) (evE F e)) {ps : List Pv} {ds xs : List D} {Γ1 : En} (e1 : evEs F es Γ = .ok (ps, Γ1)) (e2 : rds Γ1 ps = some ds) (e3 : srcP k ps ds = some xs)
    (R0 : Rel K tabs b g Γ σ H) {RR : It → Hp → Prop} (q : ∀ J g' H', Post K tabs b g Γ σ H g' (fzps Γ1 ps) H' → SrcIs K g' H' J xs → RR J H') : iSrc K k (trEs K T W es) σ H RR := by
  exact src_ok hs (by rw [trEs_len, ← evEs_len es e1, rds_len e2]) e1 e2 e3 R0 q
theorem rgs_ok {k : IK} {ts : List TE} {r : En → R (List Pv × En)} (hs : SA K tabs (tA ts) r) {ps : List Pv} {ds xs : List D} {Γ1 : En} (hlen : ts.length = ds.length) (e1 : r Γ = .ok (ps, Γ1)) (e2 : rds Γ1 ps = some ds) (e3 : srcD k ds = some xs) (hk : k ≠ .val) (hk2 : k ≠ .enm)
    (R0 : Rel K tabs b g Γ σ H) {RR : Int → Int → Hp → Prop} (q : ∀ a c g' H', Post K tabs b g Γ σ H g' Γ1 H' → RgOk a c → xs = rgD a c → RR a c H') : tRgs k ts σ H RR := by
  have go : ∀ P : List V → Hp → Prop, (∀ vs g1 H1, Post K tabs b g Γ σ H g1 Γ1 H1 → RepBs K g1 H1 vs ds → P vs H1) → tA ts σ H P := fun P h => hs b g Γ σ H P ps Γ1 e1 R0 fun vs g1 H1 x ro => h vs g1 H1 x (ro.read x.rel e2)
  unfold srcD at e3
  split at e3
  · exact absurd rfl hk
  · exact absurd rfl hk2
  · rename_i n
    match ts, hlen with
    | [t], _ =>
      split at e3
      · rename_i hr
        cases e3
        have hr := rg_ok hr
        show tA [t] σ H (fun vs H1 => match vs with
          | [x] => ∃ n, x = .int n ∧ RR 0 n H1
          | _ => False)
        refine go _ fun vs g1 H1 x rs => ?_
        match vs, rs with
        | [v], rs =>
          exact ⟨n, rs.1.int, q 0 n g1 H1 x ⟨by omega, by omega, by omega, by omega, by omega⟩ rfl⟩
      · cases e3
  · rename_i a c
    match ts, hlen with
    | [t, u], _ =>
      split at e3
      · rename_i hr
        cases e3
        have hr := rg_ok hr
        show tA [t, u] σ H (fun vs H1 => match vs with
          | [x, y] => ∃ i j, x = .int i ∧ y = .int j ∧ RR i j H1
          | _ => False)
        refine go _ fun vs g1 H1 x rs => ?_
        match vs, rs with
        | [v, w], rs =>
          exact ⟨a, c, rs.1.int, rs.2.1.int, q a c g1 H1 x ⟨by omega, by omega, by omega, by omega, by omega⟩ rfl⟩
      · cases e3
  · cases e3
end
section
variable {K : PySem.W.Frag} {tabs : List Addr} {T : Tb} {F : Str → Fn}
variable (hF : ∀ f ds w, F f ds w ≠ .no → ∃ fe, T.fn f = some fe ∧ ∀ vs H Q E, spOf K tabs T.xt (F f) vs H Q E → fe.sp vs H Q E) (hP : T.P ∈ tabs)
include hF hP
mutual
theorem evE_ok : ∀ (W : WX) (m : ME), SE K tabs (trE K T W m) (evE F m)
  | W, .var i => fun b g Γ σ H Q p Γ' e R0 q => by
    unfold evE at e
    unfold trE
    split at e
    · rename_i d h
      cases e
      obtain ⟨a, e1, _⟩ := R0.own i d h
      exact ⟨_, e1, q _ g H (.refl R0) ⟨⟨_, h⟩, e1⟩⟩
    · rename_i d h
      cases e
      obtain ⟨v, e1, e2⟩ := R0.old i d h
      exact ⟨v, e1, q _ g H (.refl R0) e2⟩
    · cases e
  | W, .con v => fun b g Γ σ H Q p Γ' e R0 q => by
    unfold evE at e
    unfold trE
    split at e
    · rename_i h
      cases e
      exact q _ g H (.refl R0) (ofV_rep h)
    · cases e
  | W, .glo x v => fun b g Γ σ H Q p Γ' e R0 q => by
    unfold evE at e
    unfold trE
    split at e
    · rename_i h
      cases e
      exact q _ g H (.refl R0) (ofV_rep h)
    · cases e
  | W, .tup es => fun b g Γ σ H Q p Γ' e R0 q => by
    unfold evE at e
    unfold trE
    obtain ⟨⟨ps, Γ1⟩, e1, e⟩ := R.bd_eq e
    obtain ⟨ds, e2, e⟩ := R.bd_eq e
    have e2 := R.of_eq e2
    split at e
    · rename_i hl
      cases e
      refine evEs_ok _ es b g Γ σ H _ ps Γ1 e1 R0 fun vs g1 H1 x ro => ?_
      obtain ⟨g2, x2, rs⟩ := ro.fz x.rel e2
      refine ⟨by rw [rs.length]; exact Nat.le_of_lt (lim_line hl), fun a hn => ?_⟩
      exact q _ g2 _ ((x.trans x2).trans (Post.alloc x2.rel hn)) (.tup upd_same (rs.alloc hn))
    · cases e
  | W, .lst es => fun b g Γ σ H Q p Γ' e R0 q => by
    unfold evE at e
    unfold trE
    obtain ⟨⟨ps, Γ1⟩, e1, e⟩ := R.bd_eq e
    obtain ⟨ds, e2, e⟩ := R.bd_eq e
    have e2 := R.of_eq e2
    split at e
    · rename_i hl
      cases e
      refine evEs_ok _ es b g Γ σ H _ ps Γ1 e1 R0 fun vs g1 H1 x ro => ?_
      obtain ⟨g2, x2, rs⟩ := ro.fz x.rel e2
      refine ⟨by rw [rs.length]; exact Nat.le_of_lt (lim_line hl), fun a hn => ?_⟩
      exact (Res.of (x.trans x2) q).newL x2.rel hn rs
    · cases e
  | W, .ix m n => fun b g Γ σ H Q p Γ' e R0 q => by
    unfold evE at e
    unfold trE
    obtain ⟨⟨p1, Γ1⟩, e1, e⟩ := R.bd_eq e
    obtain ⟨⟨p2, Γ2⟩, e2, e⟩ := R.bd_eq e
    obtain ⟨d, e3, e⟩ := R.bd_eq e
    obtain ⟨d', e4, e⟩ := R.bd_eq e
    obtain ⟨r, e5, e⟩ := R.bd_eq e
    cases e
    exact SE.two (evE_ok _ m) (evE_ok _ n) e1 e2 (R.of_eq e3) (R.of_eq e4) R0 fun v w g1 H1 x r1 r2 => ix_ok x.rel (R.of_eq e5) r1 r2 (Res.of x q)
  | W, .slc m lo hi => fun b g Γ σ H Q p Γ' e R0 q => by
    unfold evE at e
    unfold trE
    obtain ⟨⟨p1, Γ1⟩, e1, e⟩ := R.bd_eq e
    have e1 := R.st_eq e1
    obtain ⟨⟨l, Γ2⟩, e2, e⟩ := R.bd_eq e
    have e2 := R.st_eq e2
    obtain ⟨⟨u, Γ3⟩, e3, e⟩ := R.bd_eq e
    have e3 := R.st_eq e3
    obtain ⟨d, e4, e⟩ := R.bd_eq e
    obtain ⟨r, e5, e⟩ := R.bd_eq e
    cases e
    refine (evE_ok _ m).o e1 R0 fun v g1 H1 x1 r1 => ?_
    refine evO_ok _ lo b g1 Γ1 σ H1 _ l Γ2 e2 x1.rel fun g2 H2 x2 => ?_
    refine evO_ok _ hi b g2 Γ2 σ H2 _ u _ e3 x2.rel fun g3 H3 x3 => ?_
    exact cut_ok x3.rel (R.of_eq e5) (((r1.step x1.rel x2).step x2.rel x3).read x3.rel (R.of_eq e4)) (Res.of (x1.trans (x2.trans x3)) q)
  | W, .op o m n => fun b g Γ σ H Q p Γ' e R0 q => by
    unfold evE at e
    unfold trE
    obtain ⟨⟨p1, Γ1⟩, e1, e⟩ := R.bd_eq e
    obtain ⟨⟨p2, Γ2⟩, e2, e⟩ := R.bd_eq e
    obtain ⟨d, e3, e⟩ := R.bd_eq e
    obtain ⟨d', e4, e⟩ := R.bd_eq e
    obtain ⟨r, e5, e⟩ := R.bd_eq e
    cases e
    exact SE.two (evE_ok _ m) (evE_ok _ n) e1 e2 (R.of_eq e3) (R.of_eq e4) R0 fun v w g1 H1 x r1 r2 => op_ok x.rel (R.of_eq e5) r1 r2 (Res.of x q)
  | W, .neg m => fun b g Γ σ H Q p Γ' e R0 q => by
    unfold evE at e
    unfold trE
    obtain ⟨⟨p1, Γ1⟩, e1, e⟩ := R.bd_eq e
    have e1 := R.st_eq e1
    cases p1 with
    | old d =>
      cases d with
      | int i =>
        cases e
        refine evE_ok _ m b g Γ σ H _ _ _ e1 R0 fun v g1 H1 x rp => ?_
        cases rp
        exact ⟨i, rfl, q _ g1 H1 x (.int _)⟩
      | _ => cases e
    | _ => cases e
  | W, .cmp o m n => fun b g Γ σ H Q p Γ' e R0 q => by
    unfold evE at e
    unfold trE
    obtain ⟨⟨p1, Γ1⟩, e1, e⟩ := R.bd_eq e
    obtain ⟨⟨p2, Γ2⟩, e2, e⟩ := R.bd_eq e
    obtain ⟨d, e3, e⟩ := R.bd_eq e
    obtain ⟨d', e4, e⟩ := R.bd_eq e
    obtain ⟨r, e5, e⟩ := R.bd_eq e
    cases e
    exact SE.two (evE_ok _ m) (evE_ok _ n) e1 e2 (R.of_eq e3) (R.of_eq e4) R0 fun v w g1 H1 x r1 r2 => cm_ok (R.of_eq e5) r1 r2 (q _ g1 H1 x (.bl _))
  | W, .isn w m => fun b g Γ σ H Q p Γ' e R0 q => by
    unfold evE at e
    unfold trE
    obtain ⟨⟨p1, Γ1⟩, e1, e⟩ := R.bd_eq e
    obtain ⟨d, e3, e⟩ := R.bd_eq e
    cases e
    cases w with
    | true =>
      refine (evE_ok _ m).o1 e1 (R.of_eq e3) R0 fun v g1 H1 x rb => ?_
      rw [rb.nonB]
      exact q _ g1 H1 x (.bl _)
    | false =>
      refine (evE_ok _ m).o1 e1 (R.of_eq e3) R0 fun v g1 H1 x rb => ?_
      rw [rb.nonB]
      exact q _ g1 H1 x (.bl _)
  | W, .chn o o2 m n l => fun b g Γ σ H Q p Γ' e R0 q => by
    unfold evE at e
    unfold trE
    obtain ⟨⟨p1, Γ1⟩, e1, e⟩ := R.bd_eq e
    have e1 := R.st_eq e1
    obtain ⟨⟨p2, Γ2⟩, e2, e⟩ := R.bd_eq e
    have e2 := R.st_eq e2
    obtain ⟨d, e3, e⟩ := R.bd_eq e
    obtain ⟨d', e4, e⟩ := R.bd_eq e
    obtain ⟨k, e5, e⟩ := R.bd_eq e
    refine (evE_ok _ m).o e1 R0 fun v g1 H1 x1 o1 => (evE_ok _ n).o e2 x1.rel fun w g2 H2 x2 o2' => ?_
    refine cm_ok (R.of_eq e5) ((o1.step x1.rel x2).read x2.rel (R.of_eq e3)) (o2'.read x2.rel (R.of_eq e4)) ?_
    refine ⟨k, rfl, ?_⟩
    cases k with
    | true =>
      simp only [if_true] at e ⊢
      obtain ⟨⟨p3, Γ3⟩, e6, e⟩ := R.bd_eq e
      have e6 := R.st_eq e6
      obtain ⟨d2, e7, e⟩ := R.bd_eq e
      obtain ⟨d3, e8, e⟩ := R.bd_eq e
      obtain ⟨k, e9, e⟩ := R.bd_eq e
      cases e
      refine (evE_ok _ l).o e6 x2.rel fun u g3 H3 x3 o3 => ?_
      exact cm_ok (R.of_eq e9) ((o2'.step x2.rel x3).read x3.rel (R.of_eq e7)) (o3.read x3.rel (R.of_eq e8)) (q _ g3 H3 (x1.trans (x2.trans x3)) (.bl _))
    | false =>
      simp only [Bool.false_eq_true, if_false] at e ⊢
      cases e
      exact q _ g2 H2 (x1.trans x2) (.bl _)
  | W, .bop w m es => fun b g Γ σ H Q p Γ' e R0 q => by
    unfold evE at e
    unfold trE
    exact evB_ok _ w es (evE_ok _ m) b g Γ σ H Q p Γ' e R0 q
  | W, .not m => fun b g Γ σ H Q p Γ' e R0 q => by
    unfold evE at e
    unfold trE
    obtain ⟨⟨p1, Γ1⟩, e1, e⟩ := R.bd_eq e
    cases p1 with
    | old d =>
      cases d with
      | bl i =>
        cases e
        refine evE_ok _ m b g Γ σ H _ _ _ e1 R0 fun v g1 H1 x rp => ?_
        cases rp
        exact ⟨i, rfl, q _ g1 H1 x (.bl _)⟩
      | _ => cases e
    | _ => cases e
  | W, .ife c m n => fun b g Γ σ H Q p Γ' e R0 q => by
    unfold evE at e
    unfold trE
    obtain ⟨⟨k, Γ1⟩, e1, e⟩ := R.bd_eq e
    refine evC_ok _ c b g Γ σ H _ k Γ1 e1 R0 fun g1 H1 x => ?_
    cases k with
    | true => exact evE_ok _ m b g1 Γ1 σ H1 Q p Γ' e x.rel fun v g2 H2 y rp => q v g2 H2 (x.trans y) (rp.weak fun a => none_of x.dm)
    | false => exact evE_ok _ n b g1 Γ1 σ H1 Q p Γ' e x.rel fun v g2 H2 y rp => q v g2 H2 (x.trans y) (rp.weak fun a => none_of x.dm)
  | W, .call f es => fun b g Γ σ H Q p Γ' e R0 q => by
    unfold evE at e
    unfold trE
    obtain ⟨⟨ps, Γ1⟩, e1, e⟩ := R.bd_eq e
    obtain ⟨ds, e2, e⟩ := R.bd_eq e
    obtain ⟨⟨d, fr, w⟩, e3, e⟩ := R.bd_eq e
    cases e
    obtain ⟨fe, ef, hsp⟩ := hF f ds Γ1.w (by rw [e3]; exact fun z => nomatch z)
    rw [ef]
    exact call_ok hsp (evEs_ok _ es) e1 (R.of_eq e2) e3 R0 q
  | W, .bfn o m => fun b g Γ σ H Q p Γ' e R0 q => by
    unfold evE at e
    unfold trE
    obtain ⟨⟨p1, Γ1⟩, e1, e⟩ := R.bd_eq e
    obtain ⟨d, e3, e⟩ := R.bd_eq e
    obtain ⟨r, e5, e⟩ := R.bd_eq e
    cases e
    exact (evE_ok _ m).o1 e1 (R.of_eq e3) R0 fun v g1 H1 x rb => bf_ok x.rel (R.of_eq e5) rb (Res.of x q)
  | W, .isi n m => fun b g Γ σ H Q p Γ' e R0 q => by
    unfold evE at e
    unfold trE
    obtain ⟨⟨p1, Γ1⟩, e1, e⟩ := R.bd_eq e
    obtain ⟨d, e3, e⟩ := R.bd_eq e
    obtain ⟨r, e5, e⟩ := R.bd_eq e
    cases e
    exact (evE_ok _ m).o1 e1 (R.of_eq e3) R0 fun v g1 H1 x rb => isi_ok (R.of_eq e5) rb (q _ g1 H1 x (.bl _))
  | W, .lrg w k es => fun b g Γ σ H Q p Γ' e R0 q => by
    unfold evE at e
    unfold trE
    obtain ⟨⟨ps, Γ1⟩, e1, e⟩ := R.bd_eq e
    have e1 := R.st_eq e1
    obtain ⟨ds, e2, e⟩ := R.bd_eq e
    obtain ⟨xs, e3, e⟩ := R.bd_eq e
    have hk : k ≠ .val := fun z => by subst z; cases e
    have hkk : k ≠ .enm := fun z => by subst z; cases e
    have e : R.ok (if w then Pv.frs (.lst xs) else .old (.tup xs), Γ1) = R.ok (p, Γ') := by
      cases k with
      | val => exact absurd rfl hk
      | enm => exact absurd rfl hkk
      | rng1 => exact e
      | rng2 => exact e
    cases e
    cases w with
    | true =>
      refine rgs_ok (evEs_ok _ es) (by rw [trEs_len, ← evEs_len es e1, rds_len (R.of_eq e2)]) e1 (R.of_eq e2) (R.of_eq e3) hk hkk R0 fun a c g1 H1 x hr hx => ⟨hr, fun l hn => ?_⟩
      subst hx
      exact (Res.of x q).newL x.rel hn (rg_reps ..)
    | false =>
      refine rgs_ok (evEs_ok _ es) (by rw [trEs_len, ← evEs_len es e1, rds_len (R.of_eq e2)]) e1 (R.of_eq e2) (R.of_eq e3) hk hkk R0 fun a c g1 H1 x hr hx => ⟨hr, fun l hn => ?_⟩
      subst hx
      exact (Res.of x q).newT x.rel hn (rg_reps ..)
  | W, .mth o m es => fun b g Γ σ H Q p Γ' e R0 q => by
    unfold evE at e
    unfold trE
    obtain ⟨⟨p1, Γ1⟩, e1, e⟩ := R.bd_eq e
    dsimp only at e
    split at e
    · rename_i ht
      obtain ⟨⟨ps, Γ2⟩, e2, e⟩ := R.bd_eq e
      refine (evE_ok _ m).o2 e1 R0 fun v g1 H1 x1 o1 w1 => ⟨tyM_ok x1.rel o1 w1 ht, ?_⟩
      refine evEs_ok _ es b g1 Γ1 σ H1 _ ps Γ2 e2 x1.rel fun vs g2 H2 x2 ros => ?_
      exact mthE_ok e x2.rel (o1.step x1.rel x2) ros fun z g3 H3 x3 rp => q z g3 H3 (x1.trans (x2.trans x3)) (rp.weak fun a => none_of (x1.trans x2).dm)
    · cases e
  | W, .lc vs t k es ifs el => fun b g Γ σ H Q p Γ' e R0 q => by
    unfold evE at e
    unfold trE
    obtain ⟨⟨ps, Γ1⟩, e1, e⟩ := R.bd_eq e
    have e1 := R.st_eq e1
    obtain ⟨ds, e2, e⟩ := R.bd_eq e
    obtain ⟨xs, e3, e⟩ := R.bd_eq e
    have e2 := R.of_eq e2
    split at e
    · rename_i hc
      have hc := and2 hc
      obtain ⟨⟨acc, Γ2⟩, e4, e⟩ := R.bd_eq e
      have e4 := R.st_eq e4
      cases e
      refine srcP_ok (evEs_ok _ es) (fun e' he => by subst he; exact evE_ok _ e') e1 e2 (R.of_eq e3) R0 fun J g1 H1 x S => ?_
      exact lc_ok S hc.2 hc.1 (evI_ok _ ifs) (evE_ok _ el) e4 x.rel fun v g2 H2 y rp => q v g2 H2 (x.trans y) (rp.weak fun a => none_of x.dm)
    · cases e
  | W, .gen w vs t k es ifs el => fun b g Γ σ H Q p Γ' e R0 q => by
    unfold evE at e
    unfold trE
    obtain ⟨⟨ps, Γ1⟩, e1, e⟩ := R.bd_eq e
    have e1 := R.st_eq e1
    obtain ⟨ds, e2, e⟩ := R.bd_eq e
    obtain ⟨xs, e3, e⟩ := R.bd_eq e
    have e2 := R.of_eq e2
    split at e
    · rename_i hc
      have hc := and2 hc
      obtain ⟨⟨c, Γ2⟩, e4, e⟩ := R.bd_eq e
      have e4 := R.st_eq e4
      cases e
      refine srcP_ok (evEs_ok _ es) (fun e' he => by subst he; exact evE_ok _ e') e1 e2 (R.of_eq e3) R0 fun J g1 H1 x S => ?_
      have hT := x.rel.tab _ hP
      exact ⟨hT, fun H2 t => gen_ok S hc.2 hc.1 (evI_ok _ ifs) (evE_ok _ el) e4 x.rel hT t fun g2 H2 y => q _ g2 H2 (x.trans y) (.bl _)⟩
    · cases e
  | W, .dk0 t => fun b g Γ σ H Q p Γ' e R0 q => by
    unfold evE at e
    unfold trE
    cases e
    cases t with
    | true => exact fun a hn => q _ g _ (Post.alloc R0 hn) (R0.priv hn ⟨[], upd_same, rfl, .nil⟩)
    | false => exact fun a hn => q _ g _ (Post.alloc R0 hn) (R0.priv hn ⟨[], upd_same, rfl, .nil⟩)
  | W, .dk1 t k v => fun b g Γ σ H Q p Γ' e R0 q => by
    unfold evE at e
    unfold trE
    obtain ⟨⟨p1, Γ1⟩, e1, e⟩ := R.bd_eq e
    have e1 := R.st_eq e1
    obtain ⟨⟨p2, Γ2⟩, e2, e⟩ := R.bd_eq e
    have e2 := R.st_eq e2
    obtain ⟨d, e3, e⟩ := R.bd_eq e
    obtain ⟨d', e4, e⟩ := R.bd_eq e
    have e3 := R.of_eq e3
    have e4 := R.of_eq e4
    cases t with
    | true =>
      simp only [if_true] at e
      obtain ⟨κ, e5, e⟩ := R.bd_eq e
      have e5 := R.of_eq e5
      cases e
      refine fun a hn => ?_
      have rp0 : RepP K b H g Γ σ (upd H a (.dT [])) (.ref a) (.frs (.dt [] [])) := R0.priv hn ⟨[], upd_same, rfl, .nil⟩
      have x0 := Post.alloc (K := K) (tabs := tabs) (b := b) (o := .dT []) R0 hn
      refine (evE_ok _ k).o e1 x0.rel fun x g1 H1 x1 o1 => (evE_ok _ v).o e2 x1.rel fun y g2 H2 x2 o2 => ?_
      obtain ⟨g3, x3, r3⟩ := o2.fz x2.rel e4
      have rp2 := (rp0.step x0.rel x1).step x1.rel x2
      have rp3 := rp2.step x2.rel x3
      obtain ⟨D', eD, h0, pD, no⟩ := rp3
      cases eD
      obtain ⟨vs0, ev, ez, rr⟩ := pD.own
      cases rr
      have rk := (o1.step x1.rel x2).read x2.rel e3
      cases d with
      | tup ds' =>
        obtain ⟨c, ws, rfl, hx, hr⟩ := rk.tup
        have ek := Reps.keys hr e5
        refine ⟨ev, κ, c, rfl, by rw [hx, ek], ?_⟩
        have up := Post.updP (x0.trans (x1.trans (x2.trans x3))) (d := .dt [] []) (d' := .dt [κ] [d']) (o := .dT [(κ, y)]) ⟨a, rfl, h0, pD, no⟩ ⟨[y], upd_same, rfl, Reps.upd1 pD.nf ev trivial (.cons r3 .nil)⟩
        exact q _ g3 _ up.1 up.2
      | _ => cases e5
    | false =>
      simp only [Bool.false_eq_true, if_false] at e
      obtain ⟨κ, e5, e⟩ := R.bd_eq e
      have e5 := R.of_eq e5
      cases e
      refine fun a hn => ?_
      have rp0 : RepP K b H g Γ σ (upd H a (.dK [])) (.ref a) (.frs (.dk [] [])) := R0.priv hn ⟨[], upd_same, rfl, .nil⟩
      have x0 := Post.alloc (K := K) (tabs := tabs) (b := b) (o := .dK []) R0 hn
      refine (evE_ok _ k).o e1 x0.rel fun x g1 H1 x1 o1 => (evE_ok _ v).o e2 x1.rel fun y g2 H2 x2 o2 => ?_
      obtain ⟨g3, x3, r3⟩ := o2.fz x2.rel e4
      have rp2 := (rp0.step x0.rel x1).step x1.rel x2
      have rp3 := rp2.step x2.rel x3
      obtain ⟨D', eD, h0, pD, no⟩ := rp3
      cases eD
      obtain ⟨vs0, ev, ez, rr⟩ := pD.own
      cases rr
      have rk := ((o1.step x1.rel x2).read x2.rel e3).key e5
      refine ⟨ev, [(κ, y)], by rw [rk]; rfl, by simp, ?_⟩
      have up := Post.updP (x0.trans (x1.trans (x2.trans x3))) (d := .dk [] []) (d' := .dk [κ] [d']) (o := .dK [(κ, y)]) ⟨a, rfl, h0, pD, no⟩ ⟨[y], upd_same, rfl, Reps.upd1 pD.nf ev trivial (.cons r3 .nil)⟩
      exact q _ g3 _ up.1 up.2
  | W, .dc vs t k es ifs kx vx => fun b g Γ σ H Q p Γ' e R0 q => by
    unfold evE at e
    unfold trE
    obtain ⟨⟨ps, Γ1⟩, e1, e⟩ := R.bd_eq e
    have e1 := R.st_eq e1
    obtain ⟨ds, e2, e⟩ := R.bd_eq e
    obtain ⟨xs, e3, e⟩ := R.bd_eq e
    have e2 := R.of_eq e2
    split at e
    · rename_i hc
      have hc := and2 hc
      obtain ⟨⟨kk, acc, Γ2⟩, e4, e⟩ := R.bd_eq e
      have e4 := R.st_eq e4
      cases e
      refine srcP_ok (evEs_ok _ es) (fun e' he => by subst he; exact evE_ok _ e') e1 e2 (R.of_eq e3) R0 fun J g1 H1 x S => ?_
      exact dc_ok S hc.2 hc.1 (evI_ok _ ifs) (evE_ok _ kx) (evE_ok _ vx) e4 x.rel fun v g2 H2 y rp => q v g2 H2 (x.trans y) (rp.weak fun a => none_of x.dm)
    · cases e
  | W, .bad => fun b g Γ σ H Q p Γ' e R0 q => by
    unfold evE at e
    cases e
  | W, .bf2 w m n => fun b g Γ σ H Q p Γ' e R0 q => by
    unfold evE at e
    unfold trE
    obtain ⟨⟨p1, Γ1⟩, e1, e⟩ := R.bd_eq e
    have e1 := R.st_eq e1
    obtain ⟨⟨p2, Γ2⟩, e2, e⟩ := R.bd_eq e
    have e2 := R.st_eq e2
    dsimp only at e
    split at e
    · cases e
      refine evE_ok _ m b g Γ σ H _ _ _ e1 R0 fun v g1 H1 x1 r1 => ?_
      refine evE_ok _ n b g1 Γ1 σ H1 _ _ _ e2 x1.rel fun u g2 H2 x2 r2 => ?_
      cases r1
      cases r2
      exact ⟨_, _, rfl, q _ g2 H2 (x1.trans x2) (.int _)⟩
    · cases e
theorem evB_ok : ∀ (W : WX) (w : Bool) (es : MEs) {t : TE} {r : En → R (Pv × En)}, SE K tabs t r → SE K tabs (trB K T W w t es) (fun Γ => (r Γ).bd fun x => evB F w es x.1 x.2)
  | W, w, .nil, t, r, h => fun b g Γ σ H Q p Γ' e R0 q => by
    unfold trB
    obtain ⟨⟨p1, Γ1⟩, e1, e⟩ := R.bd_eq e
    unfold evB at e
    cases e
    exact h b g Γ σ H Q _ _ e1 R0 q
  | W, w, .cons m es, t, r, h => fun b g Γ σ H Q p Γ' e R0 q => by
    unfold trB
    obtain ⟨⟨p1, Γ1⟩, e1, e⟩ := R.bd_eq e
    unfold evB at e
    cases p1 with
    | old d =>
      cases d with
      | bl c =>
        have e : (if c = w then (evE F m Γ1).bd fun x => evB F w es x.1 x.2 else .ok (.old (.bl (!w)), Γ1)) = R.ok (p, Γ') := e
        have go : ∀ {P : VK}, (∀ g1 H1, Post K tabs b g Γ σ H g1 Γ1 H1 → P (.bl c) H1) → t σ H P := fun {P} hh => h b g Γ σ H P _ Γ1 e1 R0 fun v g1 H1 x rp => by
          cases rp
          exact hh g1 H1 x
        have nxt : ∀ g1 H1, c = w → Post K tabs b g Γ σ H g1 Γ1 H1 → trB K T W w (trE K T W m) es σ H1 Q := fun g1 H1 hk x => by
          rw [if_pos hk] at e
          exact evB_ok _ w es (evE_ok _ m) b g1 Γ1 σ H1 Q p Γ' e x.rel fun v g2 H2 y rp => q v g2 H2 (x.trans y) (rp.weak fun a => none_of x.dm)
        have stp : c ≠ w → Q (.bl (!w)) = Q (.bl (!w)) ∧ ∀ g1 H1, Post K tabs b g Γ σ H g1 Γ1 H1 → Q (.bl (!w)) H1 := fun hk => by
          rw [if_neg hk] at e
          cases e
          exact ⟨rfl, fun g1 H1 x => q _ g1 H1 x (.bl _)⟩
        cases w with
        | true =>
          refine go fun g1 H1 x => ⟨c, rfl, ?_⟩
          cases c with
          | true => exact nxt g1 H1 rfl x
          | false => exact (stp (by simp)).2 g1 H1 x
        | false =>
          refine go fun g1 H1 x => ⟨c, rfl, ?_⟩
          cases c with
          | false => exact nxt g1 H1 rfl x
          | true => exact (stp (by simp)).2 g1 H1 x
      | _ => cases e
    | _ => cases e
theorem evEs_ok : ∀ (W : WX) (es : MEs), SA K tabs (tA (trEs K T W es)) (evEs F es)
  | W, .nil => fun b g Γ σ H Q ps Γ' e R0 q => by
    unfold evEs at e
    unfold trEs
    cases e
    exact q [] g H (.refl R0) trivial
  | W, .cons m es => fun b g Γ σ H Q ps Γ' e R0 q => by
    unfold evEs at e
    unfold trEs
    obtain ⟨⟨p1, Γ1⟩, e1, e⟩ := R.bd_eq e
    obtain ⟨⟨qs, Γ2⟩, e2, e⟩ := R.bd_eq e
    cases e
    refine (evE_ok _ m).o e1 R0 fun v g1 H1 x1 o1 => ?_
    exact evEs_ok _ es b g1 Γ1 σ H1 _ qs Γ' e2 x1.rel fun vs g2 H2 x2 ros => q (v :: vs) g2 H2 (x1.trans x2) ⟨o1.step x1.rel x2, ros⟩
theorem evO_ok : ∀ (W : WX) (o : MO), SO K tabs (trO K T W o) (evO F o)
  | W, .none => fun b g Γ σ H Q c Γ' e R0 q => by
    unfold evO at e
    unfold trO
    cases e
    exact q g H (.refl R0)
  | W, .some m => fun b g Γ σ H Q c Γ' e R0 q => by
    unfold evO at e
    unfold trO
    obtain ⟨⟨p1, Γ1⟩, e1, e⟩ := R.bd_eq e
    cases p1 with
    | old d =>
      cases d with
      | int i =>
        cases e
        refine evE_ok _ m b g Γ σ H _ _ _ e1 R0 fun v g1 H1 x rp => ?_
        cases rp
        exact ⟨i, rfl, q g1 H1 x⟩
      | _ => cases e
    | _ => cases e
theorem evI_ok : ∀ (W : WX) (o : MI), SC K tabs (trI K T W o) (evI F o)
  | W, .none => fun b g Γ σ H Q c Γ' e R0 q => by
    unfold evI at e
    unfold trI
    cases e
    exact q g H (.refl R0)
  | W, .some m => fun b g Γ σ H Q c Γ' e R0 q => by
    unfold evI at e
    unfold trI
    exact evC_ok _ m b g Γ σ H Q c Γ' e R0 q
theorem evC_ok : ∀ (W : WX) (o : MC), SC K tabs (trC K T W o) (evC F o)
  | W, .tv m => fun b g Γ σ H Q c Γ' e R0 q => by
    unfold evC at e
    unfold trC
    obtain ⟨⟨p1, Γ1⟩, e1, e⟩ := R.bd_eq e
    obtain ⟨d, e3, e⟩ := R.bd_eq e
    obtain ⟨r, e5, e⟩ := R.bd_eq e
    cases e
    exact (evE_ok _ m).o1 e1 (R.of_eq e3) R0 fun v g1 H1 x rb => ⟨c, tru_ok' (R.of_eq e5) rb, q g1 H1 x⟩
  | W, .cmp o m n => fun b g Γ σ H Q c Γ' e R0 q => by
    unfold evC at e
    unfold trC
    obtain ⟨⟨p1, Γ1⟩, e1, e⟩ := R.bd_eq e
    obtain ⟨⟨p2, Γ2⟩, e2, e⟩ := R.bd_eq e
    obtain ⟨d, e3, e⟩ := R.bd_eq e
    obtain ⟨d', e4, e⟩ := R.bd_eq e
    obtain ⟨r, e5, e⟩ := R.bd_eq e
    cases e
    exact SE.two (evE_ok _ m) (evE_ok _ n) e1 e2 (R.of_eq e3) (R.of_eq e4) R0 fun v w g1 H1 x r1 r2 => cm_ok (R.of_eq e5) r1 r2 ⟨_, rfl, q g1 H1 x⟩
  | W, .isn w m => fun b g Γ σ H Q c Γ' e R0 q => by
    unfold evC at e
    unfold trC
    obtain ⟨⟨p1, Γ1⟩, e1, e⟩ := R.bd_eq e
    obtain ⟨d, e3, e⟩ := R.bd_eq e
    cases e
    cases w with
    | true => exact (evE_ok _ m).o1 e1 (R.of_eq e3) R0 fun v g1 H1 x rb => ⟨_, rfl, by rw [rb.nonB]; exact q g1 H1 x⟩
    | false => exact (evE_ok _ m).o1 e1 (R.of_eq e3) R0 fun v g1 H1 x rb => ⟨_, rfl, by rw [rb.nonB]; exact q g1 H1 x⟩
  | W, .chn o o2 m n l => fun b g Γ σ H Q c Γ' e R0 q => by
    unfold evC at e
    unfold trC
    obtain ⟨⟨p1, Γ1⟩, e1, e⟩ := R.bd_eq e
    have e1 := R.st_eq e1
    obtain ⟨⟨p2, Γ2⟩, e2, e⟩ := R.bd_eq e
    have e2 := R.st_eq e2
    obtain ⟨d, e3, e⟩ := R.bd_eq e
    obtain ⟨d', e4, e⟩ := R.bd_eq e
    obtain ⟨k, e5, e⟩ := R.bd_eq e
    refine (evE_ok _ m).o e1 R0 fun v g1 H1 x1 o1 => (evE_ok _ n).o e2 x1.rel fun w g2 H2 x2 o2' => ?_
    refine cm_ok (R.of_eq e5) ((o1.step x1.rel x2).read x2.rel (R.of_eq e3)) (o2'.read x2.rel (R.of_eq e4)) ?_
    refine ⟨k, rfl, ?_⟩
    cases k with
    | true =>
      simp only [if_true] at e ⊢
      obtain ⟨⟨p3, Γ3⟩, e6, e⟩ := R.bd_eq e
      have e6 := R.st_eq e6
      obtain ⟨d2, e7, e⟩ := R.bd_eq e
      obtain ⟨d3, e8, e⟩ := R.bd_eq e
      obtain ⟨k, e9, e⟩ := R.bd_eq e
      cases e
      refine (evE_ok _ l).o e6 x2.rel fun u g3 H3 x3 o3 => ?_
      exact cm_ok (R.of_eq e9) ((o2'.step x2.rel x3).read x3.rel (R.of_eq e7)) (o3.read x3.rel (R.of_eq e8)) ⟨_, rfl, q g3 H3 (x1.trans (x2.trans x3))⟩
    | false =>
      simp only [Bool.false_eq_true, if_false] at e ⊢
      cases e
      exact ⟨_, rfl, q g2 H2 (x1.trans x2)⟩
  | W, .bop w m cs => fun b g Γ σ H Q c Γ' e R0 q => by
    unfold evC at e
    unfold trC
    exact evCB_ok _ w cs (evC_ok _ m) b g Γ σ H Q c Γ' e R0 q
  | W, .not m => fun b g Γ σ H Q c Γ' e R0 q => by
    unfold evC at e
    unfold trC
    obtain ⟨⟨k, Γ1⟩, e1, e⟩ := R.bd_eq e
    cases e
    exact evC_ok _ m b g Γ σ H _ k _ e1 R0 fun g1 H1 x => q g1 H1 x
theorem evCB_ok : ∀ (W : WX) (w : Bool) (es : MCs) {t : TT} {r : En → R (Bool × En)}, SC K tabs t r → SC K tabs (trCB K T W w t es) (fun Γ => (r Γ).bd fun x => evCB F w es x.1 x.2)
  | W, w, .nil, t, r, h => fun b g Γ σ H Q p Γ' e R0 q => by
    unfold trCB
    obtain ⟨⟨p1, Γ1⟩, e1, e⟩ := R.bd_eq e
    unfold evCB at e
    cases e
    exact h b g Γ σ H Q _ _ e1 R0 q
  | W, w, .cons m es, t, r, h => fun b g Γ σ H Q p Γ' e R0 q => by
    unfold trCB
    obtain ⟨⟨c, Γ1⟩, e1, e⟩ := R.bd_eq e
    unfold evCB at e
    have e : (if c = w then (evC F m Γ1).bd fun x => evCB F w es x.1 x.2 else .ok (!w, Γ1)) = R.ok (p, Γ') := e
    have nxt : ∀ g1 H1, c = w → Post K tabs b g Γ σ H g1 Γ1 H1 → trCB K T W w (trC K T W m) es σ H1 Q := fun g1 H1 hk x => by
      rw [if_pos hk] at e
      exact evCB_ok _ w es (evC_ok _ m) b g1 Γ1 σ H1 Q p Γ' e x.rel fun g2 H2 y => q g2 H2 (x.trans y)
    have stp : c ≠ w → ∀ g1 H1, Post K tabs b g Γ σ H g1 Γ1 H1 → Q (!w) H1 := fun hk => by
      rw [if_neg hk] at e
      cases e
      exact fun g1 H1 x => q g1 H1 x
    cases w with
    | true =>
      refine h b g Γ σ H _ c Γ1 e1 R0 fun g1 H1 x => ?_
      cases c with
      | true => exact nxt g1 H1 rfl x
      | false => exact stp (by simp) g1 H1 x
    | false =>
      refine h b g Γ σ H _ c Γ1 e1 R0 fun g1 H1 x => ?_
      cases c with
      | false => exact nxt g1 H1 rfl x
      | true => exact stp (by simp) g1 H1 x
end
end
end Ux

namespace Ux
open PySem PySem.Spec PyProof.Rows L2 GxR
/-- what is wanted where an error leaves -/
def ErrP (K : PySem.W.Frag) (tabs : List Addr) (xt : Str → Option (Addr × Str)) (W : WX) (b : B0) (g : Gh) (σ : L2.St) (H : Hp) (x : Ex) (w : Wd) : Prop := ∀ cls od g' H', GRel K tabs b g' w H' → Stp g H g' H' → XAt xt x H' cls od → W cls od σ H'
def SXE (K : PySem.W.Frag) (tabs : List Addr) (xt : Str → Option (Addr × Str)) (W : WX) (t : TE) (r : En → R (Pv × En)) : Prop := ∀ (b : B0) (g : Gh) (Γ : En) (σ : L2.St) (H : Hp) (Q : VK) (x : Ex) (w : Wd), r Γ = .err x w → Rel K tabs b g Γ σ H → ErrP K tabs xt W b g σ H x w → t σ H Q
def SXA (K : PySem.W.Frag) (tabs : List Addr) (xt : Str → Option (Addr × Str)) (W : WX) (t : TA) (r : En → R (List Pv × En)) : Prop := ∀ (b : B0) (g : Gh) (Γ : En) (σ : L2.St) (H : Hp) (Q : List V → Hp → Prop) (x : Ex) (w : Wd), r Γ = .err x w → Rel K tabs b g Γ σ H → ErrP K tabs xt W b g σ H x w → t σ H Q
def SXC (K : PySem.W.Frag) (tabs : List Addr) (xt : Str → Option (Addr × Str)) (W : WX) (t : TT) (r : En → R (Bool × En)) : Prop := ∀ (b : B0) (g : Gh) (Γ : En) (σ : L2.St) (H : Hp) (Q : Bool → Hp → Prop) (x : Ex) (w : Wd), r Γ = .err x w → Rel K tabs b g Γ σ H → ErrP K tabs xt W b g σ H x w → t σ H Q
section
variable {K : PySem.W.Frag} {tabs : List Addr} {xt : Str → Option (Addr × Str)} {W : WX} {b : B0} {g g' : Gh} {Γ Γ' : En} {σ σ' : L2.St} {H H' : Hp} {x : Ex} {w : Wd}
theorem ErrP.step (h : ErrP K tabs xt W b g σ H x w) (s : Stp g H g' H') : ErrP K tabs xt W b g' σ H' x w := fun cls od g2 H2 r y a => h cls od g2 H2 r (s.trans y) a
theorem mthE_ne {o : Mth} {p : Pv} {qs : List Pv} (h : mthE o Γ p qs = .err x w) : False := by
  unfold mthE at h
  cases o <;> repeat' (first | contradiction | (split at h))
end
section
variable {K : PySem.W.Frag} {tabs : List Addr} {T : Tb} {F : Str → Fn}
variable (hF : ∀ f ds w, F f ds w ≠ .no → ∃ fe, T.fn f = some fe ∧ ∀ vs H Q E, spOf K tabs T.xt (F f) vs H Q E → fe.sp vs H Q E) (hP : T.P ∈ tabs)
include hF hP
mutual
theorem evE_er : ∀ (W : WX) (m : ME), SXE K tabs T.xt W (trE K T W m) (evE F m)
  | W, .var i => fun b g Γ σ H Q x w e R0 q => by
    unfold evE at e
    split at e <;> cases e
  | W, .con v => fun b g Γ σ H Q x w e R0 q => by
    unfold evE at e
    split at e <;> cases e
  | W, .glo y v => fun b g Γ σ H Q x w e R0 q => by
    unfold evE at e
    split at e <;> cases e
  | W, .tup es => fun b g Γ σ H Q x w e R0 q => by
    unfold evE at e
    unfold trE
    rcases R.bd_er e with h | ⟨⟨ps, Γ1⟩, e1, e⟩
    · exact evEs_er W es b g Γ σ H _ x w h R0 q
    · obtain ⟨ds, e2, e⟩ := R.of_er e
      split at e <;> cases e
  | W, .lst es => fun b g Γ σ H Q x w e R0 q => by
    unfold evE at e
    unfold trE
    rcases R.bd_er e with h | ⟨⟨ps, Γ1⟩, e1, e⟩
    · exact evEs_er W es b g Γ σ H _ x w h R0 q
    · obtain ⟨ds, e2, e⟩ := R.of_er e
      split at e <;> cases e
  | W, .ix m n => fun b g Γ σ H Q x w e R0 q => by
    unfold evE at e
    unfold trE
    rcases R.bd_er e with h | ⟨⟨p1, Γ1⟩, e1, e⟩
    · exact evE_er W m b g Γ σ H _ x w h R0 q
    rcases R.bd_er e with h | ⟨⟨p2, Γ2⟩, e2, e⟩
    · exact (evE_ok hF hP W m).o e1 R0 fun v g1 H1 x1 o1 => evE_er W n b g1 Γ1 σ H1 _ x w h x1.rel (q.step (x1.stp R0))
    obtain ⟨_, _, e⟩ := R.of_er e
    obtain ⟨_, _, e⟩ := R.of_er e
    obtain ⟨_, _, e⟩ := R.of_er e
    cases e
  | W, .slc m lo hi => fun b g Γ σ H Q x w e R0 q => by
    unfold evE at e
    obtain ⟨⟨p1, Γ1⟩, e1, e⟩ := R.st_er e
    obtain ⟨⟨l, Γ2⟩, e2, e⟩ := R.st_er e
    obtain ⟨⟨u, Γ3⟩, e3, e⟩ := R.st_er e
    obtain ⟨_, _, e⟩ := R.of_er e
    obtain ⟨_, _, e⟩ := R.of_er e
    cases e
  | W, .op o m n => fun b g Γ σ H Q x w e R0 q => by
    unfold evE at e
    unfold trE
    rcases R.bd_er e with h | ⟨⟨p1, Γ1⟩, e1, e⟩
    · exact evE_er W m b g Γ σ H _ x w h R0 q
    rcases R.bd_er e with h | ⟨⟨p2, Γ2⟩, e2, e⟩
    · exact (evE_ok hF hP W m).o e1 R0 fun v g1 H1 x1 o1 => evE_er W n b g1 Γ1 σ H1 _ x w h x1.rel (q.step (x1.stp R0))
    obtain ⟨_, _, e⟩ := R.of_er e
    obtain ⟨_, _, e⟩ := R.of_er e
    obtain ⟨_, _, e⟩ := R.of_er e
    cases e
  | W, .neg m => fun b g Γ σ H Q x w e R0 q => by
    unfold evE at e
    obtain ⟨⟨p1, Γ1⟩, e1, e⟩ := R.st_er e
    dsimp only at e
    split at e <;> cases e
  | W, .cmp o m n => fun b g Γ σ H Q x w e R0 q => by
    unfold evE at e
    unfold trE
    rcases R.bd_er e with h | ⟨⟨p1, Γ1⟩, e1, e⟩
    · exact evE_er W m b g Γ σ H _ x w h R0 q
    rcases R.bd_er e with h | ⟨⟨p2, Γ2⟩, e2, e⟩
    · exact (evE_ok hF hP W m).o e1 R0 fun v g1 H1 x1 o1 => evE_er W n b g1 Γ1 σ H1 _ x w h x1.rel (q.step (x1.stp R0))
    obtain ⟨_, _, e⟩ := R.of_er e
    obtain ⟨_, _, e⟩ := R.of_er e
    obtain ⟨_, _, e⟩ := R.of_er e
    cases e
  | W, .isn v m => fun b g Γ σ H Q x w e R0 q => by
    unfold evE at e
    unfold trE
    rcases R.bd_er e with h | ⟨⟨p1, Γ1⟩, e1, e⟩
    · cases v with
      | true => exact evE_er W m b g Γ σ H _ x w h R0 q
      | false => exact evE_er W m b g Γ σ H _ x w h R0 q
    obtain ⟨_, _, e⟩ := R.of_er e
    cases e
  | W, .chn o o2 m n l => fun b g Γ σ H Q x w e R0 q => by
    unfold evE at e
    obtain ⟨⟨p1, Γ1⟩, e1, e⟩ := R.st_er e
    obtain ⟨⟨p2, Γ2⟩, e2, e⟩ := R.st_er e
    obtain ⟨_, _, e⟩ := R.of_er e
    obtain ⟨_, _, e⟩ := R.of_er e
    obtain ⟨k, _, e⟩ := R.of_er e
    cases k with
    | true =>
      simp only [if_true] at e
      obtain ⟨⟨p3, Γ3⟩, e6, e⟩ := R.st_er e
      obtain ⟨_, _, e⟩ := R.of_er e
      obtain ⟨_, _, e⟩ := R.of_er e
      obtain ⟨_, _, e⟩ := R.of_er e
      cases e
    | false =>
      simp only [Bool.false_eq_true, if_false] at e
      cases e
  | W, .bop v m es => fun b g Γ σ H Q x w e R0 q => by
    unfold evE at e
    unfold trE
    exact evB_er W v es (evE_ok hF hP W m) (evE_er W m) b g Γ σ H Q x w e R0 q
  | W, .not m => fun b g Γ σ H Q x w e R0 q => by
    unfold evE at e
    unfold trE
    rcases R.bd_er e with h | ⟨⟨p1, Γ1⟩, e1, e⟩
    · exact evE_er W m b g Γ σ H _ x w h R0 q
    dsimp only at e
    split at e <;> cases e
  | W, .ife c m n => fun b g Γ σ H Q x w e R0 q => by
    unfold evE at e
    unfold trE
    rcases R.bd_er e with h | ⟨⟨k, Γ1⟩, e1, e⟩
    · exact evC_er W c b g Γ σ H _ x w h R0 q
    refine evC_ok hF hP W c b g Γ σ H _ k Γ1 e1 R0 fun g1 H1 y => ?_
    cases k with
    | true => exact evE_er W m b g1 Γ1 σ H1 Q x w e y.rel (q.step (y.stp R0))
    | false => exact evE_er W n b g1 Γ1 σ H1 Q x w e y.rel (q.step (y.stp R0))
  | W, .call f es => fun b g Γ σ H Q x w e R0 q => by
    unfold evE at e
    unfold trE
    rcases R.bd_er e with h | ⟨⟨ps, Γ1⟩, e1, e⟩
    · cases T.fn f with
      | some fe => exact evEs_er W es b g Γ σ H _ x w h R0 q
      | none => exact evEs_er W es b g Γ σ H _ x w h R0 q
    obtain ⟨ds, e2, e⟩ := R.of_er e
    rcases R.bd_er e with h | ⟨⟨d, fr, w1⟩, e3, e⟩
    · obtain ⟨fe, ef, hsp⟩ := hF f ds Γ1.w (by rw [h]; exact fun z => nomatch z)
      rw [ef]
      exact call_err hsp (evEs_ok hF hP W es) e1 e2 h R0 q
    · cases e
  | W, .bfn o m => fun b g Γ σ H Q x w e R0 q => by
    unfold evE at e
    unfold trE
    rcases R.bd_er e with h | ⟨⟨p1, Γ1⟩, e1, e⟩
    · exact evE_er W m b g Γ σ H _ x w h R0 q
    obtain ⟨_, _, e⟩ := R.of_er e
    obtain ⟨_, _, e⟩ := R.of_er e
    cases e
  | W, .isi n m => fun b g Γ σ H Q x w e R0 q => by
    unfold evE at e
    unfold trE
    rcases R.bd_er e with h | ⟨⟨p1, Γ1⟩, e1, e⟩
    · exact evE_er W m b g Γ σ H _ x w h R0 q
    obtain ⟨_, _, e⟩ := R.of_er e
    obtain ⟨_, _, e⟩ := R.of_er e
    cases e
  | W, .lrg v k es => fun b g Γ σ H Q x w e R0 q => by
    unfold evE at e
    obtain ⟨⟨p1, Γ1⟩, e1, e⟩ := R.st_er e
    obtain ⟨_, _, e⟩ := R.of_er e
    obtain ⟨_, _, e⟩ := R.of_er e
    cases k <;> cases e
  | W, .mth o m es => fun b g Γ σ H Q x w e R0 q => by
    unfold evE at e
    unfold trE
    rcases R.bd_er e with h | ⟨⟨p1, Γ1⟩, e1, e⟩
    · exact evE_er W m b g Γ σ H _ x w h R0 q
    dsimp only at e
    split at e
    · rename_i ht
      rcases R.bd_er e with h | ⟨⟨ps, Γ2⟩, e2, e⟩
      · exact (evE_ok hF hP W m).o2 e1 R0 fun v g1 H1 x1 o1 w1 => ⟨tyM_ok x1.rel o1 w1 ht, evEs_er W es b g1 Γ1 σ H1 _ x w h x1.rel (q.step (x1.stp R0))⟩
      · exact (mthE_ne e).elim
    · cases e
  | W, .lc vs t k es ifs el => fun b g Γ σ H Q x w e R0 q => by
    unfold evE at e
    obtain ⟨⟨p1, Γ1⟩, e1, e⟩ := R.st_er e
    obtain ⟨_, _, e⟩ := R.of_er e
    obtain ⟨_, _, e⟩ := R.of_er e
    split at e
    · obtain ⟨⟨_, _⟩, _, e⟩ := R.st_er e
      cases e
    · cases e
  | W, .dc vs t k es ifs kx vx => fun b g Γ σ H Q x w e R0 q => by
    unfold evE at e
    obtain ⟨⟨p1, Γ1⟩, e1, e⟩ := R.st_er e
    obtain ⟨_, _, e⟩ := R.of_er e
    obtain ⟨_, _, e⟩ := R.of_er e
    split at e
    · obtain ⟨⟨_, _⟩, _, e⟩ := R.st_er e
      cases e
    · cases e
  | W, .gen v vs t k es ifs el => fun b g Γ σ H Q x w e R0 q => by
    unfold evE at e
    obtain ⟨⟨p1, Γ1⟩, e1, e⟩ := R.st_er e
    obtain ⟨_, _, e⟩ := R.of_er e
    obtain ⟨_, _, e⟩ := R.of_er e
    split at e
    · obtain ⟨⟨_, _⟩, _, e⟩ := R.st_er e
      cases e
    · cases e
  | W, .dk0 t => fun b g Γ σ H Q x w e R0 q => by
    unfold evE at e
    cases e
  | W, .dk1 t k v => fun b g Γ σ H Q x w e R0 q => by
    unfold evE at e
    obtain ⟨⟨p1, Γ1⟩, e1, e⟩ := R.st_er e
    obtain ⟨⟨p2, Γ2⟩, e2, e⟩ := R.st_er e
    obtain ⟨_, _, e⟩ := R.of_er e
    obtain ⟨_, _, e⟩ := R.of_er e
    cases t <;> (obtain ⟨_, _, e⟩ := R.of_er e; cases e)
  | W, .bad => fun b g Γ σ H Q x w e R0 q => by
    unfold evE at e
    cases e
  | W, .bf2 v m n => fun b g Γ σ H Q x w e R0 q => by
    unfold evE at e
    obtain ⟨⟨p1, Γ1⟩, e1, e⟩ := R.st_er e
    obtain ⟨⟨p2, Γ2⟩, e2, e⟩ := R.st_er e
    dsimp only at e
    split at e <;> cases e
theorem evB_er : ∀ (W : WX) (v : Bool) (es : MEs) {t : TE} {r : En → R (Pv × En)}, SE K tabs t r → SXE K tabs T.xt W t r → SXE K tabs T.xt W (trB K T W v t es) (fun Γ => (r Γ).bd fun x => evB F v es x.1 x.2)
  | W, v, .nil, t, r, h, hx => fun b g Γ σ H Q x w e R0 q => by
    unfold trB
    rcases R.bd_er e with h | ⟨⟨p1, Γ1⟩, e1, e⟩
    · exact hx b g Γ σ H Q x w h R0 q
    · unfold evB at e
      cases e
  | W, v, .cons m es, t, r, h, hx => fun b g Γ σ H Q x w e R0 q => by
    unfold trB
    rcases R.bd_er e with he | ⟨⟨p1, Γ1⟩, e1, e⟩
    · cases v with
      | true => exact hx b g Γ σ H _ x w he R0 q
      | false => exact hx b g Γ σ H _ x w he R0 q
    unfold evB at e
    cases p1 with
    | old d =>
      cases d with
      | bl c =>
        have e : (if c = v then (evE F m Γ1).bd fun x => evB F v es x.1 x.2 else .ok (.old (.bl (!v)), Γ1)) = R.err x w := e
        have go : ∀ {P : VK}, (∀ g1 H1, Post K tabs b g Γ σ H g1 Γ1 H1 → P (.bl c) H1) → t σ H P := fun {P} hh => h b g Γ σ H P _ Γ1 e1 R0 fun v g1 H1 x rp => by
          cases rp
          exact hh g1 H1 x
        have nxt : ∀ g1 H1, c = v → Post K tabs b g Γ σ H g1 Γ1 H1 → trB K T W v (trE K T W m) es σ H1 Q := fun g1 H1 hk y => by
          rw [if_pos hk] at e
          exact evB_er W v es (evE_ok hF hP W m) (evE_er W m) b g1 Γ1 σ H1 Q x w e y.rel (q.step (y.stp R0))
        have stp : c ≠ v → False := fun hk => by
          rw [if_neg hk] at e
          cases e
        cases v with
        | true =>
          refine go fun g1 H1 y => ⟨c, rfl, ?_⟩
          cases c with
          | true => exact nxt g1 H1 rfl y
          | false => exact (stp (by simp)).elim
        | false =>
          refine go fun g1 H1 y => ⟨c, rfl, ?_⟩
          cases c with
          | false => exact nxt g1 H1 rfl y
          | true => exact (stp (by simp)).elim
      | _ => cases e
    | _ => cases e
theorem evEs_er : ∀ (W : WX) (es : MEs), SXA K tabs T.xt W (tA (trEs K T W es)) (evEs F es)
  | W, .nil => fun b g Γ σ H Q x w e R0 q => by
    unfold evEs at e
    cases e
  | W, .cons m es => fun b g Γ σ H Q x w e R0 q => by
    unfold evEs at e
    unfold trEs
    rcases R.bd_er e with h | ⟨⟨p1, Γ1⟩, e1, e⟩
    · exact evE_er W m b g Γ σ H _ x w h R0 q
    rcases R.bd_er e with h | ⟨⟨qs, Γ2⟩, e2, e⟩
    · exact (evE_ok hF hP W m).o e1 R0 fun v g1 H1 x1 o1 => evEs_er W es b g1 Γ1 σ H1 _ x w h x1.rel (q.step (x1.stp R0))
    cases e
theorem evC_er : ∀ (W : WX) (o : MC), SXC K tabs T.xt W (trC K T W o) (evC F o)
  | W, .tv m => fun b g Γ σ H Q x w e R0 q => by
    unfold evC at e
    unfold trC
    rcases R.bd_er e with h | ⟨⟨p1, Γ1⟩, e1, e⟩
    · exact evE_er W m b g Γ σ H _ x w h R0 q
    obtain ⟨_, _, e⟩ := R.of_er e
    obtain ⟨_, _, e⟩ := R.of_er e
    cases e
  | W, .cmp o m n => fun b g Γ σ H Q x w e R0 q => by
    unfold evC at e
    unfold trC
    rcases R.bd_er e with h | ⟨⟨p1, Γ1⟩, e1, e⟩
    · exact evE_er W m b g Γ σ H _ x w h R0 q
    rcases R.bd_er e with h | ⟨⟨p2, Γ2⟩, e2, e⟩
    · exact (evE_ok hF hP W m).o e1 R0 fun v g1 H1 x1 o1 => evE_er W n b g1 Γ1 σ H1 _ x w h x1.rel (q.step (x1.stp R0))
    obtain ⟨_, _, e⟩ := R.of_er e
    obtain ⟨_, _, e⟩ := R.of_er e
    obtain ⟨_, _, e⟩ := R.of_er e
    cases e
  | W, .isn v m => fun b g Γ σ H Q x w e R0 q => by
    unfold evC at e
    unfold trC
    rcases R.bd_er e with h | ⟨⟨p1, Γ1⟩, e1, e⟩
    · cases v with
      | true => exact evE_er W m b g Γ σ H _ x w h R0 q
      | false => exact evE_er W m b g Γ σ H _ x w h R0 q
    obtain ⟨_, _, e⟩ := R.of_er e
    cases e
  | W, .chn o o2 m n l => fun b g Γ σ H Q x w e R0 q => by
    unfold evC at e
    obtain ⟨⟨p1, Γ1⟩, e1, e⟩ := R.st_er e
    obtain ⟨⟨p2, Γ2⟩, e2, e⟩ := R.st_er e
    obtain ⟨_, _, e⟩ := R.of_er e
    obtain ⟨_, _, e⟩ := R.of_er e
    obtain ⟨k, _, e⟩ := R.of_er e
    cases k with
    | true =>
      simp only [if_true] at e
      obtain ⟨⟨p3, Γ3⟩, e6, e⟩ := R.st_er e
      obtain ⟨_, _, e⟩ := R.of_er e
      obtain ⟨_, _, e⟩ := R.of_er e
      obtain ⟨_, _, e⟩ := R.of_er e
      cases e
    | false =>
      simp only [Bool.false_eq_true, if_false] at e
      cases e
  | W, .bop v m cs => fun b g Γ σ H Q x w e R0 q => by
    unfold evC at e
    unfold trC
    exact evCB_er W v cs (evC_ok hF hP W m) (evC_er W m) b g Γ σ H Q x w e R0 q
  | W, .not m => fun b g Γ σ H Q x w e R0 q => by
    unfold evC at e
    unfold trC
    rcases R.bd_er e with h | ⟨⟨k, Γ1⟩, e1, e⟩
    · exact evC_er W m b g Γ σ H _ x w h R0 q
    cases e
theorem evCB_er : ∀ (W : WX) (v : Bool) (es : MCs) {t : TT} {r : En → R (Bool × En)}, SC K tabs t r → SXC K tabs T.xt W t r → SXC K tabs T.xt W (trCB K T W v t es) (fun Γ => (r Γ).bd fun x => evCB F v es x.1 x.2)
  | W, v, .nil, t, r, h, hx => fun b g Γ σ H Q x w e R0 q => by
    unfold trCB
    rcases R.bd_er e with h | ⟨⟨p1, Γ1⟩, e1, e⟩
    · exact hx b g Γ σ H Q x w h R0 q
    · unfold evCB at e
      cases e
  | W, v, .cons m es, t, r, h, hx => fun b g Γ σ H Q x w e R0 q => by
    unfold trCB
    rcases R.bd_er e with he | ⟨⟨c, Γ1⟩, e1, e⟩
    · cases v with
      | true => exact hx b g Γ σ H _ x w he R0 q
      | false => exact hx b g Γ σ H _ x w he R0 q
    unfold evCB at e
    have e : (if c = v then (evC F m Γ1).bd fun x => evCB F v es x.1 x.2 else .ok (!v, Γ1)) = R.err x w := e
    have nxt : ∀ g1 H1, c = v → Post K tabs b g Γ σ H g1 Γ1 H1 → trCB K T W v (trC K T W m) es σ H1 Q := fun g1 H1 hk y => by
      rw [if_pos hk] at e
      exact evCB_er W v es (evC_ok hF hP W m) (evC_er W m) b g1 Γ1 σ H1 Q x w e y.rel (q.step (y.stp R0))
    have stp : c ≠ v → False := fun hk => by
      rw [if_neg hk] at e
      cases e
    cases v with
    | true =>
      refine h b g Γ σ H _ c Γ1 e1 R0 fun g1 H1 y => ?_
      cases c with
      | true => exact nxt g1 H1 rfl y
      | false => exact (stp (by simp)).elim
    | false =>
      refine h b g Γ σ H _ c Γ1 e1 R0 fun g1 H1 y => ?_
      cases c with
      | false => exact nxt g1 H1 rfl y
      | true => exact (stp (by simp)).elim
end
end
end Ux

namespace Ux
open PySem PySem.Spec PyProof.Rows L2 GxR
/-- what is wanted at a statement's end -/
def EndOk (K : PySem.W.Frag) (tabs : List Addr) (b : B0) (g : Gh) (n : Nat) (H : Hp) (D : Ends) : Fl → Prop
  | .nx Γ' => ∀ g' σ' H', Rel K tabs b g' Γ' σ' H' → Stp g H g' H' → σ'.length = n → D.nx σ' H'
  | .brk Γ' => ∀ g' σ' H', Rel K tabs b g' Γ' σ' H' → Stp g H g' H' → σ'.length = n → D.bk σ' H'
  | .cnt Γ' => ∀ g' σ' H', Rel K tabs b g' Γ' σ' H' → Stp g H g' H' → σ'.length = n → D.ct σ' H'
  | .ret d fr w => ∀ v g' H', GRel K tabs b g' w H' → RetP K b g' H' v d fr → Stp g H g' H' → D.rt v H'
def SS (K : PySem.W.Frag) (tabs : List Addr) (t : TS) (r : En → R Fl) : Prop := ∀ (b : B0) (g : Gh) (Γ : En) (σ : L2.St) (H : Hp) (D : Ends) (fl : Fl), r Γ = .ok fl → Rel K tabs b g Γ σ H → EndOk K tabs b g σ.length H D fl → t D σ H
section
variable {K : PySem.W.Frag} {tabs : List Addr} {b : B0} {g g' : Gh} {Γ Γ' : En} {σ σ' : L2.St} {H H' : Hp}
theorem EndOk.step {n : Nat} {D : Ends} {fl : Fl} (h : EndOk K tabs b g n H D fl) (s : Stp g H g' H') : EndOk K tabs b g' n H' D fl := by
  cases fl with
  | nx Γ' => exact fun g2 σ2 H2 r x l => h g2 σ2 H2 r (s.trans x) l
  | brk Γ' => exact fun g2 σ2 H2 r x l => h g2 σ2 H2 r (s.trans x) l
  | cnt Γ' => exact fun g2 σ2 H2 r x l => h g2 σ2 H2 r (s.trans x) l
  | ret d fr w => exact fun v g2 H2 r rp x => h v g2 H2 r rp (s.trans x)
theorem PrivAt.isC {a : Addr} {d : D} (p : PrivAt K b g H a d) : d.isC = true := by
  have := p.own
  cases d <;> first | rfl | exact this.elim
theorem Rel.bindO {i : Nat} {d : D} {a : Addr} (r : Rel K tabs b g Γ σ H) (p : PrivAt K b g H a d) (no : ∀ (j : Nat) (d' : D), Γ.sl[j]? = some (some (d', true)) → σ[j]? ≠ some (some (.ref a))) : Rel K tabs b g { Γ with sl := Γ.sl.set i (some (d, true)) } (σ.set i (some (.ref a))) H where
  toGRel := r.toGRel
  old := fun j dj e => by
    have e : (Γ.sl.set i (some (d, true)))[j]? = some (some (dj, false)) := e
    rw [get_set] at e ⊢
    by_cases hc : i = j ∧ i < Γ.sl.length
    · rw [if_pos hc] at e; cases e
    · rw [if_neg hc] at e
      rw [if_neg (by rw [← r.len]; exact hc)]
      exact r.old j dj e
  own := fun j dj e => by
    have e : (Γ.sl.set i (some (d, true)))[j]? = some (some (dj, true)) := e
    rw [get_set] at e ⊢
    by_cases hc : i = j ∧ i < Γ.sl.length
    · rw [if_pos hc] at e
      rw [if_pos ⟨hc.1, by rw [← r.len]; exact hc.2⟩]
      cases e
      exact ⟨a, rfl, p⟩
    · rw [if_neg hc] at e
      rw [if_neg (by rw [← r.len]; exact hc)]
      exact r.own j dj e
  dis := fun j k dj dk c ne e1 e2 => by
    have e1 : (Γ.sl.set i (some (d, true)))[j]? = some (some (dj, true)) := e1
    have e2 : (Γ.sl.set i (some (d, true)))[k]? = some (some (dk, true)) := e2
    rw [get_set] at e1 e2 ⊢
    rw [get_set]
    by_cases hc : i = j ∧ i < Γ.sl.length
    · by_cases hk : i = k ∧ i < Γ.sl.length
      · exact absurd (hc.1.symm.trans hk.1) ne
      · rw [if_neg hk] at e2
        rw [if_pos ⟨hc.1, by rw [← r.len]; exact hc.2⟩, if_neg (by rw [← r.len]; exact hk)]
        intro v1 v2
        cases v1
        exact no k dk e2 v2
    · rw [if_neg hc] at e1
      rw [if_neg (by rw [← r.len]; exact hc)]
      by_cases hk : i = k ∧ i < Γ.sl.length
      · rw [if_pos ⟨hk.1, by rw [← r.len]; exact hk.2⟩]
        intro v1 v2
        cases v2
        exact no j dj e1 v1
      · rw [if_neg hk] at e2
        rw [if_neg (by rw [← r.len]; exact hk)]
        exact r.dis j k dj dk c ne e1 e2
  len := by
    show (Γ.sl.set i _).length = _
    rw [List.length_set, List.length_set]; exact r.len
/-- what is wanted where an error leaves a statement -/
def ErrS (K : PySem.W.Frag) (tabs : List Addr) (xt : Str → Option (Addr × Str)) (W : WX) (b : B0) (g : Gh) (n : Nat) (H : Hp) (x : Ex) (w : Wd) : Prop := ∀ cls od σ' g' H', GRel K tabs b g' w H' → Stp g H g' H' → XAt xt x H' cls od → σ'.length = n → W cls od σ' H'
def SXS (K : PySem.W.Frag) (tabs : List Addr) (xt : Str → Option (Addr × Str)) (W : WX) (t : TS) (r : En → R Fl) : Prop := ∀ (b : B0) (g : Gh) (Γ : En) (σ : L2.St) (H : Hp) (D : Ends) (x : Ex) (w : Wd), r Γ = .err x w → Rel K tabs b g Γ σ H → ErrS K tabs xt W b g σ.length H x w → t D σ H
theorem ErrS.step {xt : Str → Option (Addr × Str)} {W : WX} {n : Nat} {x : Ex} {w : Wd} (h : ErrS K tabs xt W b g n H x w) (s : Stp g H g' H') : ErrS K tabs xt W b g' n H' x w := fun cls od σ2 g2 H2 r y a l => h cls od σ2 g2 H2 r (s.trans y) a l
theorem ErrS.p {xt : Str → Option (Addr × Str)} {W : WX} {n : Nat} {x : Ex} {w : Wd} (h : ErrS K tabs xt W b g n H x w) (l : σ.length = n) : ErrP K tabs xt W b g σ H x w := fun cls od g2 H2 r y a => h cls od σ g2 H2 r y a l
/-- either end -/
inductive EndX (K : PySem.W.Frag) (tabs : List Addr) (xt : Str → Option (Addr × Str)) (W : WX) (b : B0) (g : Gh) (n : Nat) (H : Hp) (D : Ends) : R Fl → Prop
  | ok {fl : Fl} : EndOk K tabs b g n H D fl → EndX K tabs xt W b g n H D (.ok fl)
  | err {x : Ex} {w : Wd} : ErrS K tabs xt W b g n H x w → EndX K tabs xt W b g n H D (.err x w)
theorem EndX.step {xt : Str → Option (Addr × Str)} {W : WX} {n : Nat} {D : Ends} {r : R Fl} (h : EndX K tabs xt W b g n H D r) (s : Stp g H g' H') : EndX K tabs xt W b g' n H' D r := by
  cases h with
  | ok h => exact .ok (h.step s)
  | err h => exact .err (h.step s)
theorem while_ok {xt : Str → Option (Addr × Str)} {W : WX} {c : TT} {tb : TS} {tst : En → R (Bool × En)} {body : En → R Fl} (hc : SC K tabs c tst) (hcn : ∀ Γ x w, tst Γ ≠ .err x w) (hb : SS K tabs tb body) (hx : SXS K tabs xt W tb body) {D : Ends} {rr : R Fl} {n : Nat} (e : whN tst body n Γ = rr) (R0 : Rel K tabs b g Γ σ H) (q : EndX K tabs xt W b g σ.length H D rr) : tWhile c tb D σ H := by
  have nno : rr ≠ .no := by cases q <;> exact fun z => nomatch z
  refine ⟨fun m σ' H' => ∃ g' Γ', Rel K tabs b g' Γ' σ' H' ∧ Stp g H g' H' ∧ σ'.length = σ.length ∧ whN tst body m Γ' = rr, ⟨n, g, Γ, R0, .refl g H, rfl, e⟩, fun m σ1 H1 ⟨g1, Γ1, r1, s1, l1, e1⟩ => ?_⟩
  cases m with
  | zero => exact absurd e1.symm nno
  | succ m =>
    unfold whN at e1
    cases e2 : tst Γ1 with
    | no => rw [e2] at e1; exact absurd e1.symm nno
    | err x w => exact absurd e2 (hcn _ _ _)
    | ok p =>
    obtain ⟨k, Γ2⟩ := p
    rw [e2, R.bd_ok] at e1
    dsimp only at e1
    refine hc b g1 Γ1 σ1 H1 _ k Γ2 e2 r1 fun g2 H2 x => ?_
    have s2 := s1.trans (x.stp r1)
    cases k with
    | false =>
      simp only [Bool.false_eq_true, if_false] at e1 ⊢
      subst e1
      cases q with
      | ok q => exact q g2 σ1 H2 x.rel s2 l1
    | true =>
      simp only [if_true] at e1 ⊢
      refine ⟨fun σ' H' => ∃ g' Γ', Rel K tabs b g' Γ' σ' H' ∧ Stp g H g' H' ∧ σ'.length = σ.length ∧ whN tst body m Γ' = rr, fun σ' H' h => ⟨m, by omega, h⟩, ?_⟩
      cases e3 : body Γ2 with
      | no => rw [e3] at e1; exact absurd e1.symm nno
      | err x' w' =>
        rw [e3] at e1
        have e1 : R.err x' w' = rr := e1
        subst e1
        cases q with
        | err q => exact hx b g2 Γ2 σ1 H2 _ x' w' e3 x.rel (by rw [l1]; exact q.step s2)
      | ok f =>
        rw [e3, R.bd_ok] at e1
        refine hb b g2 Γ2 σ1 H2 _ f e3 x.rel ?_
        cases f with
        | nx Γ3 => exact fun g3 σ3 H3 r3 s3 l3 => ⟨g3, Γ3, r3, s2.trans s3, l3.trans l1, e1⟩
        | cnt Γ3 => exact fun g3 σ3 H3 r3 s3 l3 => ⟨g3, Γ3, r3, s2.trans s3, l3.trans l1, e1⟩
        | brk Γ3 =>
          subst e1
          cases q with
          | ok q => exact fun g3 σ3 H3 r3 s3 l3 => q g3 σ3 H3 r3 (s2.trans s3) (l3.trans l1)
        | ret d fr w =>
          subst e1
          cases q with
          | ok q => exact fun v g3 H3 r3 rp s3 => q v g3 H3 r3 rp (s2.trans s3)
theorem for_ok {xt : Str → Option (Addr × Str)} {W : WX} {J : It} {t : MT} {tb : TS} {body : En → R Fl} {xs : List D} (hb : SS K tabs tb body) (hx : SXS K tabs xt W tb body) {D : Ends} {rr : R Fl} (hs : SrcIs K g H J xs) (e : forN (fun Γ d => asg Γ t d) body xs Γ = rr) (R0 : Rel K tabs b g Γ σ H) (q : EndX K tabs xt W b g σ.length H D rr) :
    ∃ W : Nat → Nat → L2.St → Hp → Prop, (∃ m, W 0 m σ H) ∧ ∀ i m σ H, W i m σ H →
      (J.stop i H ∧ D.nx σ H) ∨ (J.go i H ∧ ∃ N : L2.St → Hp → Prop, (∀ σ' H', N σ' H' → ∃ m', m' < m ∧ W (i + 1) m' σ' H') ∧ ∀ x H', J.yld i H x H' → trG K t x σ H' fun σ2 H2 => tb { D with nx := N, ct := N, bk := D.nx } σ2 H2) := by
  have nno : rr ≠ .no := by cases q <;> exact fun z => nomatch z
  refine ⟨fun i m σ' H' => i + m = xs.length ∧ ∃ g' Γ', Rel K tabs b g' Γ' σ' H' ∧ Stp g H g' H' ∧ σ'.length = σ.length ∧ forN (fun Γ d => asg Γ t d) body (xs.drop i) Γ' = rr, ⟨xs.length, by omega, g, Γ, R0, .refl g H, rfl, e⟩, fun i m σ1 H1 ⟨hm, g1, Γ1, r1, s1, l1, e1⟩ => ?_⟩
  have S1 := hs.step s1
  rcases Nat.lt_or_ge i xs.length with hi | hi
  · right
    refine ⟨S1.go hi, fun σ' H' => i + 1 + (m - 1) = xs.length ∧ ∃ g' Γ', Rel K tabs b g' Γ' σ' H' ∧ Stp g H g' H' ∧ σ'.length = σ.length ∧ forN (fun Γ d => asg Γ t d) body (xs.drop (i + 1)) Γ' = rr, fun σ' H' h => ⟨m - 1, by omega, h⟩, fun v H' y => ?_⟩
    obtain ⟨d, ed, x0, rd0⟩ := S1.turn r1 hi y
    have s1 := s1.trans (x0.stp r1)
    have r1 := x0.rel
    rw [drop_cons ed] at e1
    unfold forN at e1
    cases e2 : asg Γ1 t d with
    | none => rw [e2] at e1; exact absurd e1.symm nno
    | some Γa =>
    rw [e2, R.of_some, R.bd_ok] at e1
    refine asg_ok t e2 (tgIn_all t) r1 rd0 fun σ2 a => ?_
    have l2 : σ2.length = σ1.length := by rw [← a.rel.len, a.len, r1.len]
    cases e3 : body Γa with
    | no => rw [e3] at e1; exact absurd e1.symm nno
    | err x' w' =>
      rw [e3] at e1
      have e1 : R.err x' w' = rr := e1
      subst e1
      cases q with
      | err q => exact hx b g1 Γa σ2 H' _ x' w' e3 a.rel (by rw [l2, l1]; exact q.step s1)
    | ok f =>
      rw [e3, R.bd_ok] at e1
      refine hb b g1 Γa σ2 H' _ f e3 a.rel ?_
      cases f with
      | nx Γ3 => exact fun g3 σ3 H3 r3 s3 l3 => ⟨by omega, g3, Γ3, r3, s1.trans s3, l3.trans (l2.trans l1), e1⟩
      | cnt Γ3 => exact fun g3 σ3 H3 r3 s3 l3 => ⟨by omega, g3, Γ3, r3, s1.trans s3, l3.trans (l2.trans l1), e1⟩
      | brk Γ3 =>
        subst e1
        cases q with
        | ok q => exact fun g3 σ3 H3 r3 s3 l3 => q g3 σ3 H3 r3 (s1.trans s3) (l3.trans (l2.trans l1))
      | ret d fr w =>
        subst e1
        cases q with
        | ok q => exact fun v g3 H3 r3 rp s3 => q v g3 H3 r3 rp (s1.trans s3)
  · left
    have : xs.drop i = [] := List.drop_eq_nil_of_le hi
    rw [this] at e1
    unfold forN at e1
    subst e1
    cases q with
    | ok q => exact ⟨S1.stop hi (by omega), q g1 σ1 H1 r1 s1 l1⟩
theorem GRel.bare {w : Wd} (r : GRel K tabs b g w H) : Rel K tabs b g { sl := [], w := w } [] H where
  toGRel := r
  old := fun i d h => by cases h
  own := fun i d h => by cases h
  dis := fun i j di dj a _ h => by cases h
  len := rfl
theorem Stp.alloc {p : Addr} {o : HO} (hn : H p = none) : Stp g H g (upd H p o) := ⟨.refl g, fun _ _ e _ _ => upd_none hn e, fun _ _ _ e _ => .inl (upd_none hn e)⟩
theorem okV_rep {v : V} (h : okV v = true) : Rep K g H v (ofV v) := ofV_rep h
section
variable {x : Ex} {w : Wd} {C dd a : Addr} {i : Nat} (hi : i < σ.length)
include hi
mutual
theorem he_ok : ∀ (m : MHe) {d : D} {H : Hp} {P : VK}, evHe x m = some d → d.flat = true → GRel K tabs b g w H → H dd = some (.xd [(x.fld, x.arg)]) → (∀ v H', GRel K tabs b g w H' → H' dd = some (.xd [(x.fld, x.arg)]) → Stp g H g H' → Rep K g H' v d → P v H') → trHe K a (some dd) C x.fld i m (σ.set i (some (.ref a))) H P
  | .fld f, d, H, P, e, hf, r, hd, q => by
    unfold evHe at e
    unfold trHe
    split at e
    · rename_i h
      cases e
      have h := and2 h
      have e1 : f = x.fld := of_decide_eq_true h.1
      subst e1
      refine ⟨rfl, _, List.getElem?_set_self hi, rfl, rfl, dd, _, x.arg, rfl, hd, by simp [List.lookup], q _ H r hd (.refl g H) (okV_rep h.2)⟩
    · cases e
  | .con v, d, H, P, e, hf, r, hd, q => by
    unfold evHe at e
    unfold trHe
    split at e
    · rename_i h
      cases e
      exact q _ H r hd (.refl g H) (okV_rep h)
    · cases e
  | .tup es, d, H, P, e, hf, r, hd, q => by
    unfold evHe at e
    unfold trHe
    split at e
    · rename_i ds h
      split at e
      · rename_i h2
        cases e
        have h2 := and2 h2
        refine hes_ok es h h2.2 r hd fun vs H1 r1 hd1 s1 rr => ⟨by rw [rr.length]; exact Nat.le_of_lt (lim_line (of_decide_eq_true h2.1)), fun p hn => ?_⟩
        exact q _ _ (r1.alloc hn) (upd_none hn hd1) (s1.trans (Stp.alloc hn)) (.tup upd_same (rr.alloc hn))
      · cases e
    · cases e
  | .lst es, d, H, P, e, hf, r, hd, q => by
    unfold evHe at e
    split at e
    · split at e
      · cases e
        simp [D.flat] at hf
      · cases e
    · cases e
theorem hes_ok : ∀ (m : MHes) {ds : List D} {H : Hp} {P : List V → Hp → Prop}, evHes x m = some ds → D.flats ds = true → GRel K tabs b g w H → H dd = some (.xd [(x.fld, x.arg)]) → (∀ vs H', GRel K tabs b g w H' → H' dd = some (.xd [(x.fld, x.arg)]) → Stp g H g H' → Reps K g H' vs ds → P vs H') → tA (trHes K a (some dd) C x.fld i m) (σ.set i (some (.ref a))) H P
  | .nil, ds, H, P, e, hf, r, hd, q => by
    unfold evHes at e
    unfold trHes
    cases e
    exact q [] H r hd (.refl g H) .nil
  | .cons m es, ds, H, P, e, hf, r, hd, q => by
    unfold evHes at e
    unfold trHes
    split at e
    · rename_i d ds' e1 e2
      cases e
      simp only [D.flats, Bool.and_eq_true] at hf
      refine he_ok m e1 hf.1 r hd fun v H1 r1 hd1 s1 rv => hes_ok es e2 hf.2 r1 hd1 fun vs H2 r2 hd2 s2 rr => ?_
      exact q (v :: vs) H2 r2 hd2 (s1.trans s2) (.cons (s2.rep rv) rr)
    · cases e
end
/-- a handler's answer -/
theorem handle_ok {T : Tb} {cls : Value} {od : Option Addr} (r : GRel K tabs b g w H) (hx : XAt T.xt x H cls od) {h : MHs} {d : D} (e : evH x h = some d) {D : Ends}
    (q : ∀ v g' H', GRel K tabs b g' w H' → RetP K b g' H' v d d.isC → Stp g H g' H' → D.rt v H') : trH K T a cls od i h D (σ.set i (some (.ref a))) H := by
  obtain ⟨C, dd, hc, rfl, rfl, hd⟩ := hx
  have key : ∀ m : MHe, evHe x m = some d → tRet (trHe K a (some dd) C x.fld i m) D (σ.set i (some (.ref a))) H := fun m e => by
    by_cases hf : d.flat = true
    · refine he_ok hi m e hf r hd fun v H' r' hd' s rv => q v g H' r' ?_ s
      unfold RetP
      rw [flat_notC hf, Bool.and_false, if_neg (by simp)]
      exact rv
    · cases m with
      | fld f =>
        unfold evHe at e
        split at e
        · cases e
          exfalso
          apply hf
          generalize x.arg = v
          cases v <;> rfl
        · cases e
      | con v =>
        unfold evHe at e
        split at e
        · cases e
          exfalso
          apply hf
          cases v <;> rfl
        · cases e
      | tup es =>
        unfold evHe at e
        split at e
        · split at e
          · rename_i h2
            cases e
            exact absurd (show (Ux.D.tup _).flat = true by unfold Ux.D.flat; exact (and2 h2).2) hf
          · cases e
        · cases e
      | lst es =>
        unfold evHe at e
        split at e
        · rename_i ds h
          split at e
          · rename_i h2
            cases e
            have h2 := and2 h2
            show tRet (tLst (tA (trHes K a (some dd) C x.fld i es))) _ _ _
            refine hes_ok hi es h h2.2 r hd fun vs H1 r1 hd1 s1 rr => ⟨by rw [rr.length]; exact Nat.le_of_lt (lim_line (of_decide_eq_true h2.1)), fun p hn => ?_⟩
            obtain ⟨p', ep, _, pv, _⟩ := Rel.priv r1.bare hn (d := .lst ds) (o := .lst vs) ⟨vs, upd_same, rr.alloc hn⟩
            cases ep
            refine q _ g _ (r1.alloc hn) ?_ (s1.trans (Stp.alloc hn))
            unfold RetP
            rw [if_pos (by rfl)]
            exact ⟨p, rfl, pv⟩
          · cases e
        · cases e
  cases h with
  | ret m => exact ⟨x.cls, C, x.fld, hc, rfl, key m e⟩
  | ite cn m m2 =>
    have e2 : (if x.cls = cn then evHe x m else none) = some d := e
    by_cases h : x.cls = cn
    · rw [if_pos h] at e2
      subst h
      exact ⟨C, x.fld, _, dd, hc, rfl, rfl, hd, List.getElem?_set_self hi, key m e2⟩
    · rw [if_neg h] at e2
      cases e2
end
end
theorem R.st_ne {α : Type} {r : R α} {x : Ex} {w : Wd} (h : r.st = .err x w) : False := by
  cases r <;> cases h
theorem subE_ne {Γ : En} {p q r : Pv} {x : Ex} {w : Wd} (h : subE Γ p q r = .err x w) : False := by
  unfold subE at h
  repeat' (first | contradiction | (split at h))
section
variable {K : PySem.W.Frag} {tabs : List Addr} {T : Tb} {F : Str → Fn}
variable (hF : ∀ f ds w, F f ds w ≠ .no → ∃ fe, T.fn f = some fe ∧ ∀ vs H Q E, spOf K tabs T.xt (F f) vs H Q E → fe.sp vs H Q E) (hP : T.P ∈ tabs) (hX : ∀ c C fld h D, T.xt c = some (C, fld) → T.xh h = some D → PySem.W.exmOne K (.ref C) (.ref D) = some (T.xm c h))
include hF hP hX
mutual
theorem evS_ok : ∀ (W : WX) (m : MS), SS K tabs (trS K T W m) (evS F m)
  | W, .set i e => fun b g Γ σ H D fl e0 R0 q => by
    unfold evS at e0
    unfold trS
    obtain ⟨⟨p1, Γ1⟩, e1, e0⟩ := R.bd_eq e0
    cases p1 with
    | old d =>
      cases e0
      refine evE_ok hF hP _ e b g Γ σ H _ _ Γ1 e1 R0 fun v g1 H1 x rp => ?_
      exact q g1 _ H1 (x.rel.bind rp) (x.stp R0) (by rw [List.length_set])
    | frs d =>
      cases e0
      refine evE_ok hF hP _ e b g Γ σ H _ _ Γ1 e1 R0 fun v g1 H1 x rp => ?_
      obtain ⟨a, rfl, _, p, no⟩ := rp
      exact q g1 _ H1 (x.rel.bindO p no) (x.stp R0) (by rw [List.length_set])
    | vr j =>
      obtain ⟨d, e2, e0⟩ := R.bd_eq e0
      have e2 := R.of_eq e2
      cases e0
      refine evE_ok hF hP _ e b g Γ σ H _ _ Γ1 e1 R0 fun v g1 H1 x rp => ?_
      obtain ⟨⟨⟨d', o⟩, h1⟩, h2⟩ := rp
      simp only [rd, h1, Option.some.injEq] at e2
      subst e2
      obtain ⟨g2, x2, r2⟩ := x.rel.fzn h1 h2
      exact q g2 _ H1 (x2.rel.bind (i := i) r2) ((x.stp R0).trans (x2.stp x.rel)) (by rw [List.length_set])
  | W, .unp t e => fun b g Γ σ H D fl e0 R0 q => by
    unfold evS at e0
    unfold trS
    obtain ⟨⟨p1, Γ1⟩, e1, e0⟩ := R.bd_eq e0
    obtain ⟨d, e2, e0⟩ := R.bd_eq e0
    obtain ⟨Γ2, e3, e0⟩ := R.bd_eq e0
    cases e0
    refine (evE_ok hF hP _ e).o e1 R0 fun v g1 H1 x ro => ?_
    obtain ⟨g2, x2, r2⟩ := ro.fz x.rel (R.of_eq e2)
    exact asg_ok t (R.of_eq e3) (tgIn_all t) x2.rel r2 fun σ2 a => q g2 σ2 H1 a.rel ((x.stp R0).trans (x2.stp x.rel)) (by rw [← a.rel.len, a.len, x2.rel.len])
  | W, .sub o i v => fun b g Γ σ H D fl e0 R0 q => by
    unfold evS at e0
    unfold trS
    obtain ⟨⟨p1, Γ1⟩, e1, e0⟩ := R.bd_eq e0
    obtain ⟨⟨p2, Γ2⟩, e2, e0⟩ := R.bd_eq e0
    have e2 := R.st_eq e2
    obtain ⟨⟨p3, Γ3⟩, e3, e0⟩ := R.bd_eq e0
    have e3 := R.st_eq e3
    obtain ⟨Γ4, e4, e0⟩ := R.bd_eq e0
    cases e0
    refine (evE_ok hF hP _ v).o e1 R0 fun vv g1 H1 x1 r1 => ?_
    refine (evE_ok hF hP _ o).o e2 x1.rel fun vo g2 H2 x2 r2 => ?_
    refine (evE_ok hF hP _ i).o e3 x2.rel fun vi g3 H3 x3 r3 => ?_
    exact sub_ok e4 x3.rel (r2.step x2.rel x3) r3 ((r1.step x1.rel x2).step x2.rel x3) fun g4 H4 x4 => q g4 σ H4 x4.rel ((x1.stp R0).trans ((x2.stp x1.rel).trans ((x3.stp x2.rel).trans (x4.stp x3.rel)))) rfl
  | W, .ex e => fun b g Γ σ H D fl e0 R0 q => by
    unfold evS at e0
    unfold trS
    obtain ⟨⟨p1, Γ1⟩, e1, e0⟩ := R.bd_eq e0
    cases e0
    exact evE_ok hF hP _ e b g Γ σ H _ _ Γ1 e1 R0 fun v g1 H1 x rp => q g1 σ H1 x.rel (x.stp R0) rfl
  | W, .ret e => fun b g Γ σ H D fl e0 R0 q => by
    unfold evS at e0
    unfold trS
    obtain ⟨⟨p1, Γ1⟩, e1, e0⟩ := R.bd_eq e0
    cases p1 with
    | old d =>
      cases e0
      refine evE_ok hF hP _ e b g Γ σ H _ _ Γ1 e1 R0 fun v g1 H1 x rp => q v g1 H1 x.rel.toGRel ?_ (x.stp R0)
      unfold RetP
      rw [Bool.false_and, if_neg (by simp)]
      exact rp
    | frs d =>
      cases e0
      refine evE_ok hF hP _ e b g Γ σ H _ _ Γ1 e1 R0 fun v g1 H1 x rp => q v g1 H1 x.rel.toGRel ?_ (x.stp R0)
      obtain ⟨a, rfl, _, p, no⟩ := rp
      unfold RetP
      rw [Bool.true_and, if_pos p.isC]
      exact ⟨a, rfl, p⟩
    | vr j =>
      dsimp only at e0
      split at e0
      · rename_i d o h
        cases e0
        refine evE_ok hF hP _ e b g Γ σ H _ _ Γ1 e1 R0 fun v g1 H1 x rp => q v g1 H1 x.rel.toGRel ?_ (x.stp R0)
        unfold RetP
        cases o with
        | true =>
          obtain ⟨a, e3, p⟩ := x.rel.own j d h
          rw [rp.2] at e3
          cases e3
          rw [Bool.true_and, if_pos p.isC]
          exact ⟨a, rfl, p⟩
        | false =>
          obtain ⟨v', e3, r⟩ := x.rel.old j d h
          rw [rp.2] at e3
          cases e3
          rw [Bool.false_and, if_neg (by simp)]
          exact r
      · cases e0
  | W, .retn => fun b g Γ σ H D fl e0 R0 q => by
    unfold evS at e0
    unfold trS
    cases e0
    refine q _ g H R0.toGRel ?_ (.refl g H)
    unfold RetP
    rw [Bool.false_and, if_neg (by simp)]
    exact .non
  | W, .ite c x y => fun b g Γ σ H D fl e0 R0 q => by
    unfold evS at e0
    unfold trS
    obtain ⟨⟨k, Γ1⟩, e1, e0⟩ := R.bd_eq e0
    refine evC_ok hF hP _ c b g Γ σ H _ k Γ1 e1 R0 fun g1 H1 z => ?_
    cases k with
    | true => exact evSs_ok _ x b g1 Γ1 σ H1 D fl e0 z.rel (q.step (z.stp R0))
    | false => exact evSs_ok _ y b g1 Γ1 σ H1 D fl e0 z.rel (q.step (z.stp R0))
  | W, .whl c x => fun b g Γ σ H D fl e0 R0 q => by
    unfold evS at e0
    unfold trS
    exact while_ok (fun b g Γ σ H Q c Γ' e => evC_ok hF hP _ _ b g Γ σ H Q c Γ' (R.st_eq e)) (fun Γ x w z => R.st_ne z) (evSs_ok _ x) (evSs_er _ x) e0 R0 (.ok q)
  | W, .fr t k es x => fun b g Γ σ H D fl e0 R0 q => by
    unfold evS at e0
    unfold trS
    obtain ⟨⟨ps, Γ1⟩, e1, e0⟩ := R.bd_eq e0
    have e1 := R.st_eq e1
    obtain ⟨ds, e2, e0⟩ := R.bd_eq e0
    obtain ⟨xs, e3, e0⟩ := R.bd_eq e0
    refine srcP_ok (evEs_ok hF hP _ es) (fun e' he => evE_ok hF hP _ e') e1 (R.of_eq e2) (R.of_eq e3) R0 fun J g1 H1 z S => ?_
    exact for_ok (evSs_ok _ x) (evSs_er _ x) S e0 z.rel (.ok (q.step (z.stp R0)))
  | W, .pass => fun b g Γ σ H D fl e0 R0 q => by
    unfold evS at e0
    unfold trS
    cases e0
    exact q g σ H R0 (.refl g H) rfl
  | W, .brk => fun b g Γ σ H D fl e0 R0 q => by
    unfold evS at e0
    unfold trS
    cases e0
    exact q g σ H R0 (.refl g H) rfl
  | W, .cnt => fun b g Γ σ H D fl e0 R0 q => by
    unfold evS at e0
    unfold trS
    cases e0
    exact q g σ H R0 (.refl g H) rfl
  | W, .nev => fun b g Γ σ H D fl e0 R0 q => by
    unfold evS at e0
    cases e0
  | W, .rs c fld m => fun b g Γ σ H D fl e0 R0 q => by
    unfold evS at e0
    obtain ⟨⟨p1, Γ1⟩, e1, e0⟩ := R.bd_eq e0
    obtain ⟨d, e2, e0⟩ := R.bd_eq e0
    obtain ⟨v, e3, e0⟩ := R.bd_eq e0
    cases e0
  | W, .trr m c cs ns i h => fun b g Γ σ H D fl e0 R0 q => by
    unfold evS at e0
    unfold trS
    intro C hC h1 h2
    split at e0
    · rename_i fl' e1
      cases e0
      exact evSs_ok _ m b g Γ σ H D _ e1 R0 q
    · cases e0
    · rename_i x w e1
      split at e0
      · rename_i hm
        obtain ⟨d, e2, e0⟩ := R.bd_eq e0
        cases e0
        have hm := and2 hm
        refine evSs_er _ m b g Γ σ H D x w e1 R0 fun cls od σ' g' H' r s hx l => ?_
        have hx0 := hx
        obtain ⟨C', dd, hc, e3, _⟩ := hx
        refine ⟨true, by rw [e3, hX _ _ _ _ _ hc hC, h1 _ hm.1], fun _ a _ => ?_, fun z => nomatch z⟩
        refine handle_ok (by rw [l, ← R0.len]; exact of_decide_eq_true hm.2) r hx0 (R.of_eq e2) fun v g2 H2 r2 rp s2 => q v g2 H2 r2 rp (s.trans s2)
      · split at e0 <;> cases e0
theorem evSs_ok : ∀ (W : WX) (m : MSs), SS K tabs (trSs K T W m) (evSs F m)
  | W, .nil => fun b g Γ σ H D fl e0 R0 q => by
    unfold evSs at e0
    unfold trSs
    cases e0
    exact q g σ H R0 (.refl g H) rfl
  | W, .cons s r => fun b g Γ σ H D fl e0 R0 q => by
    unfold evSs at e0
    unfold trSs
    obtain ⟨f, e1, e0⟩ := R.bd_eq e0
    refine evS_ok _ s b g Γ σ H _ f e1 R0 ?_
    cases f with
    | nx Γ1 => exact fun g1 σ1 H1 r1 s1 l1 => evSs_ok _ r b g1 Γ1 σ1 H1 D fl e0 r1 (by rw [l1]; exact q.step s1)
    | brk Γ1 => cases e0; exact q
    | cnt Γ1 => cases e0; exact q
    | ret d fr w => cases e0; exact q
theorem evS_er : ∀ (W : WX) (m : MS), SXS K tabs T.xt W (trS K T W m) (evS F m)
  | W, .set i m => fun b g Γ σ H D x w e R0 q => by
    unfold evS at e
    unfold trS
    rcases R.bd_er e with h | ⟨⟨p1, Γ1⟩, e1, e⟩
    · exact evE_er hF hP W m b g Γ σ H _ x w h R0 (q.p rfl)
    cases p1 with
    | old d => cases e
    | frs d => cases e
    | vr j =>
      obtain ⟨_, _, e⟩ := R.of_er e
      cases e
  | W, .unp t m => fun b g Γ σ H D x w e R0 q => by
    unfold evS at e
    unfold trS
    rcases R.bd_er e with h | ⟨⟨p1, Γ1⟩, e1, e⟩
    · exact evE_er hF hP W m b g Γ σ H _ x w h R0 (q.p rfl)
    obtain ⟨_, _, e⟩ := R.of_er e
    obtain ⟨_, _, e⟩ := R.of_er e
    cases e
  | W, .sub o i v => fun b g Γ σ H D x w e R0 q => by
    unfold evS at e
    unfold trS
    rcases R.bd_er e with h | ⟨⟨p1, Γ1⟩, e1, e⟩
    · exact evE_er hF hP W v b g Γ σ H _ x w h R0 (q.p rfl)
    obtain ⟨⟨p2, Γ2⟩, e2, e⟩ := R.st_er e
    obtain ⟨⟨p3, Γ3⟩, e3, e⟩ := R.st_er e
    rcases R.bd_er e with h | ⟨Γ4, e4, e⟩
    · exact (subE_ne h).elim
    · cases e
  | W, .ex m => fun b g Γ σ H D x w e R0 q => by
    unfold evS at e
    unfold trS
    rcases R.bd_er e with h | ⟨⟨p1, Γ1⟩, e1, e⟩
    · exact evE_er hF hP W m b g Γ σ H _ x w h R0 (q.p rfl)
    cases e
  | W, .ret m => fun b g Γ σ H D x w e R0 q => by
    unfold evS at e
    unfold trS
    rcases R.bd_er e with h | ⟨⟨p1, Γ1⟩, e1, e⟩
    · exact evE_er hF hP W m b g Γ σ H _ x w h R0 (q.p rfl)
    cases p1 with
    | old d => cases e
    | frs d => cases e
    | vr j =>
      dsimp only at e
      split at e <;> cases e
  | W, .retn => fun b g Γ σ H D x w e R0 q => by
    unfold evS at e
    cases e
  | W, .ite c m n => fun b g Γ σ H D x w e R0 q => by
    unfold evS at e
    unfold trS
    rcases R.bd_er e with h | ⟨⟨k, Γ1⟩, e1, e⟩
    · exact evC_er hF hP W c b g Γ σ H _ x w h R0 (q.p rfl)
    refine evC_ok hF hP W c b g Γ σ H _ k Γ1 e1 R0 fun g1 H1 y => ?_
    cases k with
    | true => exact evSs_er W m b g1 Γ1 σ H1 D x w e y.rel (q.step (y.stp R0))
    | false => exact evSs_er W n b g1 Γ1 σ H1 D x w e y.rel (q.step (y.stp R0))
  | W, .whl c m => fun b g Γ σ H D x w e R0 q => by
    unfold evS at e
    unfold trS
    exact while_ok (fun b g Γ σ H Q c Γ' e => evC_ok hF hP _ _ b g Γ σ H Q c Γ' (R.st_eq e)) (fun Γ x w z => R.st_ne z) (evSs_ok _ m) (evSs_er _ m) e R0 (.err q)
  | W, .fr t k es m => fun b g Γ σ H D x w e R0 q => by
    unfold evS at e
    unfold trS
    obtain ⟨⟨ps, Γ1⟩, e1, e⟩ := R.st_er e
    obtain ⟨ds, e2, e⟩ := R.of_er e
    obtain ⟨xs, e3, e⟩ := R.of_er e
    refine srcP_ok (evEs_ok hF hP _ es) (fun e' he => evE_ok hF hP _ e') e1 e2 e3 R0 fun J g1 H1 z S => ?_
    exact for_ok (evSs_ok _ m) (evSs_er _ m) S e z.rel (.err (q.step (z.stp R0)))
  | W, .pass => fun b g Γ σ H D x w e R0 q => by
    unfold evS at e
    cases e
  | W, .brk => fun b g Γ σ H D x w e R0 q => by
    unfold evS at e
    cases e
  | W, .cnt => fun b g Γ σ H D x w e R0 q => by
    unfold evS at e
    cases e
  | W, .nev => fun b g Γ σ H D x w e R0 q => by
    unfold evS at e
    cases e
  | W, .rs c fld m => fun b g Γ σ H D x w e R0 q => by
    unfold evS at e
    unfold trS
    rcases R.bd_er e with h | ⟨⟨p1, Γ1⟩, e1, e⟩
    · exact evE_er hF hP W m b g Γ σ H _ x w h R0 (q.p rfl)
    obtain ⟨d, e2, e⟩ := R.of_er e
    obtain ⟨v, e3, e⟩ := R.of_er e
    cases e
    refine (evE_ok hF hP _ m).o1 e1 e2 R0 fun u g1 H1 y rb => ⟨u, rfl, fun C hC dd hn => ?_⟩
    have ev : u = v := by
      cases d <;> first
        | (cases e3; done)
        | (cases e3; first | exact rb.non | exact rb.bl | exact rb.int | exact rb.str)
    subst ev
    exact q _ _ σ g1 _ (y.rel.toGRel.alloc hn) ((y.stp R0).trans (Stp.alloc hn)) ⟨C, dd, hC, rfl, rfl, upd_same⟩ rfl
  | W, .trr m c cs ns i h => fun b g Γ σ H D x w e R0 q => by
    unfold evS at e
    unfold trS
    intro C hC h1 h2
    split at e
    · cases e
    · cases e
    · rename_i x' w' e1
      split at e
      · obtain ⟨d, e2, e⟩ := R.of_er e
        cases e
      · split at e
        · rename_i hm
          cases e
          have hm := and2 hm
          refine evSs_er _ m b g Γ σ H D x w e1 R0 fun cls od σ' g' H' r s hx l => ?_
          have hx0 := hx
          obtain ⟨C', dd, hc, e3, _⟩ := hx
          exact ⟨false, by rw [e3, hX _ _ _ _ _ hc hC, h2 _ hm.1], fun z => (nomatch z), fun _ => q cls od σ' g' H' r s hx0 l⟩
        · cases e
theorem evSs_er : ∀ (W : WX) (m : MSs), SXS K tabs T.xt W (trSs K T W m) (evSs F m)
  | W, .nil => fun b g Γ σ H D x w e R0 q => by
    unfold evSs at e
    cases e
  | W, .cons s r => fun b g Γ σ H D x w e R0 q => by
    unfold evSs at e
    unfold trSs
    rcases R.bd_er e with h | ⟨f, e1, e⟩
    · exact evS_er W s b g Γ σ H _ x w h R0 q
    refine evS_ok W s b g Γ σ H _ f e1 R0 ?_
    cases f with
    | nx Γ1 => exact fun g1 σ1 H1 r1 s1 l1 => evSs_er W r b g1 Γ1 σ1 H1 D x w e r1 (by rw [l1]; exact q.step s1)
    | brk Γ1 => cases e
    | cnt Γ1 => cases e
    | ret d fr w => cases e
end
end
end Ux

namespace Ux
open PySem PySem.Spec PyProof.Rows L2 GxR

structure Bk where
  sc : Scope
  so : Scope
  k : Nat
  g : Bool
/-- an error class of the text: C(e) is made -/
def XcOk (K : PySem.W.Frag) (mg : Str → Option Value) (c : Str) (C : Addr) (fld : Str) : Prop :=
  mg c = some (.ref C) ∧ XfC K C ∧ PySem.W.findIn K (.ref C) fld = some none ∧
  ∀ (X : Cx) (a : Expr) (ta : TA) (p pos : Pos), X.K = K → X.mg = mg → Room 2 X.A → PA X [a] ta → Gl X c →
    (starEach (a :: []) X.env = (false, eval a X.env) :: starEach [] X.env) → ((backTo pos (starEach [] X.env)).any (·.1) = false) → PMk X (.Call (.Name c p) [a] [] pos) (tMkX C fld ta)
structure Cp (T : Tb) (B : Bk) (X : Cx) : Prop where
  N : X.N = T.N
  nd : X.N.Nodup
  sc : X.env.scope = B.sc
  st : ∀ x, Loc B.so x → Loc X.env.scope x ∧ (X.fn x = true ∨ X.env.scope.names.lookup x = some .local)
  calm : X.calm = true
  room : Room B.k X.A
  po : PassesOwn (model X.prog X.w) X.A X.env X.xe
  bn : ∀ x ∈ T.bn, X.mg x = none
  fn : ∀ f fe, T.fn f = some fe → FnOk X.prog X.w X.K X.mg X.base (L2.CX X.prog X.w) fe.lv fe.f fe.fd fe.ps fe.sp ∧ X.mg f = some (.ref fe.f) ∧ PySem.W.keepIn X.K (.ref fe.f) = true ∧ Binds X.K fe.fd fe.ps []
  gl : ∀ x v, T.gl x = some v → ∃ u, X.mg x = some u ∧ RelV v u
  cx : ∀ c C fld, T.xt c = some (C, fld) → XcOk X.K X.mg c C fld
  ch : ∀ h C, T.xh h = some C → X.mg h = some (.ref C)
  cm : ∀ c C fld h D, T.xt c = some (C, fld) → T.xh h = some D → PySem.W.exmOne X.K (.ref C) (.ref D) = some (T.xm c h)
  px : T.px X.K X.mg
  code : B.g = true → ∃ c, X.env.code = .ref c ∧ TabB X.base X.mg c T.P

def GlN (B : Bk) (x : Str) : Prop := B.sc.names.lookup x = some .globalImplicit
abbrev Nd (x : Str) : Prop := (x == ("__debug__" : Str)) = false
def bo (w : Bool) : BoolOp := if w then .And else .Or
def StarOk (x : Expr) (xs : List Expr) : Prop := ∀ env, starEach (x :: xs) env = (false, eval x env) :: starEach xs env
def PlainOk (xs : List Expr) : Prop := ∀ env pos, (backTo pos (starEach xs env)).any (·.1) = false

mutual
inductive ErG (T : Tb) (B : Bk) : MT → Expr → Prop
  | name {i : Nat} {x : Str} {p : Pos} : T.N[i]? = some x → Loc B.so x → ErG T B (.name i) (.Name x p)
  | tup {ts : MTs} {xs : List Expr} {k : Nat} {p : Pos} : ErGs T B ts xs → (∀ env, (assignEach xs env).length = ts.len) → (∀ env, (assignEach xs env).findIdx? (·.1) = none) → ErG T B (.tup ts) (.Tuple xs k p)
inductive ErGs (T : Tb) (B : Bk) : MTs → List Expr → Prop
  | nil : ErGs T B .nil []
  | cons {t : MT} {ts : MTs} {x : Expr} {xs : List Expr} : ErG T B t x → ErGs T B ts xs → (∀ env, (assignEach (x :: xs) env).map (·.2) = assign x env :: (assignEach xs env).map (·.2)) → ErGs T B (.cons t ts) (x :: xs)
end
mutual
theorem erG_ok {T : Tb} {B : Bk} {X : Cx} (c : Cp T B X) : ∀ {t : MT} {x : Expr}, ErG T B t x → PG X x (trG X.K t)
  | _, _, .name h1 h2 => pg_name (hf := (c.st _ h2).2) c.nd (by rw [c.N]; exact h1) (c.st _ h2).1
  | _, _, .tup h1 h2 h3 => pg_tup c.calm (erGs_ok c h1) (h2 _) (h3 _)
theorem erGs_ok {T : Tb} {B : Bk} {X : Cx} (c : Cp T B X) : ∀ {ts : MTs} {xs : List Expr}, ErGs T B ts xs → PGs X xs (trGs X.K ts)
  | _, _, .nil => pgs_nil
  | _, _, .cons h1 h2 h3 => pgs_cons (erG_ok c h1) (erGs_ok c h2) (h3 _)
end

/-! ### the rules of the operators -/
section
variable {X : Cx}
theorem hu1 {k : Nat} (r : Room k X.A) : X.A.units + 1 < cLine := by have := r.un; omega
theorem hu64 {k : Nat} (r : Room k X.A) : X.A.units + 64 < cLine := by have := r.un; omega
theorem hu65 {k : Nat} (r : Room k X.A) : X.A.units + 65 < cLine := by have := r.un; omega
theorem op2_ok : ∀ o, OpR X (binaryOp (opr o)) (r2 X.K o)
  | .add => op_add.or (op_catA.or (op_cat.or op_add_str))
  | .sub => op_sub
  | .mul => op_mul.or (op_rep.or (op_repT.or op_repO))
  | .fdiv => op_fdiv
  | .mod => op_mod
  | .pow => op_pow
theorem op_din (hu : X.A.units + 1 < cLine) : OpR X (compareOp .In) (rDin true) := by
  intro pins s σ H y x u v Q I ry rx h
  obtain ⟨a, o, rfl, g, q⟩ := h
  cases rx
  exact d_in hu I g ry fun s' I' => ⟨.bl _, H, I', rfl, q⟩
theorem op_dnin (hu : X.A.units + 1 < cLine) : OpR X (compareOp .NotIn) (rDin false) := by
  intro pins s σ H y x u v Q I ry rx h
  obtain ⟨a, o, rfl, g, q⟩ := h
  cases rx
  exact d_notIn hu I g ry fun s' I' => ⟨.bl _, H, I', rfl, q⟩
theorem cm2_ok {k : Nat} (r : Room k X.A) : ∀ o, OpR X (compareOp (cmr o)) (c2 X.K o)
  | .eq => op_eqD (hu64 r)
  | .ne => op_neD (hu64 r)
  | .lt => op_lt
  | .le => op_le
  | .gt => op_gt
  | .ge => op_ge
  | .inn => op_in_seq.or ((op_din (hu1 r)).or (op_inD (hu65 r)))
  | .nin => op_notIn_seq.or ((op_dnin (hu1 r)).or (op_notInD (hu65 r)))
theorem ix_dict (hu : X.A.units + 1 < cLine) : IxR X rDix := by
  intro value slice pins s σ H x y v u Q I rx ry h hs
  obtain ⟨a, w, rfl, g, q⟩ := h
  cases rx
  have hT : s.TypeIs (.ref a) "dict" := dict_typeIs I g
  unfold subscriptTail
  refine wpAny_bind ?_
  rw [getitemInPython_of_ne hT.not_modules]
  refine wpAny_bind (wpAny_specialOf hT PySem.F.slot_dict_getitem.lookup ?_)
  have fin : wpAny (model X.prog X.w) X.A (subscripted slice false (.ref a) u) (fun r s₃ => wpAny (model X.prog X.w) X.A (letTemporaryGo value (.ref a) r >>= fun _ => pure r) (EP X pins σ Q) X.xe s₃) X.xe s := by
    rw [hs]
    exact wpAny_operating (d_getItem hu I g ry fun w' s3 I3 rw' => wpAny_bind (wpAny_letTemporaryGo (wpAny_pure ⟨w, H, I3, rw', q⟩)))
  first
    | exact wpAny_pure (wpAny_bind fin)
    | exact wpAny_bind (wpAny_pure (wpAny_bind fin))
    | exact wpAny_bind fin
theorem ix_all {k : Nat} (r : Room k X.A) : IxR X (rIxA X.K) := ix_seq.or (ix_dict (hu1 r))
theorem sl_all : SlR X (rSlc X.K) := sl_tupA.or sl_list
theorem call_len_dTR {X : Cx} : CallR X (.builtin "len") (fun xs H Q => ∃ (p : Addr) (kvs : List (List Key × V)), xs = [.ref p] ∧ Rd H p (.dT kvs) ∧ Q (.int ((kvs.length : Nat) : Int)) H) := by
  intro pins s σ H xs us Q I r h
  obtain ⟨p, kvs, rfl, hp, q⟩ := h
  obtain ⟨u, rfl, rx⟩ := vals1 r
  cases rx
  obtain ⟨z, hd, ys, rel, dd⟩ := dt_rd I.hok hp
  have hl := rel.length
  have z2 : (kvs.length : Nat) < 2 ^ 63 := by
    rw [sizeLine_eq] at z
    omega
  refine call_len_dictH hd dd (by rw [← hl]; omega) ?_
  rw [← hl]
  exact ⟨.int kvs.length, H, I.tok (s.toks + 1 + 1), ⟨s.toks + 1, rfl⟩, q⟩
theorem call_lenA : CallR X (.builtin "len") (rLen X.K) := by
  refine call_len.or (CallR.or ?_ call_len_dTR)
  intro pins s σ H xs us Q I r h
  obtain ⟨a, kvs, rfl, e, q⟩ := h
  obtain ⟨u, rfl, rx⟩ := vals1 r
  cases rx
  exact d_len I e fun t s' I' => ⟨.int kvs.length, H, I', ⟨t, rfl⟩, q⟩
theorem bfn_ok (hc : X.calm = true) : ∀ o, CallR X (bval o) (rB X.K o)
  | .len => call_lenA
  | .abs => call_abs
  | .int => call_int1
  | .list => call_list_of
  | .tuple => call_tuple_of
  | .sorted => cr_sorted.or (call_sortedDI hc)
  | .all => cr_all hc
  | .any => cr_any hc
  | .max => cr_max hc
  | .min => cr_min hc
  | .sum => cr_sum hc
theorem bf2_ok (hc : X.calm = true) : ∀ w, CallR X (.builtin (if w then "max" else "min")) (rB2 w)
  | true => by
    intro pins s σ H xs us Q I r h
    obtain ⟨i, j, e, q⟩ := h
    exact call_max2 hc pins s σ H xs us Q I r ⟨i, j, e, q⟩
  | false => by
    intro pins s σ H xs us Q I r h
    obtain ⟨i, j, e, q⟩ := h
    exact call_min2 hc pins s σ H xs us Q I r ⟨i, j, e, q⟩
theorem bboot : ∀ o, bootBuiltins (bnm o) = some (bval o)
  | .len => by kernel_rfl
  | .abs => by kernel_rfl
  | .int => by kernel_rfl
  | .list => by kernel_rfl
  | .tuple => by kernel_rfl
  | .sorted => by kernel_rfl
  | .all => by kernel_rfl
  | .any => by kernel_rfl
  | .max => by kernel_rfl
  | .min => by kernel_rfl
  | .sum => by kernel_rfl
theorem mt_get (hu : X.A.units + 1 < cLine) : MtR X "dict.get" rGet := by
  intro pins s σ H x xs v us Q I rx rs h
  obtain ⟨a, y, o, rfl, rfl, g, q⟩ := h
  cases rx
  obtain ⟨u, rfl, ry⟩ := vals1 rs
  exact d_get1 hu I g ry fun w' s' I' rw' => ⟨_, H, I', rw', q⟩
theorem mth_ok {k : Nat} (r : Room k X.A) : ∀ o, MtR X (mid o) (rM o)
  | .append => mt_append
  | .extend => mt_extend
  | .popAt => mt_popAt
  | .get => mt_get (hu1 r)
theorem mth_plain : ∀ o, PlainAttrs (mty o)
  | .append => PySem.F.plainAttrs_list
  | .extend => PySem.F.plainAttrs_list
  | .popAt => PySem.F.plainAttrs_list
  | .get => PySem.F.plainAttrs_dict
theorem mth_slot : ∀ o, Slot (mty o) (mnm o) (mid o)
  | .append => PySem.F.slot_list_append
  | .extend => PySem.F.slot_list_extend
  | .popAt => PySem.F.slot_list_pop
  | .get => PySem.F.slot_dict_get
theorem mth_type : ∀ o, typeOf (.builtin (mid o)) = pure (.type "method_descriptor")
  | .append => PySem.F.type_list_append
  | .extend => PySem.F.type_list_extend
  | .popAt => PySem.F.type_list_pop
  | .get => PySem.F.type_dict_get
theorem pi_seq {tg l : Expr} {tl : TE} (hl : PE X l tl) : PI X tg l (iSeq X.K tl) := by
  refine ⟨fun pins s σ H R I h => ?_⟩
  refine thn (hl.run pins s σ H _ I h) fun v s1 ⟨x, H1, I1, r1, q1⟩ => ?_
  obtain ⟨a, e, q⟩ := q1
  subst e
  cases r1
  rcases q with ⟨⟨xs, hq⟩, q⟩ | ⟨⟨xs, hq⟩, q⟩
  · obtain ⟨its, rv, p, hz⟩ := I1.list hq
    refine wpAny_pyIter_list p.isList ?_
    refine ⟨s1.heap.objs.size, [s1.heap.objs.size], _, _, H1, rfl, I1.kept (t' := s1.toks) fun b o e => Heap.get?_push_of_some _ e, turn_list a _, ⟨_, Heap.get?_push_size _ rfl, rfl, rfl⟩, fun b hb => ?_, q⟩
    have e : b = s1.heap.objs.size := by simpa using hb
    subst e
    exact I1.fpOk (Nat.le_refl _) (I1.hok.fresh (Nat.le_refl _))
  · obtain ⟨its, rv, p, hz⟩ := I1.tuple hq
    refine wpAny_pyIter_tuple (show s1.heap.IsTuple a its.toArray from p) ?_
    refine ⟨s1.heap.objs.size, [s1.heap.objs.size], _, _, H1, rfl, I1.kept (t' := s1.toks) fun b o e => Heap.get?_push_of_some _ e, turn_tuple a _, ⟨_, Heap.get?_push_size _ rfl, rfl, rfl⟩, fun b hb => ?_, q⟩
    have e : b = s1.heap.objs.size := by simpa using hb
    subst e
    exact I1.fpOk (Nat.le_refl _) (I1.hok.fresh (Nat.le_refl _))
theorem set_any (hu : X.A.units + 1 < cLine) : PSet X (fun o i v H Q => rSetL o i v H Q ∨ ∃ a H4, o = .ref a ∧ DPut H a i v H4 ∧ Q H4) := by
  intro pins s σ H o i v ov iv u Q I ro ri rv h
  rcases h with h | ⟨a, H4, rfl, g, q⟩
  · exact set_list pins s σ H o i v ov iv u Q I ro ri rv h
  · cases ro
    exact d_setItem hu I g ri rv fun s' I' => ⟨H4, I', q⟩
end
end Ux

namespace Ux
open PySem PySem.Spec PyProof.Rows L2 GxR

mutual
inductive ErE (T : Tb) : Bk → ME → Expr → Prop
  | var {B : Bk} {i : Nat} {x : Str} {p : Pos} : T.N[i]? = some x → Vis B.sc x → Nd x → (x == ("__classdict__" : Str)) = false → ErE T B (.var i) (.Name x p)
  | int {B : Bk} {i : Int} {j p} : ErE T B (.con (.int i)) (.Constant (.int i) j p)
  | bl {B : Bk} {b : Bool} {j p} : ErE T B (.con (.bl b)) (.Constant (.bool b) j p)
  | non {B : Bk} {j p} : ErE T B (.con .non) (.Constant .none j p)
  | str {B : Bk} {x : Str} {j p} : ErE T B (.con (.str x)) (.Constant (.str x) j p)
  | glo {B : Bk} {x : Str} {v : V} {p} : GlN B x → T.gl x = some v → Nd x → ErE T B (.glo x v) (.Name x p)
  | tup {B : Bk} {es : MEs} {xs : List Expr} {k p} : ErEs T B es xs → ErE T B (.tup es) (.Tuple xs k p)
  | lst {B : Bk} {es : MEs} {xs : List Expr} {p} : ErEs T B es xs → ErE T B (.lst es) (.List xs p)
  | ix {B : Bk} {a b : ME} {x y : Expr} {p} : ErE T B a x → ErE T B b y → PlainIx y → ErE T B (.ix a b) (.Subscript x y p)
  | slc {B : Bk} {a : ME} {lo hi : MO} {x : Expr} {l h : Option Expr} {p p2} : ErE T B a x → ErO T B lo l → ErO T B hi h → ErE T B (.slc a lo hi) (.Subscript x (.Slice l h none p2) p)
  | op {B : Bk} {o : Op2} {a b : ME} {x y : Expr} {w : Operator} {p} : opr o = w → ErE T B a x → ErE T B b y → ErE T B (.op o a b) (.BinOp x w y p)
  | neg {B : Bk} {a : ME} {x : Expr} {p} : ErE T B a x → ErE T B (.neg a) (.UnaryOp .USub x p)
  | cmp {B : Bk} {o : Cm2} {a b : ME} {x y : Expr} {w : CmpOp} {p} : cmr o = w → ErE T B a x → ErE T B b y → behindInMarks w y = false → ErE T B (.cmp o a b) (.Compare x [w] [y] p)
  | isn {B : Bk} {a : ME} {x : Expr} {j q p} : ErE T B a x → ErE T B (.isn true a) (.Compare x [.Is] [.Constant .none j q] p)
  | isnt {B : Bk} {a : ME} {x : Expr} {j q p} : ErE T B a x → ErE T B (.isn false a) (.Compare x [.IsNot] [.Constant .none j q] p)
  | chn {B : Bk} {o o2 : Cm2} {a b c : ME} {x y z : Expr} {w w2 : CmpOp} {p} : cmr o = w → cmr o2 = w2 → ErE T B a x → ErE T B b y → ErE T B c z → lastMarks [w, w2] [y, z] = false → ErE T B (.chn o o2 a b c) (.Compare x [w, w2] [y, z] p)
  | bop {B : Bk} {w : Bool} {e : ME} {es : MEs} {x : Expr} {xs : List Expr} {o : BoolOp} {p} : bo w = o → ErE T B e x → ErEs T B es xs → ErE T B (.bop w e es) (.BoolOp o (x :: xs) p)
  | not {B : Bk} {a : ME} {x : Expr} {p} : ErE T B a x → ErE T B (.not a) (.UnaryOp .Not x p)
  | ife {B : Bk} {c : MC} {a b : ME} {z x y : Expr} {p} : ErC T B c z → ErE T B a x → ErE T B b y → ErE T B (.ife c a b) (.IfExp z x y p)
  | call {B : Bk} {f : Str} {fe : Fe} {es : MEs} {x : Expr} {xs : List Expr} {q p} : T.fn f = some fe → fe.lv ≤ B.k → GlN B f → Nd f → ErEs T B es (x :: xs) → StarOk x xs → PlainOk xs → ErE T B (.call f es) (.Call (.Name f q) (x :: xs) [] p)
  | bfn {B : Bk} {o : Bfn} {n : Str} {a : ME} {x : Expr} {q p} : bnm o = n → n ∈ T.bn → GlN B n → ErE T B a x → StarOk x [] → ErE T B (.bfn o a) (.Call (.Name n q) [x] [] p)
  | isi {B : Bk} {n : Str} {Ty : String} {a : ME} {x : Expr} {q p r} : ("isinstance" : Str) ∈ T.bn → GlN B "isinstance" → n ∈ T.bn → GlN B n → bootBuiltins n = some (.type Ty) → n ≠ "__name__" → Nd n → ErE T B a x → StarOk x [.Name n r] →
      ErE T B (.isi Ty a) (.Call (.Name "isinstance" q) [x, .Name n r] [] p)
  | lrg1 {B : Bk} {a : ME} {x : Expr} {q p q2 p2} : ("list" : Str) ∈ T.bn → GlN B "list" → ("range" : Str) ∈ T.bn → GlN B "range" → ErE T B a x → StarOk x [] → ErE T B (.lrg true .rng1 (.cons a .nil)) (.Call (.Name "list" q) [.Call (.Name "range" q2) [x] [] p2] [] p)
  | trg1 {B : Bk} {a : ME} {x : Expr} {q p q2 p2} : ("tuple" : Str) ∈ T.bn → GlN B "tuple" → ("range" : Str) ∈ T.bn → GlN B "range" → ErE T B a x → StarOk x [] → ErE T B (.lrg false .rng1 (.cons a .nil)) (.Call (.Name "tuple" q) [.Call (.Name "range" q2) [x] [] p2] [] p)
  | mth {B : Bk} {o : Mth} {n : Str} {r : ME} {es : MEs} {z x : Expr} {xs : List Expr} {ap p} : mnm o = n → ErE T B r z → ErEs T B es (x :: xs) → (∀ env, attributeBase z n env (eval z env) = eval z env) →
      (∀ env, ((backTo p (starEach (x :: xs) env)).all (fun x => !x.1) && (backToKw p (keywordEach [] env)).all (fun x => x.1.isSome) && decide ((x :: xs).length + ([] : List Keyword).length + (if ([] : List Keyword).isEmpty then 0 else 1) < 30)) = true) →
      (ap.endLine == p.line) = true → StarOk x xs → PlainOk xs → ErE T B (.mth o r es) (.Call (.Attribute z n ap) (x :: xs) [] p)
  | lc {B : Bk} {own : List (Str × Nat)} {t : MT} {k : IK} {es : MEs} {ifs : MI} {el : ME} {tx it ex : Expr} {cs : List Expr} {scope : Scope} {p} {vs : List Nat} : own.map (·.2) = vs → BlkOk T.N B.sc scope own → ErSrc T B k es tx it →
      ErG T ⟨relS scope B.sc, scope, B.k, B.g⟩ t tx → ErI T ⟨relS scope B.sc, scope, B.k, B.g⟩ ifs cs → ErE T ⟨relS scope B.sc, scope, B.k, B.g⟩ el ex → (∀ env v, foldedSetIterable it env v = pure v) →
      ErE T B (.lc vs t k es ifs el) (.ListComp ex [⟨tx, it, cs, 0⟩] scope p)
  | gen {B : Bk} {w : Bool} {n : Str} {own : List (Str × Nat)} {t : MT} {k : IK} {es : MEs} {ifs : MI} {el : ME} {tx it ex : Expr} {cs : List Expr} {scope : Scope} {q p p2} {vs : List Nat} {k' : Nat} : (if w then n = ("all" : Str) else n = ("any" : Str)) → n ∈ T.bn → GlN B n → B.k = k' + 1 → B.g = true → own.map (·.2) = vs → BlkOk T.N B.sc scope own →
      (∀ y ∈ scope.names, y.2 ≠ .cell) → scope.isCoroutine = false → scope.names.lookup (".0" : Str) = some NameKind.local → ErSrc T B k es tx it →
      ErG T ⟨scope, scope, k', false⟩ t tx → ErI T ⟨scope, scope, k', false⟩ ifs cs → ErE T ⟨scope, scope, k', false⟩ el ex → (∀ env v, genFold it env v = pure v) →
      ErE T B (.gen w vs t k es ifs el) (.Call (.Name n q) [.GeneratorExp ex [⟨tx, it, cs, 0⟩] scope p2] [] p)
  | bf2 {B : Bk} {w : Bool} {n : Str} {a b : ME} {x y : Expr} {q p} : (if w then n = ("max" : Str) else n = ("min" : Str)) → n ∈ T.bn → GlN B n → ErE T B a x → ErE T B b y → StarOk x [y] → StarOk y [] → ErE T B (.bf2 w a b) (.Call (.Name n q) [x, y] [] p)
  | dc {B : Bk} {own : List (Str × Nat)} {t : MT} {k : IK} {es : MEs} {ifs : MI} {kx vx : ME} {tx it ex ey : Expr} {cs : List Expr} {scope : Scope} {p} {vs : List Nat} : own.map (·.2) = vs → BlkOk T.N B.sc scope own → ErSrc T B k es tx it →
      ErG T ⟨relS scope B.sc, scope, B.k, B.g⟩ t tx → ErI T ⟨relS scope B.sc, scope, B.k, B.g⟩ ifs cs → ErE T ⟨relS scope B.sc, scope, B.k, B.g⟩ kx ex → ErE T ⟨relS scope B.sc, scope, B.k, B.g⟩ vx ey → (∀ env v, foldedSetIterable it env v = pure v) →
      ErE T B (.dc vs t k es ifs kx vx) (.DictComp ex ey [⟨tx, it, cs, 0⟩] scope p)
  | bad {B : Bk} {e : Expr} : ErE T B .bad e
  | dk0 {B : Bk} {t : Bool} {p} : ErE T B (.dk0 t) (.Dict [] [] p)
  | dk1 {B : Bk} {t : Bool} {k v : ME} {x y : Expr} {p} : ErE T B k x → ErE T B v y → ErE T B (.dk1 t k v) (.Dict [some x] [y] p)
inductive ErEs (T : Tb) : Bk → MEs → List Expr → Prop
  | nil {B : Bk} : ErEs T B .nil []
  | cons {B : Bk} {e : ME} {es : MEs} {x : Expr} {xs : List Expr} : ErE T B e x → ErEs T B es xs → StarOk x xs → ErEs T B (.cons e es) (x :: xs)
inductive ErSrc (T : Tb) : Bk → IK → MEs → Expr → Expr → Prop
  | val {B : Bk} {e : ME} {x tg : Expr} : ErE T B e x → ErSrc T B .val (.cons e .nil) tg x
  | rng1 {B : Bk} {e : ME} {x tg : Expr} {q p} : ("range" : Str) ∈ T.bn → GlN B "range" → ErE T B e x → StarOk x [] → ErSrc T B .rng1 (.cons e .nil) tg (.Call (.Name "range" q) [x] [] p)
  | rng2 {B : Bk} {e f : ME} {x y tg : Expr} {q p} : ("range" : Str) ∈ T.bn → GlN B "range" → ErE T B e x → ErE T B f y → StarOk x [y] → StarOk y [] → ErSrc T B .rng2 (.cons e (.cons f .nil)) tg (.Call (.Name "range" q) [x, y] [] p)
  | enm {B : Bk} {e : ME} {x : Expr} {q p tpos : Pos} {elts : List Expr} {kk : Nat} : GlN B "enumerate" → ("enumerate" : Str) ∈ T.bn → ErE T B e x → StarOk x [] → ErSrc T B .enm (.cons e .nil) (.Tuple elts kk tpos) (.Call (.Name "enumerate" q) [x] [] p)
inductive ErO (T : Tb) : Bk → MO → Option Expr → Prop
  | none {B : Bk} : ErO T B .none none
  | some {B : Bk} {e : ME} {x : Expr} : ErE T B e x → ErO T B (.some e) (some x)
inductive ErI (T : Tb) : Bk → MI → List Expr → Prop
  | none {B : Bk} : ErI T B .none []
  | some {B : Bk} {c : MC} {x : Expr} : ErC T B c x → ErI T B (.some c) [x]
inductive ErC (T : Tb) : Bk → MC → Expr → Prop
  | tv {B : Bk} {e : ME} {x : Expr} : ErE T B e x → (∀ env whole, isTrue x env whole = (do let v ← whole; standAt x.pos; holding [v] (truthy v))) → ErC T B (.tv e) x
  | cmp {B : Bk} {o : Cm2} {a b : ME} {x y : Expr} {w : CmpOp} {p} : cmr o = w → ErE T B a x → ErE T B b y → behindInMarks w y = false → ErC T B (.cmp o a b) (.Compare x [w] [y] p)
  | isn {B : Bk} {a : ME} {x : Expr} {j q p} : ErE T B a x → ErC T B (.isn true a) (.Compare x [.Is] [.Constant .none j q] p)
  | isnt {B : Bk} {a : ME} {x : Expr} {j q p} : ErE T B a x → ErC T B (.isn false a) (.Compare x [.IsNot] [.Constant .none j q] p)
  | chn {B : Bk} {o o2 : Cm2} {a b c : ME} {x y z : Expr} {w w2 : CmpOp} {p} : cmr o = w → cmr o2 = w2 → ErE T B a x → ErE T B b y → ErE T B c z → lastMarks [w, w2] [y, z] = false → ErC T B (.chn o o2 a b c) (.Compare x [w, w2] [y, z] p)
  | bop {B : Bk} {w : Bool} {c : MC} {cs : MCs} {x : Expr} {xs : List Expr} {o : BoolOp} {p} : bo w = o → ErC T B c x → ErCs T B cs xs → ErC T B (.bop w c cs) (.BoolOp o (x :: xs) p)
  | not {B : Bk} {c : MC} {x : Expr} {p} : ErC T B c x → ErC T B (.not c) (.UnaryOp .Not x p)
inductive ErCs (T : Tb) : Bk → MCs → List Expr → Prop
  | nil {B : Bk} : ErCs T B .nil []
  | cons {B : Bk} {c : MC} {cs : MCs} {x : Expr} {xs : List Expr} : ErC T B c x → ErCs T B cs xs → ErCs T B (.cons c cs) (x :: xs)
end

theorem relabel_relS {sc : Scope} {env : PySem.Env} (h : env.scope = sc) : relabel scope env = relS scope sc := by
  subst h; rfl
theorem Cp.blk {T : Tb} {B : Bk} {X : Cx} (c : Cp T B X) {scope : Scope} (s : Shared) (H : Hp) (C : Addr) (cl : List (Str × Addr)) (fp : List Addr) : Cp T ⟨relS scope B.sc, scope, B.k, B.g⟩ (X.blk s H scope (compEnvC scope cl C X.env) fp) where
  N := c.N
  nd := c.nd
  sc := relabel_relS c.sc
  st := fun x hx => by
    have key : (compEnvC scope cl C X.env).scope = relS scope B.sc := relabel_relS c.sc
    show Loc (compEnvC scope cl C X.env).scope x ∧ ((scope.names.lookup x == some .cell) = true ∨ (compEnvC scope cl C X.env).scope.names.lookup x = some .local)
    rw [key]
    rcases hx with h | h
    · exact ⟨.inl (lookup_relS_keep (by decide) h), .inr (lookup_relS_keep (by decide) h)⟩
    · exact ⟨.inr (lookup_relS_keep (by decide) h), .inl (by rw [h]; rfl)⟩
  calm := c.calm
  room := c.room
  po := PassesOwn.never
  bn := c.bn
  fn := c.fn
  gl := c.gl
  cx := c.cx
  ch := c.ch
  cm := c.cm
  px := c.px
  code := c.code
theorem Cp.gen {T : Tb} {B : Bk} {X : Cx} (c : Cp T B X) {scope : Scope} {k' : Nat} (hcell : ∀ y ∈ scope.names, y.2 ≠ .cell) (A : Around) (s : Shared) (H : Hp) (C : Addr) (cl : List (Str × Addr)) (code : Value) (fp : List Addr) (pn : List (Addr × Obj))
    (r : Room k' (A.deeper (genEnv scope cl C code builtinsNs X.env))) : Cp T ⟨scope, scope, k', false⟩ (gcx X A s H (genEnv scope cl C code builtinsNs X.env) fp pn) where
  N := c.N
  nd := c.nd
  sc := rfl
  st := fun x hx => by
    have hx : scope.names.lookup x = some .local ∨ scope.names.lookup x = some .cell := hx
    rcases hx with h | h
    · exact ⟨.inl h, .inr h⟩
    · exact absurd rfl (hcell _ (PySem.mem_of_lookup h))
  calm := c.calm
  room := r
  po := PassesOwn.never
  bn := c.bn
  fn := c.fn
  gl := c.gl
  cx := c.cx
  ch := c.ch
  cm := c.cm
  px := c.px
  code := fun z => absurd z Bool.false_ne_true
end Ux

namespace Ux
open PySem PySem.Spec PyProof.Rows L2 GxR

theorem Cp.gln {T : Tb} {B : Bk} {X : Cx} (c : Cp T B X) {x : Str} (h : GlN B x) : Gl X x := by
  show X.env.scope.names.lookup x = some .globalImplicit
  rw [c.sc]; exact h
theorem Cp.vis {T : Tb} {B : Bk} {X : Cx} (c : Cp T B X) {x : Str} (h : Vis B.sc x) : Vis X.env.scope x := by
  rw [c.sc]; exact h
theorem bnm_name : ∀ o, bnm o ≠ ("__name__" : Str)
  | .len => by decide | .abs => by decide | .int => by decide | .list => by decide | .tuple => by decide | .sorted => by decide | .all => by decide | .any => by decide | .max => by decide | .min => by decide | .sum => by decide
theorem bnm_dbg : ∀ o, Nd (bnm o)
  | .len => by decide | .abs => by decide | .int => by decide | .list => by decide | .tuple => by decide | .sorted => by decide | .all => by decide | .any => by decide | .max => by decide | .min => by decide | .sum => by decide
theorem boot_isi : bootBuiltins "isinstance" = some (.builtin "isinstance") := by kernel_rfl
theorem boot_all' : bootBuiltins "all" = some (.builtin "all") := by kernel_rfl
theorem boot_any' : bootBuiltins "any" = some (.builtin "any") := by kernel_rfl

theorem boot_max : bootBuiltins "max" = some (.builtin "max") := by kernel_rfl
theorem boot_min : bootBuiltins "min" = some (.builtin "min") := by kernel_rfl
theorem bfn_call {T : Tb} {B : Bk} {X : Cx} (c : Cp T B X) {o : Bfn} {x : Expr} {q p : Pos} {t : TE} (h2 : bnm o ∈ T.bn) (h3 : GlN B (bnm o)) (hx : PE X x t) (h5 : StarOk x []) :
    PE X (.Call (.Name (bnm o) q) [x] [] p) (tCB (rB X.K o) (tA [t])) := by
  have ha : PA X [x] (tA [t]) := pa_cons hx pa_nil (h5 _)
  cases o <;> first
    | exact pe_callB (bfn_ok c.calm _) (c.gln h3) (c.bn _ h2) (bboot _) ha (bnm_name _) (bnm_dbg _) (h5 _) (by rfl)
    | exact pe_callTy (bfn_ok c.calm _) (c.gln h3) (c.bn _ h2) (bboot _) ha (bnm_name _) (bnm_dbg _) (h5 _) (by rfl)

mutual
theorem erE_ok {T : Tb} : ∀ {B : Bk} {X : Cx} {W : WX} {m : ME} {e : Expr}, ErE T B m e → Cp T B X → Takes X W → PE X e (trE X.K T W m)
  | _, _, W, _, _, .var h1 h2 h3 h4, c, tk => pe_var (by rw [c.N]; exact h1) (c.vis h2) h3 h4
  | _, _, W, _, _, .int, c, tk => pe_int
  | _, _, W, _, _, .bl, c, tk => pe_bl
  | _, _, W, _, _, .non, c, tk => pe_non
  | _, _, W, _, _, .str, c, tk => pe_str
  | _, _, W, _, _, .glo h1 h2 h3, c, tk => by
    obtain ⟨u, hu, r⟩ := c.gl _ _ h2
    exact pe_glob (c.gln h1) hu r h3
  | _, _, W, _, _, .tup h, c, tk => pe_tup (erEs_ok h c tk)
  | _, _, W, _, _, .lst h, c, tk => pe_lst (erEs_ok h c tk)
  | _, _, W, _, _, .ix h1 h2 h3, c, tk => pe_ix (ix_all c.room) (erE_ok h1 c tk) (erE_ok h2 c tk) h3
  | _, _, W, _, _, .slc h1 h2 h3, c, tk => pe_slice sl_all (erE_ok h1 c tk) (erO_ok h2 c tk) (erO_ok h3 c tk)
  | _, _, W, _, _, .op h0 h1 h2, c, tk => by
    subst h0
    exact pe_op (op2_ok _) (erE_ok h1 c tk) (erE_ok h2 c tk)
  | _, _, W, _, _, .neg h, c, tk => pe_un (r := rU fun i => .int (-i)) un_neg (erE_ok h c tk)
  | _, _, W, _, _, .cmp h0 h1 h2 h3, c, tk => by
    subst h0
    exact pe_cmpR (cm2_ok c.room _) (erE_ok h1 c tk) (erE_ok h2 c tk) h3
  | _, _, W, _, _, .isn h, c, tk => pe_cmp (pc_isN (erE_ok h c tk))
  | _, _, W, _, _, .isnt h, c, tk => pe_cmp (pc_notN (erE_ok h c tk))
  | _, _, W, _, _, .chn h0 h00 h1 h2 h3 h4, c, tk => by
    subst h0
    subst h00
    exact pe_chain (cm2_ok c.room _) (cm2_ok c.room _) (erE_ok h1 c tk) (erE_ok h2 c tk) (erE_ok h3 c tk) h4
  | _, _, W, .bop w e es, .BoolOp o (x :: xs) p, .bop h0 h1 h2, c, tk => by
    subst h0
    exact erB_ok w p (erE_ok h1 c tk) h2 c tk
  | _, _, W, _, _, .not h, c, tk => pe_not (erE_ok h c tk)
  | _, _, W, _, _, .ife h0 h1 h2, c, tk => pe_ifExp (erC_ok h0 c tk) (erE_ok h1 c tk) (erE_ok h2 c tk)
  | _, X, W, .call f es, .Call (.Name _ q) (x :: xs) _ p, .call (fe := fe) h1 h2 h3 h4 h5 h6 h7, c, tk => by
    obtain ⟨F, hm, hk, hb⟩ := c.fn _ _ h1
    show PE X _ (match T.fn f with | some fe => tCallS fe.sp (WE W) (tA (trEs X.K T W es)) | none => fun σ H Q => tA (trEs X.K T W es) σ H fun _ _ => False)
    rw [h1]
    exact pe_callS F (c.room.mono h2) (c.gln h3) hm hk hb (fun σ => passAt tk σ) (erEs_ok h5 c tk) h4 (h6 _) (h7 _ _)
  | _, _, W, _, _, .bfn h0 h2 h3 h4 h5, c, tk => by
    subst h0
    exact bfn_call c h2 h3 (erE_ok h4 c tk) h5
  | _, X, W, .isi Ty a, .Call _ [x, .Name n r] _ p, .isi h1 h2 h3 h4 h5 h6 h7 h8 h9, c, tk => by
    have hT : PE X (.Name n r) (tC (.ty Ty)) := pe_bltn (c.gln h4) (c.bn _ h3) h5 rfl h6 h7
    exact pe_callB call_isi (c.gln h2) (c.bn _ h1) boot_isi (pa_cons (erE_ok h8 c tk) (pa_cons hT pa_nil (by rfl)) (h9 _)) (by decide) (by decide) (h9 _) (by rfl)
  | _, _, W, _, _, .lrg1 h1 h2 h3 h4 h5 h6, c, tk => pe_listRg c.calm (c.gln h2) (c.bn _ h1) (prg_1 (c.gln h4) (c.bn _ h3) (erE_ok h5 c tk) (h6 _)) (by rfl)
  | _, _, W, _, _, .trg1 h1 h2 h3 h4 h5 h6, c, tk => pe_tupRg c.calm (c.gln h2) (c.bn _ h1) (prg_1 (c.gln h4) (c.bn _ h3) (erE_ok h5 c tk) (h6 _)) (by rfl)
  | _, _, W, .mth o r es, _, .mth h0 h1 h2 h3 h4 h5 h6 h7, c, tk => by
    subst h0
    exact pe_bm (mth_plain o) (mth_slot o) (mth_type o) (mth_ok c.room o) (erE_ok h1 c tk) (erEs_ok h2 c tk) (h3 _) (h4 _) h5 (h6 _) (h7 _ _)
  | _, X, W, _, _, .lc (own := own) h0 h1 h2 h3 h4 h5 h6, c, tk => by
    subst h0
    exact pe_lc (own := own) c.calm c.nd (erSrc_ok h2 c tk) (by rw [c.N, c.sc]; exact h1) (fun s H C cl fp => erG_ok (c.blk s H C cl fp) h3) (fun s H C cl fp => erI_ok h4 (c.blk s H C cl fp) takes0) (fun s H C cl fp => erE_ok h5 (c.blk s H C cl fp) takes0) (h6 _)
  | B, X, W, .gen w vs t k es ifs el, _, .gen (own := own) (k' := k') h0 h00 h000 hk hg h1 h2 h3 h4 h5 h6 h7 h8 h9 h10, c, tk => by
    subst h1
    obtain ⟨cc, hcode, TB⟩ := c.code hg
    have hr : Room (k' + 1) X.A := by rw [← hk]; exact c.room
    have G : GenParts X k' _ _ _ _ _ own (iSrc X.K k (trEs X.K T W es)) (trG X.K t) (trI X.K T W0 ifs) (trE X.K T W0 el) :=
      ⟨erSrc_ok h6 c tk, by rw [c.N, c.sc]; exact h2, h3, h4, h5, fun A s H C cl code fp pn r => erG_ok (c.gen h3 A s H C cl code fp pn r) h7, fun A s H C cl code fp pn r => erI_ok h8 (c.gen h3 A s H C cl code fp pn r) takes0,
        fun A s H C cl code fp pn r => erE_ok h9 (c.gen h3 A s H C cl code fp pn r) takes0, h10 _⟩
    cases w with
    | true =>
      have h0 : _ = ("all" : Str) := h0
      subst h0
      exact pe_allG hr c.calm c.nd (c.gln h000) (c.bn _ h00) boot_all' TB hcode G
    | false =>
      have h0 : _ = ("any" : Str) := h0
      subst h0
      exact pe_anyG hr c.calm c.nd (c.gln h000) (c.bn _ h00) boot_any' TB hcode G
  | _, X, W, .dk0 t, _, .dk0, c, tk => by
    cases t with
    | true => exact pe_dnewT
    | false => exact pe_dnewK
  | _, X, W, .dk1 t k v, _, .dk1 h1 h2, c, tk => by
    cases t with
    | true => exact pe_disT (hu1 c.room) (erE_ok h1 c tk) (erE_ok h2 c tk)
    | false => exact pe_disK (erE_ok h1 c tk) (erE_ok h2 c tk)
  | _, X, W, .bf2 w a b, _, .bf2 h0 h1 h2 h3 h4 h5 h6, c, tk => by
    have ha := pa_cons (erE_ok h3 c tk) (pa_cons (erE_ok h4 c tk) pa_nil (h6 _)) (h5 _)
    cases w with
    | true =>
      have h0 : _ = ("max" : Str) := h0
      subst h0
      exact pe_callB (bf2_ok c.calm true) (c.gln h2) (c.bn _ h1) boot_max ha (by decide) (by decide) (h5 _) (by rw [h6]; rfl)
    | false =>
      have h0 : _ = ("min" : Str) := h0
      subst h0
      exact pe_callB (bf2_ok c.calm false) (c.gln h2) (c.bn _ h1) boot_min ha (by decide) (by decide) (h5 _) (by rw [h6]; rfl)
  | _, X, W, _, _, .dc (own := own) h0 h1 h2 h3 h4 h5 h55 h6, c, tk => by
    subst h0
    exact pe_dc (own := own) c.calm c.nd (erSrc_ok h2 c tk) (by rw [c.N, c.sc]; exact h1) (fun s H C cl fp => erG_ok (c.blk s H C cl fp) h3) (fun s H C cl fp => erI_ok h4 (c.blk s H C cl fp) takes0) (fun s H C cl fp => erE_ok h5 (c.blk s H C cl fp) takes0) (fun s H C cl fp => erE_ok h55 (c.blk s H C cl fp) takes0) (h6 _)
  | _, X, W, .bad, _, .bad, c, tk => ⟨fun _ _ _ _ _ _ h => h.elim⟩
theorem erB_ok {T : Tb} : ∀ {B : Bk} {X : Cx} {W : WX} {t : TE} {x : Expr} (w : Bool) (p : Pos) {es : MEs} {xs : List Expr}, PE X x t → ErEs T B es xs → Cp T B X → Takes X W → PE X (.BoolOp (bo w) (x :: xs) p) (trB X.K T W w t es)
  | _, _, W, _, _, w, p, _, _, hx, .nil, c, tk => pe_one hx
  | _, _, W, _, _, true, p, _, _, hx, .cons h1 h2 _, c, tk => pe_and hx (erB_ok true p (erE_ok h1 c tk) h2 c tk)
  | _, _, W, _, _, false, p, _, _, hx, .cons h1 h2 _, c, tk => pe_or hx (erB_ok false p (erE_ok h1 c tk) h2 c tk)
theorem erEs_ok {T : Tb} : ∀ {B : Bk} {X : Cx} {W : WX} {es : MEs} {xs : List Expr}, ErEs T B es xs → Cp T B X → Takes X W → PA X xs (tA (trEs X.K T W es))
  | _, _, W, _, _, .nil, c, tk => pa_nil
  | _, _, W, _, _, .cons h1 h2 h3, c, tk => pa_cons (erE_ok h1 c tk) (erEs_ok h2 c tk) (h3 _)
theorem erSrc_ok {T : Tb} : ∀ {B : Bk} {X : Cx} {W : WX} {tg : Expr} {k : IK} {es : MEs} {x : Expr}, ErSrc T B k es tg x → Cp T B X → Takes X W → PI X tg x (iSrc X.K k (trEs X.K T W es))
  | _, _, W, _, _, _, _, .val h, c, tk => pi_or (pi_seq (erE_ok h c tk)) (pi_keys (pe_lk (erE_ok h c tk)))
  | _, _, W, _, _, _, _, .rng1 h1 h2 h3 h4, c, tk => pi_range1 (c.gln h2) (c.bn _ h1) (pa_cons (erE_ok h3 c tk) pa_nil (h4 _)) (by rw [h4]; rfl)
  | _, _, W, _, _, _, _, .rng2 h1 h2 h3 h4 h5 h6, c, tk => pi_range2 (c.gln h2) (c.bn _ h1) (pa_cons (erE_ok h3 c tk) (pa_cons (erE_ok h4 c tk) pa_nil (h6 _)) (h5 _)) (by rw [h5, h6]; rfl) (by rw [h6]; rfl)
  | _, _, W, _, _, _, _, .enm h1 h2 h3 h4, c, tk => pi_enumA (c.gln h1) (c.bn _ h2) (pa_cons (erE_ok h3 c tk) pa_nil (h4 _)) (by rw [h4]; rfl)
theorem erO_ok {T : Tb} : ∀ {B : Bk} {X : Cx} {W : WX} {m : MO} {x : Option Expr}, ErO T B m x → Cp T B X → Takes X W → PO X x (trO X.K T W m)
  | _, _, W, _, _, .none, c, tk => po_none
  | _, _, W, _, _, .some h, c, tk => po_some (erE_ok h c tk)
theorem erI_ok {T : Tb} : ∀ {B : Bk} {X : Cx} {W : WX} {m : MI} {xs : List Expr}, ErI T B m xs → Cp T B X → Takes X W → PTs X xs (trI X.K T W m)
  | _, _, W, _, _, .none, c, tk => pts_nil
  | _, _, W, _, _, .some h, c, tk => pts_one (erC_ok h c tk)
theorem erC_ok {T : Tb} : ∀ {B : Bk} {X : Cx} {W : WX} {m : MC} {x : Expr}, ErC T B m x → Cp T B X → Takes X W → PT X x (trC X.K T W m)
  | _, _, W, _, _, .tv h1 h2, c, tk => pt_truth (erE_ok h1 c tk) (h2 _)
  | _, _, W, _, _, .cmp h0 h1 h2 h3, c, tk => by
    subst h0
    exact pt_cmpR (cm2_ok c.room _) (erE_ok h1 c tk) (erE_ok h2 c tk) h3
  | _, _, W, _, _, .isn h, c, tk => pt_cmp (pc_isN (erE_ok h c tk))
  | _, _, W, _, _, .isnt h, c, tk => pt_cmp (pc_notN (erE_ok h c tk))
  | _, _, W, _, _, .chn h0 h00 h1 h2 h3 h4, c, tk => by
    subst h0
    subst h00
    exact pt_chain (cm2_ok c.room _) (cm2_ok c.room _) (erE_ok h1 c tk) (erE_ok h2 c tk) (erE_ok h3 c tk) h4
  | _, _, W, .bop w c0 cs, .BoolOp o (x :: xs) p, .bop h0 h1 h2, c, tk => by
    subst h0
    exact (erCB_ok w p (erC_ok h1 c tk) h2 c tk).pt
  | _, _, W, _, _, .not h, c, tk => pt_not (erC_ok h c tk)
theorem erCB_ok {T : Tb} : ∀ {B : Bk} {X : Cx} {W : WX} {t : TT} {x : Expr} (w : Bool) (p : Pos) {cs : MCs} {xs : List Expr}, PT X x t → ErCs T B cs xs → Cp T B X → Takes X W → PW X (.BoolOp (bo w) (x :: xs) p) (trCB X.K T W w t cs)
  | _, _, W, _, _, true, p, _, _, hx, .nil, c, tk => pw_and1 hx
  | _, _, W, _, _, false, p, _, _, hx, .nil, c, tk => pw_or1 hx
  | _, _, W, _, _, true, p, _, _, hx, .cons h1 h2, c, tk => pw_and hx (erCB_ok true p (erC_ok h1 c tk) h2 c tk)
  | _, _, W, _, _, false, p, _, _, hx, .cons h1 h2, c, tk => pw_or hx (erCB_ok false p (erC_ok h1 c tk) h2 c tk)
end
end Ux

namespace Ux
open PySem PySem.Spec PyProof.Rows L2 GxR
/-- what isinstance asks of a caught error's class -/
structure IsF (K : PySem.W.Frag) (C : Addr) : Prop where
  c1 : (PySem.W.clsIn K C).isSome = true
  c2 : PySem.W.findIn K (.ref C) "__getattribute__" = some (some (.builtin "BaseException.__getattribute__"))
  c3 : PySem.W.findIn K (.ref C) "__getattr__" = some none
  c4 : PySem.W.subIn K (.ref C) (.type "BaseException") = some true
  c5 : PySem.W.findIn K (.ref C) "__class__" = some (some (.builtin "object.__class__"))
  c6 : PySem.W.specialIn K (.builtin "object.__class__") "__get__" = some (some (.builtin "getset_descriptor.__get__"))
  c7 : PySem.W.takesIn K (.builtin "object.__class__") = some true
  c8 : PySem.W.mroIn K C (.type "object") = some true
def rIsX (K : PySem.W.Frag) (C a d : Addr) (c : V) : List V → Hp → VK → Prop := fun xs H Q => ∃ kvs, xs = [.ref a, c] ∧ H d = some (.xd kvs) ∧ Q (.bl true) H
theorem call_isX {X : Cx} {a C d : Addr} {oe : Obj} {pn : List (Addr × Obj)} (F : IsF X.K C) (hz : Zc (.ref C) (some d) oe) (hf : ∃ vs, oe.data = .fields vs) {c : V} {cv : Value} (hc : ∀ u, RelV c u → u = cv) (hk : PySem.W.kitOne X.K (.ref C) cv = some true) :
    CallR (X.suite a ((a, oe) :: pn)) (.builtin "isinstance") (rIsX X.K C a d c) := by
  intro pins s σ H xs us Q I r h
  obtain ⟨kvs, rfl, hd, q⟩ := h
  match us, r with
  | [u1, u2], .cons rx (.cons rt .nil) =>
    cases rx
    have ec := hc u2 rt
    subst ec
    obtain ⟨hget, _⟩ := I.pin (a, oe) (List.mem_append.mpr (.inl List.mem_cons_self))
    obtain ⟨vs, hv⟩ := hf
    obtain ⟨oc, od, dt, sl⟩ := oe
    obtain ⟨h1, h2⟩ := hz
    have h1 : oc = .ref C := h1
    have h2 : od = some d := h2
    have hv : dt = .fields vs := hv
    subst h1 h2 hv
    have hob := I.hok
    have : ∃ o, s.heap.get? d = some o := by
      have z := I.hok d _ hd
      unfold ObjOk at z
      obtain ⟨mA, z, _⟩ := z
      unfold Heap.Ns1 at z
      obtain ⟨o, es, ep, z, _⟩ := z
      exact ⟨o, z⟩
    obtain ⟨o, ho⟩ := this
    have hI : PySem.W.InstAt s.heap a ⟨.ref C, some d, .fields vs, sl⟩ C (some o) := ⟨hget, rfl, rfl, ho⟩
    refine PySem.W.kia_one (PySem.W.kitx_exc F.c1 F.c2 F.c3 F.c4 F.c5 F.c6 F.c7 F.c8) ?_ hI hk (fun z => nomatch z) fun tk => ?_
    · exact I.kIn
    · exact ⟨.bl true, H, I.tok tk, rfl, q⟩
end Ux

namespace Ux
open PySem PySem.Spec PyProof.Rows L2 GxR
theorem Cp.vis' {T : Tb} {B : Bk} {X : Cx} (c : Cp T B X) {x : Str} (h : Vis B.sc x) : Vis X.env.scope x := by
  rw [c.sc]; exact h

mutual
inductive ErHe (B : Bk) (n : Str) : MHe → Expr → Prop
  | fld {f : Str} {p p2 : Pos} : Vis B.sc n → Nd n → (n == ("__classdict__" : Str)) = false → (∀ env, attributeBase (.Name n p) f env (eval (.Name n p) env) = eval (.Name n p) env) → ErHe B n (.fld f) (.Attribute (.Name n p) f p2)
  | str {x : Str} {j p} : ErHe B n (.con (.str x)) (.Constant (.str x) j p)
  | non {j p} : ErHe B n (.con .non) (.Constant .none j p)
  | tup {es : MHes} {xs : List Expr} {k p} : ErHes B n es xs → ErHe B n (.tup es) (.Tuple xs k p)
  | lst {es : MHes} {xs : List Expr} {p} : ErHes B n es xs → ErHe B n (.lst es) (.List xs p)
inductive ErHes (B : Bk) (n : Str) : MHes → List Expr → Prop
  | nil : ErHes B n .nil []
  | cons {e : MHe} {es : MHes} {x : Expr} {xs : List Expr} : ErHe B n e x → ErHes B n es xs → StarOk x xs → ErHes B n (.cons e es) (x :: xs)
end
/-- both tests take the class C -/
def IsT (K : PySem.W.Frag) (mg : Str → Option Value) (C : Addr) (c1 c2 : Str) : Prop := ∃ (D : Addr) (t2 : String), mg c1 = some (.ref D) ∧ bootBuiltins c2 = some (.type t2) ∧ PySem.W.kitOne K (.ref C) (.ref D) = some true ∧ PySem.W.kitOne K (.ref C) (.type t2) = some true ∧ IsF K C
def TvOk (x : Expr) : Prop := ∀ env whole, isTrue x env whole = (do let v ← whole; standAt x.pos; holding [v] (truthy v))
inductive ErH (T : Tb) (B : Bk) (n : Str) : MHs → Stmt → Prop
  | ret {e : MHe} {y : Expr} {p : Pos} : ErHe B n e y → ErH T B n (.ret e) (.Return (some y) p)
  | ite {cn c1 c2 : Str} {a b : MHe} {y z : Expr} {p q1 q2 q3 q4 q5 q6 q7 q8 q9 q10 : Pos} : ErHe B n a y → ErHe B n b z → Vis B.sc n → Nd n → (n == ("__classdict__" : Str)) = false → GlN B "isinstance" → GlN B c1 → GlN B c2 → Nd c1 → Nd c2 → c2 ≠ "__name__" → ("isinstance" : Str) ∈ T.bn → c2 ∈ T.bn →
      (∀ K mg C fld, T.px K mg → T.xt cn = some (C, fld) → IsT K mg C c1 c2) → StarOk (.Name n q2) [.Name c1 q3] → StarOk (.Name c1 q3) [] → StarOk (.Name n q6) [.Name c2 q7] → StarOk (.Name c2 q7) [] → TvOk (.Call (.Name "isinstance" q1) [.Name n q2, .Name c1 q3] [] q4) → TvOk (.Call (.Name "isinstance" q5) [.Name n q6, .Name c2 q7] [] q8) →
      ErH T B n (.ite cn a b) (.Return (some (.IfExp (.BoolOp .And [.Call (.Name "isinstance" q1) [.Name n q2, .Name c1 q3] [] q4, .Call (.Name "isinstance" q5) [.Name n q6, .Name c2 q7] [] q8] q9) y z q10)) p)
mutual
theorem erHe_ok {T : Tb} {B : Bk} {X : Cx} {i : Nat} {n : Str} (c : Cp T B X) (hi : T.N[i]? = some n) {cn fld : Str} {C : Addr} (hx : T.xt cn = some (C, fld)) {a : Addr} {oe : Obj} {d : Option Addr} {pn : List (Addr × Obj)} (hz : Zc (.ref C) d oe) (hf : ∃ vs, oe.data = .fields vs) :
    ∀ {h : MHe} {x : Expr}, ErHe B n h x → PE (X.suite a ((a, oe) :: pn)) x (trHe X.K a d C fld i h)
  | _, _, .fld h1 h2 h3 h4 => by
    have q := c.cx _ _ _ hx
    refine ⟨fun pins s σ H Q I h => ?_⟩
    obtain ⟨e, h⟩ := h
    subst e
    have hN : (X.suite a ((a, oe) :: pn)).N[i]? = some n := by show X.N[i]? = some n; rw [c.N]; exact hi
    exact (pe_xf (X := X) q.2.1 q.2.2.1 hz hf (pe_var hN (c.vis' h1) h2 h3) (h4 _)).run pins s σ H Q I h
  | _, _, .str => pe_str
  | _, _, .non => pe_non
  | _, _, .tup h => pe_tup (erHes_ok c hi hx hz hf h)
  | _, _, .lst h => pe_lst (erHes_ok c hi hx hz hf h)
theorem erHes_ok {T : Tb} {B : Bk} {X : Cx} {i : Nat} {n : Str} (c : Cp T B X) (hi : T.N[i]? = some n) {cn fld : Str} {C : Addr} (hx : T.xt cn = some (C, fld)) {a : Addr} {oe : Obj} {d : Option Addr} {pn : List (Addr × Obj)} (hz : Zc (.ref C) d oe) (hf : ∃ vs, oe.data = .fields vs) :
    ∀ {h : MHes} {x : List Expr}, ErHes B n h x → PA (X.suite a ((a, oe) :: pn)) x (tA (trHes X.K a d C fld i h))
  | _, _, .nil => pa_nil
  | _, _, .cons h1 h2 h3 => pa_cons (erHe_ok c hi hx hz hf h1) (erHes_ok c hi hx hz hf h2) (h3 _)
end
mutual
inductive ErS (T : Tb) : Bk → MS → Stmt → Prop
  | set {B : Bk} {i : Nat} {x : Str} {e : ME} {y : Expr} {p p' : Pos} : T.N[i]? = some x → Loc B.so x → ErE T B e y → (∀ env : PySem.Env, env.scope = B.sc → swapsWith y (some (.Name x p')) p.line env = pure false) → ErS T B (.set i e) (.Assign [.Name x p'] y p)
  | setc {B : Bk} {i : Nat} {x : Str} {own : List (Str × Nat)} {t : MT} {k : IK} {es : MEs} {ifs : MI} {el : ME} {tx it ex : Expr} {cs : List Expr} {scope : Scope} {p p' q : Pos} {vs : List Nat} : T.N[i]? = some x → B.sc.names.lookup x = some .local → B.sc.kind = .function → (p'.line == p.line) = true →
      (scope.names.any fun (n, k) => n == x && (k == .local || k == .cell)) = false → own.map (·.2) = vs → BlkOk T.N B.sc scope own → ErSrc T B k es tx it →
      ErG T ⟨relS scope B.sc, scope, B.k, B.g⟩ t tx → ErI T ⟨relS scope B.sc, scope, B.k, B.g⟩ ifs cs → ErE T ⟨relS scope B.sc, scope, B.k, B.g⟩ el ex → (∀ env v, foldedSetIterable it env v = pure v) →
      ErS T B (.set i (.lc vs t k es ifs el)) (.Assign [.Name x p'] (.ListComp ex [⟨tx, it, cs, 0⟩] scope p) q)
  | unp {B : Bk} {t : MT} {e : ME} {tx y : Expr} {p : Pos} : ErG T B t tx → ErE T B e y → (∀ env, swapsWithSole [tx] y p.line env = pure false) → (∀ env, swappedStores [tx] y env = pure none) → (∀ env, (assignEach [tx] env).map (·.2) = [assign tx env]) → ErS T B (.unp t e) (.Assign [tx] y p)
  | sub {B : Bk} {o i v : ME} {ox ix vx : Expr} {p q : Pos} : ErE T B o ox → ErE T B i ix → ErE T B v vx →
      (∀ env v, assign (.Subscript ox ix q) env v = (do
        let ov ← holding [v] (eval ox env)
        let iv ← holding [v, ov] (eval ix env)
        standAt q
        holding [v, ov, iv] (setItem ov iv v)
        release [v, ov, iv] [])) → (∀ env, swapsWithSole [.Subscript ox ix q] vx p.line env = pure false) → (∀ env, swappedStores [.Subscript ox ix q] vx env = pure none) →
      (∀ env, (assignEach [.Subscript ox ix q] env).map (·.2) = [assign (.Subscript ox ix q) env]) → ErS T B (.sub o i v) (.Assign [.Subscript ox ix q] vx p)
  | ex {B : Bk} {e : ME} {y : Expr} {p : Pos} : ErE T B e y → (∀ env, swapsWith y none p.line env = pure false) → ErS T B (.ex e) (.Expr y p)
  | ret {B : Bk} {e : ME} {y : Expr} {p : Pos} : ErE T B e y → ErS T B (.ret e) (.Return (some y) p)
  | retn {B : Bk} {p : Pos} : ErS T B .retn (.Return none p)
  | ite {B : Bk} {c : MC} {a b : MSs} {x : Expr} {xs ys : List Stmt} {p : Pos} : ErC T B c x → ErSs T B a xs → ErSs T B b ys → ErS T B (.ite c a b) (.If x xs ys p)
  | whl {B : Bk} {c : MC} {b : MSs} {x : Expr} {xs : List Stmt} {p : Pos} : ErC T B c x → ErSs T B b xs → ErS T B (.whl c b) (.While x xs [] p)
  | fr {B : Bk} {t : MT} {k : IK} {es : MEs} {b : MSs} {tx it : Expr} {xs : List Stmt} {p : Pos} : ErG T B t tx → ErSrc T B k es tx it → ErSs T B b xs → (∀ env v, foldedSetIterable it env v = pure v) → ErS T B (.fr t k es b) (.For tx it xs [] p)
  | pass {B : Bk} {p : Pos} : ErS T B .pass (.Pass p)
  | brk {B : Bk} {p : Pos} : ErS T B .brk (.Break p)
  | cnt {B : Bk} {p : Pos} : ErS T B .cnt (.Continue p)
  | nev {B : Bk} {s : Stmt} : ErS T B .nev s
  | rs {B : Bk} {c : Str} {C : Addr} {fld : Str} {e : ME} {y : Expr} {p pos pos2 : Pos} : T.xt c = some (C, fld) → 2 ≤ B.k → GlN B c → ErE T B e y → StarOk y [] → PlainOk [] → ErS T B (.rs c fld e) (.Raise (some (.Call (.Name c p) [y] [] pos)) none pos2)
  | trr {B : Bk} {b : MSs} {c n : Str} {C : Addr} {i : Nat} {h : MHs} {cs ns : List Str} {xs : List Stmt} {s : Stmt} {np pos' pos : Pos} : T.N[i]? = some n → B.sc.names.lookup n = some .local → GlN B c → Nd c → ErSs T B b xs → ErH T B n h s → (∀ x, mem x cs = true → T.xm x c = true) → (∀ x, mem x ns = true → T.xm x c = false) → T.xh c = some C → ErS T B (.trr b c cs ns i h) (.Try xs [.ExceptHandler (some (.Name c np)) (some n) [s] pos'] [] [] pos)
inductive ErSs (T : Tb) : Bk → MSs → List Stmt → Prop
  | nil {B : Bk} : ErSs T B .nil []
  | cons {B : Bk} {m : MS} {ms : MSs} {s : Stmt} {r : List Stmt} : ErS T B m s → ErSs T B ms r → ErSs T B (.cons m ms) (s :: r)
end
theorem Cp.tr {T : Tb} {B : Bk} {X : Cx} (c : Cp T B X) (pn : List (Addr × Obj)) (xe : Value → Shared → Prop) (hp : PassesOwn (model X.prog X.w) X.A X.env xe) : Cp T B (X.tr pn xe) :=
  ⟨c.N, c.nd, c.sc, c.st, c.calm, c.room, hp, c.bn, c.fn, c.gl, c.cx, c.ch, c.cm, c.px, c.code⟩
/-- a def's own frame -/
def OwnFr (X : Cx) : Prop := X.stack = X.env :: X.outer ∧ X.env.frame = some X.env.locals
mutual
theorem erS_ok {T : Tb} : ∀ {B : Bk} {X : Cx} {W : WX} {m : MS} {s : Stmt}, ErS T B m s → Cp T B X → Takes X W → OwnFr X → PS X s (trS X.K T W m)
  | _, X, W, _, _, .set h1 h2 h3 h4, c, tk, ow => ps_set (hf := (c.st _ h2).2) c.nd (by rw [c.N]; exact h1) (c.st _ h2).1 (erE_ok h3 c tk) (h4 _ c.sc)
  | _, X, W, _, _, .setc (x := x0) (own := own) h1 h2 hk h3 h4 h5 h6 h7 h8 h9 h10 h11, c, tk, ow => by
    subst h5
    have hl : X.env.scope.names.lookup x0 = some NameKind.local := by rw [c.sc]; exact h2
    exact ps_setLc (own := own) c.calm c.nd (by rw [c.N]; exact h1) hl (sw_true (by rw [c.sc]; exact hk) hl h3 h4) (erSrc_ok h7 c tk) (by rw [c.N, c.sc]; exact h6) (fun s H C cl fp => erG_ok (c.blk s H C cl fp) h8) (fun s H C cl fp => erI_ok h9 (c.blk s H C cl fp) takes0) (fun s H C cl fp => erE_ok h10 (c.blk s H C cl fp) takes0) (h11 _)
  | _, X, W, _, _, .unp h1 h2 h3 h4 h5, c, tk, ow => ps_asg (erE_ok h2 c tk) (erG_ok c h1) (h3 _) (h4 _) (h5 _)
  | _, X, W, _, _, .sub h1 h2 h3 h4 h5 h6 h7, c, tk, ow => ps_asg (erE_ok h3 c tk) (pg_sub (erE_ok h1 c tk) (erE_ok h2 c tk) (set_any (hu1 c.room)) (h4 _)) (h5 _) (h6 _) (h7 _)
  | _, X, W, _, _, .ex h1 h2, c, tk, ow => ps_expr (erE_ok h1 c tk) (h2 _)
  | _, X, W, _, _, .ret h, c, tk, ow => ps_ret (erE_ok h c tk)
  | _, X, W, _, _, .retn, c, tk, ow => ps_retN
  | _, X, W, _, _, .ite h1 h2 h3, c, tk, ow => ps_if (erC_ok h1 c tk) (erSs_ok h2 c tk ow) (erSs_ok h3 c tk ow)
  | _, X, W, _, _, .whl h1 h2, c, tk, ow => ps_while c.po (erC_ok h1 c tk) (erSs_ok h2 c tk ow)
  | _, X, W, _, _, .fr h1 h2 h3 h4, c, tk, ow => ps_for c.po c.calm (erSrc_ok h2 c tk) (erG_ok c h1) (erSs_ok h3 c tk ow) (h4 _)
  | _, X, W, _, _, .pass, c, tk, ow => ps_pass
  | _, X, W, _, _, .brk, c, tk, ow => ps_break
  | _, X, W, _, _, .cnt, c, tk, ow => ps_continue
  | _, X, W, _, _, .nev, c, tk, ow => ps_never
  | _, X, W, .rs c0 _ e, _, .rs (C := C) (fld := fld) h1 hk h2 h3 h4 h5, c, tk, ow => by
    have q := fun p pos => (c.cx _ _ _ h1).2.2.2 X _ (tA [trE X.K T W e]) p pos rfl rfl (c.room.mono hk) (pa_cons (erE_ok h3 c tk) pa_nil (h4 _)) (c.gln h2) (h4 _) (h5 _ _)
    refine ⟨fun pins s σ H D I h => (ps_raise c.calm tk (q _ _)).run pins s σ H D I ?_⟩
    have e9 : (fun (vs : List V) (H1 : Hp) => ∃ v, vs = [v] ∧ ∀ C, T.xt c0 = some (C, fld) → ∀ d, H1 d = none → W (.ref C) (some d) σ (upd H1 d (.xd [(fld, v)]))) = fun vs H1 => ∃ v, vs = [v] ∧ ∀ d, H1 d = none → W (.ref C) (some d) σ (upd H1 d (.xd [(fld, v)])) := by
      funext vs H1
      apply propext
      constructor
      · rintro ⟨v, e, q⟩
        exact ⟨v, e, q C h1⟩
      · rintro ⟨v, e, q⟩
        refine ⟨v, e, fun C' h => ?_⟩
        rw [h1] at h
        cases h
        exact q
    have h : tA [trE X.K T W e] σ H (fun vs H1 => ∃ v, vs = [v] ∧ ∀ C, T.xt c0 = some (C, fld) → ∀ d, H1 d = none → W (.ref C) (some d) σ (upd H1 d (.xd [(fld, v)]))) := h
    rw [e9] at h
    exact h
  | _, X, W, .trr b c0 _ _ i h, _, .trr (n := n) (C := C) h1 h2 h3 h4 h5 h6 h7 h8 hc, c, tk, ow => by
    have hl : X.env.kindOf n = some .local := by
      show X.env.scope.names.lookup n = some .local
      rw [c.sc]; exact h2
    refine ⟨fun pins s σ H D I hh => (ps_try_as (tb := fun W => trSs X.K T W b) (ts := fun a cls d => trH X.K T a cls d i h) (Wout := W) ow.1 ow.2 c.nd (by rw [c.N]; exact h1) hl ⟨c.gln h3, h4, .inl (c.ch _ _ hc)⟩ tk
        (fun W' pn xe tk' po => erSs_ok h5 (c.tr pn xe po) tk' ow) fun a oe cls d pn hz hf => ?_).run pins s σ H D I (hh C hc h7 h8)⟩
    cases h6 with
    | ret h6 =>
      refine ⟨fun pins s σ H D I hh => ?_⟩
      obtain ⟨c', C', fld, e1, e2, hh⟩ := hh
      subst e2
      exact (pss_one (ps_ret (erHe_ok c h1 e1 hz hf h6))).run pins s σ H D I hh
    | @ite cn c1 c2 ha hb y z p0 q1 q2 q3 q4 q5 q6 q7 q8 q9 q10 a1 a2 a3 a4 a5 a6 a7 a8 a9 a10 a11 a12 a13 hT s1 s2 s3 s4 v1 v2 =>
      refine ⟨fun pins s σ H D I hh => ?_⟩
      obtain ⟨C', fld, kvs, dd, e1, e2, e3, hd, hs, hh⟩ := hh
      subst e2 e3
      have m3 := c.bn _ a12
      have m2 := c.bn _ a13
      obtain ⟨D0, t2, m1, b2, k1, k2, F⟩ := hT _ _ _ _ c.px e1
      have hN : (X.suite a ((a, oe) :: pn)).N[i]? = some n := by show X.N[i]? = some n; rw [c.N]; exact h1
      have pn1 : ∀ q, PE (X.suite a ((a, oe) :: pn)) (.Name n q) (tVar i) := fun q => pe_var hN (c.vis' a3) a4 a5
      have p1 : ∀ q, PE (X.suite a ((a, oe) :: pn)) (.Name _ q) (tC (.ref D0)) := fun q => pe_glob (c.gln a7) m1 rfl a9
      have p2 : ∀ q, PE (X.suite a ((a, oe) :: pn)) (.Name _ q) (tC (.ty t2)) := fun q => pe_bltn (c.gln a8) m2 b2 rfl a11 a10
      have w1 : PE (X.suite a ((a, oe) :: pn)) (.Call (.Name "isinstance" q1) [.Name n q2, .Name c1 q3] [] q4) (tCB (rIsX X.K C' a dd (.ref D0)) (tA [tVar i, tC (.ref D0)])) := pe_callB (call_isX (pn := pn) F hz hf (c := .ref D0) (cv := .ref D0) (fun u h => h) k1) (c.gln a6) m3 boot_isi (pa_cons (pn1 _) (pa_cons (p1 _) pa_nil (s2 _)) (s1 _)) (by decide) (by decide) (s1 _) (by rw [s2]; rfl)
      have w2 : PE (X.suite a ((a, oe) :: pn)) (.Call (.Name "isinstance" q5) [.Name n q6, .Name c2 q7] [] q8) (tCB (rIsX X.K C' a dd (.ty t2)) (tA [tVar i, tC (.ty t2)])) := pe_callB (call_isX (pn := pn) F hz hf (c := .ty t2) (cv := .type t2) (fun u h => h) k2) (c.gln a6) m3 boot_isi (pa_cons (pn1 _) (pa_cons (p2 _) pa_nil (s4 _)) (s3 _)) (by decide) (by decide) (s3 _) (by rw [s4]; rfl)
      have tt := (pw_and (pos := q9) (pt_truth w1 (v1 _)) (pw_and1 (pt_truth w2 (v2 _)))).pt
      refine (pss_one (ps_ret (pe_ifExp tt (erHe_ok c h1 e1 hz hf a1) (erHe_ok c h1 e1 hz hf a2)))).run pins s σ H D I ?_
      refine ⟨_, hs, kvs, rfl, hd, true, rfl, ?_⟩
      refine ⟨_, hs, kvs, rfl, hd, true, rfl, ?_⟩
      exact hh
theorem erSs_ok {T : Tb} : ∀ {B : Bk} {X : Cx} {W : WX} {m : MSs} {s : List Stmt}, ErSs T B m s → Cp T B X → Takes X W → OwnFr X → PSs X s (trSs X.K T W m)
  | _, _, W, _, _, .nil, c, tk, ow => pss_nil
  | _, _, W, _, _, .cons h1 h2, c, tk, ow => pss_cons (erS_ok h1 c tk ow) (erSs_ok h2 c tk ow)
end
end Ux

namespace Ux
open PySem PySem.Spec PyProof.Rows L2 GxR
section
variable {K : PySem.W.Frag} {tabs : List Addr} {b : B0} {g g' : Gh} {H H' : Hp}
theorem Reps.some : ∀ {vs : List V} {ds : List D} {n : Nat} {i : Nat} {q : D × Bool}, Reps K g H vs ds → (ds.map (fun d => some (d, false)) ++ List.replicate n none)[i]? = some (some q) → ∃ v, (vs.map some ++ List.replicate n none)[i]? = some (some v) ∧ Rep K g H v q.1 ∧ q.2 = false
  | _, _, n, i, q, .nil, e => by
    simp only [List.map_nil, List.nil_append] at e
    rw [List.getElem?_replicate] at e
    split at e <;> cases e
  | _, _, n, 0, q, .cons r t, e => by
    simp only [List.map_cons, List.cons_append, List.getElem?_cons_zero, Option.some.injEq] at e ⊢
    subst e
    exact ⟨_, rfl, r, rfl⟩
  | _, _, n, i + 1, q, .cons r t, e => by
    simp only [List.map_cons, List.cons_append, List.getElem?_cons_succ] at e ⊢
    exact t.some e
theorem GRel.start {w : Wd} {N : List Str} {vs : List V} {ds : List D} (r : GRel K tabs b g w H) (h : Reps K g H vs ds) : Rel K tabs b g { sl := ds.map (fun d => some (d, false)) ++ List.replicate (N.length - ds.length) none, w := w } (L2.start N vs) H where
  toGRel := r
  old := fun i d e => by
    obtain ⟨v, h1, h2, _⟩ := h.some e
    refine ⟨v, ?_, h2⟩
    unfold L2.start
    rw [h.length]
    exact h1
  own := fun i d e => by
    obtain ⟨v, h1, h2, h3⟩ := h.some e
    cases h3
  dis := fun i j di dj a ne e => by
    obtain ⟨v, h1, h2, h3⟩ := h.some e
    cases h3
  len := by
    unfold L2.start
    simp only [List.length_append, List.length_map, List.length_replicate, h.length]
end
section
variable {P : Program} {w : World} {K : PySem.W.Frag} {mg : Str → Option Value} {base : Heap}
/-- a def answers as its evaluator says -/
theorem def_ok {name qual : Str} {f : Addr} {params : Arguments} {body : List Stmt} {scope : Scope} {dV kV doc pm cdv ct oc : Value} {an od : Option Addr} {osl : Array (Option Value)} {ps : List Str} (lk : K.lookup f = some ⟨oc, od, .func (PySem.W.fnOf name qual params body scope dV kV doc pm an cdv ct), osl⟩)
    (hcd : PySem.W.codeIn K cdv qual = true) {T : Tb} (S : FnScope T.N ps scope) {df : Df} (har : df.ar = ps.length) (hn : df.n = T.N.length) {k : Nat} {gb : Bool} (er : ErSs T ⟨scope, scope, k, gb⟩ df.body body) (hbn : ∀ x ∈ T.bn, mg x = none)
    (hfn : ∀ f fe, T.fn f = some fe → FnOk P w K mg base (L2.CX P w) fe.lv fe.f fe.fd fe.ps fe.sp ∧ mg f = some (.ref fe.f) ∧ PySem.W.keepIn K (.ref fe.f) = true ∧ Binds K fe.fd fe.ps []) (hgl : ∀ x v, T.gl x = some v → ∃ u, mg x = some u ∧ RelV v u)
    (hcx : ∀ c C fld, T.xt c = some (C, fld) → XcOk K mg c C fld) (hch : ∀ h C, T.xh h = some C → mg h = some (.ref C)) (hcm : ∀ c C fld h D, T.xt c = some (C, fld) → T.xh h = some D → PySem.W.exmOne K (.ref C) (.ref D) = some (T.xm c h)) (hpx : T.px K mg)
    (hcode : gb = true → ∃ c, cdv = .ref c ∧ TabB base mg c T.P) {F : Str → Fn} {tabs : List Addr} (hF : ∀ f ds w, F f ds w ≠ .no → ∃ fe, T.fn f = some fe ∧ ∀ vs H Q E, spOf K tabs T.xt (F f) vs H Q E → fe.sp vs H Q E) (hP : T.P ∈ tabs) :
    FnOk P w K mg base (L2.CX P w) (k + 1) f (PySem.W.fnOf name qual params body scope dV kV doc pm an cdv ct) ps (spOf K tabs T.xt (runD F df)) := by
  have har' : ∀ ds w, runD F df ds w ≠ .no → ds.length = ps.length := fun ds w e => by
    unfold runD at e
    split at e
    · exact absurd rfl e
    · rename_i hl
      simp only [ne_eq, Decidable.not_not] at hl
      rw [hl, har]
  refine fn_of lk hcd S (fun vs H Q E h => ?_) fun A outer s H vs Q E hr h => ⟨trSs K T (fun cls d _ H => E cls d H) df.body, ?_, ?_⟩
  · obtain ⟨g, ds, w, gr, rs, ⟨d, fr, w', e, _⟩ | ⟨x, w', e, _⟩⟩ := h
    · rw [rs.length]
      exact har' ds w (by rw [e]; exact fun z => nomatch z)
    · rw [rs.length]
      exact har' ds w (by rw [e]; exact fun z => nomatch z)
  · exact erSs_ok er ⟨rfl, S.nd, rfl, fun x hx => ⟨hx, .inl rfl⟩, rfl, hr, passes_of rfl, hbn, hfn, hgl, hcx, hch, hcm, hpx, hcode⟩ (takes_of rfl rfl rfl rfl) ⟨rfl, rfl⟩
  · obtain ⟨g, ds, w, gr, rs, h⟩ := h
    rcases h with ⟨d, fr, w', e, q⟩ | ⟨x, w', e, q⟩
    · unfold runD at e
      split at e
      · cases e
      · obtain ⟨fl, e1, e2⟩ := R.bd_eq e
        refine evSs_ok hF hP hcm _ df.body ⟨g, H⟩ g _ _ H _ fl e1 (by rw [hn]; exact gr.start (N := T.N) rs) ?_
        cases fl with
        | nx Γ =>
          cases e2
          refine fun g' σ' H' r s _ => q _ g' H' r.toGRel ?_
          unfold RetP
          rw [Bool.false_and, if_neg (by simp)]
          exact .non
        | brk Γ => cases e2
        | cnt Γ => cases e2
        | ret d fr w =>
          cases e2
          exact fun v g' H' r rp s => q v g' H' r rp
    · unfold runD at e
      split at e
      · cases e
      · rcases R.bd_er e with h | ⟨fl, e1, e2⟩
        · exact evSs_er hF hP hcm _ df.body ⟨g, H⟩ g _ _ H _ x w' h (by rw [hn]; exact gr.start (N := T.N) rs) fun cls od σ' g' H' r s hx _ => q cls od g' H' r hx
        · cases fl <;> cases e2
end
end Ux

namespace Ux
open PySem PySem.Spec PyProof.Rows L2 GxR
def fnL : List (Str × Fe) → Str → Option Fe
  | [], _ => none
  | e :: r, x => if e.1 = x then some e.2 else fnL r x
def enN : List (Str × Fn) → Str → Fn
  | [], _ => fun _ _ => .no
  | e :: r, x => if e.1 = x then e.2 else enN r x
def glL : List (Str × V) → Str → Option V
  | [], _ => none
  | e :: r, x => if e.1 = x then some e.2 else glL r x
/-- the text's error classes -/
structure Xs where
  xt : Str → Option (Addr × Str)
  xh : Str → Option Addr
  xm : Str → Str → Bool
  px : PySem.W.Frag → (Str → Option Value) → Prop
structure XsOk (K : PySem.W.Frag) (mg : Str → Option Value) (xs : Xs) : Prop where
  cx : ∀ c C fld, xs.xt c = some (C, fld) → XcOk K mg c C fld
  ch : ∀ h C, xs.xh h = some C → mg h = some (.ref C)
  cm : ∀ c C fld h D, xs.xt c = some (C, fld) → xs.xh h = some D → PySem.W.exmOne K (.ref C) (.ref D) = some (xs.xm c h)
  px : xs.px K mg
/-- what is known of a def -/
structure Kn (P : Program) (w : World) (K : PySem.W.Frag) (mg : Str → Option Value) (base : Heap) (tabs : List Addr) (xs : Xs) (n : Str) (fe : Fe) (m : Fn) : Prop where
  ok : FnOk P w K mg base (L2.CX P w) fe.lv fe.f fe.fd fe.ps fe.sp
  mg : mg n = some (.ref fe.f)
  kp : PySem.W.keepIn K (.ref fe.f) = true
  bd : Binds K fe.fd fe.ps []
  sp : fe.sp = spOf K tabs xs.xt m
inductive Kns (P : Program) (w : World) (K : PySem.W.Frag) (mg : Str → Option Value) (base : Heap) (tabs : List Addr) (xs : Xs) : List (Str × Fe) → List (Str × Fn) → Prop
  | nil : Kns P w K mg base tabs xs [] []
  | cons {n : Str} {fe : Fe} {m : Fn} {l : List (Str × Fe)} {ms : List (Str × Fn)} : Kn P w K mg base tabs xs n fe m → Kns P w K mg base tabs xs l ms → Kns P w K mg base tabs xs ((n, fe) :: l) ((n, m) :: ms)
section
variable {P : Program} {w : World} {K : PySem.W.Frag} {mg : Str → Option Value} {base : Heap} {tabs : List Addr} {xs : Xs}
theorem Kns.hfn : ∀ {l : List (Str × Fe)} {ms : List (Str × Fn)}, Kns P w K mg base tabs xs l ms → ∀ f fe, fnL l f = some fe → FnOk P w K mg base (L2.CX P w) fe.lv fe.f fe.fd fe.ps fe.sp ∧ mg f = some (.ref fe.f) ∧ PySem.W.keepIn K (.ref fe.f) = true ∧ Binds K fe.fd fe.ps []
  | _, _, .nil, f, fe, e => by cases e
  | _, _, .cons (n := n) k r, f, fe, e => by
    unfold fnL at e
    split at e
    · rename_i h
      cases e
      have h : n = f := h
      subst h
      exact ⟨k.ok, k.mg, k.kp, k.bd⟩
    · exact r.hfn f fe e
theorem Kns.hF : ∀ {l : List (Str × Fe)} {ms : List (Str × Fn)}, Kns P w K mg base tabs xs l ms → ∀ f ds w, enN ms f ds w ≠ .no → ∃ fe, fnL l f = some fe ∧ ∀ vs H Q E, spOf K tabs xs.xt (enN ms f) vs H Q E → fe.sp vs H Q E
  | _, _, .nil, f, ds, w, e => absurd rfl e
  | _, _, .cons (n := n) (m := m) (l := l) (ms := ms) k r, f, ds, w, e => by
    by_cases h : n = f
    · have e1 : enN ((n, m) :: ms) f = m := if_pos h
      refine ⟨_, if_pos h, fun vs H Q E hs => ?_⟩
      rw [e1] at hs
      rw [k.sp]
      exact hs
    · have e1 : enN ((n, m) :: ms) f = enN ms f := if_neg h
      rw [e1] at e
      obtain ⟨fe, h1, h2⟩ := r.hF f ds w e
      exact ⟨fe, (if_neg h).trans h1, fun vs H Q E hs => h2 vs H Q E (by rw [← e1]; exact hs)⟩
/-- a def of the text, known by its evaluator -/
theorem kn_def {name : Str} {st : Stmt} {f : Addr} {kV doc pm cdv ct oc : Value} {an od : Option Addr} {osl : Array (Option Value)} {ps : List Str} (lk : K.lookup f = some ⟨oc, od, .func (PySem.W.fnOf name name (defArgs st) (defBody st) (defScope st) .none kV doc pm an cdv ct), osl⟩)
    (hcd : PySem.W.codeIn K cdv name = true) (kp : PySem.W.keepIn K (.ref f) = true) (hmg : mg name = some (.ref f)) {N bn : List Str} {gl : List (Str × V)} {l : List (Str × Fe)} {ms : List (Str × Fn)} {Pt : Addr} (S : FnScope N ps (defScope st)) {df : Df} (har : df.ar = ps.length) (hn : df.n = N.length) {k : Nat} {gb : Bool}
    (er : ErSs ⟨N, fnL l, glL gl, bn, Pt, xs.xt, xs.xh, xs.xm, xs.px⟩ ⟨defScope st, defScope st, k, gb⟩ df.body (defBody st)) (hbn : ∀ x ∈ bn, mg x = none) (hgl : ∀ e ∈ gl, ∃ u, mg e.1 = some u ∧ RelV e.2 u)
    (hxs : XsOk K mg xs) (hcode : gb = true → ∃ c, cdv = .ref c ∧ TabB base mg c Pt) (hk : Kns P w K mg base tabs xs l ms) (hP : Pt ∈ tabs)
    (hb : ∀ (kV doc pm : Value) (an : Option Addr) (cdv ct : Value) (us : List Value), us.length = ps.length → bindArgs (PySem.W.fnOf name name (defArgs st) (defBody st) (defScope st) .none kV doc pm an cdv ct) ⟨us, []⟩ = pure (ps.zip us)) :
    Kn P w K mg base tabs xs name ⟨f, PySem.W.fnOf name name (defArgs st) (defBody st) (defScope st) .none kV doc pm an cdv ct, ps, k + 1, spOf K tabs xs.xt (runD (enN ms) df)⟩ (runD (enN ms) df) where
  ok := def_ok lk hcd (T := ⟨N, fnL l, glL gl, bn, Pt, xs.xt, xs.xh, xs.xm, xs.px⟩) S har hn er hbn hk.hfn (fun x v e => by
    have : ∀ (gl : List (Str × V)), (∀ e ∈ gl, ∃ u, mg e.1 = some u ∧ RelV e.2 u) → glL gl x = some v → ∃ u, mg x = some u ∧ RelV v u := fun gl => by
      induction gl with
      | nil => intro _ e; cases e
      | cons a r ih =>
        intro h e
        unfold glL at e
        split at e
        · rename_i hx
          cases e
          obtain ⟨u, h1, h2⟩ := h a (by simp)
          exact ⟨u, by rw [← hx]; exact h1, h2⟩
        · exact ih (fun e he => h e (by simp [he])) e
    exact this gl hgl e) hxs.cx hxs.ch hxs.cm hxs.px hcode hk.hF hP
  mg := hmg
  kp := kp
  bd := .all (hb kV doc pm an cdv ct)
  sp := rfl
end
end Ux

namespace Ux
open PySem PySem.Spec PyProof.Rows L2 GxR
/-! ### the stream -/
def cell0 (xs : List Int) (k : Nat) : Int := match xs[k]? with
  | some x => if x < 0 then -x else x
  | none => 7 + k
def mixA (c : Int) (k : Nat) : Int := (c * 48271 + k * 69621 + 11) % 2147483647
def mixB (d : Int) : Int := (d * 16807 + 13) % 2147483647 * 65537 + d
def mixC (c : Int) (k : Nat) : Int := if c < 10 ^ 18 then mixB (mixA c k) else c
def fillS (s : Strm) : Strm := if s.cell = 0 then ⟨s.xs, mixC (cell0 s.xs s.k) s.k, s.k + 1⟩ else s
def mNext : Fn := fun ds w => match ds, w with
  | [.strm, .int n], some s => if 0 < n ∧ n < 1073741824 then .ok (.int ((fillS s).cell % n), false, some { fillS s with cell := (fillS s).cell / n }) else .no
  | _, _ => .no
def mStream : Fn := fun ds w => match ds, w with
  | [.scr ns], none => .ok (.strm, false, some ⟨ns, 0, 0⟩)
  | [.lst xs], none => match intsD xs with
    | some ns => .ok (.strm, false, some ⟨ns, 0, 0⟩)
    | none => .no
  | _, _ => .no
section
variable {K : PySem.W.Frag} {tabs : List Addr} {b : B0} {g g' : Gh} {H H' : Hp} {A L : Addr} {c k : Int} {Q : VK}
theorem FzL.seq {a : Addr} {xs : List V} (h : FzL K H a xs) : SqL K H a xs := by
  rcases h with ⟨o, h⟩ | h
  · exact .inl (.inr ⟨o, h⟩)
  · exact .inr h
def SObj (H : Hp) (A L : Addr) (c k : Int) : Prop := H A = some (.lst [.ref L, .int c, .int k])
theorem lix0 (h : SObj H A L c k) (q : Q (.ref L) H) : rIxA K (.ref A) (.int 0) H Q := .inl (.inl ⟨A, _, 0, _, rfl, rfl, .of h, rfl, q⟩)
theorem lix1 (h : SObj H A L c k) (q : Q (.int c) H) : rIxA K (.ref A) (.int 1) H Q := .inl (.inl ⟨A, _, 1, _, rfl, rfl, .of h, rfl, q⟩)
theorem lix2 (h : SObj H A L c k) (q : Q (.int k) H) : rIxA K (.ref A) (.int 2) H Q := .inl (.inl ⟨A, _, 2, _, rfl, rfl, .of h, rfl, q⟩)
theorem lset1 {c' : Int} {Q : Hp → Prop} (h : SObj H A L c k) (q : Q (upd H A (.lst [.ref L, .int c', .int k]))) : rSetL (.ref A) (.int 1) (.int c') H Q := ⟨A, _, 1, 1, rfl, rfl, h, rfl, q⟩
theorem lset2 {k' : Int} {Q : Hp → Prop} (h : SObj H A L c k) (q : Q (upd H A (.lst [.ref L, .int c, .int k']))) : rSetL (.ref A) (.int 2) (.int k') H Q := ⟨A, _, 2, 2, rfl, rfl, h, rfl, q⟩
theorem leq0 (q : Q (.bl (decide (c = 0))) H) : c2 K .eq (.int c) (.int 0) H Q := ⟨.int c, .int 0, .int c, .int 0, rfl, rfl, by
  have : PyData.eqv (.int c) (.int 0) = decide (c = 0) := by
    simp [PyData.eqv]
    try (by_cases h : c = 0 <;> simp [h])
  rw [this]; exact q⟩
theorem ladd {i j : Int} (q : Q (.int (i + j)) H) : r2 K .add (.int i) (.int j) H Q := .inl ⟨i, j, rfl, rfl, q⟩
theorem lmod {i j : Int} (h : 0 < j) (q : Q (.int (i % j)) H) : r2 K .mod (.int i) (.int j) H Q := ⟨i, j, rfl, rfl, h, q⟩
theorem lmul {i j : Int} (h : -(2 ^ 64) < j ∧ j < 2 ^ 64) (q : Q (.int (i * j)) H) : r2 K .mul (.int i) (.int j) H Q := .inl ⟨i, j, rfl, rfl, .inr h, q⟩
theorem GRel.setS {s s' : Strm} (r : GRel K tabs b g (some s) H) (e : g.sa = some (A, L)) (nb : b.H A = none ∨ b.g.sa = some (A, L)) (hx : s'.xs = s.xs) : GRel K tabs b g (some s') (upd H A (.lst [.ref L, .int s'.cell, .int s'.k])) where
  le := r.le
  str := by
    obtain ⟨a, l, vs, e1, n, e2, f, e3, e4⟩ := r.str
    rw [e] at e1
    cases e1
    refine ⟨A, L, vs, e, n, upd_same, f, ?_, by rw [hx]; exact e4⟩
    rw [upd_ne (fun z => by rw [z] at f; exact n f)]
    exact e3
  fzs := fun c h => by
    by_cases z : c = A
    · subst z; rw [upd_same]; simp
    · rw [upd_ne z]; exact r.fzs c h
  tab := fun P h => by
    obtain ⟨a, l, vs, e1, n, e2, f, e3, e4⟩ := r.str
    rw [e] at e1
    cases e1
    obtain ⟨ps, e5, t⟩ := r.tab P h
    refine ⟨ps, ?_, t⟩
    rw [upd_ne (fun z => by subst z; rw [e5] at e2; cases e2)]
    exact e5
  dom := fun c h => by
    by_cases z : c = A
    · subst z; rw [upd_same]; simp
    · rw [upd_ne z]; exact r.dom c h
  kp := fun c o e1 n t => by
    rw [upd_ne (fun z => by subst z; exact n ⟨L, e⟩)]
    exact r.kp c o e1 n t
  fn := r.fn
  sn := r.sn
theorem GRel.sobj {s : Strm} (r : GRel K tabs b g (some s) H) : ∃ A L, g.sa = some (A, L) ∧ SObj H A L s.cell s.k ∧ H L = some (.lst (s.xs.map V.int)) := by
  obtain ⟨a, l, vs, e1, n, e2, f, e3, e4⟩ := r.str
  exact ⟨a, l, e1, e2, by rw [← e4]; exact e3⟩
theorem GRel.newS {l p : Addr} {ns : List Int} (r : GRel K tabs b g none H) (hl : H l = none) (hp : (upd H l (.lst (ns.map V.int))) p = none) :
    GRel K tabs b ⟨fun c => g.fz c ∨ c = l, some (p, l)⟩ (some ⟨ns, 0, 0⟩) (upd (upd H l (.lst (ns.map V.int))) p (.lst [.ref l, .int 0, .int 0])) := by
  have r1 := r.alloc (o := .lst (ns.map V.int)) hl
  have r2 := r1.alloc (o := .lst [.ref l, .int 0, .int 0]) hp
  have hsa : g.sa = none := r.str
  have hb : b.g.sa = none := by
    cases q : b.g.sa with
    | none => rfl
    | some x =>
      have := r.le.sa x q
      rw [hsa] at this; cases this
  have hpl : p ≠ l := fun z => by subst z; rw [upd_same] at hp; cases hp
  have hpH : H p = none := by rw [upd_ne hpl] at hp; exact hp
  refine ⟨⟨fun c h => .inl (r.le.fz c h), fun x h => by rw [hb] at h; cases h⟩, ⟨p, l, _, rfl, fun z => ?_, upd_same, .inr rfl, ?_, rfl⟩, fun c h => ?_, r2.tab, r2.dom, fun c o e n t => (r2.kp c o e (fun ⟨L, h⟩ => by rw [hsa] at h; cases h) t).imp id fun ⟨f, z⟩ => ⟨.inl f, z⟩, fun c h => ?_, fun x h => ?_⟩
  · rcases z with z | z
    · exact r.fzs p z hpH
    · exact hpl z
  · rw [upd_ne (Ne.symm hpl), upd_same]
  · rcases h with h | h
    · exact r2.fzs c h
    · subst h
      rw [upd_ne (Ne.symm hpl), upd_same]; simp
  · rcases h with h | h
    · exact r.fn c h
    · subst h; exact .inr (none_of r.dom hl)
  · cases h
    exact .inr (none_of r.dom hpH)
end
end Ux

namespace Ux
open PySem PySem.Spec PyProof.Rows L2 GxR
def bStream : MSs := (.cons (.ret (.lst (.cons (.bfn .list (.var 0)) (.cons (.con (.int 0)) (.cons (.con (.int 0)) .nil))))) .nil)
def bNext : MSs := (.cons (.ite (.cmp .eq (.ix (.var 0) (.con (.int 1))) (.con (.int 0))) (.cons (.set 3 (.ix (.var 0) (.con (.int 2)))) (.cons (.set 4 (.op .add (.con (.int 7)) (.var 3))) (.cons (.ite (.cmp .lt (.var 3) (.bfn .len (.ix (.var 0) (.con (.int 0))))) (.cons (.set 4 (.bfn .abs (.ix (.ix (.var 0) (.con (.int 0))) (.var 3)))) .nil) .nil) (.cons (.ite (.cmp .lt (.var 4) (.op .pow (.con (.int 10)) (.con (.int 18)))) (.cons (.set 4 (.op .mod (.bfn .int (.op .add (.op .add (.op .mul (.var 4) (.con (.int 48271))) (.op .mul (.var 3) (.con (.int 69621)))) (.con (.int 11)))) (.con (.int 2147483647)))) (.cons (.set 4 (.op .add (.op .mul (.op .mod (.bfn .int (.op .add (.op .mul (.var 4) (.con (.int 16807))) (.con (.int 13)))) (.con (.int 2147483647))) (.con (.int 65537))) (.var 4))) .nil)) .nil) (.cons (.sub (.var 0) (.con (.int 1)) (.var 4)) (.cons (.sub (.var 0) (.con (.int 2)) (.op .add (.var 3) (.con (.int 1)))) .nil)))))) .nil) (.cons (.set 2 (.op .mod (.bfn .int (.ix (.var 0) (.con (.int 1)))) (.var 1))) (.cons (.sub (.var 0) (.con (.int 1)) (.op .fdiv (.ix (.var 0) (.con (.int 1))) (.var 1))) (.cons (.ret (.var 2)) .nil))))
section
variable {K : PySem.W.Frag} {tabs : List Addr} {H : Hp} {T : Tb} {W : WX} {xt : Str → Option (Addr × Str)} {Q : VK} {E : XK} {vs : List V} {N : List Str}
theorem stream_rd (hN : N.length = 1) (h : spOf K tabs xt mStream vs H Q E) : trSs K T W bStream { nx := fun _ H' => Q .non H', rt := Q } (L2.start N vs) H := by
  obtain ⟨g, ds, w, gr, rs, h⟩ := h
  obtain ⟨d, fr, w', e, q⟩ : ∃ d fr w', mStream ds w = .ok (d, fr, w') ∧ ∀ v g' H', GRel K tabs ⟨g, H⟩ g' w' H' → RetP K ⟨g, H⟩ g' H' v d fr → Q v H' := by
    rcases h with h | ⟨x, w', e, _⟩
    · exact h
    · unfold mStream at e
      repeat' (first | contradiction | (split at e))
  have key : ∀ (a : Addr) (ns : List Int), w = none → SqL K H a (ns.map V.int) → vs = [.ref a] → d = .strm → fr = false → w' = some ⟨ns, 0, 0⟩ → trSs K T W bStream { nx := fun _ H' => Q .non H', rt := Q } (L2.start N vs) H := fun a ns ew hs ev ed ef ew' => by
    subst ev ed ef ew' ew
    unfold bStream
    simp only [trSs, trS, trE, trEs, tSeq, tRet, tLst, tA, List.foldr, tCons, tNil, tCB, rB, tVar, tC]
    refine ⟨.ref a, rfl, a, ns.map V.int, rfl, .inl hs, fun l hl => ⟨(by rw [sizeLine_eq]; show 3 ≤ 16777216; decide), fun p hp => ?_⟩⟩
    refine q _ _ _ (gr.newS hl hp) ?_
    unfold RetP
    rw [Bool.false_and, if_neg (by simp)]
    exact .strm rfl
  unfold mStream at e
  split at e
  · cases e
    cases rs with
    | cons r0 rs =>
      cases rs
      cases r0 with
      | scr hf => exact key _ _ rfl hf.seq rfl rfl rfl rfl
  · split at e
    · rename_i ns e1
      cases e
      cases rs with
      | cons r0 rs =>
        cases rs
        cases r0 with
        | lst h1 h2 h3 =>
          rw [h3.ints e1] at h2
          exact key _ _ rfl (.of h2) rfl rfl rfl rfl
    · cases e
  · cases e
theorem next_rd (hN : N.length = 5) (h : spOf K tabs xt mNext vs H Q E) : trSs K T W bNext { nx := fun _ H' => Q .non H', rt := Q } (L2.start N vs) H := by
  obtain ⟨g, ds, w, gr, rs, h⟩ := h
  obtain ⟨d, fr, w', e, q⟩ : ∃ d fr w', mNext ds w = .ok (d, fr, w') ∧ ∀ v g' H', GRel K tabs ⟨g, H⟩ g' w' H' → RetP K ⟨g, H⟩ g' H' v d fr → Q v H' := by
    rcases h with h | ⟨x, w', e, _⟩
    · exact h
    · unfold mNext at e
      repeat' (first | contradiction | (split at e))
  unfold mNext at e
  split at e
  · rename_i n s
    split at e
    · rename_i hn
      cases e
      cases rs with
      | cons r0 rs =>
        cases rs with
        | cons r1 rs =>
          cases rs
          cases r1
          cases r0 with
          | @strm A L hsa =>
            have hst : L2.start N [.ref A, .int n] = [some (.ref A), some (.int n), none, none, none] := by
              unfold L2.start
              rw [hN]; rfl
            rw [hst]
            have q : ∀ v g' H', GRel K tabs ⟨g, H⟩ g' (some { fillS s with cell := (fillS s).cell / n }) H' → v = .int ((fillS s).cell % n) → Q v H' := fun v g' H' r e => q v g' H' r (by
              unfold RetP
              rw [Bool.false_and, if_neg (by simp), e]
              exact .int _)
            -- the last three statements
            have rest : ∀ (s1 : Strm) (H1 : Hp) (x3 x4 : Option V), GRel K tabs ⟨g, H⟩ g (some s1) H1 → fillS s = s1 →
                trSs K T W (.cons (.set 2 (.op .mod (.bfn .int (.ix (.var 0) (.con (.int 1)))) (.var 1))) (.cons (.sub (.var 0) (.con (.int 1)) (.op .fdiv (.ix (.var 0) (.con (.int 1))) (.var 1))) (.cons (.ret (.var 2)) .nil)))
                  { nx := fun _ H' => Q .non H', rt := Q } [some (.ref A), some (.int n), none, x3, x4] H1 := fun s1 H1 x3 x4 r1 ef => by
              obtain ⟨A', L', e1, so, hL⟩ := r1.sobj
              rw [hsa] at e1
              cases e1
              simp only [trSs, trS, trE, trEs, trC, tSeq, tRet, tLst, tA, List.foldr, tCons, tNil, tCB, tVar, tC, tIfS, tTest, tOp, tAsg, gName, gSubA, gSub]
              refine ⟨.ref A, rfl, lix1 so (.inl ⟨_, rfl, .int n, rfl, lmod hn.1 ⟨.ref A, rfl, lix1 so ⟨.int n, rfl, s1.cell, n, rfl, rfl, hn, .ref A, rfl, .inl (lset1 so ⟨_, rfl, ?_⟩)⟩⟩⟩)⟩
              refine q _ g _ (GRel.setS (s' := { s1 with cell := s1.cell / n }) r1 hsa (.inr hsa) rfl |> fun z => ?_) ?_
              · rw [ef]; exact z
              · rw [ef]
            obtain ⟨A', L', e1, so, hL⟩ := gr.sobj
            rw [hsa] at e1
            cases e1
            unfold bNext
            unfold trSs
            rw [show ∀ t u, tSeq t u = fun D σ H => t { D with nx := u D } σ H from fun t u => rfl]
            show trS K T W (.ite _ _ _) _ _ _
            unfold trS
            show trC K T W (.cmp .eq (.ix (.var 0) (.con (.int 1))) (.con (.int 0))) _ _ _
            simp only [trC, trE, tTest, tOp, tVar, tC]
            refine ⟨.ref A, rfl, lix1 so (leq0 ⟨_, rfl, ?_⟩)⟩
            by_cases hc : s.cell = 0
            · rw [if_pos (decide_eq_true hc)]
              have unf := fun (t u : TS) => (rfl : tSeq t u = fun D σ H => t { D with nx := u D } σ H)
              -- the two stores
              have st3 : ∀ (c : Int), c = mixC (cell0 s.xs s.k) s.k → trSs K T W (.cons (.sub (.var 0) (.con (.int 1)) (.var 4)) (.cons (.sub (.var 0) (.con (.int 2)) (.op .add (.var 3) (.con (.int 1)))) .nil))
                  { nx := trSs K T W (.cons (.set 2 (.op .mod (.bfn .int (.ix (.var 0) (.con (.int 1)))) (.var 1))) (.cons (.sub (.var 0) (.con (.int 1)) (.op .fdiv (.ix (.var 0) (.con (.int 1))) (.var 1))) (.cons (.ret (.var 2)) .nil))) { nx := fun _ H' => Q .non H', rt := Q }, rt := Q }
                  [some (.ref A), some (.int n), none, some (.int s.k), some (.int c)] H := fun c ec => by
                have s1 := GRel.setS (s' := { s with cell := c }) gr hsa (.inr hsa) rfl
                have so1 : SObj (upd H A (.lst [.ref L, .int c, .int s.k])) A L c s.k := upd_same
                have s2 := GRel.setS (s' := { s with cell := c, k := s.k + 1 }) s1 hsa (.inr hsa) rfl
                unfold trSs
                rw [unf]
                unfold trS
                simp only [trE, tAsg, tVar, tC, gSubA, gSub]
                refine ⟨.int c, rfl, .ref A, rfl, .inl (lset1 so ?_)⟩
                unfold trSs
                rw [unf]
                unfold trS
                simp only [trE, tAsg, tVar, tC, gSubA, gSub, tOp]
                refine ⟨.int s.k, rfl, ladd ⟨.ref A, rfl, .inl (lset2 so1 ?_)⟩⟩
                exact rest _ _ _ _ s2 (by unfold fillS; rw [if_pos hc, ec])
              -- the mixing
              have st2 : ∀ (c : Int), c = cell0 s.xs s.k → trSs K T W (.cons (.ite (.cmp .lt (.var 4) (.op .pow (.con (.int 10)) (.con (.int 18)))) (.cons (.set 4 (.op .mod (.bfn .int (.op .add (.op .add (.op .mul (.var 4) (.con (.int 48271))) (.op .mul (.var 3) (.con (.int 69621)))) (.con (.int 11)))) (.con (.int 2147483647)))) (.cons (.set 4 (.op .add (.op .mul (.op .mod (.bfn .int (.op .add (.op .mul (.var 4) (.con (.int 16807))) (.con (.int 13)))) (.con (.int 2147483647))) (.con (.int 65537))) (.var 4))) .nil)) .nil) (.cons (.sub (.var 0) (.con (.int 1)) (.var 4)) (.cons (.sub (.var 0) (.con (.int 2)) (.op .add (.var 3) (.con (.int 1)))) .nil)))
                  { nx := trSs K T W (.cons (.set 2 (.op .mod (.bfn .int (.ix (.var 0) (.con (.int 1)))) (.var 1))) (.cons (.sub (.var 0) (.con (.int 1)) (.op .fdiv (.ix (.var 0) (.con (.int 1))) (.var 1))) (.cons (.ret (.var 2)) .nil))) { nx := fun _ H' => Q .non H', rt := Q }, rt := Q }
                  [some (.ref A), some (.int n), none, some (.int s.k), some (.int c)] H := fun c ec => by
                unfold trSs
                rw [unf]
                unfold trS
                simp only [trC, trE, tTest, tOp, tVar, tC, tIfS]
                refine ⟨.int c, rfl, ⟨10, 18, rfl, rfl, ⟨by decide, by decide, by decide⟩, c, _, rfl, rfl, _, rfl, ?_⟩⟩
                dsimp only
                by_cases h18 : c < 10 ^ (18 : Int).toNat
                · rw [if_pos (decide_eq_true h18)]
                  unfold trSs
                  rw [unf]
                  unfold trS
                  simp only [trE, trEs, tAsg, tVar, tC, tOp, tCB, tA, List.foldr, tCons, tNil, gName]
                  refine ⟨.int c, rfl, lmul (by decide) ⟨.int s.k, rfl, lmul (by decide) (ladd (ladd (.inl ⟨_, rfl, ?_⟩)))⟩⟩
                  simp only [tC, gName]
                  refine lmod (K := K) (j := 2147483647) (by decide) ?_
                  unfold trSs
                  rw [unf]
                  unfold trS
                  simp only [trE, trEs, tAsg, tVar, tC, tOp, tCB, tA, List.foldr, tCons, tNil, gName]
                  refine ⟨.int _, rfl, lmul (by decide) (ladd (.inl ⟨_, rfl, ?_⟩))⟩
                  simp only [tC, gName]
                  refine lmod (K := K) (j := 2147483647) (by decide) (lmul (K := K) (j := 65537) (by decide) ⟨.int _, rfl, ladd ?_⟩)
                  unfold trSs
                  refine st3 (mixB (mixA c s.k)) ?_
                  rw [← ec]
                  unfold mixC
                  rw [if_pos (show c < 10 ^ 18 from h18)]
                · rw [if_neg (fun z => h18 (of_decide_eq_true z))]
                  unfold trSs
                  refine st3 c ?_
                  rw [← ec]
                  unfold mixC
                  rw [if_neg (show ¬ c < 10 ^ 18 from h18)]
              unfold trSs
              rw [unf]
              unfold trS
              simp only [trE, tAsg, tVar, tC, tOp, gName]
              refine ⟨.ref A, rfl, lix2 so ?_⟩
              unfold trSs
              rw [unf]
              unfold trS
              simp only [trE, tAsg, tVar, tC, tOp, gName]
              refine ⟨.int s.k, rfl, ladd ?_⟩
              unfold trSs
              rw [unf]
              unfold trS
              simp only [trC, trE, trEs, tTest, tOp, tVar, tC, tIfS, tCB, tA, List.foldr, tCons, tNil]
              refine ⟨.int s.k, rfl, .ref A, rfl, lix0 so (.inl ⟨.ref L, s.xs.length, rfl, .inl ⟨_, .of hL, by rw [List.length_map]⟩, s.k, s.xs.length, rfl, rfl, _, rfl, ?_⟩)⟩
              dsimp only
              by_cases hk : (s.k : Int) < s.xs.length
              · rw [if_pos (decide_eq_true hk)]
                have hk' : s.k < s.xs.length := by omega
                unfold trSs
                rw [unf]
                unfold trS
                simp only [trE, trEs, tAsg, tVar, tC, tOp, tCB, tA, List.foldr, tCons, tNil, gName]
                refine ⟨.ref A, rfl, lix0 so ⟨.int s.k, rfl, .inl (.inl ⟨L, _, s.k, .int s.xs[s.k], rfl, rfl, .of hL, ?_, s.xs[s.k], rfl, ?_⟩)⟩⟩
                · exact atI_nat (by rw [List.getElem?_map, List.getElem?_eq_getElem hk']; rfl)
                · unfold trSs
                  refine st2 _ ?_
                  unfold cell0
                  rw [List.getElem?_eq_getElem hk']
              · rw [if_neg (fun z => hk (of_decide_eq_true z))]
                have hk' : s.xs.length ≤ s.k := by omega
                unfold trSs
                refine st2 _ ?_
                unfold cell0
                rw [List.getElem?_eq_none hk']
            · rw [if_neg (fun z => hc (of_decide_eq_true z))]
              unfold trSs
              exact rest s H none none gr (by unfold fillS; rw [if_neg hc])
    · cases e
  · cases e
end
end Ux

namespace Ux
open PySem PySem.Spec PyProof.Rows L2 GxR
section
variable {P : Program} {w : World} {K : PySem.W.Frag} {mg : Str → Option Value} {base : Heap} {tabs : List Addr} {xs : Xs}
/-- a def of the text, known by a reading of its own -/
theorem kn_hand {name : Str} {st : Stmt} {f : Addr} {kV doc pm cdv ct oc : Value} {an od : Option Addr} {osl : Array (Option Value)} {ps : List Str} (lk : K.lookup f = some ⟨oc, od, .func (PySem.W.fnOf name name (defArgs st) (defBody st) (defScope st) .none kV doc pm an cdv ct), osl⟩)
    (hcd : PySem.W.codeIn K cdv name = true) (kp : PySem.W.keepIn K (.ref f) = true) (hmg : mg name = some (.ref f)) {N bn : List Str} {Pt : Addr} (S : FnScope N ps (defScope st)) {bd : MSs} {k : Nat}
    (er : ErSs ⟨N, fnL [], glL [], bn, Pt, xs.xt, xs.xh, xs.xm, xs.px⟩ ⟨defScope st, defScope st, k, false⟩ bd (defBody st)) (hbn : ∀ x ∈ bn, mg x = none)
    (hb : ∀ (kV doc pm : Value) (an : Option Addr) (cdv ct : Value) (us : List Value), us.length = ps.length → bindArgs (PySem.W.fnOf name name (defArgs st) (defBody st) (defScope st) .none kV doc pm an cdv ct) ⟨us, []⟩ = pure (ps.zip us))
    {m : Fn} (hxs : XsOk K mg xs) (har : ∀ ds w, m ds w ≠ .no → ds.length = ps.length) (rd : ∀ vs H Q E, spOf K tabs xs.xt m vs H Q E → trSs K ⟨N, fnL [], glL [], bn, Pt, xs.xt, xs.xh, xs.xm, xs.px⟩ (fun cls d _ H => E cls d H) bd { nx := fun _ H' => Q .non H', rt := Q } (L2.start N vs) H) :
    Kn P w K mg base tabs xs name ⟨f, PySem.W.fnOf name name (defArgs st) (defBody st) (defScope st) .none kV doc pm an cdv ct, ps, k + 1, spOf K tabs xs.xt m⟩ m where
  ok := by
    refine fn_of lk hcd S (fun vs H Q E h => ?_) fun A outer s H vs Q E hr h => ⟨trSs K ⟨N, fnL [], glL [], bn, Pt, xs.xt, xs.xh, xs.xm, xs.px⟩ (fun cls d _ H => E cls d H) bd, ?_, rd vs H Q E h⟩
    · obtain ⟨g, ds, w, gr, rs, ⟨d, fr, w', e, _⟩ | ⟨x, w', e, _⟩⟩ := h
      · rw [rs.length]
        exact har _ _ (by rw [e]; exact fun z => nomatch z)
      · rw [rs.length]
        exact har _ _ (by rw [e]; exact fun z => nomatch z)
    · exact erSs_ok er ⟨rfl, S.nd, rfl, fun x hx => ⟨hx, .inl rfl⟩, rfl, hr, passes_of rfl, hbn, (fun f fe e => nomatch (show (none : Option Fe) = some fe from e)), (fun x v e => nomatch (show (none : Option V) = some v from e)), hxs.cx, hxs.ch, hxs.cm, hxs.px, (fun z => nomatch z)⟩ (takes_of rfl rfl rfl rfl) ⟨rfl, rfl⟩
  mg := hmg
  kp := kp
  bd := .all (hb kV doc pm an cdv ct)
  sp := rfl
theorem mStream_ar : ∀ ds w, mStream ds w ≠ .no → ds.length = 1 := fun ds w e => by
  unfold mStream at e
  split at e
  · rfl
  · rfl
  · exact absurd rfl e
theorem mNext_ar : ∀ ds w, mNext ds w ≠ .no → ds.length = 2 := fun ds w e => by
  unfold mNext at e
  split at e
  · rfl
  · exact absurd rfl e
/-- the law's promise from its evaluator's answers -/
theorem law_sp {m : Fn} {H : Hp} {a : Addr} {ns : List Int} (h1 : ∃ w', m [.scr ns] none = .ok (.bl true, false, w')) (h2 : ∃ w', m [.lst (ns.map .int)] none = .ok (.bl true, false, w')) (hT : ∀ P ∈ tabs, H P = some (.tbl #[])) (hs : SqL K H a (ns.map V.int)) {E : XK} :
    spOf K tabs xs.xt m [.ref a] H (fun v _ => v = .bl true) E := by
  have tab : ∀ P ∈ tabs, TabG H P := fun P hP => ⟨#[], hT P hP, True.intro⟩
  have fin : ∀ (g : Gh) (v : V) (g' : Gh) (H' : Hp), RetP K ⟨g, H⟩ g' H' v (.bl true) false → v = .bl true := fun g v g' H' r => by
    unfold RetP at r
    rw [Bool.false_and, if_neg (by simp)] at r
    cases r
    rfl
  have scr : FzL K H a (ns.map V.int) → spOf K tabs xs.xt m [.ref a] H (fun v _ => v = .bl true) E := fun hf => by
    obtain ⟨w', e⟩ := h1
    exact ⟨⟨fun _ => False, none⟩, [.scr ns], none, ⟨.refl _, rfl, fun _ z => z.elim, tab, fun _ h => h, .refl _ _ _, fun _ z => z.elim, fun _ z => by cases z⟩, .cons (.scr hf) .nil, .inl ⟨_, _, w', e, fun v g' H' _ r => fin _ v g' H' r⟩⟩
  rcases hs with (hs | hs) | hs
  · obtain ⟨w', e⟩ := h2
    have hr : Reps K ⟨fun c => c = a, none⟩ H (ns.map V.int) (ns.map D.int) := Reps.ofInts ..
    exact ⟨⟨fun c => c = a, none⟩, [.lst (ns.map .int)], none, ⟨.refl _, rfl, fun c z => by subst z; rw [hs]; simp, tab, fun _ h => h, .refl _ _ _, fun _ z => .inl z, fun _ z => by cases z⟩, .cons (.lst rfl hs hr) .nil, .inl ⟨_, _, w', e, fun v g' H' _ r => fin _ v g' H' r⟩⟩
  · exact scr (.inl hs)
  · exact scr (.inr hs)
theorem tab_cd {x : Str} {f c Pt : Addr} {params : Arguments} {body : List Stmt} {scope : Scope} {dV kV doc pm ct oc cdv : Value} {an od : Option Addr} {osl : Array (Option Value)} (a : PySem.W.nsIn K mainGlobals x = some (some (.ref f))) (l : K.lookup f = some ⟨oc, od, .func (PySem.W.fnOf x x params body scope dV kV doc pm an cdv ct), osl⟩)
    (t : PySem.W.tabIn K x = some (c, Pt)) : cdv = Value.ref c := by
  unfold PySem.W.tabIn at t
  rw [a] at t
  simp only at t
  rw [l] at t
  simp only at t
  split at t
  · split at t
    · split at t
      · cases t; rfl
      · cases t
    · cases t
  · cases t
end
end Ux
namespace LamX
open PySem PySem.Spec PyProof.Rows L2
theorem walk_top {l : PySem.W.OpenLaw} {n k : Nat} {q : Program} {loose : List Str} {XP : (Str → Option Value) → Heap → Prop} {YP : World → Heap → Prop} {d : DefRec} {K : Params → PySem.W.Frag} {CX : World → CXT} {x : Str}
    (hn : l.most = some n) (hn2 : n ≤ sizeLine) (hdf : d.params.defaults = []) (hr : Room k callerA) (hY : ∀ (w : World) (h : Heap), YP w h → (K w.params).In h)
    (F : ∀ (w : World) (mg : Str → Option Value) (fa : Addr) (h : Heap), YP w h → (K w.params).In h → h.Ns mainGlobals mg → mg d.name = some (.ref fa) →
      (∀ (y : Str) (c P : Addr) (d' : DefRec), (recsOf q).find? (fun e => e.name == y) = some d' → PySem.W.tabIn (K w.params) y = some (c, P) → PySem.W.CodeHd h c P ∧ h.get? P = some { cls := .none, data := .fields #[] }) → LawAtS l w (K w.params) (CX w) k n x mg fa h)
    (hCX : ∀ (w : World) (H : Hp) (s : Shared) (e : Value) (s' : Shared), CX w [] H s (fun _ _ _ => False) e s' → False) :
    PySem.W.WalkO q loose XP YP l.row.toRowW d [] (fun f vs => PySem.call f vs) := by
  refine Att.attach_callB hn hdf fun w s₀ s₁ mg mb fa o pm cd doc a vs ns G Y ho hd hcd hmg hobj hints hlen hbits hg => ?_
  have KX := hY w _ Y
  obtain ⟨fd, cs, sp, hT, nT, C, hb, hsp, hF⟩ := F w mg fa _ Y KX G.T.g hmg (fun y c P d' h1 h2 => PySem.W.tab_of G.T KX h1 h2)
  exact law_callTs KX G.T.g G.T.b G.T.builtins G.T.nolimit hg hT nT C G.T.bmain hobj hints (Nat.le_trans hlen hn2) hr hF hb (fun H hH hS => hsp H a ns hlen hbits hH hS) fun H e s' => hCX w H s₁ e s'
end LamX

namespace Ux
open PySem PySem.Spec PyProof.Rows L2 GxR
/-- a def of the text where it stands, its code object cd -/
def DefE (K : PySem.W.Frag) (mg : Str → Option Value) (name : Str) (st : Stmt) (f : Addr) (cd : Value) : Prop := ∃ (kV doc pm ct oc : Value) (an od : Option Addr) (osl : Array (Option Value)),
  K.lookup f = some ⟨oc, od, .func (PySem.W.fnOf name name (defArgs st) (defBody st) (defScope st) .none kV doc pm an cd ct), osl⟩ ∧ PySem.W.codeIn K cd name = true ∧ PySem.W.keepIn K (.ref f) = true ∧ mg name = some (.ref f)
theorem DefE.of {K : PySem.W.Frag} {h : Heap} {mg : Str → Option Value} {name : Str} {st : Stmt} {f : Addr} {kV doc pm cdv ct oc : Value} {an od : Option Addr} {osl : Array (Option Value)} (X : K.In h) (G : h.Ns mainGlobals mg) (a : PySem.W.nsIn K mainGlobals name = some (some (.ref f)))
    (l : K.lookup f = some ⟨oc, od, .func (PySem.W.fnOf name name (defArgs st) (defBody st) (defScope st) .none kV doc pm an cdv ct), osl⟩) (c : PySem.W.codeIn K cdv name = true) (k : PySem.W.keepIn K (.ref f) = true) : DefE K mg name st f cdv :=
  ⟨kV, doc, pm, ct, oc, an, od, osl, l, c, k, PySem.W.mg_of X G a⟩
section
variable {P : Program} {w : World} {K : PySem.W.Frag} {mg : Str → Option Value} {base : Heap} {tabs : List Addr} {xs : Xs}
theorem knE {name : Str} {st : Stmt} {f : Addr} {cdv : Value} (d : DefE K mg name st f cdv) {ps N bn : List Str} {gl : List (Str × V)} {l : List (Str × Fe)} {ms : List (Str × Fn)} {Pt : Addr} (S : FnScope N ps (defScope st)) {df : Df} {k : Nat} {gb : Bool}
    (er : ErSs ⟨N, fnL l, glL gl, bn, Pt, xs.xt, xs.xh, xs.xm, xs.px⟩ ⟨defScope st, defScope st, k, gb⟩ df.body (defBody st)) (hbn : ∀ x ∈ bn, mg x = none) (hgl : ∀ e ∈ gl, ∃ u, mg e.1 = some u ∧ RelV e.2 u)
    (hxs : XsOk K mg xs) (hcode : gb = true → ∃ c, cdv = .ref c ∧ TabB base mg c Pt) (hk : Kns P w K mg base tabs xs l ms) (hP : Pt ∈ tabs) {m : Fn} (hm : m = runD (enN ms) df)
    (hb : ∀ (kV doc pm : Value) (an : Option Addr) (cdv ct : Value) (us : List Value), us.length = ps.length → bindArgs (PySem.W.fnOf name name (defArgs st) (defBody st) (defScope st) .none kV doc pm an cdv ct) ⟨us, []⟩ = pure (ps.zip us)) (har : df.ar = ps.length) (hn : df.n = N.length) :
    ∃ fd, Kn P w K mg base tabs xs name ⟨f, fd, ps, k + 1, spOf K tabs xs.xt m⟩ m := by
  obtain ⟨kV, doc, pm, ct, oc, an, od, osl, l1, c1, k1, m1⟩ := d
  subst hm
  exact ⟨_, kn_def l1 c1 k1 m1 S har hn er hbn hgl hxs hcode hk hP hb⟩
theorem knH {name : Str} {st : Stmt} {f : Addr} {cdv : Value} (d : DefE K mg name st f cdv) {ps N bn : List Str} {Pt : Addr} (S : FnScope N ps (defScope st)) {bd : MSs} {k : Nat}
    (er : ErSs ⟨N, fnL [], glL [], bn, Pt, xs.xt, xs.xh, xs.xm, xs.px⟩ ⟨defScope st, defScope st, k, false⟩ bd (defBody st)) (hbn : ∀ x ∈ bn, mg x = none)
    {m : Fn} (hxs : XsOk K mg xs) (har : ∀ ds w, m ds w ≠ .no → ds.length = ps.length) (rd : ∀ vs H Q E, spOf K tabs xs.xt m vs H Q E → trSs K ⟨N, fnL [], glL [], bn, Pt, xs.xt, xs.xh, xs.xm, xs.px⟩ (fun cls d _ H => E cls d H) bd { nx := fun _ H' => Q .non H', rt := Q } (L2.start N vs) H)
    (hb : ∀ (kV doc pm : Value) (an : Option Addr) (cdv ct : Value) (us : List Value), us.length = ps.length → bindArgs (PySem.W.fnOf name name (defArgs st) (defBody st) (defScope st) .none kV doc pm an cdv ct) ⟨us, []⟩ = pure (ps.zip us)) :
    ∃ fd, Kn P w K mg base tabs xs name ⟨f, fd, ps, k + 1, spOf K tabs xs.xt m⟩ m := by
  obtain ⟨kV, doc, pm, ct, oc, an, od, osl, l1, c1, k1, m1⟩ := d
  exact ⟨_, kn_hand l1 c1 k1 m1 S er hbn hb hxs har rd⟩
/-- a def that calls itself, no deeper than n -/
theorem knR {name : Str} {st : Stmt} {f : Addr} {cdv : Value} (d : DefE K mg name st f cdv) {ps N bn : List Str} {gl : List (Str × V)} {l : List (Str × Fe)} {ms : List (Str × Fn)} {Pt : Addr} (S : FnScope N ps (defScope st)) {df : Df} {k0 : Nat} {m : Nat → Fn}
    (h0 : m 0 = fun _ _ => .no) (hs : ∀ n, m (n + 1) = runD (enN ((name, m n) :: ms)) df)
    (er : ∀ (k : Nat) (fe : Fe), k0 ≤ k → fe.lv ≤ k → ErSs ⟨N, fnL ((name, fe) :: l), glL gl, bn, Pt, xs.xt, xs.xh, xs.xm, xs.px⟩ ⟨defScope st, defScope st, k, false⟩ df.body (defBody st)) (hbn : ∀ x ∈ bn, mg x = none) (hgl : ∀ e ∈ gl, ∃ u, mg e.1 = some u ∧ RelV e.2 u)
    (hxs : XsOk K mg xs) (hk : Kns P w K mg base tabs xs l ms) (hP : Pt ∈ tabs)
    (hb : ∀ (kV doc pm : Value) (an : Option Addr) (cdv ct : Value) (us : List Value), us.length = ps.length → bindArgs (PySem.W.fnOf name name (defArgs st) (defBody st) (defScope st) .none kV doc pm an cdv ct) ⟨us, []⟩ = pure (ps.zip us)) (har : df.ar = ps.length) (hn : df.n = N.length) :
    ∃ fd, ∀ n, Kn P w K mg base tabs xs name ⟨f, fd, ps, k0 + n, spOf K tabs xs.xt (m n)⟩ (m n) := by
  obtain ⟨kV, doc, pm, ct, oc, an, od, osl, l1, c1, k1, m1⟩ := d
  refine ⟨PySem.W.fnOf name name (defArgs st) (defBody st) (defScope st) .none kV doc pm an cdv ct, fun n => ?_⟩
  induction n with
  | zero =>
    have hno : ∀ vs H Q E, spOf K tabs xs.xt (m 0) vs H Q E → False := fun vs H Q E h => by
      obtain ⟨g, ds, w, gr, rs, ⟨d, fr, w', e, _⟩ | ⟨x, w', e, _⟩⟩ := h
      · rw [h0] at e
        cases e
      · rw [h0] at e
        cases e
    exact ⟨⟨fun vs H Q E h => (hno vs H Q E h).elim, fun A outer s H args us vs Q E _ _ _ _ h => (hno vs H Q E h).elim⟩, m1, k1, .all (hb kV doc pm an cdv ct), rfl⟩
  | succ n ih =>
    have e := er (k0 + n) ⟨f, PySem.W.fnOf name name (defArgs st) (defBody st) (defScope st) .none kV doc pm an cdv ct, ps, k0 + n, spOf K tabs xs.xt (m n)⟩ (Nat.le_add_right ..) (Nat.le_refl (k0 + n))
    rw [hs n]
    exact kn_def l1 c1 k1 m1 S har hn e hbn hgl hxs (fun z => nomatch z) (.cons ih hk) hP hb
end
theorem enN_hd {n : Str} {m : Fn} {r : List (Str × Fn)} : enN ((n, m) :: r) n = m := if_pos rfl
theorem enN_tl {n x : Str} {m m' : Fn} {r : List (Str × Fn)} (h : ¬ n = x) (e : enN r x = m') : enN ((n, m) :: r) x = m' := (if_neg h).trans e
theorem tabC {base : Heap} {mg : Str → Option Value} {c P : Addr} (h : LamX.TabB base mg c P) : TabB base mg c P := ⟨h.code, h.bm, h.gP⟩
/-- the law's own record -/
theorem knL {P : Program} {w : World} {K : PySem.W.Frag} {mg : Str → Option Value} {base : Heap} {tabs : List Addr} {xs : Xs} {name : Str} {st : Stmt} {f : Addr} {kV doc pm cdv ct oc : Value} {an od : Option Addr} {osl : Array (Option Value)}
    (lk : K.lookup f = some ⟨oc, od, .func (PySem.W.fnOf name name (defArgs st) (defBody st) (defScope st) .none kV doc pm an cdv ct), osl⟩) (d : DefE K mg name st f cdv) {ps N bn : List Str} {gl : List (Str × V)} {l : List (Str × Fe)} {ms : List (Str × Fn)} {Pt : Addr} (S : FnScope N ps (defScope st)) {df : Df} {k : Nat} {gb : Bool}
    (er : ErSs ⟨N, fnL l, glL gl, bn, Pt, xs.xt, xs.xh, xs.xm, xs.px⟩ ⟨defScope st, defScope st, k, gb⟩ df.body (defBody st)) (hbn : ∀ x ∈ bn, mg x = none) (hgl : ∀ e ∈ gl, ∃ u, mg e.1 = some u ∧ RelV e.2 u)
    (hxs : XsOk K mg xs) (hcode : gb = true → ∃ c, cdv = .ref c ∧ TabB base mg c Pt) (hk : Kns P w K mg base tabs xs l ms) (hP : Pt ∈ tabs) {m : Fn} (hm : m = runD (enN ms) df)
    (hb : ∀ (kV doc pm : Value) (an : Option Addr) (cdv ct : Value) (us : List Value), us.length = ps.length → bindArgs (PySem.W.fnOf name name (defArgs st) (defBody st) (defScope st) .none kV doc pm an cdv ct) ⟨us, []⟩ = pure (ps.zip us)) (har : df.ar = ps.length) (hn : df.n = N.length) :
    FnOk P w K mg base (L2.CX P w) (k + 1) f (PySem.W.fnOf name name (defArgs st) (defBody st) (defScope st) .none kV doc pm an cdv ct) ps (spOf K tabs xs.xt m) := by
  obtain ⟨kV', doc', pm', ct', oc', an', od', osl', l1, c1, k1, m1⟩ := d
  subst hm
  exact (kn_def lk c1 k1 m1 S har hn er hbn hgl hxs hcode hk hP hb).ok
end Ux

namespace Ux
open PySem PySem.Spec PyProof.Rows L2 GxR
/-! ### reckoning -/
theorem rd_old {Γ : En} {d : D} : rd Γ (.old d) = some d := rfl
theorem rd_frs {Γ : En} {d : D} : rd Γ (.frs d) = some d := rfl
theorem rd_vr {Γ : En} {i : Nat} : rd Γ (.vr i) = (match Γ.sl[i]? with | some (some (d, _)) => some d | _ => none) := rfl
theorem mkP_f {d : D} : mkP (d, false) = .old d := by simp [mkP]
theorem mkP_l {xs : List D} : mkP (.lst xs, true) = .frs (.lst xs) := by simp [mkP, D.isC]
theorem mkP_k {ks : List Key} {xs : List D} : mkP (.dk ks xs, true) = .frs (.dk ks xs) := by simp [mkP, D.isC]
theorem fzps_nil {Γ : En} : fzps Γ [] = Γ := rfl
theorem fzps_old {Γ : En} {d : D} {ps : List Pv} : fzps Γ (.old d :: ps) = fzps Γ ps := rfl
theorem fzps_frs {Γ : En} {d : D} {ps : List Pv} : fzps Γ (.frs d :: ps) = fzps Γ ps := rfl
theorem fzps_vr {Γ : En} {i : Nat} {ps : List Pv} : fzps Γ (.vr i :: ps) = fzps (fzn Γ i) ps := rfl
theorem fzp_old {Γ : En} {d : D} : fzp Γ (.old d) = Γ := rfl
theorem fzp_frs {Γ : En} {d : D} : fzp Γ (.frs d) = Γ := rfl
theorem fzp_vr {Γ : En} {i : Nat} : fzp Γ (.vr i) = fzn Γ i := rfl
theorem rds_nil {Γ : En} : rds Γ [] = some [] := rfl
theorem rds_old {Γ : En} {d : D} {ps : List Pv} : rds Γ (.old d :: ps) = (rds Γ ps).map (d :: ·) := by
  have e : rds Γ (.old d :: ps) = (match some d, rds Γ ps with | some d, some ds => some (d :: ds) | _, _ => none) := rfl
  rw [e]
  cases rds Γ ps <;> rfl
theorem rds_frs {Γ : En} {d : D} {ps : List Pv} : rds Γ (.frs d :: ps) = (rds Γ ps).map (d :: ·) := by
  have e : rds Γ (.frs d :: ps) = (match some d, rds Γ ps with | some d, some ds => some (d :: ds) | _, _ => none) := rfl
  rw [e]
  cases rds Γ ps <;> rfl
theorem rds_vr {Γ : En} {i : Nat} {d : D} {o : Bool} {ps : List Pv} (h : Γ.sl[i]? = some (some (d, o))) : rds Γ (.vr i :: ps) = (rds Γ ps).map (d :: ·) := by
  have e : rds Γ (.vr i :: ps) = (match rd Γ (.vr i), rds Γ ps with | some d, some ds => some (d :: ds) | _, _ => none) := rfl
  rw [e, rd_vr, h]
  cases rds Γ ps <;> rfl
theorem cm_lt {i j : Int} : cmD .lt (.int i) (.int j) = some (decide (i < j)) := by simp [cmD]
theorem cm_le {i j : Int} : cmD .le (.int i) (.int j) = some (decide (i ≤ j)) := by simp [cmD]
theorem cm_gt {i j : Int} : cmD .gt (.int i) (.int j) = some (decide (j < i)) := by simp [cmD]
theorem cm_ge {i j : Int} : cmD .ge (.int i) (.int j) = some (decide (j ≤ i)) := by simp [cmD]
theorem cm_eq {d e : D} : cmD .eq d e = dEq d e := by simp [cmD]
theorem cm_ne {d e : D} : cmD .ne d e = (dEq d e).map (!·) := by simp [cmD]
theorem eq_int {i j : Int} : dEq (.int i) (.int j) = some (decide (i = j)) := by
  have e : dEq (.int i) (.int j) = some (i == j) := rfl
  rw [e]; rfl
theorem eq_bl {i j : Bool} : dEq (.bl i) (.bl j) = some (decide (i = j)) := by
  have e : dEq (.bl i) (.bl j) = some (i == j) := rfl
  rw [e]
  cases i <;> cases j <;> rfl
theorem op_add {i j : Int} : opD .add (.int i) (.int j) = some (.int (i + j), false) := by simp [opD]
theorem op_sub {i j : Int} : opD .sub (.int i) (.int j) = some (.int (i - j), false) := by simp [opD]
theorem ix_tup {xs : List D} {i : Int} : ixD (.tup xs) (.int i) = L2.atI xs i := by simp [ixD]
theorem ix_lst {xs : List D} {i : Int} : ixD (.lst xs) (.int i) = L2.atI xs i := by simp [ixD]
theorem atI_nat' {xs : List D} {i : Nat} : L2.atI xs (i : Int) = xs[i]? := by
  unfold L2.atI L2.ixN
  rw [if_pos (Int.natCast_nonneg i)]
  by_cases h : (i : Int) < xs.length
  · rw [if_pos h]; simp
  · rw [if_neg h, List.getElem?_eq_none (by omega)]; rfl
def okD : D → Bool
  | .strm => false | .scr _ => false | .dk _ _ => false | .dt _ _ => false | _ => true
theorem ok_non : okD .non = true := id rfl
theorem ok_bl {b : Bool} : okD (.bl b) = true := id rfl
theorem ok_int {i : Int} : okD (.int i) = true := id rfl
theorem ok_str {i : Str} : okD (.str i) = true := id rfl
theorem ok_tup {i : List D} : okD (.tup i) = true := id rfl
theorem ok_lst {i : List D} : okD (.lst i) = true := id rfl
theorem ty_non : tyD .non = some "NoneType" := by simp [tyD]
theorem len_tup {xs : List D} : lenD (.tup xs) = some xs.length := by simp [lenD]
theorem len_lst {xs : List D} : lenD (.lst xs) = some xs.length := by simp [lenD]
theorem bf_len {d : D} : bfD .len d = (lenD d).map fun n : Nat => (D.int (n : Int), false) := by simp [bfD]
theorem bf_tup {xs : List D} : bfD .tuple (.lst xs) = some (.tup xs, false) := by simp [bfD]
theorem bf_lst {xs : List D} : bfD .list (.tup xs) = some (.lst xs, true) := by simp [bfD]
theorem src_val {ps : List Pv} {d : D} : srcP .val ps [d] = itD d := by simp [srcP, srcD]
theorem it_tup {xs : List D} : itD (.tup xs) = some xs := by simp [itD]
theorem it_lst {xs : List D} : itD (.lst xs) = some xs := by simp [itD]
theorem srcD_rng {n : Int} (h : 0 ≤ n) (h2 : n ≤ 1000000) : srcD .rng1 [.int n] = some (rgD 0 n) := by
  have e : rgOkB 0 n = true := by
    simp only [rgOkB, Bool.and_eq_true, decide_eq_true_eq]
    omega
  simp only [srcD]
  rw [if_pos e]
theorem src_rng {ps : List Pv} {n : Int} (h : 0 ≤ n) (h2 : n ≤ 1000000) : srcP .rng1 ps [.int n] = some (rgD 0 n) := srcD_rng h h2
/-- turns that leave the environment as it is -/
theorem lcN_pure {vs : List Nat} {asg : En → D → Option En} {tst : En → R (Bool × En)} {el : En → R (Pv × En)} {Γ : En} {f : D → D} : ∀ {xs acc : List D}, (∀ x ∈ xs, ∃ Γ1 p Γ3, asg Γ x = some Γ1 ∧ tst Γ1 = .ok (true, Γ1) ∧ el Γ1 = .ok (p, Γ3) ∧ rd Γ3 p = some (f x) ∧ ({ fzp Γ3 p with sl := wipeE (fzp Γ3 p).sl vs } : En) = Γ) → acc.length + xs.length ≤ LIM →
    lcN vs asg tst el xs acc Γ = .ok (acc ++ xs.map f, Γ)
  | [], acc, _, _ => by simp [lcN]
  | x :: xs, acc, h, hl => by
    obtain ⟨Γ1, p, Γ3, e1, e2, e3, e4, e5⟩ := h x (by simp)
    unfold lcN
    rw [e1, R.of_some, R.bd_ok, e2, R.bd_ok]
    simp only [if_true]
    rw [e3, R.bd_ok]
    simp only
    rw [e4, R.of_some, R.bd_ok]
    have hl2 : acc.length < LIM := by simp only [List.length_cons] at hl; omega
    rw [if_pos hl2, e5, lcN_pure (fun y hy => h y (by simp [hy])) (by simp only [List.length_append, List.length_cons, List.length_nil] at hl ⊢; omega)]
    simp
/-- turns with a state: I what is kept -/
theorem lcN_inv {vs : List Nat} {asg : En → D → Option En} {tst : En → R (Bool × En)} {el : En → R (Pv × En)} {I : List D → En → Prop} {N : Nat} (hN : N ≤ LIM) : ∀ {xs : List D} {acc : List D} {Γ : En}, (∀ x ∈ xs, ∀ acc Γ, I acc Γ → acc.length < N → ∃ Γ1 p Γ3 d, asg Γ x = some Γ1 ∧ tst Γ1 = .ok (true, Γ1) ∧ el Γ1 = .ok (p, Γ3) ∧ rd Γ3 p = some d ∧ I (acc ++ [d]) { fzp Γ3 p with sl := wipeE (fzp Γ3 p).sl vs }) →
    acc.length + xs.length ≤ N → I acc Γ → ∃ acc' Γ', lcN vs asg tst el xs acc Γ = .ok (acc', Γ') ∧ I acc' Γ' ∧ acc'.length = acc.length + xs.length
  | [], acc, Γ, _, _, hi => ⟨acc, Γ, by simp [lcN], hi, by simp⟩
  | x :: xs, acc, Γ, h, hl, hi => by
    have hl2 : acc.length < N := by simp only [List.length_cons] at hl; omega
    obtain ⟨Γ1, p, Γ3, d, e1, e2, e3, e4, e5⟩ := h x (by simp) acc Γ hi hl2
    obtain ⟨acc', Γ', g1, g2, g3⟩ := lcN_inv hN (xs := xs) (acc := acc ++ [d]) (fun y hy => h y (by simp [hy])) (by simp only [List.length_append, List.length_cons, List.length_nil] at hl ⊢; omega) e5
    refine ⟨acc', Γ', ?_, g2, by simp only [List.length_append, List.length_cons, List.length_nil] at g3 ⊢; omega⟩
    unfold lcN
    rw [e1, R.of_some, R.bd_ok, e2, R.bd_ok]
    simp only [if_true]
    rw [e3, R.bd_ok]
    simp only
    rw [e4, R.of_some, R.bd_ok, if_pos (Nat.lt_of_lt_of_le hl2 hN)]
    exact g1
theorem allN_pure {vs : List Nat} {w : Bool} {asg : En → D → Option En} {tst : En → R (Bool × En)} {el : En → R (Pv × En)} {Γ : En} {f : D → Bool} : ∀ {xs : List D}, (∀ x ∈ xs, ∃ Γ1 Γ3, asg Γ x = some Γ1 ∧ tst Γ1 = .ok (true, Γ1) ∧ el Γ1 = .ok (.old (.bl (f x)), Γ3) ∧ ({ Γ3 with sl := wipeE Γ3.sl vs } : En) = Γ) →
    allN vs w asg tst el xs Γ = .ok (if w then xs.all f else xs.any f, Γ)
  | [], _ => by cases w <;> simp [allN]
  | x :: xs, h => by
    obtain ⟨Γ1, Γ3, e1, e2, e3, e5⟩ := h x (by simp)
    unfold allN
    rw [e1, R.of_some, R.bd_ok, e2, R.bd_ok]
    simp only [if_true]
    rw [e3, R.bd_ok]
    simp only
    rw [e5]
    by_cases hf : f x = w
    · rw [if_pos hf, allN_pure fun y hy => h y (by simp [hy])]
      cases w <;> simp [hf]
    · rw [if_neg hf]
      cases w <;> cases hx : f x <;> simp [hx] at hf ⊢
def bnd (Γ : En) (i : Nat) (x : D) : En := { Γ with sl := Γ.sl.set i (some (x, false)) }
theorem set_none {α : Type} {xs : List (Option α)} {i : Nat} {v : Option α} (h : xs[i]? = some none) : (xs.set i v).set i none = xs := by
  rw [List.set_set]
  apply List.ext_getElem?
  intro j
  rw [get_set]
  by_cases hc : i = j ∧ i < xs.length
  · rw [if_pos hc, ← hc.1, h]
  · rw [if_neg hc]
theorem bnd_wipe {Γ : En} {i : Nat} {x : D} (h : Γ.sl[i]? = some none) : ({ bnd Γ i x with sl := wipeE (bnd Γ i x).sl [i] } : En) = Γ := by
  have e : wipeE (bnd Γ i x).sl [i] = Γ.sl := set_none h
  rw [e]; rfl
theorem wipe_id {Γ : En} {i : Nat} (h : Γ.sl[i]? = some none) : ({ Γ with sl := wipeE Γ.sl [i] } : En) = Γ := by
  have e : wipeE Γ.sl [i] = Γ.sl := by
    show Γ.sl.set i none = Γ.sl
    apply List.ext_getElem?
    intro j
    rw [get_set]
    by_cases hc : i = j ∧ i < Γ.sl.length
    · rw [if_pos hc, ← hc.1, h]
    · rw [if_neg hc]
  rw [e]
theorem back_id {Γ : En} {sl0 : List (Option (D × Bool))} {i : Nat} (h : Γ.sl[i]? = some none) (h0 : sl0[i]? = some none) : ({ Γ with sl := backE Γ.sl sl0 [i] } : En) = Γ := by
  have e : backE Γ.sl sl0 [i] = Γ.sl := by
    show Γ.sl.set i ((sl0[i]?).getD none) = Γ.sl
    rw [h0]
    apply List.ext_getElem?
    intro j
    rw [get_set]
    by_cases hc : i = j ∧ i < Γ.sl.length
    · rw [if_pos hc, ← hc.1, h]; rfl
    · rw [if_neg hc]
  rw [e]
theorem noOwn1 {Γ : En} {i : Nat} (h : Γ.sl[i]? = some none) : noOwn Γ [i] = true := by
  simp [noOwn, h]
theorem tg1 {i : Nat} : tgIn (fun j => [i].contains j) (.name i) = true := by simp [tgIn]
theorem ev_gen {F : Str → Fn} {w : Bool} {i : Nat} {k : IK} {es : MEs} {el : ME} {Γ Γ1 : En} {ps : List Pv} {ds xs : List D} {f : D → Bool} (he : evEs F es Γ = .ok (ps, Γ1)) (hd : rds Γ1 ps = some ds) (hs : srcP k ps ds = some xs) (hn : (fzps Γ1 ps).sl[i]? = some none)
    (h : ∀ x ∈ xs, evE F el (bnd (fzps Γ1 ps) i x) = .ok (.old (.bl (f x)), bnd (fzps Γ1 ps) i x)) : evE F (.gen w [i] (.name i) k es .none el) Γ = .ok (.old (.bl (if w then xs.all f else xs.any f)), fzps Γ1 ps) := by
  rw [evE.eq_24, he, R.st_ok, R.bd_ok]
  simp only
  rw [hd, R.of_some, R.bd_ok, hs, R.of_some, R.bd_ok, noOwn1 hn, tg1]
  simp only [Bool.and_self, if_true]
  rw [wipe_id hn, allN_pure (f := f) (fun x hx => ⟨bnd (fzps Γ1 ps) i x, bnd (fzps Γ1 ps) i x, by simp [asg, bnd], by simp [evI], h x hx, bnd_wipe hn⟩), R.st_ok, R.bd_ok]
  simp only
  rw [back_id hn hn]
theorem ev_lc {F : Str → Fn} {i : Nat} {k : IK} {es : MEs} {el : ME} {Γ Γ1 : En} {ps : List Pv} {ds xs : List D} {f : D → D} (he : evEs F es Γ = .ok (ps, Γ1)) (hd : rds Γ1 ps = some ds) (hs : srcP k ps ds = some xs) (hn : (fzps Γ1 ps).sl[i]? = some none) (hl : xs.length ≤ LIM)
    (h : ∀ x ∈ xs, evE F el (bnd (fzps Γ1 ps) i x) = .ok (.old (f x), bnd (fzps Γ1 ps) i x)) : evE F (.lc [i] (.name i) k es .none el) Γ = .ok (.frs (.lst (xs.map f)), fzps Γ1 ps) := by
  rw [evE.eq_23, he, R.st_ok, R.bd_ok]
  simp only
  rw [hd, R.of_some, R.bd_ok, hs, R.of_some, R.bd_ok, noOwn1 hn, tg1]
  simp only [Bool.and_self, if_true]
  rw [wipe_id hn, lcN_pure (f := f) (fun x hx => ⟨bnd (fzps Γ1 ps) i x, .old (f x), bnd (fzps Γ1 ps) i x, by simp [asg, bnd], by simp [evI], h x hx, rfl, by rw [fzp_old]; exact bnd_wipe hn⟩) (by simpa using hl), R.st_ok, R.bd_ok]
  simp only
  rw [back_id hn hn, List.nil_append]
/-- elements that draw -/
theorem ev_lcS {F : Str → Fn} {i : Nat} {k : IK} {es : MEs} {el : ME} {Γ Γ1 : En} {ps : List Pv} {ds xs : List D} {P : D → Prop} (he : evEs F es Γ = .ok (ps, Γ1)) (hd : rds Γ1 ps = some ds) (hs : srcP k ps ds = some xs) (hn : (fzps Γ1 ps).sl[i]? = some none) (hl : xs.length ≤ LIM) {s0 : Strm} (hw : (fzps Γ1 ps).w = some s0)
    (h : ∀ x ∈ xs, ∀ s, ∃ d s', evE F el (bnd { fzps Γ1 ps with w := some s } i x) = .ok (.old d, bnd { fzps Γ1 ps with w := some s' } i x) ∧ P d) :
    ∃ ys s', evE F (.lc [i] (.name i) k es .none el) Γ = .ok (.frs (.lst ys), { fzps Γ1 ps with w := some s' }) ∧ ys.length = xs.length ∧ ∀ y ∈ ys, P y := by
  obtain ⟨ys, Γ', e, ⟨s', hΓ, hP⟩, hlen⟩ := lcN_inv (N := LIM) (Nat.le_refl _) (vs := [i]) (asg := fun Γ d => asg Γ (.name i) d) (tst := fun Γ => evI F .none Γ) (el := fun Γ => evE F el Γ) (I := fun acc Γ' => ∃ s, Γ' = { fzps Γ1 ps with w := some s } ∧ ∀ y ∈ acc, P y) (xs := xs) (acc := []) (Γ := fzps Γ1 ps) (fun x hx acc Γ' ⟨s, hΓ, hP⟩ _ => by
    subst hΓ
    obtain ⟨d, s', e, hd⟩ := h x hx s
    refine ⟨bnd { fzps Γ1 ps with w := some s } i x, .old d, bnd { fzps Γ1 ps with w := some s' } i x, d, by simp [asg, bnd], by simp [evI], e, rfl, s', ?_, fun y hy => ?_⟩
    · rw [fzp_old]; exact bnd_wipe hn
    · rcases List.mem_append.mp hy with hy | hy
      · exact hP y hy
      · rw [List.mem_singleton.mp hy]; exact hd) (by simpa using hl) ⟨s0, by rw [← hw], fun _ h => nomatch h⟩
  refine ⟨ys, s', ?_, by simpa using hlen, hP⟩
  rw [evE.eq_23, he, R.st_ok, R.bd_ok]
  simp only
  rw [hd, R.of_some, R.bd_ok, hs, R.of_some, R.bd_ok, noOwn1 hn, tg1]
  simp only [Bool.and_self, if_true]
  rw [wipe_id hn, e, R.st_ok, R.bd_ok]
  simp only
  rw [hΓ]
  have := back_id (Γ := { fzps Γ1 ps with w := some s' }) hn hn
  simp only at this
  rw [this]
theorem asg_nm {Γ : En} {i : Nat} {d : D} : asg Γ (.name i) d = some { Γ with sl := Γ.sl.set i (some (d, false)) } := by simp [asg]
theorem asg_tp {Γ : En} {ts : MTs} {ds : List D} : asg Γ (.tup ts) (.tup ds) = asgs Γ ts ds := by simp [asg]
theorem asgs_nil {Γ : En} : asgs Γ .nil [] = some Γ := by simp [asgs]
theorem asgs_cons {Γ : En} {i : Nat} {ts : MTs} {d : D} {ds : List D} : asgs Γ (.cons (.name i) ts) (d :: ds) = asgs { Γ with sl := Γ.sl.set i (some (d, false)) } ts ds := by
  simp [asgs, asg]
theorem set0 {α : Type} {x y : α} {xs : List α} : (x :: xs).set 0 y = y :: xs := rfl
theorem setS {α : Type} {x y : α} {xs : List α} {n : Nat} : (x :: xs).set (n + 1) y = x :: xs.set n y := rfl
/-! ### the draws -/
def drawI (s : Strm) (n : Int) : Int := (fillS s).cell % n
def drawS (s : Strm) (n : Int) : Strm := { fillS s with cell := (fillS s).cell / n }
theorem e_next (s : Strm) (n : Int) (h0 : 0 < n) (h1 : n < 1073741824) : mNext [.strm, .int n] (some s) = .ok (.int (drawI s n), false, some (drawS s n)) := by
  simp only [mNext]
  rw [if_pos ⟨h0, h1⟩]
  rfl
theorem draw_lo (s : Strm) {n : Int} (h0 : 0 < n) : 0 ≤ drawI s n := Int.emod_nonneg _ (by omega)
theorem draw_hi (s : Strm) {n : Int} (h0 : 0 < n) : drawI s n < n := Int.emod_lt_of_pos _ h0
theorem ev_lc0 {F : Str → Fn} {i : Nat} {k : IK} {es : MEs} {el : ME} {Γ Γ1 Γ2 : En} {ps : List Pv} {ds xs acc : List D} (he : evEs F es Γ = .ok (ps, Γ1)) (hd : rds Γ1 ps = some ds) (hs : srcP k ps ds = some xs) (hn : (fzps Γ1 ps).sl[i]? = some none)
    (e : lcN [i] (fun Γ d => asg Γ (.name i) d) (fun Γ => evI F .none Γ) (fun Γ => evE F el Γ) xs [] (fzps Γ1 ps) = .ok (acc, Γ2)) (h2 : Γ2.sl[i]? = some none) : evE F (.lc [i] (.name i) k es .none el) Γ = .ok (.frs (.lst acc), Γ2) := by
  rw [evE.eq_23, he, R.st_ok, R.bd_ok]
  simp only
  rw [hd, R.of_some, R.bd_ok, hs, R.of_some, R.bd_ok, noOwn1 hn, tg1]
  simp only [Bool.and_self, if_true]
  rw [wipe_id hn, e, R.st_ok, R.bd_ok]
  simp only
  rw [back_id h2 hn]
end Ux

namespace Ux
open PySem PySem.Spec PyProof.Rows L2 GxR

def topS (i : Nat) : Stmt := PySem.Challenge.pw_undobystate_k07_refusals_of_systems.main.body.getD i (.Pass ⟨0, 0, 0, 0⟩)
abbrev s_law_stream : Stmt := topS 54
abbrev N_law_stream : List Str := ["script"]
def b_law_stream : MSs := (.cons (.ret (.lst (.cons (.bfn .list (.var 0)) (.cons (.con (.int 0)) (.cons (.con (.int 0)) .nil))))) .nil)
def d_law_stream : Df := ⟨1, 1, b_law_stream⟩
abbrev bn_law_stream : List Str := ["list"]
abbrev gl_law_stream : List (Str × V) := []
theorem sc_law_stream : FnScope N_law_stream ["script"] (defScope s_law_stream) := ⟨rfl, rfl, rfl, by decide +kernel, rfl, by decide +kernel, by decide +kernel⟩
theorem er_law_stream {P : Addr} {xs : Xs} {k : Nat}   : ErSs ⟨N_law_stream, fnL [], glL gl_law_stream, bn_law_stream, P, xs.xt, xs.xh, xs.xm, xs.px⟩ ⟨defScope s_law_stream, defScope s_law_stream, k, false⟩ b_law_stream (defBody s_law_stream) := by
  exact (.cons (.ret (.lst (.cons (.bfn (o := .list) rfl (by simp) (by rfl) (.var (by rfl) (by first | exact .inl rfl | exact .inr (.inl rfl) | exact .inr (.inr rfl)) (by rfl) (by rfl)) (fun _ => rfl)) (.cons .int (.cons .int .nil (fun _ => rfl)) (fun _ => rfl)) (fun _ => rfl)))) .nil)
abbrev s_law_next : Stmt := topS 55
abbrev N_law_next : List Str := ["stream", "many", "digit", "k", "cell"]
def b_law_next : MSs := (.cons (.ite (.cmp .eq (.ix (.var 0) (.con (.int 1))) (.con (.int 0))) (.cons (.set 3 (.ix (.var 0) (.con (.int 2)))) (.cons (.set 4 (.op .add (.con (.int 7)) (.var 3))) (.cons (.ite (.cmp .lt (.var 3) (.bfn .len (.ix (.var 0) (.con (.int 0))))) (.cons (.set 4 (.bfn .abs (.ix (.ix (.var 0) (.con (.int 0))) (.var 3)))) .nil) .nil) (.cons (.ite (.cmp .lt (.var 4) (.op .pow (.con (.int 10)) (.con (.int 18)))) (.cons (.set 4 (.op .mod (.bfn .int (.op .add (.op .add (.op .mul (.var 4) (.con (.int 48271))) (.op .mul (.var 3) (.con (.int 69621)))) (.con (.int 11)))) (.con (.int 2147483647)))) (.cons (.set 4 (.op .add (.op .mul (.op .mod (.bfn .int (.op .add (.op .mul (.var 4) (.con (.int 16807))) (.con (.int 13)))) (.con (.int 2147483647))) (.con (.int 65537))) (.var 4))) .nil)) .nil) (.cons (.sub (.var 0) (.con (.int 1)) (.var 4)) (.cons (.sub (.var 0) (.con (.int 2)) (.op .add (.var 3) (.con (.int 1)))) .nil)))))) .nil) (.cons (.set 2 (.op .mod (.bfn .int (.ix (.var 0) (.con (.int 1)))) (.var 1))) (.cons (.sub (.var 0) (.con (.int 1)) (.op .fdiv (.ix (.var 0) (.con (.int 1))) (.var 1))) (.cons (.ret (.var 2)) .nil))))
def d_law_next : Df := ⟨2, 5, b_law_next⟩
abbrev bn_law_next : List Str := ["len", "abs", "int"]
abbrev gl_law_next : List (Str × V) := []
theorem sc_law_next : FnScope N_law_next ["stream", "many"] (defScope s_law_next) := ⟨rfl, rfl, rfl, by decide +kernel, rfl, by decide +kernel, by decide +kernel⟩
theorem er_law_next {P : Addr} {xs : Xs} {k : Nat}   : ErSs ⟨N_law_next, fnL [], glL gl_law_next, bn_law_next, P, xs.xt, xs.xh, xs.xm, xs.px⟩ ⟨defScope s_law_next, defScope s_law_next, k, false⟩ b_law_next (defBody s_law_next) := by
  exact (.cons (.ite (.cmp (o := .eq) rfl (.ix (.var (by rfl) (by first | exact .inl rfl | exact .inr (.inl rfl) | exact .inr (.inr rfl)) (by rfl) (by rfl)) .int (fun _ _ => rfl)) .int (by rfl)) (.cons (.set (by rfl) (by first | exact .inl rfl | exact .inr rfl) (.ix (.var (by rfl) (by first | exact .inl rfl | exact .inr (.inl rfl) | exact .inr (.inr rfl)) (by rfl) (by rfl)) .int (fun _ _ => rfl)) (fun _ _ => by rfl)) (.cons (.set (by rfl) (by first | exact .inl rfl | exact .inr rfl) (.op rfl .int (.var (by rfl) (by first | exact .inl rfl | exact .inr (.inl rfl) | exact .inr (.inr rfl)) (by rfl) (by rfl))) (fun _ _ => by rfl)) (.cons (.ite (.cmp (o := .lt) rfl (.var (by rfl) (by first | exact .inl rfl | exact .inr (.inl rfl) | exact .inr (.inr rfl)) (by rfl) (by rfl)) (.bfn (o := .len) rfl (by simp) (by rfl) (.ix (.var (by rfl) (by first | exact .inl rfl | exact .inr (.inl rfl) | exact .inr (.inr rfl)) (by rfl) (by rfl)) .int (fun _ _ => rfl)) (fun _ => rfl)) (by rfl)) (.cons (.set (by rfl) (by first | exact .inl rfl | exact .inr rfl) (.bfn (o := .abs) rfl (by simp) (by rfl) (.ix (.ix (.var (by rfl) (by first | exact .inl rfl | exact .inr (.inl rfl) | exact .inr (.inr rfl)) (by rfl) (by rfl)) .int (fun _ _ => rfl)) (.var (by rfl) (by first | exact .inl rfl | exact .inr (.inl rfl) | exact .inr (.inr rfl)) (by rfl) (by rfl)) (fun _ _ => rfl)) (fun _ => rfl)) (fun _ _ => by rfl)) .nil) .nil) (.cons (.ite (.cmp (o := .lt) rfl (.var (by rfl) (by first | exact .inl rfl | exact .inr (.inl rfl) | exact .inr (.inr rfl)) (by rfl) (by rfl)) (.op rfl .int .int) (by rfl)) (.cons (.set (by rfl) (by first | exact .inl rfl | exact .inr rfl) (.op rfl (.bfn (o := .int) rfl (by simp) (by rfl) (.op rfl (.op rfl (.op rfl (.var (by rfl) (by first | exact .inl rfl | exact .inr (.inl rfl) | exact .inr (.inr rfl)) (by rfl) (by rfl)) .int) (.op rfl (.var (by rfl) (by first | exact .inl rfl | exact .inr (.inl rfl) | exact .inr (.inr rfl)) (by rfl) (by rfl)) .int)) .int) (fun _ => rfl)) .int) (fun _ _ => by rfl)) (.cons (.set (by rfl) (by first | exact .inl rfl | exact .inr rfl) (.op rfl (.op rfl (.op rfl (.bfn (o := .int) rfl (by simp) (by rfl) (.op rfl (.op rfl (.var (by rfl) (by first | exact .inl rfl | exact .inr (.inl rfl) | exact .inr (.inr rfl)) (by rfl) (by rfl)) .int) .int) (fun _ => rfl)) .int) .int) (.var (by rfl) (by first | exact .inl rfl | exact .inr (.inl rfl) | exact .inr (.inr rfl)) (by rfl) (by rfl))) (fun _ _ => by rfl)) .nil)) .nil) (.cons (.sub (.var (by rfl) (by first | exact .inl rfl | exact .inr (.inl rfl) | exact .inr (.inr rfl)) (by rfl) (by rfl)) .int (.var (by rfl) (by first | exact .inl rfl | exact .inr (.inl rfl) | exact .inr (.inr rfl)) (by rfl) (by rfl)) (fun _ _ => rfl) (fun _ => rfl) (fun _ => rfl) (fun _ => rfl)) (.cons (.sub (.var (by rfl) (by first | exact .inl rfl | exact .inr (.inl rfl) | exact .inr (.inr rfl)) (by rfl) (by rfl)) .int (.op rfl (.var (by rfl) (by first | exact .inl rfl | exact .inr (.inl rfl) | exact .inr (.inr rfl)) (by rfl) (by rfl)) .int) (fun _ _ => rfl) (fun _ => rfl) (fun _ => rfl) (fun _ => rfl)) .nil)))))) .nil) (.cons (.set (by rfl) (by first | exact .inl rfl | exact .inr rfl) (.op rfl (.bfn (o := .int) rfl (by simp) (by rfl) (.ix (.var (by rfl) (by first | exact .inl rfl | exact .inr (.inl rfl) | exact .inr (.inr rfl)) (by rfl) (by rfl)) .int (fun _ _ => rfl)) (fun _ => rfl)) (.var (by rfl) (by first | exact .inl rfl | exact .inr (.inl rfl) | exact .inr (.inr rfl)) (by rfl) (by rfl))) (fun _ _ => by rfl)) (.cons (.sub (.var (by rfl) (by first | exact .inl rfl | exact .inr (.inl rfl) | exact .inr (.inr rfl)) (by rfl) (by rfl)) .int (.op rfl (.ix (.var (by rfl) (by first | exact .inl rfl | exact .inr (.inl rfl) | exact .inr (.inr rfl)) (by rfl) (by rfl)) .int (fun _ _ => rfl)) (.var (by rfl) (by first | exact .inl rfl | exact .inr (.inl rfl) | exact .inr (.inr rfl)) (by rfl) (by rfl))) (fun _ _ => rfl) (fun _ => rfl) (fun _ => rfl) (fun _ => rfl)) (.cons (.ret (.var (by rfl) (by first | exact .inl rfl | exact .inr (.inl rfl) | exact .inr (.inr rfl)) (by rfl) (by rfl))) .nil))))
abbrev s_law_pick : Stmt := topS 56
abbrev N_law_pick : List Str := ["stream", "rows"]
def b_law_pick : MSs := (.cons (.ret (.ix (.var 1) (.call "_law_next" (.cons (.var 0) (.cons (.bfn .len (.var 1)) .nil))))) .nil)
def d_law_pick : Df := ⟨2, 2, b_law_pick⟩
abbrev bn_law_pick : List Str := ["len"]
abbrev gl_law_pick : List (Str × V) := []
theorem sc_law_pick : FnScope N_law_pick ["stream", "rows"] (defScope s_law_pick) := ⟨rfl, rfl, rfl, by decide +kernel, rfl, by decide +kernel, by decide +kernel⟩
theorem er_law_pick {P : Addr} {xs : Xs} {k : Nat} {e_law_next : Fe} (H_law_next : e_law_next.lv ≤ k) : ErSs ⟨N_law_pick, fnL [("_law_next", e_law_next)], glL gl_law_pick, bn_law_pick, P, xs.xt, xs.xh, xs.xm, xs.px⟩ ⟨defScope s_law_pick, defScope s_law_pick, k, false⟩ b_law_pick (defBody s_law_pick) := by
  have h_law_next : e_law_next.lv ≤ k := H_law_next
  exact (.cons (.ret (.ix (.var (by rfl) (by first | exact .inl rfl | exact .inr (.inl rfl) | exact .inr (.inr rfl)) (by rfl) (by rfl)) (.call (fe := e_law_next) (by rfl) h_law_next (by rfl) (by rfl) (.cons (.var (by rfl) (by first | exact .inl rfl | exact .inr (.inl rfl) | exact .inr (.inr rfl)) (by rfl) (by rfl)) (.cons (.bfn (o := .len) rfl (by simp) (by rfl) (.var (by rfl) (by first | exact .inl rfl | exact .inr (.inl rfl) | exact .inr (.inr rfl)) (by rfl) (by rfl)) (fun _ => rfl)) .nil (fun _ => rfl)) (fun _ => rfl)) (fun _ => rfl) (fun _ _ => rfl)) (fun _ _ => rfl))) .nil)
abbrev s_is_tuple_of : Stmt := topS 11
abbrev N_is_tuple_of : List Str := ["value", "many"]
def b_is_tuple_of : MSs := (.cons (.ret (.bop true (.isi "tuple" (.var 0)) (.cons (.cmp .eq (.bfn .len (.var 0)) (.var 1)) .nil))) .nil)
def d_is_tuple_of : Df := ⟨2, 2, b_is_tuple_of⟩
abbrev bn_is_tuple_of : List Str := ["isinstance", "tuple", "len"]
abbrev gl_is_tuple_of : List (Str × V) := []
theorem sc_is_tuple_of : FnScope N_is_tuple_of ["value", "many"] (defScope s_is_tuple_of) := ⟨rfl, rfl, rfl, by decide +kernel, rfl, by decide +kernel, by decide +kernel⟩
theorem er_is_tuple_of {P : Addr} {xs : Xs} {k : Nat}   : ErSs ⟨N_is_tuple_of, fnL [], glL gl_is_tuple_of, bn_is_tuple_of, P, xs.xt, xs.xh, xs.xm, xs.px⟩ ⟨defScope s_is_tuple_of, defScope s_is_tuple_of, k, false⟩ b_is_tuple_of (defBody s_is_tuple_of) := by
  exact (.cons (.ret (.bop rfl (.isi (Ty := "tuple") (by simp) (by rfl) (by simp) (by rfl) (by kernel_rfl) (by decide) (by rfl) (.var (by rfl) (by first | exact .inl rfl | exact .inr (.inl rfl) | exact .inr (.inr rfl)) (by rfl) (by rfl)) (fun _ => rfl)) (.cons (.cmp (o := .eq) rfl (.bfn (o := .len) rfl (by simp) (by rfl) (.var (by rfl) (by first | exact .inl rfl | exact .inr (.inl rfl) | exact .inr (.inr rfl)) (by rfl) (by rfl)) (fun _ => rfl)) (.var (by rfl) (by first | exact .inl rfl | exact .inr (.inl rfl) | exact .inr (.inr rfl)) (by rfl) (by rfl)) (by rfl)) .nil (fun _ => rfl)))) .nil)
abbrev s_is_integer : Stmt := topS 8
abbrev N_is_integer : List Str := ["value"]
def b_is_integer : MSs := (.cons (.ret (.bop true (.isi "int" (.var 0)) (.cons (.not (.isi "bool" (.var 0))) .nil))) .nil)
def d_is_integer : Df := ⟨1, 1, b_is_integer⟩
abbrev bn_is_integer : List Str := ["isinstance", "int", "bool"]
abbrev gl_is_integer : List (Str × V) := []
theorem sc_is_integer : FnScope N_is_integer ["value"] (defScope s_is_integer) := ⟨rfl, rfl, rfl, by decide +kernel, rfl, by decide +kernel, by decide +kernel⟩
theorem er_is_integer {P : Addr} {xs : Xs} {k : Nat}   : ErSs ⟨N_is_integer, fnL [], glL gl_is_integer, bn_is_integer, P, xs.xt, xs.xh, xs.xm, xs.px⟩ ⟨defScope s_is_integer, defScope s_is_integer, k, false⟩ b_is_integer (defBody s_is_integer) := by
  exact (.cons (.ret (.bop rfl (.isi (Ty := "int") (by simp) (by rfl) (by simp) (by rfl) (by kernel_rfl) (by decide) (by rfl) (.var (by rfl) (by first | exact .inl rfl | exact .inr (.inl rfl) | exact .inr (.inr rfl)) (by rfl) (by rfl)) (fun _ => rfl)) (.cons (.not (.isi (Ty := "bool") (by simp) (by rfl) (by simp) (by rfl) (by kernel_rfl) (by decide) (by rfl) (.var (by rfl) (by first | exact .inl rfl | exact .inr (.inl rfl) | exact .inr (.inr rfl)) (by rfl) (by rfl)) (fun _ => rfl))) .nil (fun _ => rfl)))) .nil)
abbrev s_is_index : Stmt := topS 9
abbrev N_is_index : List Str := ["value", "many"]
def b_is_index : MSs := (.cons (.ret (.bop true (.call "is_integer" (.cons (.var 0) .nil)) (.cons (.chn .le .lt (.con (.int 0)) (.var 0) (.var 1)) .nil))) .nil)
def d_is_index : Df := ⟨2, 2, b_is_index⟩
abbrev bn_is_index : List Str := []
abbrev gl_is_index : List (Str × V) := []
theorem sc_is_index : FnScope N_is_index ["value", "many"] (defScope s_is_index) := ⟨rfl, rfl, rfl, by decide +kernel, rfl, by decide +kernel, by decide +kernel⟩
theorem er_is_index {P : Addr} {xs : Xs} {k : Nat} {e_is_integer : Fe} (H_is_integer : e_is_integer.lv ≤ k) : ErSs ⟨N_is_index, fnL [("is_integer", e_is_integer)], glL gl_is_index, bn_is_index, P, xs.xt, xs.xh, xs.xm, xs.px⟩ ⟨defScope s_is_index, defScope s_is_index, k, false⟩ b_is_index (defBody s_is_index) := by
  have h_is_integer : e_is_integer.lv ≤ k := H_is_integer
  exact (.cons (.ret (.bop rfl (.call (fe := e_is_integer) (by rfl) h_is_integer (by rfl) (by rfl) (.cons (.var (by rfl) (by first | exact .inl rfl | exact .inr (.inl rfl) | exact .inr (.inr rfl)) (by rfl) (by rfl)) .nil (fun _ => rfl)) (fun _ => rfl) (fun _ _ => rfl)) (.cons (.chn (o := .le) (o2 := .lt) rfl rfl .int (.var (by rfl) (by first | exact .inl rfl | exact .inr (.inl rfl) | exact .inr (.inr rfl)) (by rfl) (by rfl)) (.var (by rfl) (by first | exact .inl rfl | exact .inr (.inl rfl) | exact .inr (.inr rfl)) (by rfl) (by rfl)) (by rfl)) .nil (fun _ => rfl)))) .nil)
abbrev s_is_index_tuple : Stmt := topS 10
abbrev N_is_index_tuple : List Str := ["value", "many", "item"]
def b_is_index_tuple : MSs := (.cons (.ret (.bop true (.isi "tuple" (.var 0)) (.cons (.gen true [2] (.name 2) .val (.cons (.var 0) .nil) .none (.call "is_index" (.cons (.var 2) (.cons (.var 1) .nil)))) .nil))) .nil)
def d_is_index_tuple : Df := ⟨2, 3, b_is_index_tuple⟩
abbrev bn_is_index_tuple : List Str := ["isinstance", "tuple", "all"]
abbrev gl_is_index_tuple : List (Str × V) := []
theorem sc_is_index_tuple : FnScope N_is_index_tuple ["value", "many"] (defScope s_is_index_tuple) := ⟨rfl, rfl, rfl, by decide +kernel, rfl, by decide +kernel, by decide +kernel⟩
theorem er_is_index_tuple {P : Addr} {xs : Xs} {k : Nat} {e_is_index : Fe} (H_is_index : e_is_index.lv ≤ k) : ErSs ⟨N_is_index_tuple, fnL [("is_index", e_is_index)], glL gl_is_index_tuple, bn_is_index_tuple, P, xs.xt, xs.xh, xs.xm, xs.px⟩ ⟨defScope s_is_index_tuple, defScope s_is_index_tuple, (k + 1), true⟩ b_is_index_tuple (defBody s_is_index_tuple) := by
  have h_is_index : e_is_index.lv ≤ (k + 1) := Nat.le_succ_of_le H_is_index
  exact (.cons (.ret (.bop rfl (.isi (Ty := "tuple") (by simp) (by rfl) (by simp) (by rfl) (by kernel_rfl) (by decide) (by rfl) (.var (by rfl) (by first | exact .inl rfl | exact .inr (.inl rfl) | exact .inr (.inr rfl)) (by rfl) (by rfl)) (fun _ => rfl)) (.cons (.gen (own := [("item", 2)]) rfl (by simp) (by rfl) rfl rfl rfl (show BlkOk N_is_index_tuple _ _ _ from ⟨rfl, by decide +kernel, by decide +kernel, by dsimp only; decide +kernel, by decide +kernel⟩) (by decide +kernel) rfl rfl (.val (.var (by rfl) (by first | exact .inl rfl | exact .inr (.inl rfl) | exact .inr (.inr rfl)) (by rfl) (by rfl))) (.name (by rfl) (by first | exact .inl rfl | exact .inr rfl)) .none (.call (fe := e_is_index) (by rfl) H_is_index (by rfl) (by rfl) (.cons (.var (by rfl) (by first | exact .inl rfl | exact .inr (.inl rfl) | exact .inr (.inr rfl)) (by rfl) (by rfl)) (.cons (.var (by rfl) (by first | exact .inl rfl | exact .inr (.inl rfl) | exact .inr (.inr rfl)) (by rfl) (by rfl)) .nil (fun _ => rfl)) (fun _ => rfl)) (fun _ => rfl) (fun _ _ => rfl)) (fun _ _ => rfl)) .nil (fun _ => rfl)))) .nil)
abbrev s_is_command_row : Stmt := topS 13
abbrev N_is_command_row : List Str := ["value", "states"]
def b_is_command_row : MSs := (.cons (.ret (.bop true (.call "is_index_tuple" (.cons (.var 0) (.cons (.var 1) .nil))) (.cons (.cmp .eq (.bfn .len (.var 0)) (.var 1)) .nil))) .nil)
def d_is_command_row : Df := ⟨2, 2, b_is_command_row⟩
abbrev bn_is_command_row : List Str := ["len"]
abbrev gl_is_command_row : List (Str × V) := []
theorem sc_is_command_row : FnScope N_is_command_row ["value", "states"] (defScope s_is_command_row) := ⟨rfl, rfl, rfl, by decide +kernel, rfl, by decide +kernel, by decide +kernel⟩
theorem er_is_command_row {P : Addr} {xs : Xs} {k : Nat} {e_is_index_tuple : Fe} (H_is_index_tuple : e_is_index_tuple.lv ≤ k) : ErSs ⟨N_is_command_row, fnL [("is_index_tuple", e_is_index_tuple)], glL gl_is_command_row, bn_is_command_row, P, xs.xt, xs.xh, xs.xm, xs.px⟩ ⟨defScope s_is_command_row, defScope s_is_command_row, k, false⟩ b_is_command_row (defBody s_is_command_row) := by
  have h_is_index_tuple : e_is_index_tuple.lv ≤ k := H_is_index_tuple
  exact (.cons (.ret (.bop rfl (.call (fe := e_is_index_tuple) (by rfl) h_is_index_tuple (by rfl) (by rfl) (.cons (.var (by rfl) (by first | exact .inl rfl | exact .inr (.inl rfl) | exact .inr (.inr rfl)) (by rfl) (by rfl)) (.cons (.var (by rfl) (by first | exact .inl rfl | exact .inr (.inl rfl) | exact .inr (.inr rfl)) (by rfl) (by rfl)) .nil (fun _ => rfl)) (fun _ => rfl)) (fun _ => rfl) (fun _ _ => rfl)) (.cons (.cmp (o := .eq) rfl (.bfn (o := .len) rfl (by simp) (by rfl) (.var (by rfl) (by first | exact .inl rfl | exact .inr (.inl rfl) | exact .inr (.inr rfl)) (by rfl) (by rfl)) (fun _ => rfl)) (.var (by rfl) (by first | exact .inl rfl | exact .inr (.inl rfl) | exact .inr (.inr rfl)) (by rfl) (by rfl)) (by rfl)) .nil (fun _ => rfl)))) .nil)
abbrev s_is_system : Stmt := topS 14
abbrev N_is_system : List Str := ["value", "states", "start", "commands", "row"]
def b_is_system : MSs := (.cons (.ite (.not (.tv (.call "is_tuple_of" (.cons (.var 0) (.cons (.con (.int 3)) .nil))))) (.cons (.ret (.con (.bl false))) .nil) .nil) (.cons (.unp (.tup (.cons (.name 1) (.cons (.name 2) (.cons (.name 3) .nil)))) (.var 0)) (.cons (.ite (.bop false (.not (.tv (.call "is_integer" (.cons (.var 1) .nil)))) (.cons (.not (.chn .le .le (.con (.int 1)) (.var 1) (.glo "MOST_STATES" (.int (8))))) .nil)) (.cons (.ret (.con (.bl false))) .nil) .nil) (.cons (.ite (.not (.tv (.call "is_index" (.cons (.var 2) (.cons (.var 1) .nil))))) (.cons (.ret (.con (.bl false))) .nil) .nil) (.cons (.ite (.bop false (.not (.tv (.isi "tuple" (.var 3)))) (.cons (.cmp .gt (.bfn .len (.var 3)) (.glo "MOST_COMMANDS" (.int (4)))) .nil)) (.cons (.ret (.con (.bl false))) .nil) .nil) (.cons (.ret (.gen true [4] (.name 4) .val (.cons (.var 3) .nil) .none (.call "is_command_row" (.cons (.var 4) (.cons (.var 1) .nil))))) .nil))))))
def d_is_system : Df := ⟨1, 5, b_is_system⟩
abbrev bn_is_system : List Str := ["isinstance", "tuple", "len", "all"]
abbrev gl_is_system : List (Str × V) := [("MOST_STATES", (.int (8))), ("MOST_COMMANDS", (.int (4)))]
theorem sc_is_system : FnScope N_is_system ["value"] (defScope s_is_system) := ⟨rfl, rfl, rfl, by decide +kernel, rfl, by decide +kernel, by decide +kernel⟩
theorem er_is_system {P : Addr} {xs : Xs} {k : Nat} {e_is_tuple_of e_is_integer e_is_index e_is_command_row : Fe} (H_is_tuple_of : e_is_tuple_of.lv ≤ k) (H_is_integer : e_is_integer.lv ≤ k) (H_is_index : e_is_index.lv ≤ k) (H_is_command_row : e_is_command_row.lv ≤ k) : ErSs ⟨N_is_system, fnL [("is_tuple_of", e_is_tuple_of), ("is_integer", e_is_integer), ("is_index", e_is_index), ("is_command_row", e_is_command_row)], glL gl_is_system, bn_is_system, P, xs.xt, xs.xh, xs.xm, xs.px⟩ ⟨defScope s_is_system, defScope s_is_system, (k + 1), true⟩ b_is_system (defBody s_is_system) := by
  have h_is_tuple_of : e_is_tuple_of.lv ≤ (k + 1) := Nat.le_succ_of_le H_is_tuple_of
  have h_is_integer : e_is_integer.lv ≤ (k + 1) := Nat.le_succ_of_le H_is_integer
  have h_is_index : e_is_index.lv ≤ (k + 1) := Nat.le_succ_of_le H_is_index
  have h_is_command_row : e_is_command_row.lv ≤ (k + 1) := Nat.le_succ_of_le H_is_command_row
  exact (.cons (.ite (.not (.tv (.call (fe := e_is_tuple_of) (by rfl) h_is_tuple_of (by rfl) (by rfl) (.cons (.var (by rfl) (by first | exact .inl rfl | exact .inr (.inl rfl) | exact .inr (.inr rfl)) (by rfl) (by rfl)) (.cons .int .nil (fun _ => rfl)) (fun _ => rfl)) (fun _ => rfl) (fun _ _ => rfl)) (fun _ _ => rfl))) (.cons (.ret .bl) .nil) .nil) (.cons (.unp (.tup (.cons (.name (by rfl) (by first | exact .inl rfl | exact .inr rfl)) (.cons (.name (by rfl) (by first | exact .inl rfl | exact .inr rfl)) (.cons (.name (by rfl) (by first | exact .inl rfl | exact .inr rfl)) .nil (fun _ => rfl)) (fun _ => rfl)) (fun _ => rfl)) (fun _ => rfl) (fun _ => rfl)) (.var (by rfl) (by first | exact .inl rfl | exact .inr (.inl rfl) | exact .inr (.inr rfl)) (by rfl) (by rfl)) (fun _ => rfl) (fun _ => rfl) (fun _ => rfl)) (.cons (.ite (.bop rfl (.not (.tv (.call (fe := e_is_integer) (by rfl) h_is_integer (by rfl) (by rfl) (.cons (.var (by rfl) (by first | exact .inl rfl | exact .inr (.inl rfl) | exact .inr (.inr rfl)) (by rfl) (by rfl)) .nil (fun _ => rfl)) (fun _ => rfl) (fun _ _ => rfl)) (fun _ _ => rfl))) (.cons (.not (.chn (o := .le) (o2 := .le) rfl rfl .int (.var (by rfl) (by first | exact .inl rfl | exact .inr (.inl rfl) | exact .inr (.inr rfl)) (by rfl) (by rfl)) (.glo (by rfl) (by rfl) (by rfl)) (by rfl))) .nil)) (.cons (.ret .bl) .nil) .nil) (.cons (.ite (.not (.tv (.call (fe := e_is_index) (by rfl) h_is_index (by rfl) (by rfl) (.cons (.var (by rfl) (by first | exact .inl rfl | exact .inr (.inl rfl) | exact .inr (.inr rfl)) (by rfl) (by rfl)) (.cons (.var (by rfl) (by first | exact .inl rfl | exact .inr (.inl rfl) | exact .inr (.inr rfl)) (by rfl) (by rfl)) .nil (fun _ => rfl)) (fun _ => rfl)) (fun _ => rfl) (fun _ _ => rfl)) (fun _ _ => rfl))) (.cons (.ret .bl) .nil) .nil) (.cons (.ite (.bop rfl (.not (.tv (.isi (Ty := "tuple") (by simp) (by rfl) (by simp) (by rfl) (by kernel_rfl) (by decide) (by rfl) (.var (by rfl) (by first | exact .inl rfl | exact .inr (.inl rfl) | exact .inr (.inr rfl)) (by rfl) (by rfl)) (fun _ => rfl)) (fun _ _ => rfl))) (.cons (.cmp (o := .gt) rfl (.bfn (o := .len) rfl (by simp) (by rfl) (.var (by rfl) (by first | exact .inl rfl | exact .inr (.inl rfl) | exact .inr (.inr rfl)) (by rfl) (by rfl)) (fun _ => rfl)) (.glo (by rfl) (by rfl) (by rfl)) (by rfl)) .nil)) (.cons (.ret .bl) .nil) .nil) (.cons (.ret (.gen (own := [("row", 4)]) rfl (by simp) (by rfl) rfl rfl rfl (show BlkOk N_is_system _ _ _ from ⟨rfl, by decide +kernel, by decide +kernel, by dsimp only; decide +kernel, by decide +kernel⟩) (by decide +kernel) rfl rfl (.val (.var (by rfl) (by first | exact .inl rfl | exact .inr (.inl rfl) | exact .inr (.inr rfl)) (by rfl) (by rfl))) (.name (by rfl) (by first | exact .inl rfl | exact .inr rfl)) .none (.call (fe := e_is_command_row) (by rfl) H_is_command_row (by rfl) (by rfl) (.cons (.var (by rfl) (by first | exact .inl rfl | exact .inr (.inl rfl) | exact .inr (.inr rfl)) (by rfl) (by rfl)) (.cons (.var (by rfl) (by first | exact .inl rfl | exact .inr (.inl rfl) | exact .inr (.inr rfl)) (by rfl) (by rfl)) .nil (fun _ => rfl)) (fun _ => rfl)) (fun _ => rfl) (fun _ _ => rfl)) (fun _ _ => rfl))) .nil))))))
abbrev s_check_system : Stmt := topS 19
abbrev N_check_system : List Str := ["system"]
def b_check_system : MSs := (.cons (.ite (.not (.tv (.call "is_system" (.cons (.var 0) .nil)))) (.cons (.rs "BadValue" "name" (.con (.str "system"))) .nil) .nil) .nil)
def d_check_system : Df := ⟨1, 1, b_check_system⟩
abbrev bn_check_system : List Str := []
abbrev gl_check_system : List (Str × V) := []
theorem sc_check_system : FnScope N_check_system ["system"] (defScope s_check_system) := ⟨rfl, rfl, rfl, by decide +kernel, rfl, by decide +kernel, by decide +kernel⟩
theorem er_check_system {P : Addr} {xs : Xs} {k : Nat} {e_is_system : Fe} (H_is_system : e_is_system.lv ≤ k) {C_BadValue : Addr} (H2 : 2 ≤ k) (hx_BadValue : xs.xt "BadValue" = some (C_BadValue, ("name" : Str))) : ErSs ⟨N_check_system, fnL [("is_system", e_is_system)], glL gl_check_system, bn_check_system, P, xs.xt, xs.xh, xs.xm, xs.px⟩ ⟨defScope s_check_system, defScope s_check_system, k, false⟩ b_check_system (defBody s_check_system) := by
  have h_is_system : e_is_system.lv ≤ k := H_is_system
  exact (.cons (.ite (.not (.tv (.call (fe := e_is_system) (by rfl) h_is_system (by rfl) (by rfl) (.cons (.var (by rfl) (by first | exact .inl rfl | exact .inr (.inl rfl) | exact .inr (.inr rfl)) (by rfl) (by rfl)) .nil (fun _ => rfl)) (fun _ => rfl) (fun _ _ => rfl)) (fun _ _ => rfl))) (.cons (.rs hx_BadValue H2 (by rfl) .str (fun _ => rfl) (fun _ _ => rfl)) .nil) .nil) .nil)
abbrev s_is_state : Stmt := topS 15
abbrev N_is_state : List Str := ["system", "value"]
def b_is_state : MSs := (.cons (.ret (.call "is_index" (.cons (.var 1) (.cons (.ix (.var 0) (.con (.int 0))) .nil)))) .nil)
def d_is_state : Df := ⟨2, 2, b_is_state⟩
abbrev bn_is_state : List Str := []
abbrev gl_is_state : List (Str × V) := []
theorem sc_is_state : FnScope N_is_state ["system", "value"] (defScope s_is_state) := ⟨rfl, rfl, rfl, by decide +kernel, rfl, by decide +kernel, by decide +kernel⟩
theorem er_is_state {P : Addr} {xs : Xs} {k : Nat} {e_is_index : Fe} (H_is_index : e_is_index.lv ≤ k) : ErSs ⟨N_is_state, fnL [("is_index", e_is_index)], glL gl_is_state, bn_is_state, P, xs.xt, xs.xh, xs.xm, xs.px⟩ ⟨defScope s_is_state, defScope s_is_state, k, false⟩ b_is_state (defBody s_is_state) := by
  have h_is_index : e_is_index.lv ≤ k := H_is_index
  exact (.cons (.ret (.call (fe := e_is_index) (by rfl) h_is_index (by rfl) (by rfl) (.cons (.var (by rfl) (by first | exact .inl rfl | exact .inr (.inl rfl) | exact .inr (.inr rfl)) (by rfl) (by rfl)) (.cons (.ix (.var (by rfl) (by first | exact .inl rfl | exact .inr (.inl rfl) | exact .inr (.inr rfl)) (by rfl) (by rfl)) .int (fun _ _ => rfl)) .nil (fun _ => rfl)) (fun _ => rfl)) (fun _ => rfl) (fun _ _ => rfl))) .nil)
abbrev s_check_state : Stmt := topS 20
abbrev N_check_state : List Str := ["system", "value", "name"]
def b_check_state : MSs := (.cons (.ite (.not (.tv (.call "is_state" (.cons (.var 0) (.cons (.var 1) .nil))))) (.cons (.rs "BadValue" "name" (.var 2)) .nil) .nil) .nil)
def d_check_state : Df := ⟨3, 3, b_check_state⟩
abbrev bn_check_state : List Str := []
abbrev gl_check_state : List (Str × V) := []
theorem sc_check_state : FnScope N_check_state ["system", "value", "name"] (defScope s_check_state) := ⟨rfl, rfl, rfl, by decide +kernel, rfl, by decide +kernel, by decide +kernel⟩
theorem er_check_state {P : Addr} {xs : Xs} {k : Nat} {e_is_state : Fe} (H_is_state : e_is_state.lv ≤ k) {C_BadValue : Addr} (H2 : 2 ≤ k) (hx_BadValue : xs.xt "BadValue" = some (C_BadValue, ("name" : Str))) : ErSs ⟨N_check_state, fnL [("is_state", e_is_state)], glL gl_check_state, bn_check_state, P, xs.xt, xs.xh, xs.xm, xs.px⟩ ⟨defScope s_check_state, defScope s_check_state, k, false⟩ b_check_state (defBody s_check_state) := by
  have h_is_state : e_is_state.lv ≤ k := H_is_state
  exact (.cons (.ite (.not (.tv (.call (fe := e_is_state) (by rfl) h_is_state (by rfl) (by rfl) (.cons (.var (by rfl) (by first | exact .inl rfl | exact .inr (.inl rfl) | exact .inr (.inr rfl)) (by rfl) (by rfl)) (.cons (.var (by rfl) (by first | exact .inl rfl | exact .inr (.inl rfl) | exact .inr (.inr rfl)) (by rfl) (by rfl)) .nil (fun _ => rfl)) (fun _ => rfl)) (fun _ => rfl) (fun _ _ => rfl)) (fun _ _ => rfl))) (.cons (.rs hx_BadValue H2 (by rfl) (.var (by rfl) (by first | exact .inl rfl | exact .inr (.inl rfl) | exact .inr (.inr rfl)) (by rfl) (by rfl)) (fun _ => rfl) (fun _ _ => rfl)) .nil) .nil) .nil)
abbrev s_is_sequence_within : Stmt := topS 17
abbrev N_is_sequence_within : List Str := ["system", "value", "most"]
def b_is_sequence_within : MSs := (.cons (.ret (.bop true (.call "is_index_tuple" (.cons (.var 1) (.cons (.bfn .len (.ix (.var 0) (.con (.int 2)))) .nil))) (.cons (.cmp .le (.bfn .len (.var 1)) (.var 2)) .nil))) .nil)
def d_is_sequence_within : Df := ⟨3, 3, b_is_sequence_within⟩
abbrev bn_is_sequence_within : List Str := ["len"]
abbrev gl_is_sequence_within : List (Str × V) := []
theorem sc_is_sequence_within : FnScope N_is_sequence_within ["system", "value", "most"] (defScope s_is_sequence_within) := ⟨rfl, rfl, rfl, by decide +kernel, rfl, by decide +kernel, by decide +kernel⟩
theorem er_is_sequence_within {P : Addr} {xs : Xs} {k : Nat} {e_is_index_tuple : Fe} (H_is_index_tuple : e_is_index_tuple.lv ≤ k) : ErSs ⟨N_is_sequence_within, fnL [("is_index_tuple", e_is_index_tuple)], glL gl_is_sequence_within, bn_is_sequence_within, P, xs.xt, xs.xh, xs.xm, xs.px⟩ ⟨defScope s_is_sequence_within, defScope s_is_sequence_within, k, false⟩ b_is_sequence_within (defBody s_is_sequence_within) := by
  have h_is_index_tuple : e_is_index_tuple.lv ≤ k := H_is_index_tuple
  exact (.cons (.ret (.bop rfl (.call (fe := e_is_index_tuple) (by rfl) h_is_index_tuple (by rfl) (by rfl) (.cons (.var (by rfl) (by first | exact .inl rfl | exact .inr (.inl rfl) | exact .inr (.inr rfl)) (by rfl) (by rfl)) (.cons (.bfn (o := .len) rfl (by simp) (by rfl) (.ix (.var (by rfl) (by first | exact .inl rfl | exact .inr (.inl rfl) | exact .inr (.inr rfl)) (by rfl) (by rfl)) .int (fun _ _ => rfl)) (fun _ => rfl)) .nil (fun _ => rfl)) (fun _ => rfl)) (fun _ => rfl) (fun _ _ => rfl)) (.cons (.cmp (o := .le) rfl (.bfn (o := .len) rfl (by simp) (by rfl) (.var (by rfl) (by first | exact .inl rfl | exact .inr (.inl rfl) | exact .inr (.inr rfl)) (by rfl) (by rfl)) (fun _ => rfl)) (.var (by rfl) (by first | exact .inl rfl | exact .inr (.inl rfl) | exact .inr (.inr rfl)) (by rfl) (by rfl)) (by rfl)) .nil (fun _ => rfl)))) .nil)
abbrev s_is_sequence : Stmt := topS 18
abbrev N_is_sequence : List Str := ["system", "value"]
def b_is_sequence : MSs := (.cons (.ret (.call "is_sequence_within" (.cons (.var 0) (.cons (.var 1) (.cons (.glo "MOST_IN_SEQUENCE" (.int (16))) .nil))))) .nil)
def d_is_sequence : Df := ⟨2, 2, b_is_sequence⟩
abbrev bn_is_sequence : List Str := []
abbrev gl_is_sequence : List (Str × V) := [("MOST_IN_SEQUENCE", (.int (16)))]
theorem sc_is_sequence : FnScope N_is_sequence ["system", "value"] (defScope s_is_sequence) := ⟨rfl, rfl, rfl, by decide +kernel, rfl, by decide +kernel, by decide +kernel⟩
theorem er_is_sequence {P : Addr} {xs : Xs} {k : Nat} {e_is_sequence_within : Fe} (H_is_sequence_within : e_is_sequence_within.lv ≤ k) : ErSs ⟨N_is_sequence, fnL [("is_sequence_within", e_is_sequence_within)], glL gl_is_sequence, bn_is_sequence, P, xs.xt, xs.xh, xs.xm, xs.px⟩ ⟨defScope s_is_sequence, defScope s_is_sequence, k, false⟩ b_is_sequence (defBody s_is_sequence) := by
  have h_is_sequence_within : e_is_sequence_within.lv ≤ k := H_is_sequence_within
  exact (.cons (.ret (.call (fe := e_is_sequence_within) (by rfl) h_is_sequence_within (by rfl) (by rfl) (.cons (.var (by rfl) (by first | exact .inl rfl | exact .inr (.inl rfl) | exact .inr (.inr rfl)) (by rfl) (by rfl)) (.cons (.var (by rfl) (by first | exact .inl rfl | exact .inr (.inl rfl) | exact .inr (.inr rfl)) (by rfl) (by rfl)) (.cons (.glo (by rfl) (by rfl) (by rfl)) .nil (fun _ => rfl)) (fun _ => rfl)) (fun _ => rfl)) (fun _ => rfl) (fun _ _ => rfl))) .nil)
abbrev s_check_sequence : Stmt := topS 22
abbrev N_check_sequence : List Str := ["system", "value", "name"]
def b_check_sequence : MSs := (.cons (.ite (.not (.tv (.call "is_sequence" (.cons (.var 0) (.cons (.var 1) .nil))))) (.cons (.rs "BadValue" "name" (.var 2)) .nil) .nil) .nil)
def d_check_sequence : Df := ⟨3, 3, b_check_sequence⟩
abbrev bn_check_sequence : List Str := []
abbrev gl_check_sequence : List (Str × V) := []
theorem sc_check_sequence : FnScope N_check_sequence ["system", "value", "name"] (defScope s_check_sequence) := ⟨rfl, rfl, rfl, by decide +kernel, rfl, by decide +kernel, by decide +kernel⟩
theorem er_check_sequence {P : Addr} {xs : Xs} {k : Nat} {e_is_sequence : Fe} (H_is_sequence : e_is_sequence.lv ≤ k) {C_BadValue : Addr} (H2 : 2 ≤ k) (hx_BadValue : xs.xt "BadValue" = some (C_BadValue, ("name" : Str))) : ErSs ⟨N_check_sequence, fnL [("is_sequence", e_is_sequence)], glL gl_check_sequence, bn_check_sequence, P, xs.xt, xs.xh, xs.xm, xs.px⟩ ⟨defScope s_check_sequence, defScope s_check_sequence, k, false⟩ b_check_sequence (defBody s_check_sequence) := by
  have h_is_sequence : e_is_sequence.lv ≤ k := H_is_sequence
  exact (.cons (.ite (.not (.tv (.call (fe := e_is_sequence) (by rfl) h_is_sequence (by rfl) (by rfl) (.cons (.var (by rfl) (by first | exact .inl rfl | exact .inr (.inl rfl) | exact .inr (.inr rfl)) (by rfl) (by rfl)) (.cons (.var (by rfl) (by first | exact .inl rfl | exact .inr (.inl rfl) | exact .inr (.inr rfl)) (by rfl) (by rfl)) .nil (fun _ => rfl)) (fun _ => rfl)) (fun _ => rfl) (fun _ _ => rfl)) (fun _ _ => rfl))) (.cons (.rs hx_BadValue H2 (by rfl) (.var (by rfl) (by first | exact .inl rfl | exact .inr (.inl rfl) | exact .inr (.inr rfl)) (by rfl) (by rfl)) (fun _ => rfl) (fun _ _ => rfl)) .nil) .nil) .nil)
abbrev s_after : Stmt := topS 23
abbrev N_after : List Str := ["system", "state", "command"]
def b_after : MSs := (.cons (.ret (.ix (.ix (.ix (.var 0) (.con (.int 2))) (.var 2)) (.var 1))) .nil)
def d_after : Df := ⟨3, 3, b_after⟩
abbrev bn_after : List Str := []
abbrev gl_after : List (Str × V) := []
theorem sc_after : FnScope N_after ["system", "state", "command"] (defScope s_after) := ⟨rfl, rfl, rfl, by decide +kernel, rfl, by decide +kernel, by decide +kernel⟩
theorem er_after {P : Addr} {xs : Xs} {k : Nat}   : ErSs ⟨N_after, fnL [], glL gl_after, bn_after, P, xs.xt, xs.xh, xs.xm, xs.px⟩ ⟨defScope s_after, defScope s_after, k, false⟩ b_after (defBody s_after) := by
  exact (.cons (.ret (.ix (.ix (.ix (.var (by rfl) (by first | exact .inl rfl | exact .inr (.inl rfl) | exact .inr (.inr rfl)) (by rfl) (by rfl)) .int (fun _ _ => rfl)) (.var (by rfl) (by first | exact .inl rfl | exact .inr (.inl rfl) | exact .inr (.inr rfl)) (by rfl) (by rfl)) (fun _ _ => rfl)) (.var (by rfl) (by first | exact .inl rfl | exact .inr (.inl rfl) | exact .inr (.inr rfl)) (by rfl) (by rfl)) (fun _ _ => rfl))) .nil)
abbrev s_follow : Stmt := topS 25
abbrev N_follow : List Str := ["system", "state", "sequence", "command"]
def b_follow : MSs := (.cons (.fr (.name 3) .val (.cons (.var 2) .nil) (.cons (.set 1 (.call "after" (.cons (.var 0) (.cons (.var 1) (.cons (.var 3) .nil))))) .nil)) (.cons (.ret (.var 1)) .nil))
def d_follow : Df := ⟨3, 4, b_follow⟩
abbrev bn_follow : List Str := []
abbrev gl_follow : List (Str × V) := []
theorem sc_follow : FnScope N_follow ["system", "state", "sequence"] (defScope s_follow) := ⟨rfl, rfl, rfl, by decide +kernel, rfl, by decide +kernel, by decide +kernel⟩
theorem er_follow {P : Addr} {xs : Xs} {k : Nat} {e_after : Fe} (H_after : e_after.lv ≤ k) : ErSs ⟨N_follow, fnL [("after", e_after)], glL gl_follow, bn_follow, P, xs.xt, xs.xh, xs.xm, xs.px⟩ ⟨defScope s_follow, defScope s_follow, k, false⟩ b_follow (defBody s_follow) := by
  have h_after : e_after.lv ≤ k := H_after
  exact (.cons (.fr (.name (by rfl) (by first | exact .inl rfl | exact .inr rfl)) (.val (.var (by rfl) (by first | exact .inl rfl | exact .inr (.inl rfl) | exact .inr (.inr rfl)) (by rfl) (by rfl))) (.cons (.set (by rfl) (by first | exact .inl rfl | exact .inr rfl) (.call (fe := e_after) (by rfl) h_after (by rfl) (by rfl) (.cons (.var (by rfl) (by first | exact .inl rfl | exact .inr (.inl rfl) | exact .inr (.inr rfl)) (by rfl) (by rfl)) (.cons (.var (by rfl) (by first | exact .inl rfl | exact .inr (.inl rfl) | exact .inr (.inr rfl)) (by rfl) (by rfl)) (.cons (.var (by rfl) (by first | exact .inl rfl | exact .inr (.inl rfl) | exact .inr (.inr rfl)) (by rfl) (by rfl)) .nil (fun _ => rfl)) (fun _ => rfl)) (fun _ => rfl)) (fun _ => rfl) (fun _ _ => rfl)) (fun _ _ => by rfl)) .nil) (fun _ _ => rfl)) (.cons (.ret (.var (by rfl) (by first | exact .inl rfl | exact .inr (.inl rfl) | exact .inr (.inr rfl)) (by rfl) (by rfl))) .nil))
abbrev s_led_to : Stmt := topS 26
abbrev N_led_to : List Str := ["system", "state", "sequence"]
def b_led_to : MSs := (.cons (.ex (.call "check_system" (.cons (.var 0) .nil))) (.cons (.ex (.call "check_state" (.cons (.var 0) (.cons (.var 1) (.cons (.con (.str "state")) .nil))))) (.cons (.ex (.call "check_sequence" (.cons (.var 0) (.cons (.var 2) (.cons (.con (.str "sequence")) .nil))))) (.cons (.ret (.call "follow" (.cons (.var 0) (.cons (.var 1) (.cons (.var 2) .nil))))) .nil))))
def d_led_to : Df := ⟨3, 3, b_led_to⟩
abbrev bn_led_to : List Str := []
abbrev gl_led_to : List (Str × V) := []
theorem sc_led_to : FnScope N_led_to ["system", "state", "sequence"] (defScope s_led_to) := ⟨rfl, rfl, rfl, by decide +kernel, rfl, by decide +kernel, by decide +kernel⟩
theorem er_led_to {P : Addr} {xs : Xs} {k : Nat} {e_check_system e_check_state e_check_sequence e_follow : Fe} (H_check_system : e_check_system.lv ≤ k) (H_check_state : e_check_state.lv ≤ k) (H_check_sequence : e_check_sequence.lv ≤ k) (H_follow : e_follow.lv ≤ k) : ErSs ⟨N_led_to, fnL [("check_system", e_check_system), ("check_state", e_check_state), ("check_sequence", e_check_sequence), ("follow", e_follow)], glL gl_led_to, bn_led_to, P, xs.xt, xs.xh, xs.xm, xs.px⟩ ⟨defScope s_led_to, defScope s_led_to, k, false⟩ b_led_to (defBody s_led_to) := by
  have h_check_system : e_check_system.lv ≤ k := H_check_system
  have h_check_state : e_check_state.lv ≤ k := H_check_state
  have h_check_sequence : e_check_sequence.lv ≤ k := H_check_sequence
  have h_follow : e_follow.lv ≤ k := H_follow
  exact (.cons (.ex (.call (fe := e_check_system) (by rfl) h_check_system (by rfl) (by rfl) (.cons (.var (by rfl) (by first | exact .inl rfl | exact .inr (.inl rfl) | exact .inr (.inr rfl)) (by rfl) (by rfl)) .nil (fun _ => rfl)) (fun _ => rfl) (fun _ _ => rfl)) (fun _ => rfl)) (.cons (.ex (.call (fe := e_check_state) (by rfl) h_check_state (by rfl) (by rfl) (.cons (.var (by rfl) (by first | exact .inl rfl | exact .inr (.inl rfl) | exact .inr (.inr rfl)) (by rfl) (by rfl)) (.cons (.var (by rfl) (by first | exact .inl rfl | exact .inr (.inl rfl) | exact .inr (.inr rfl)) (by rfl) (by rfl)) (.cons .str .nil (fun _ => rfl)) (fun _ => rfl)) (fun _ => rfl)) (fun _ => rfl) (fun _ _ => rfl)) (fun _ => rfl)) (.cons (.ex (.call (fe := e_check_sequence) (by rfl) h_check_sequence (by rfl) (by rfl) (.cons (.var (by rfl) (by first | exact .inl rfl | exact .inr (.inl rfl) | exact .inr (.inr rfl)) (by rfl) (by rfl)) (.cons (.var (by rfl) (by first | exact .inl rfl | exact .inr (.inl rfl) | exact .inr (.inr rfl)) (by rfl) (by rfl)) (.cons .str .nil (fun _ => rfl)) (fun _ => rfl)) (fun _ => rfl)) (fun _ => rfl) (fun _ _ => rfl)) (fun _ => rfl)) (.cons (.ret (.call (fe := e_follow) (by rfl) h_follow (by rfl) (by rfl) (.cons (.var (by rfl) (by first | exact .inl rfl | exact .inr (.inl rfl) | exact .inr (.inr rfl)) (by rfl) (by rfl)) (.cons (.var (by rfl) (by first | exact .inl rfl | exact .inr (.inl rfl) | exact .inr (.inr rfl)) (by rfl) (by rfl)) (.cons (.var (by rfl) (by first | exact .inl rfl | exact .inr (.inl rfl) | exact .inr (.inr rfl)) (by rfl) (by rfl)) .nil (fun _ => rfl)) (fun _ => rfl)) (fun _ => rfl)) (fun _ => rfl) (fun _ _ => rfl))) .nil))))
abbrev s_run : Stmt := topS 27
abbrev N_run : List Str := ["system", "state", "sequence", "states", "command"]
def b_run : MSs := (.cons (.ex (.call "check_system" (.cons (.var 0) .nil))) (.cons (.ex (.call "check_state" (.cons (.var 0) (.cons (.var 1) (.cons (.con (.str "state")) .nil))))) (.cons (.ex (.call "check_sequence" (.cons (.var 0) (.cons (.var 2) (.cons (.con (.str "sequence")) .nil))))) (.cons (.set 3 (.lst (.cons (.var 1) .nil))) (.cons (.fr (.name 4) .val (.cons (.var 2) .nil) (.cons (.ex (.mth .append (.var 3) (.cons (.call "after" (.cons (.var 0) (.cons (.ix (.var 3) (.neg (.con (.int 1)))) (.cons (.var 4) .nil)))) .nil))) .nil)) (.cons (.ret (.bfn .tuple (.var 3))) .nil))))))
def d_run : Df := ⟨3, 5, b_run⟩
abbrev bn_run : List Str := ["tuple"]
abbrev gl_run : List (Str × V) := []
theorem sc_run : FnScope N_run ["system", "state", "sequence"] (defScope s_run) := ⟨rfl, rfl, rfl, by decide +kernel, rfl, by decide +kernel, by decide +kernel⟩
theorem er_run {P : Addr} {xs : Xs} {k : Nat} {e_check_system e_check_state e_check_sequence e_after : Fe} (H_check_system : e_check_system.lv ≤ k) (H_check_state : e_check_state.lv ≤ k) (H_check_sequence : e_check_sequence.lv ≤ k) (H_after : e_after.lv ≤ k) : ErSs ⟨N_run, fnL [("check_system", e_check_system), ("check_state", e_check_state), ("check_sequence", e_check_sequence), ("after", e_after)], glL gl_run, bn_run, P, xs.xt, xs.xh, xs.xm, xs.px⟩ ⟨defScope s_run, defScope s_run, k, false⟩ b_run (defBody s_run) := by
  have h_check_system : e_check_system.lv ≤ k := H_check_system
  have h_check_state : e_check_state.lv ≤ k := H_check_state
  have h_check_sequence : e_check_sequence.lv ≤ k := H_check_sequence
  have h_after : e_after.lv ≤ k := H_after
  exact (.cons (.ex (.call (fe := e_check_system) (by rfl) h_check_system (by rfl) (by rfl) (.cons (.var (by rfl) (by first | exact .inl rfl | exact .inr (.inl rfl) | exact .inr (.inr rfl)) (by rfl) (by rfl)) .nil (fun _ => rfl)) (fun _ => rfl) (fun _ _ => rfl)) (fun _ => rfl)) (.cons (.ex (.call (fe := e_check_state) (by rfl) h_check_state (by rfl) (by rfl) (.cons (.var (by rfl) (by first | exact .inl rfl | exact .inr (.inl rfl) | exact .inr (.inr rfl)) (by rfl) (by rfl)) (.cons (.var (by rfl) (by first | exact .inl rfl | exact .inr (.inl rfl) | exact .inr (.inr rfl)) (by rfl) (by rfl)) (.cons .str .nil (fun _ => rfl)) (fun _ => rfl)) (fun _ => rfl)) (fun _ => rfl) (fun _ _ => rfl)) (fun _ => rfl)) (.cons (.ex (.call (fe := e_check_sequence) (by rfl) h_check_sequence (by rfl) (by rfl) (.cons (.var (by rfl) (by first | exact .inl rfl | exact .inr (.inl rfl) | exact .inr (.inr rfl)) (by rfl) (by rfl)) (.cons (.var (by rfl) (by first | exact .inl rfl | exact .inr (.inl rfl) | exact .inr (.inr rfl)) (by rfl) (by rfl)) (.cons .str .nil (fun _ => rfl)) (fun _ => rfl)) (fun _ => rfl)) (fun _ => rfl) (fun _ _ => rfl)) (fun _ => rfl)) (.cons (.set (by rfl) (by first | exact .inl rfl | exact .inr rfl) (.lst (.cons (.var (by rfl) (by first | exact .inl rfl | exact .inr (.inl rfl) | exact .inr (.inr rfl)) (by rfl) (by rfl)) .nil (fun _ => rfl))) (fun _ _ => by rfl)) (.cons (.fr (.name (by rfl) (by first | exact .inl rfl | exact .inr rfl)) (.val (.var (by rfl) (by first | exact .inl rfl | exact .inr (.inl rfl) | exact .inr (.inr rfl)) (by rfl) (by rfl))) (.cons (.ex (.mth (o := .append) rfl (.var (by rfl) (by first | exact .inl rfl | exact .inr (.inl rfl) | exact .inr (.inr rfl)) (by rfl) (by rfl)) (.cons (.call (fe := e_after) (by rfl) h_after (by rfl) (by rfl) (.cons (.var (by rfl) (by first | exact .inl rfl | exact .inr (.inl rfl) | exact .inr (.inr rfl)) (by rfl) (by rfl)) (.cons (.ix (.var (by rfl) (by first | exact .inl rfl | exact .inr (.inl rfl) | exact .inr (.inr rfl)) (by rfl) (by rfl)) (.neg .int) (fun _ _ => rfl)) (.cons (.var (by rfl) (by first | exact .inl rfl | exact .inr (.inl rfl) | exact .inr (.inr rfl)) (by rfl) (by rfl)) .nil (fun _ => rfl)) (fun _ => rfl)) (fun _ => rfl)) (fun _ => rfl) (fun _ _ => rfl)) .nil (fun _ => rfl)) (fun _ => rfl) (fun _ => rfl) (by rfl) (fun _ => rfl) (fun _ _ => rfl)) (fun _ => rfl)) .nil) (fun _ _ => rfl)) (.cons (.ret (.bfn (o := .tuple) rfl (by simp) (by rfl) (.var (by rfl) (by first | exact .inl rfl | exact .inr (.inl rfl) | exact .inr (.inr rfl)) (by rfl) (by rfl)) (fun _ => rfl))) .nil))))))
abbrev s_all_after : Stmt := topS 24
abbrev N_all_after : List Str := ["row", "states", "state"]
def b_all_after : MSs := (.cons (.ret (.bfn .tuple (.lc [2] (.name 2) .val (.cons (.var 1) .nil) .none (.ix (.var 0) (.var 2))))) .nil)
def d_all_after : Df := ⟨2, 3, b_all_after⟩
abbrev bn_all_after : List Str := ["tuple"]
abbrev gl_all_after : List (Str × V) := []
theorem sc_all_after : FnScope N_all_after ["row", "states"] (defScope s_all_after) := ⟨rfl, rfl, rfl, by decide +kernel, rfl, by decide +kernel, by decide +kernel⟩
theorem er_all_after {P : Addr} {xs : Xs} {k : Nat}   : ErSs ⟨N_all_after, fnL [], glL gl_all_after, bn_all_after, P, xs.xt, xs.xh, xs.xm, xs.px⟩ ⟨defScope s_all_after, defScope s_all_after, k, false⟩ b_all_after (defBody s_all_after) := by
  exact (.cons (.ret (.bfn (o := .tuple) rfl (by simp) (by rfl) (.lc (own := [("state", 2)]) rfl (show BlkOk N_all_after _ _ _ from ⟨rfl, by decide +kernel, by decide +kernel, by dsimp only; decide +kernel, by decide +kernel⟩) (.val (.var (by rfl) (by first | exact .inl rfl | exact .inr (.inl rfl) | exact .inr (.inr rfl)) (by rfl) (by rfl))) (.name (by rfl) (by first | exact .inl rfl | exact .inr rfl)) .none (.ix (.var (by rfl) (by first | exact .inl rfl | exact .inr (.inl rfl) | exact .inr (.inr rfl)) (by rfl) (by rfl)) (.var (by rfl) (by first | exact .inl rfl | exact .inr (.inl rfl) | exact .inr (.inr rfl)) (by rfl) (by rfl)) (fun _ _ => rfl)) (fun _ _ => rfl)) (fun _ => rfl))) .nil)
abbrev s_tuples_from : Stmt := topS 30
abbrev N_tuples_from : List Str := ["system", "states", "most", "found", "level", "behind", "here", "command", "row", "there"]
def b_tuples_from : MSs := (.cons (.set 3 (.dk1 true (.var 1) (.tup .nil))) (.cons (.set 4 (.lst (.cons (.var 1) .nil))) (.cons (.whl (.bop true (.tv (.var 4)) (.cons (.cmp .le (.bfn .len (.var 3)) (.var 2)) .nil)) (.cons (.set 5 (.lst .nil)) (.cons (.fr (.name 6) .val (.cons (.var 4) .nil) (.cons (.fr (.tup (.cons (.name 7) (.cons (.name 8) .nil))) .enm (.cons (.ix (.var 0) (.con (.int 2))) .nil) (.cons (.set 9 (.call "all_after" (.cons (.var 8) (.cons (.var 6) .nil)))) (.cons (.ite (.cmp .nin (.var 9) (.var 3)) (.cons (.sub (.var 3) (.var 9) (.op .add (.ix (.var 3) (.var 6)) (.tup (.cons (.var 7) .nil)))) (.cons (.ex (.mth .append (.var 5) (.cons (.var 9) .nil))) .nil)) .nil) .nil))) .nil)) (.cons (.set 4 (.var 5)) .nil)))) (.cons (.ret (.var 3)) .nil))))
def d_tuples_from : Df := ⟨3, 10, b_tuples_from⟩
abbrev bn_tuples_from : List Str := ["len", "enumerate"]
abbrev gl_tuples_from : List (Str × V) := []
theorem sc_tuples_from : FnScope N_tuples_from ["system", "states", "most"] (defScope s_tuples_from) := ⟨rfl, rfl, rfl, by decide +kernel, rfl, by decide +kernel, by decide +kernel⟩
theorem er_tuples_from {P : Addr} {xs : Xs} {k : Nat} {e_all_after : Fe} (H_all_after : e_all_after.lv ≤ k) : ErSs ⟨N_tuples_from, fnL [("all_after", e_all_after)], glL gl_tuples_from, bn_tuples_from, P, xs.xt, xs.xh, xs.xm, xs.px⟩ ⟨defScope s_tuples_from, defScope s_tuples_from, k, false⟩ b_tuples_from (defBody s_tuples_from) := by
  have h_all_after : e_all_after.lv ≤ k := H_all_after
  exact (.cons (.set (by rfl) (by first | exact .inl rfl | exact .inr rfl) (.dk1 (.var (by rfl) (by first | exact .inl rfl | exact .inr (.inl rfl) | exact .inr (.inr rfl)) (by rfl) (by rfl)) (.tup .nil)) (fun _ _ => by rfl)) (.cons (.set (by rfl) (by first | exact .inl rfl | exact .inr rfl) (.lst (.cons (.var (by rfl) (by first | exact .inl rfl | exact .inr (.inl rfl) | exact .inr (.inr rfl)) (by rfl) (by rfl)) .nil (fun _ => rfl))) (fun _ _ => by rfl)) (.cons (.whl (.bop rfl (.tv (.var (by rfl) (by first | exact .inl rfl | exact .inr (.inl rfl) | exact .inr (.inr rfl)) (by rfl) (by rfl)) (fun _ _ => rfl)) (.cons (.cmp (o := .le) rfl (.bfn (o := .len) rfl (by simp) (by rfl) (.var (by rfl) (by first | exact .inl rfl | exact .inr (.inl rfl) | exact .inr (.inr rfl)) (by rfl) (by rfl)) (fun _ => rfl)) (.var (by rfl) (by first | exact .inl rfl | exact .inr (.inl rfl) | exact .inr (.inr rfl)) (by rfl) (by rfl)) (by rfl)) .nil)) (.cons (.set (by rfl) (by first | exact .inl rfl | exact .inr rfl) (.lst .nil) (fun _ _ => by rfl)) (.cons (.fr (.name (by rfl) (by first | exact .inl rfl | exact .inr rfl)) (.val (.var (by rfl) (by first | exact .inl rfl | exact .inr (.inl rfl) | exact .inr (.inr rfl)) (by rfl) (by rfl))) (.cons (.fr (.tup (.cons (.name (by rfl) (by first | exact .inl rfl | exact .inr rfl)) (.cons (.name (by rfl) (by first | exact .inl rfl | exact .inr rfl)) .nil (fun _ => rfl)) (fun _ => rfl)) (fun _ => rfl) (fun _ => rfl)) (.enm (by rfl) (by simp) (.ix (.var (by rfl) (by first | exact .inl rfl | exact .inr (.inl rfl) | exact .inr (.inr rfl)) (by rfl) (by rfl)) .int (fun _ _ => rfl)) (fun _ => rfl)) (.cons (.set (by rfl) (by first | exact .inl rfl | exact .inr rfl) (.call (fe := e_all_after) (by rfl) h_all_after (by rfl) (by rfl) (.cons (.var (by rfl) (by first | exact .inl rfl | exact .inr (.inl rfl) | exact .inr (.inr rfl)) (by rfl) (by rfl)) (.cons (.var (by rfl) (by first | exact .inl rfl | exact .inr (.inl rfl) | exact .inr (.inr rfl)) (by rfl) (by rfl)) .nil (fun _ => rfl)) (fun _ => rfl)) (fun _ => rfl) (fun _ _ => rfl)) (fun _ _ => by rfl)) (.cons (.ite (.cmp (o := .nin) rfl (.var (by rfl) (by first | exact .inl rfl | exact .inr (.inl rfl) | exact .inr (.inr rfl)) (by rfl) (by rfl)) (.var (by rfl) (by first | exact .inl rfl | exact .inr (.inl rfl) | exact .inr (.inr rfl)) (by rfl) (by rfl)) (by rfl)) (.cons (.sub (.var (by rfl) (by first | exact .inl rfl | exact .inr (.inl rfl) | exact .inr (.inr rfl)) (by rfl) (by rfl)) (.var (by rfl) (by first | exact .inl rfl | exact .inr (.inl rfl) | exact .inr (.inr rfl)) (by rfl) (by rfl)) (.op rfl (.ix (.var (by rfl) (by first | exact .inl rfl | exact .inr (.inl rfl) | exact .inr (.inr rfl)) (by rfl) (by rfl)) (.var (by rfl) (by first | exact .inl rfl | exact .inr (.inl rfl) | exact .inr (.inr rfl)) (by rfl) (by rfl)) (fun _ _ => rfl)) (.tup (.cons (.var (by rfl) (by first | exact .inl rfl | exact .inr (.inl rfl) | exact .inr (.inr rfl)) (by rfl) (by rfl)) .nil (fun _ => rfl)))) (fun _ _ => rfl) (fun _ => rfl) (fun _ => rfl) (fun _ => rfl)) (.cons (.ex (.mth (o := .append) rfl (.var (by rfl) (by first | exact .inl rfl | exact .inr (.inl rfl) | exact .inr (.inr rfl)) (by rfl) (by rfl)) (.cons (.var (by rfl) (by first | exact .inl rfl | exact .inr (.inl rfl) | exact .inr (.inr rfl)) (by rfl) (by rfl)) .nil (fun _ => rfl)) (fun _ => rfl) (fun _ => rfl) (by rfl) (fun _ => rfl) (fun _ _ => rfl)) (fun _ => rfl)) .nil)) .nil) .nil)) (fun _ _ => rfl)) .nil) (fun _ _ => rfl)) (.cons (.set (by rfl) (by first | exact .inl rfl | exact .inr rfl) (.var (by rfl) (by first | exact .inl rfl | exact .inr (.inl rfl) | exact .inr (.inr rfl)) (by rfl) (by rfl)) (fun _ _ => by rfl)) .nil)))) (.cons (.ret (.var (by rfl) (by first | exact .inl rfl | exact .inr (.inl rfl) | exact .inr (.inr rfl)) (by rfl) (by rfl))) .nil))))
abbrev s_sequences_from : Stmt := topS 31
abbrev N_sequences_from : List Str := ["system", "state", "found", "states"]
def b_sequences_from : MSs := (.cons (.set 2 (.call "tuples_from" (.cons (.var 0) (.cons (.tup (.cons (.var 1) .nil)) (.cons (.ix (.var 0) (.con (.int 0))) .nil))))) (.cons (.ret (.dc [3] (.name 3) .val (.cons (.var 2) .nil) .none (.ix (.var 3) (.con (.int 0))) (.ix (.var 2) (.var 3)))) .nil))
def d_sequences_from : Df := ⟨2, 4, b_sequences_from⟩
abbrev bn_sequences_from : List Str := []
abbrev gl_sequences_from : List (Str × V) := []
theorem sc_sequences_from : FnScope N_sequences_from ["system", "state"] (defScope s_sequences_from) := ⟨rfl, rfl, rfl, by decide +kernel, rfl, by decide +kernel, by decide +kernel⟩
theorem er_sequences_from {P : Addr} {xs : Xs} {k : Nat} {e_tuples_from : Fe} (H_tuples_from : e_tuples_from.lv ≤ k) : ErSs ⟨N_sequences_from, fnL [("tuples_from", e_tuples_from)], glL gl_sequences_from, bn_sequences_from, P, xs.xt, xs.xh, xs.xm, xs.px⟩ ⟨defScope s_sequences_from, defScope s_sequences_from, k, false⟩ b_sequences_from (defBody s_sequences_from) := by
  have h_tuples_from : e_tuples_from.lv ≤ k := H_tuples_from
  exact (.cons (.set (by rfl) (by first | exact .inl rfl | exact .inr rfl) (.call (fe := e_tuples_from) (by rfl) h_tuples_from (by rfl) (by rfl) (.cons (.var (by rfl) (by first | exact .inl rfl | exact .inr (.inl rfl) | exact .inr (.inr rfl)) (by rfl) (by rfl)) (.cons (.tup (.cons (.var (by rfl) (by first | exact .inl rfl | exact .inr (.inl rfl) | exact .inr (.inr rfl)) (by rfl) (by rfl)) .nil (fun _ => rfl))) (.cons (.ix (.var (by rfl) (by first | exact .inl rfl | exact .inr (.inl rfl) | exact .inr (.inr rfl)) (by rfl) (by rfl)) .int (fun _ _ => rfl)) .nil (fun _ => rfl)) (fun _ => rfl)) (fun _ => rfl)) (fun _ => rfl) (fun _ _ => rfl)) (fun _ _ => by rfl)) (.cons (.ret (.dc (own := [("states", 3)]) rfl (show BlkOk N_sequences_from _ _ _ from ⟨rfl, by decide +kernel, by decide +kernel, by dsimp only; decide +kernel, by decide +kernel⟩) (.val (.var (by rfl) (by first | exact .inl rfl | exact .inr (.inl rfl) | exact .inr (.inr rfl)) (by rfl) (by rfl))) (.name (by rfl) (by first | exact .inl rfl | exact .inr rfl)) .none (.ix (.var (by rfl) (by first | exact .inl rfl | exact .inr (.inl rfl) | exact .inr (.inr rfl)) (by rfl) (by rfl)) .int (fun _ _ => rfl)) (.ix (.var (by rfl) (by first | exact .inl rfl | exact .inr (.inl rfl) | exact .inr (.inr rfl)) (by rfl) (by rfl)) (.var (by rfl) (by first | exact .inl rfl | exact .inr (.inl rfl) | exact .inr (.inr rfl)) (by rfl) (by rfl)) (fun _ _ => rfl)) (fun _ _ => rfl))) .nil))
abbrev s_reached_from : Stmt := topS 32
abbrev N_reached_from : List Str := ["system", "state"]
def b_reached_from : MSs := (.cons (.ret (.bfn .tuple (.bfn .sorted (.call "sequences_from" (.cons (.var 0) (.cons (.var 1) .nil)))))) .nil)
def d_reached_from : Df := ⟨2, 2, b_reached_from⟩
abbrev bn_reached_from : List Str := ["tuple", "sorted"]
abbrev gl_reached_from : List (Str × V) := []
theorem sc_reached_from : FnScope N_reached_from ["system", "state"] (defScope s_reached_from) := ⟨rfl, rfl, rfl, by decide +kernel, rfl, by decide +kernel, by decide +kernel⟩
theorem er_reached_from {P : Addr} {xs : Xs} {k : Nat} {e_sequences_from : Fe} (H_sequences_from : e_sequences_from.lv ≤ k) : ErSs ⟨N_reached_from, fnL [("sequences_from", e_sequences_from)], glL gl_reached_from, bn_reached_from, P, xs.xt, xs.xh, xs.xm, xs.px⟩ ⟨defScope s_reached_from, defScope s_reached_from, k, false⟩ b_reached_from (defBody s_reached_from) := by
  have h_sequences_from : e_sequences_from.lv ≤ k := H_sequences_from
  exact (.cons (.ret (.bfn (o := .tuple) rfl (by simp) (by rfl) (.bfn (o := .sorted) rfl (by simp) (by rfl) (.call (fe := e_sequences_from) (by rfl) h_sequences_from (by rfl) (by rfl) (.cons (.var (by rfl) (by first | exact .inl rfl | exact .inr (.inl rfl) | exact .inr (.inr rfl)) (by rfl) (by rfl)) (.cons (.var (by rfl) (by first | exact .inl rfl | exact .inr (.inl rfl) | exact .inr (.inr rfl)) (by rfl) (by rfl)) .nil (fun _ => rfl)) (fun _ => rfl)) (fun _ => rfl) (fun _ _ => rfl)) (fun _ => rfl)) (fun _ => rfl))) .nil)
abbrev s_reachable : Stmt := topS 34
abbrev N_reachable : List Str := ["system"]
def b_reachable : MSs := (.cons (.ex (.call "check_system" (.cons (.var 0) .nil))) (.cons (.ret (.call "reached_from" (.cons (.var 0) (.cons (.ix (.var 0) (.con (.int 1))) .nil)))) .nil))
def d_reachable : Df := ⟨1, 1, b_reachable⟩
abbrev bn_reachable : List Str := []
abbrev gl_reachable : List (Str × V) := []
theorem sc_reachable : FnScope N_reachable ["system"] (defScope s_reachable) := ⟨rfl, rfl, rfl, by decide +kernel, rfl, by decide +kernel, by decide +kernel⟩
theorem er_reachable {P : Addr} {xs : Xs} {k : Nat} {e_check_system e_reached_from : Fe} (H_check_system : e_check_system.lv ≤ k) (H_reached_from : e_reached_from.lv ≤ k) : ErSs ⟨N_reachable, fnL [("check_system", e_check_system), ("reached_from", e_reached_from)], glL gl_reachable, bn_reachable, P, xs.xt, xs.xh, xs.xm, xs.px⟩ ⟨defScope s_reachable, defScope s_reachable, k, false⟩ b_reachable (defBody s_reachable) := by
  have h_check_system : e_check_system.lv ≤ k := H_check_system
  have h_reached_from : e_reached_from.lv ≤ k := H_reached_from
  exact (.cons (.ex (.call (fe := e_check_system) (by rfl) h_check_system (by rfl) (by rfl) (.cons (.var (by rfl) (by first | exact .inl rfl | exact .inr (.inl rfl) | exact .inr (.inr rfl)) (by rfl) (by rfl)) .nil (fun _ => rfl)) (fun _ => rfl) (fun _ _ => rfl)) (fun _ => rfl)) (.cons (.ret (.call (fe := e_reached_from) (by rfl) h_reached_from (by rfl) (by rfl) (.cons (.var (by rfl) (by first | exact .inl rfl | exact .inr (.inl rfl) | exact .inr (.inr rfl)) (by rfl) (by rfl)) (.cons (.ix (.var (by rfl) (by first | exact .inl rfl | exact .inr (.inl rfl) | exact .inr (.inr rfl)) (by rfl) (by rfl)) .int (fun _ _ => rfl)) .nil (fun _ => rfl)) (fun _ => rfl)) (fun _ => rfl) (fun _ _ => rfl))) .nil))
abbrev s_first_sequence : Stmt := topS 35
abbrev N_first_sequence : List Str := ["system", "state", "target"]
def b_first_sequence : MSs := (.cons (.ex (.call "check_system" (.cons (.var 0) .nil))) (.cons (.ex (.call "check_state" (.cons (.var 0) (.cons (.var 1) (.cons (.con (.str "state")) .nil))))) (.cons (.ex (.call "check_state" (.cons (.var 0) (.cons (.var 2) (.cons (.con (.str "target")) .nil))))) (.cons (.ret (.mth .get (.call "sequences_from" (.cons (.var 0) (.cons (.var 1) .nil))) (.cons (.var 2) .nil))) .nil))))
def d_first_sequence : Df := ⟨3, 3, b_first_sequence⟩
abbrev bn_first_sequence : List Str := []
abbrev gl_first_sequence : List (Str × V) := []
theorem sc_first_sequence : FnScope N_first_sequence ["system", "state", "target"] (defScope s_first_sequence) := ⟨rfl, rfl, rfl, by decide +kernel, rfl, by decide +kernel, by decide +kernel⟩
theorem er_first_sequence {P : Addr} {xs : Xs} {k : Nat} {e_check_system e_check_state e_sequences_from : Fe} (H_check_system : e_check_system.lv ≤ k) (H_check_state : e_check_state.lv ≤ k) (H_sequences_from : e_sequences_from.lv ≤ k) : ErSs ⟨N_first_sequence, fnL [("check_system", e_check_system), ("check_state", e_check_state), ("sequences_from", e_sequences_from)], glL gl_first_sequence, bn_first_sequence, P, xs.xt, xs.xh, xs.xm, xs.px⟩ ⟨defScope s_first_sequence, defScope s_first_sequence, k, false⟩ b_first_sequence (defBody s_first_sequence) := by
  have h_check_system : e_check_system.lv ≤ k := H_check_system
  have h_check_state : e_check_state.lv ≤ k := H_check_state
  have h_sequences_from : e_sequences_from.lv ≤ k := H_sequences_from
  exact (.cons (.ex (.call (fe := e_check_system) (by rfl) h_check_system (by rfl) (by rfl) (.cons (.var (by rfl) (by first | exact .inl rfl | exact .inr (.inl rfl) | exact .inr (.inr rfl)) (by rfl) (by rfl)) .nil (fun _ => rfl)) (fun _ => rfl) (fun _ _ => rfl)) (fun _ => rfl)) (.cons (.ex (.call (fe := e_check_state) (by rfl) h_check_state (by rfl) (by rfl) (.cons (.var (by rfl) (by first | exact .inl rfl | exact .inr (.inl rfl) | exact .inr (.inr rfl)) (by rfl) (by rfl)) (.cons (.var (by rfl) (by first | exact .inl rfl | exact .inr (.inl rfl) | exact .inr (.inr rfl)) (by rfl) (by rfl)) (.cons .str .nil (fun _ => rfl)) (fun _ => rfl)) (fun _ => rfl)) (fun _ => rfl) (fun _ _ => rfl)) (fun _ => rfl)) (.cons (.ex (.call (fe := e_check_state) (by rfl) h_check_state (by rfl) (by rfl) (.cons (.var (by rfl) (by first | exact .inl rfl | exact .inr (.inl rfl) | exact .inr (.inr rfl)) (by rfl) (by rfl)) (.cons (.var (by rfl) (by first | exact .inl rfl | exact .inr (.inl rfl) | exact .inr (.inr rfl)) (by rfl) (by rfl)) (.cons .str .nil (fun _ => rfl)) (fun _ => rfl)) (fun _ => rfl)) (fun _ => rfl) (fun _ _ => rfl)) (fun _ => rfl)) (.cons (.ret (.mth (o := .get) rfl (.call (fe := e_sequences_from) (by rfl) h_sequences_from (by rfl) (by rfl) (.cons (.var (by rfl) (by first | exact .inl rfl | exact .inr (.inl rfl) | exact .inr (.inr rfl)) (by rfl) (by rfl)) (.cons (.var (by rfl) (by first | exact .inl rfl | exact .inr (.inl rfl) | exact .inr (.inr rfl)) (by rfl) (by rfl)) .nil (fun _ => rfl)) (fun _ => rfl)) (fun _ => rfl) (fun _ _ => rfl)) (.cons (.var (by rfl) (by first | exact .inl rfl | exact .inr (.inl rfl) | exact .inr (.inr rfl)) (by rfl) (by rfl)) .nil (fun _ => rfl)) (fun _ => rfl) (fun _ => rfl) (by rfl) (fun _ => rfl) (fun _ _ => rfl))) .nil))))
abbrev s_reach_evidence : Stmt := topS 36
abbrev N_reach_evidence : List Str := ["system", "state", "target", "sequence"]
def b_reach_evidence : MSs := (.cons (.set 3 (.call "first_sequence" (.cons (.var 0) (.cons (.var 1) (.cons (.var 2) .nil))))) (.cons (.ite (.isn true (.var 3)) (.cons (.ret (.tup (.cons (.con (.str "closed")) (.cons (.call "reached_from" (.cons (.var 0) (.cons (.var 1) .nil))) .nil)))) .nil) .nil) (.cons (.ret (.tup (.cons (.con (.str "path")) (.cons (.var 3) .nil)))) .nil)))
def d_reach_evidence : Df := ⟨3, 4, b_reach_evidence⟩
abbrev bn_reach_evidence : List Str := []
abbrev gl_reach_evidence : List (Str × V) := []
theorem sc_reach_evidence : FnScope N_reach_evidence ["system", "state", "target"] (defScope s_reach_evidence) := ⟨rfl, rfl, rfl, by decide +kernel, rfl, by decide +kernel, by decide +kernel⟩
theorem er_reach_evidence {P : Addr} {xs : Xs} {k : Nat} {e_first_sequence e_reached_from : Fe} (H_first_sequence : e_first_sequence.lv ≤ k) (H_reached_from : e_reached_from.lv ≤ k) : ErSs ⟨N_reach_evidence, fnL [("first_sequence", e_first_sequence), ("reached_from", e_reached_from)], glL gl_reach_evidence, bn_reach_evidence, P, xs.xt, xs.xh, xs.xm, xs.px⟩ ⟨defScope s_reach_evidence, defScope s_reach_evidence, k, false⟩ b_reach_evidence (defBody s_reach_evidence) := by
  have h_first_sequence : e_first_sequence.lv ≤ k := H_first_sequence
  have h_reached_from : e_reached_from.lv ≤ k := H_reached_from
  exact (.cons (.set (by rfl) (by first | exact .inl rfl | exact .inr rfl) (.call (fe := e_first_sequence) (by rfl) h_first_sequence (by rfl) (by rfl) (.cons (.var (by rfl) (by first | exact .inl rfl | exact .inr (.inl rfl) | exact .inr (.inr rfl)) (by rfl) (by rfl)) (.cons (.var (by rfl) (by first | exact .inl rfl | exact .inr (.inl rfl) | exact .inr (.inr rfl)) (by rfl) (by rfl)) (.cons (.var (by rfl) (by first | exact .inl rfl | exact .inr (.inl rfl) | exact .inr (.inr rfl)) (by rfl) (by rfl)) .nil (fun _ => rfl)) (fun _ => rfl)) (fun _ => rfl)) (fun _ => rfl) (fun _ _ => rfl)) (fun _ _ => by rfl)) (.cons (.ite (.isn (.var (by rfl) (by first | exact .inl rfl | exact .inr (.inl rfl) | exact .inr (.inr rfl)) (by rfl) (by rfl))) (.cons (.ret (.tup (.cons .str (.cons (.call (fe := e_reached_from) (by rfl) h_reached_from (by rfl) (by rfl) (.cons (.var (by rfl) (by first | exact .inl rfl | exact .inr (.inl rfl) | exact .inr (.inr rfl)) (by rfl) (by rfl)) (.cons (.var (by rfl) (by first | exact .inl rfl | exact .inr (.inl rfl) | exact .inr (.inr rfl)) (by rfl) (by rfl)) .nil (fun _ => rfl)) (fun _ => rfl)) (fun _ => rfl) (fun _ _ => rfl)) .nil (fun _ => rfl)) (fun _ => rfl)))) .nil) .nil) (.cons (.ret (.tup (.cons .str (.cons (.var (by rfl) (by first | exact .inl rfl | exact .inr (.inl rfl) | exact .inr (.inr rfl)) (by rfl) (by rfl)) .nil (fun _ => rfl)) (fun _ => rfl)))) .nil)))
abbrev s_has_word : Stmt := topS 12
abbrev N_has_word : List Str := ["value", "word", "many"]
def b_has_word : MSs := (.cons (.ret (.bop true (.call "is_tuple_of" (.cons (.var 0) (.cons (.var 2) .nil))) (.cons (.isi "str" (.ix (.var 0) (.con (.int 0)))) (.cons (.cmp .eq (.ix (.var 0) (.con (.int 0))) (.var 1)) .nil)))) .nil)
def d_has_word : Df := ⟨3, 3, b_has_word⟩
abbrev bn_has_word : List Str := ["isinstance", "str"]
abbrev gl_has_word : List (Str × V) := []
theorem sc_has_word : FnScope N_has_word ["value", "word", "many"] (defScope s_has_word) := ⟨rfl, rfl, rfl, by decide +kernel, rfl, by decide +kernel, by decide +kernel⟩
theorem er_has_word {P : Addr} {xs : Xs} {k : Nat} {e_is_tuple_of : Fe} (H_is_tuple_of : e_is_tuple_of.lv ≤ k) : ErSs ⟨N_has_word, fnL [("is_tuple_of", e_is_tuple_of)], glL gl_has_word, bn_has_word, P, xs.xt, xs.xh, xs.xm, xs.px⟩ ⟨defScope s_has_word, defScope s_has_word, k, false⟩ b_has_word (defBody s_has_word) := by
  have h_is_tuple_of : e_is_tuple_of.lv ≤ k := H_is_tuple_of
  exact (.cons (.ret (.bop rfl (.call (fe := e_is_tuple_of) (by rfl) h_is_tuple_of (by rfl) (by rfl) (.cons (.var (by rfl) (by first | exact .inl rfl | exact .inr (.inl rfl) | exact .inr (.inr rfl)) (by rfl) (by rfl)) (.cons (.var (by rfl) (by first | exact .inl rfl | exact .inr (.inl rfl) | exact .inr (.inr rfl)) (by rfl) (by rfl)) .nil (fun _ => rfl)) (fun _ => rfl)) (fun _ => rfl) (fun _ _ => rfl)) (.cons (.isi (Ty := "str") (by simp) (by rfl) (by simp) (by rfl) (by kernel_rfl) (by decide) (by rfl) (.ix (.var (by rfl) (by first | exact .inl rfl | exact .inr (.inl rfl) | exact .inr (.inr rfl)) (by rfl) (by rfl)) .int (fun _ _ => rfl)) (fun _ => rfl)) (.cons (.cmp (o := .eq) rfl (.ix (.var (by rfl) (by first | exact .inl rfl | exact .inr (.inl rfl) | exact .inr (.inr rfl)) (by rfl) (by rfl)) .int (fun _ _ => rfl)) (.var (by rfl) (by first | exact .inl rfl | exact .inr (.inl rfl) | exact .inr (.inr rfl)) (by rfl) (by rfl)) (by rfl)) .nil (fun _ => rfl)) (fun _ => rfl)))) .nil)
abbrev s_shows_reach : Stmt := topS 39
abbrev N_shows_reach : List Str := ["system", "state", "target", "sequence"]
def b_shows_reach : MSs := (.cons (.ret (.bop true (.call "is_sequence_within" (.cons (.var 0) (.cons (.var 3) (.cons (.glo "MOST_IN_PATH" (.int (100))) .nil)))) (.cons (.cmp .eq (.call "follow" (.cons (.var 0) (.cons (.var 1) (.cons (.var 3) .nil)))) (.var 2)) .nil))) .nil)
def d_shows_reach : Df := ⟨4, 4, b_shows_reach⟩
abbrev bn_shows_reach : List Str := []
abbrev gl_shows_reach : List (Str × V) := [("MOST_IN_PATH", (.int (100)))]
theorem sc_shows_reach : FnScope N_shows_reach ["system", "state", "target", "sequence"] (defScope s_shows_reach) := ⟨rfl, rfl, rfl, by decide +kernel, rfl, by decide +kernel, by decide +kernel⟩
theorem er_shows_reach {P : Addr} {xs : Xs} {k : Nat} {e_is_sequence_within e_follow : Fe} (H_is_sequence_within : e_is_sequence_within.lv ≤ k) (H_follow : e_follow.lv ≤ k) : ErSs ⟨N_shows_reach, fnL [("is_sequence_within", e_is_sequence_within), ("follow", e_follow)], glL gl_shows_reach, bn_shows_reach, P, xs.xt, xs.xh, xs.xm, xs.px⟩ ⟨defScope s_shows_reach, defScope s_shows_reach, k, false⟩ b_shows_reach (defBody s_shows_reach) := by
  have h_is_sequence_within : e_is_sequence_within.lv ≤ k := H_is_sequence_within
  have h_follow : e_follow.lv ≤ k := H_follow
  exact (.cons (.ret (.bop rfl (.call (fe := e_is_sequence_within) (by rfl) h_is_sequence_within (by rfl) (by rfl) (.cons (.var (by rfl) (by first | exact .inl rfl | exact .inr (.inl rfl) | exact .inr (.inr rfl)) (by rfl) (by rfl)) (.cons (.var (by rfl) (by first | exact .inl rfl | exact .inr (.inl rfl) | exact .inr (.inr rfl)) (by rfl) (by rfl)) (.cons (.glo (by rfl) (by rfl) (by rfl)) .nil (fun _ => rfl)) (fun _ => rfl)) (fun _ => rfl)) (fun _ => rfl) (fun _ _ => rfl)) (.cons (.cmp (o := .eq) rfl (.call (fe := e_follow) (by rfl) h_follow (by rfl) (by rfl) (.cons (.var (by rfl) (by first | exact .inl rfl | exact .inr (.inl rfl) | exact .inr (.inr rfl)) (by rfl) (by rfl)) (.cons (.var (by rfl) (by first | exact .inl rfl | exact .inr (.inl rfl) | exact .inr (.inr rfl)) (by rfl) (by rfl)) (.cons (.var (by rfl) (by first | exact .inl rfl | exact .inr (.inl rfl) | exact .inr (.inr rfl)) (by rfl) (by rfl)) .nil (fun _ => rfl)) (fun _ => rfl)) (fun _ => rfl)) (fun _ => rfl) (fun _ _ => rfl)) (.var (by rfl) (by first | exact .inl rfl | exact .inr (.inl rfl) | exact .inr (.inr rfl)) (by rfl) (by rfl)) (by rfl)) .nil (fun _ => rfl)))) .nil)
abbrev s_is_ascending : Stmt := topS 37
abbrev N_is_ascending : List Str := ["numbers", "one", "other"]
def b_is_ascending : MSs := (.cons (.ret (.gen true [1, 2] (.tup (.cons (.name 1) (.cons (.name 2) .nil))) .val (.cons .bad .nil) .none (.cmp .lt (.var 1) (.var 2)))) .nil)
def d_is_ascending : Df := ⟨1, 3, b_is_ascending⟩
abbrev bn_is_ascending : List Str := ["all"]
abbrev gl_is_ascending : List (Str × V) := []
theorem sc_is_ascending : FnScope N_is_ascending ["numbers"] (defScope s_is_ascending) := ⟨rfl, rfl, rfl, by decide +kernel, rfl, by decide +kernel, by decide +kernel⟩
theorem er_is_ascending {P : Addr} {xs : Xs} {k : Nat}   : ErSs ⟨N_is_ascending, fnL [], glL gl_is_ascending, bn_is_ascending, P, xs.xt, xs.xh, xs.xm, xs.px⟩ ⟨defScope s_is_ascending, defScope s_is_ascending, (k + 1), true⟩ b_is_ascending (defBody s_is_ascending) := by
  exact (.cons (.ret (.gen (own := [("one", 1), ("other", 2)]) rfl (by simp) (by rfl) rfl rfl rfl (show BlkOk N_is_ascending _ _ _ from ⟨rfl, by decide +kernel, by decide +kernel, by dsimp only; decide +kernel, by decide +kernel⟩) (by decide +kernel) rfl rfl (.val .bad) (.tup (.cons (.name (by rfl) (by first | exact .inl rfl | exact .inr rfl)) (.cons (.name (by rfl) (by first | exact .inl rfl | exact .inr rfl)) .nil (fun _ => rfl)) (fun _ => rfl)) (fun _ => rfl) (fun _ => rfl)) .none (.cmp (o := .lt) rfl (.var (by rfl) (by first | exact .inl rfl | exact .inr (.inl rfl) | exact .inr (.inr rfl)) (by rfl) (by rfl)) (.var (by rfl) (by first | exact .inl rfl | exact .inr (.inl rfl) | exact .inr (.inr rfl)) (by rfl) (by rfl)) (by rfl)) (fun _ _ => rfl))) .nil)
abbrev s_is_closed : Stmt := topS 38
abbrev N_is_closed : List Str := ["system", "chosen", "row", "state"]
def b_is_closed : MSs := (.cons (.ret .bad) .nil)
def d_is_closed : Df := ⟨2, 4, b_is_closed⟩
abbrev bn_is_closed : List Str := []
abbrev gl_is_closed : List (Str × V) := []
theorem sc_is_closed : FnScope N_is_closed ["system", "chosen"] (defScope s_is_closed) := ⟨rfl, rfl, rfl, by decide +kernel, rfl, by decide +kernel, by decide +kernel⟩
theorem er_is_closed {P : Addr} {xs : Xs} {k : Nat}   : ErSs ⟨N_is_closed, fnL [], glL gl_is_closed, bn_is_closed, P, xs.xt, xs.xh, xs.xm, xs.px⟩ ⟨defScope s_is_closed, defScope s_is_closed, k, false⟩ b_is_closed (defBody s_is_closed) := by
  exact (.cons (.ret .bad) .nil)
abbrev s_shows_no_reach : Stmt := topS 40
abbrev N_shows_no_reach : List Str := ["system", "state", "target", "chosen"]
def b_shows_no_reach : MSs := (.cons (.ite (.bop false (.not (.tv (.call "is_index_tuple" (.cons (.var 3) (.cons (.ix (.var 0) (.con (.int 0))) .nil))))) (.cons (.not (.tv (.call "is_ascending" (.cons (.var 3) .nil)))) .nil)) (.cons (.ret (.con (.bl false))) .nil) .nil) (.cons (.ret (.bop true (.cmp .inn (.var 1) (.var 3)) (.cons (.cmp .nin (.var 2) (.var 3)) (.cons (.call "is_closed" (.cons (.var 0) (.cons (.var 3) .nil))) .nil)))) .nil))
def d_shows_no_reach : Df := ⟨4, 4, b_shows_no_reach⟩
abbrev bn_shows_no_reach : List Str := []
abbrev gl_shows_no_reach : List (Str × V) := []
theorem sc_shows_no_reach : FnScope N_shows_no_reach ["system", "state", "target", "chosen"] (defScope s_shows_no_reach) := ⟨rfl, rfl, rfl, by decide +kernel, rfl, by decide +kernel, by decide +kernel⟩
theorem er_shows_no_reach {P : Addr} {xs : Xs} {k : Nat} {e_is_index_tuple e_is_ascending e_is_closed : Fe} (H_is_index_tuple : e_is_index_tuple.lv ≤ k) (H_is_ascending : e_is_ascending.lv ≤ k) (H_is_closed : e_is_closed.lv ≤ k) : ErSs ⟨N_shows_no_reach, fnL [("is_index_tuple", e_is_index_tuple), ("is_ascending", e_is_ascending), ("is_closed", e_is_closed)], glL gl_shows_no_reach, bn_shows_no_reach, P, xs.xt, xs.xh, xs.xm, xs.px⟩ ⟨defScope s_shows_no_reach, defScope s_shows_no_reach, k, false⟩ b_shows_no_reach (defBody s_shows_no_reach) := by
  have h_is_index_tuple : e_is_index_tuple.lv ≤ k := H_is_index_tuple
  have h_is_ascending : e_is_ascending.lv ≤ k := H_is_ascending
  have h_is_closed : e_is_closed.lv ≤ k := H_is_closed
  exact (.cons (.ite (.bop rfl (.not (.tv (.call (fe := e_is_index_tuple) (by rfl) h_is_index_tuple (by rfl) (by rfl) (.cons (.var (by rfl) (by first | exact .inl rfl | exact .inr (.inl rfl) | exact .inr (.inr rfl)) (by rfl) (by rfl)) (.cons (.ix (.var (by rfl) (by first | exact .inl rfl | exact .inr (.inl rfl) | exact .inr (.inr rfl)) (by rfl) (by rfl)) .int (fun _ _ => rfl)) .nil (fun _ => rfl)) (fun _ => rfl)) (fun _ => rfl) (fun _ _ => rfl)) (fun _ _ => rfl))) (.cons (.not (.tv (.call (fe := e_is_ascending) (by rfl) h_is_ascending (by rfl) (by rfl) (.cons (.var (by rfl) (by first | exact .inl rfl | exact .inr (.inl rfl) | exact .inr (.inr rfl)) (by rfl) (by rfl)) .nil (fun _ => rfl)) (fun _ => rfl) (fun _ _ => rfl)) (fun _ _ => rfl))) .nil)) (.cons (.ret .bl) .nil) .nil) (.cons (.ret (.bop rfl (.cmp (o := .inn) rfl (.var (by rfl) (by first | exact .inl rfl | exact .inr (.inl rfl) | exact .inr (.inr rfl)) (by rfl) (by rfl)) (.var (by rfl) (by first | exact .inl rfl | exact .inr (.inl rfl) | exact .inr (.inr rfl)) (by rfl) (by rfl)) (by rfl)) (.cons (.cmp (o := .nin) rfl (.var (by rfl) (by first | exact .inl rfl | exact .inr (.inl rfl) | exact .inr (.inr rfl)) (by rfl) (by rfl)) (.var (by rfl) (by first | exact .inl rfl | exact .inr (.inl rfl) | exact .inr (.inr rfl)) (by rfl) (by rfl)) (by rfl)) (.cons (.call (fe := e_is_closed) (by rfl) h_is_closed (by rfl) (by rfl) (.cons (.var (by rfl) (by first | exact .inl rfl | exact .inr (.inl rfl) | exact .inr (.inr rfl)) (by rfl) (by rfl)) (.cons (.var (by rfl) (by first | exact .inl rfl | exact .inr (.inl rfl) | exact .inr (.inr rfl)) (by rfl) (by rfl)) .nil (fun _ => rfl)) (fun _ => rfl)) (fun _ => rfl) (fun _ _ => rfl)) .nil (fun _ => rfl)) (fun _ => rfl)))) .nil))
abbrev s_accepts_reach : Stmt := topS 41
abbrev N_accepts_reach : List Str := ["system", "state", "target", "value"]
def b_accepts_reach : MSs := (.cons (.ex (.call "check_system" (.cons (.var 0) .nil))) (.cons (.ex (.call "check_state" (.cons (.var 0) (.cons (.var 1) (.cons (.con (.str "state")) .nil))))) (.cons (.ex (.call "check_state" (.cons (.var 0) (.cons (.var 2) (.cons (.con (.str "target")) .nil))))) (.cons (.ite (.tv (.call "has_word" (.cons (.var 3) (.cons (.con (.str "path")) (.cons (.con (.int 2)) .nil))))) (.cons (.ret (.call "shows_reach" (.cons (.var 0) (.cons (.var 1) (.cons (.var 2) (.cons (.ix (.var 3) (.con (.int 1))) .nil)))))) .nil) .nil) (.cons (.ret (.bop true (.call "has_word" (.cons (.var 3) (.cons (.con (.str "closed")) (.cons (.con (.int 2)) .nil)))) (.cons (.call "shows_no_reach" (.cons (.var 0) (.cons (.var 1) (.cons (.var 2) (.cons (.ix (.var 3) (.con (.int 1))) .nil))))) .nil))) .nil)))))
def d_accepts_reach : Df := ⟨4, 4, b_accepts_reach⟩
abbrev bn_accepts_reach : List Str := []
abbrev gl_accepts_reach : List (Str × V) := []
theorem sc_accepts_reach : FnScope N_accepts_reach ["system", "state", "target", "value"] (defScope s_accepts_reach) := ⟨rfl, rfl, rfl, by decide +kernel, rfl, by decide +kernel, by decide +kernel⟩
theorem er_accepts_reach {P : Addr} {xs : Xs} {k : Nat} {e_check_system e_check_state e_has_word e_shows_reach e_shows_no_reach : Fe} (H_check_system : e_check_system.lv ≤ k) (H_check_state : e_check_state.lv ≤ k) (H_has_word : e_has_word.lv ≤ k) (H_shows_reach : e_shows_reach.lv ≤ k) (H_shows_no_reach : e_shows_no_reach.lv ≤ k) : ErSs ⟨N_accepts_reach, fnL [("check_system", e_check_system), ("check_state", e_check_state), ("has_word", e_has_word), ("shows_reach", e_shows_reach), ("shows_no_reach", e_shows_no_reach)], glL gl_accepts_reach, bn_accepts_reach, P, xs.xt, xs.xh, xs.xm, xs.px⟩ ⟨defScope s_accepts_reach, defScope s_accepts_reach, k, false⟩ b_accepts_reach (defBody s_accepts_reach) := by
  have h_check_system : e_check_system.lv ≤ k := H_check_system
  have h_check_state : e_check_state.lv ≤ k := H_check_state
  have h_has_word : e_has_word.lv ≤ k := H_has_word
  have h_shows_reach : e_shows_reach.lv ≤ k := H_shows_reach
  have h_shows_no_reach : e_shows_no_reach.lv ≤ k := H_shows_no_reach
  exact (.cons (.ex (.call (fe := e_check_system) (by rfl) h_check_system (by rfl) (by rfl) (.cons (.var (by rfl) (by first | exact .inl rfl | exact .inr (.inl rfl) | exact .inr (.inr rfl)) (by rfl) (by rfl)) .nil (fun _ => rfl)) (fun _ => rfl) (fun _ _ => rfl)) (fun _ => rfl)) (.cons (.ex (.call (fe := e_check_state) (by rfl) h_check_state (by rfl) (by rfl) (.cons (.var (by rfl) (by first | exact .inl rfl | exact .inr (.inl rfl) | exact .inr (.inr rfl)) (by rfl) (by rfl)) (.cons (.var (by rfl) (by first | exact .inl rfl | exact .inr (.inl rfl) | exact .inr (.inr rfl)) (by rfl) (by rfl)) (.cons .str .nil (fun _ => rfl)) (fun _ => rfl)) (fun _ => rfl)) (fun _ => rfl) (fun _ _ => rfl)) (fun _ => rfl)) (.cons (.ex (.call (fe := e_check_state) (by rfl) h_check_state (by rfl) (by rfl) (.cons (.var (by rfl) (by first | exact .inl rfl | exact .inr (.inl rfl) | exact .inr (.inr rfl)) (by rfl) (by rfl)) (.cons (.var (by rfl) (by first | exact .inl rfl | exact .inr (.inl rfl) | exact .inr (.inr rfl)) (by rfl) (by rfl)) (.cons .str .nil (fun _ => rfl)) (fun _ => rfl)) (fun _ => rfl)) (fun _ => rfl) (fun _ _ => rfl)) (fun _ => rfl)) (.cons (.ite (.tv (.call (fe := e_has_word) (by rfl) h_has_word (by rfl) (by rfl) (.cons (.var (by rfl) (by first | exact .inl rfl | exact .inr (.inl rfl) | exact .inr (.inr rfl)) (by rfl) (by rfl)) (.cons .str (.cons .int .nil (fun _ => rfl)) (fun _ => rfl)) (fun _ => rfl)) (fun _ => rfl) (fun _ _ => rfl)) (fun _ _ => rfl)) (.cons (.ret (.call (fe := e_shows_reach) (by rfl) h_shows_reach (by rfl) (by rfl) (.cons (.var (by rfl) (by first | exact .inl rfl | exact .inr (.inl rfl) | exact .inr (.inr rfl)) (by rfl) (by rfl)) (.cons (.var (by rfl) (by first | exact .inl rfl | exact .inr (.inl rfl) | exact .inr (.inr rfl)) (by rfl) (by rfl)) (.cons (.var (by rfl) (by first | exact .inl rfl | exact .inr (.inl rfl) | exact .inr (.inr rfl)) (by rfl) (by rfl)) (.cons (.ix (.var (by rfl) (by first | exact .inl rfl | exact .inr (.inl rfl) | exact .inr (.inr rfl)) (by rfl) (by rfl)) .int (fun _ _ => rfl)) .nil (fun _ => rfl)) (fun _ => rfl)) (fun _ => rfl)) (fun _ => rfl)) (fun _ => rfl) (fun _ _ => rfl))) .nil) .nil) (.cons (.ret (.bop rfl (.call (fe := e_has_word) (by rfl) h_has_word (by rfl) (by rfl) (.cons (.var (by rfl) (by first | exact .inl rfl | exact .inr (.inl rfl) | exact .inr (.inr rfl)) (by rfl) (by rfl)) (.cons .str (.cons .int .nil (fun _ => rfl)) (fun _ => rfl)) (fun _ => rfl)) (fun _ => rfl) (fun _ _ => rfl)) (.cons (.call (fe := e_shows_no_reach) (by rfl) h_shows_no_reach (by rfl) (by rfl) (.cons (.var (by rfl) (by first | exact .inl rfl | exact .inr (.inl rfl) | exact .inr (.inr rfl)) (by rfl) (by rfl)) (.cons (.var (by rfl) (by first | exact .inl rfl | exact .inr (.inl rfl) | exact .inr (.inr rfl)) (by rfl) (by rfl)) (.cons (.var (by rfl) (by first | exact .inl rfl | exact .inr (.inl rfl) | exact .inr (.inr rfl)) (by rfl) (by rfl)) (.cons (.ix (.var (by rfl) (by first | exact .inl rfl | exact .inr (.inl rfl) | exact .inr (.inr rfl)) (by rfl) (by rfl)) .int (fun _ _ => rfl)) .nil (fun _ => rfl)) (fun _ => rfl)) (fun _ => rfl)) (fun _ => rfl)) (fun _ => rfl) (fun _ _ => rfl)) .nil (fun _ => rfl)))) .nil)))))
abbrev s_law_first : Stmt := topS 57
abbrev N_law_first : List Str := ["word", "parts"]
def b_law_first : MSs := (.cons (.ite (.cmp .eq (.var 0) (.con (.str "led"))) (.cons (.ex (.call "led_to" (.cons (.ix (.var 1) (.con (.int 0))) (.cons (.ix (.var 1) (.con (.int 1))) (.cons (.ix (.var 1) (.con (.int 2))) .nil))))) .nil) (.cons (.ite (.cmp .eq (.var 0) (.con (.str "run"))) (.cons (.ex (.call "run" (.cons (.ix (.var 1) (.con (.int 0))) (.cons (.ix (.var 1) (.con (.int 1))) (.cons (.ix (.var 1) (.con (.int 2))) .nil))))) .nil) (.cons (.ite (.cmp .eq (.var 0) (.con (.str "reachable"))) (.cons (.ex (.call "reachable" (.cons (.ix (.var 1) (.con (.int 0))) .nil))) .nil) (.cons (.ite (.cmp .eq (.var 0) (.con (.str "sequence"))) (.cons (.ex (.call "first_sequence" (.cons (.ix (.var 1) (.con (.int 0))) (.cons (.ix (.var 1) (.con (.int 1))) (.cons (.ix (.var 1) (.con (.int 2))) .nil))))) .nil) (.cons (.ite (.cmp .eq (.var 0) (.con (.str "evidence"))) (.cons (.ex (.call "reach_evidence" (.cons (.ix (.var 1) (.con (.int 0))) (.cons (.ix (.var 1) (.con (.int 1))) (.cons (.ix (.var 1) (.con (.int 2))) .nil))))) .nil) (.cons (.ex (.call "accepts_reach" (.cons (.ix (.var 1) (.con (.int 0))) (.cons (.ix (.var 1) (.con (.int 1))) (.cons (.ix (.var 1) (.con (.int 2))) (.cons (.con .non) .nil)))))) .nil)) .nil)) .nil)) .nil)) .nil)) .nil)
def d_law_first : Df := ⟨2, 2, b_law_first⟩
abbrev bn_law_first : List Str := []
abbrev gl_law_first : List (Str × V) := []
theorem sc_law_first : FnScope N_law_first ["word", "parts"] (defScope s_law_first) := ⟨rfl, rfl, rfl, by decide +kernel, rfl, by decide +kernel, by decide +kernel⟩
theorem er_law_first {P : Addr} {xs : Xs} {k : Nat} {e_led_to e_run e_reachable e_first_sequence e_reach_evidence e_accepts_reach : Fe} (H_led_to : e_led_to.lv ≤ k) (H_run : e_run.lv ≤ k) (H_reachable : e_reachable.lv ≤ k) (H_first_sequence : e_first_sequence.lv ≤ k) (H_reach_evidence : e_reach_evidence.lv ≤ k) (H_accepts_reach : e_accepts_reach.lv ≤ k) : ErSs ⟨N_law_first, fnL [("led_to", e_led_to), ("run", e_run), ("reachable", e_reachable), ("first_sequence", e_first_sequence), ("reach_evidence", e_reach_evidence), ("accepts_reach", e_accepts_reach)], glL gl_law_first, bn_law_first, P, xs.xt, xs.xh, xs.xm, xs.px⟩ ⟨defScope s_law_first, defScope s_law_first, k, false⟩ b_law_first (defBody s_law_first) := by
  have h_led_to : e_led_to.lv ≤ k := H_led_to
  have h_run : e_run.lv ≤ k := H_run
  have h_reachable : e_reachable.lv ≤ k := H_reachable
  have h_first_sequence : e_first_sequence.lv ≤ k := H_first_sequence
  have h_reach_evidence : e_reach_evidence.lv ≤ k := H_reach_evidence
  have h_accepts_reach : e_accepts_reach.lv ≤ k := H_accepts_reach
  exact (.cons (.ite (.cmp (o := .eq) rfl (.var (by rfl) (by first | exact .inl rfl | exact .inr (.inl rfl) | exact .inr (.inr rfl)) (by rfl) (by rfl)) .str (by rfl)) (.cons (.ex (.call (fe := e_led_to) (by rfl) h_led_to (by rfl) (by rfl) (.cons (.ix (.var (by rfl) (by first | exact .inl rfl | exact .inr (.inl rfl) | exact .inr (.inr rfl)) (by rfl) (by rfl)) .int (fun _ _ => rfl)) (.cons (.ix (.var (by rfl) (by first | exact .inl rfl | exact .inr (.inl rfl) | exact .inr (.inr rfl)) (by rfl) (by rfl)) .int (fun _ _ => rfl)) (.cons (.ix (.var (by rfl) (by first | exact .inl rfl | exact .inr (.inl rfl) | exact .inr (.inr rfl)) (by rfl) (by rfl)) .int (fun _ _ => rfl)) .nil (fun _ => rfl)) (fun _ => rfl)) (fun _ => rfl)) (fun _ => rfl) (fun _ _ => rfl)) (fun _ => rfl)) .nil) (.cons (.ite (.cmp (o := .eq) rfl (.var (by rfl) (by first | exact .inl rfl | exact .inr (.inl rfl) | exact .inr (.inr rfl)) (by rfl) (by rfl)) .str (by rfl)) (.cons (.ex (.call (fe := e_run) (by rfl) h_run (by rfl) (by rfl) (.cons (.ix (.var (by rfl) (by first | exact .inl rfl | exact .inr (.inl rfl) | exact .inr (.inr rfl)) (by rfl) (by rfl)) .int (fun _ _ => rfl)) (.cons (.ix (.var (by rfl) (by first | exact .inl rfl | exact .inr (.inl rfl) | exact .inr (.inr rfl)) (by rfl) (by rfl)) .int (fun _ _ => rfl)) (.cons (.ix (.var (by rfl) (by first | exact .inl rfl | exact .inr (.inl rfl) | exact .inr (.inr rfl)) (by rfl) (by rfl)) .int (fun _ _ => rfl)) .nil (fun _ => rfl)) (fun _ => rfl)) (fun _ => rfl)) (fun _ => rfl) (fun _ _ => rfl)) (fun _ => rfl)) .nil) (.cons (.ite (.cmp (o := .eq) rfl (.var (by rfl) (by first | exact .inl rfl | exact .inr (.inl rfl) | exact .inr (.inr rfl)) (by rfl) (by rfl)) .str (by rfl)) (.cons (.ex (.call (fe := e_reachable) (by rfl) h_reachable (by rfl) (by rfl) (.cons (.ix (.var (by rfl) (by first | exact .inl rfl | exact .inr (.inl rfl) | exact .inr (.inr rfl)) (by rfl) (by rfl)) .int (fun _ _ => rfl)) .nil (fun _ => rfl)) (fun _ => rfl) (fun _ _ => rfl)) (fun _ => rfl)) .nil) (.cons (.ite (.cmp (o := .eq) rfl (.var (by rfl) (by first | exact .inl rfl | exact .inr (.inl rfl) | exact .inr (.inr rfl)) (by rfl) (by rfl)) .str (by rfl)) (.cons (.ex (.call (fe := e_first_sequence) (by rfl) h_first_sequence (by rfl) (by rfl) (.cons (.ix (.var (by rfl) (by first | exact .inl rfl | exact .inr (.inl rfl) | exact .inr (.inr rfl)) (by rfl) (by rfl)) .int (fun _ _ => rfl)) (.cons (.ix (.var (by rfl) (by first | exact .inl rfl | exact .inr (.inl rfl) | exact .inr (.inr rfl)) (by rfl) (by rfl)) .int (fun _ _ => rfl)) (.cons (.ix (.var (by rfl) (by first | exact .inl rfl | exact .inr (.inl rfl) | exact .inr (.inr rfl)) (by rfl) (by rfl)) .int (fun _ _ => rfl)) .nil (fun _ => rfl)) (fun _ => rfl)) (fun _ => rfl)) (fun _ => rfl) (fun _ _ => rfl)) (fun _ => rfl)) .nil) (.cons (.ite (.cmp (o := .eq) rfl (.var (by rfl) (by first | exact .inl rfl | exact .inr (.inl rfl) | exact .inr (.inr rfl)) (by rfl) (by rfl)) .str (by rfl)) (.cons (.ex (.call (fe := e_reach_evidence) (by rfl) h_reach_evidence (by rfl) (by rfl) (.cons (.ix (.var (by rfl) (by first | exact .inl rfl | exact .inr (.inl rfl) | exact .inr (.inr rfl)) (by rfl) (by rfl)) .int (fun _ _ => rfl)) (.cons (.ix (.var (by rfl) (by first | exact .inl rfl | exact .inr (.inl rfl) | exact .inr (.inr rfl)) (by rfl) (by rfl)) .int (fun _ _ => rfl)) (.cons (.ix (.var (by rfl) (by first | exact .inl rfl | exact .inr (.inl rfl) | exact .inr (.inr rfl)) (by rfl) (by rfl)) .int (fun _ _ => rfl)) .nil (fun _ => rfl)) (fun _ => rfl)) (fun _ => rfl)) (fun _ => rfl) (fun _ _ => rfl)) (fun _ => rfl)) .nil) (.cons (.ex (.call (fe := e_accepts_reach) (by rfl) h_accepts_reach (by rfl) (by rfl) (.cons (.ix (.var (by rfl) (by first | exact .inl rfl | exact .inr (.inl rfl) | exact .inr (.inr rfl)) (by rfl) (by rfl)) .int (fun _ _ => rfl)) (.cons (.ix (.var (by rfl) (by first | exact .inl rfl | exact .inr (.inl rfl) | exact .inr (.inr rfl)) (by rfl) (by rfl)) .int (fun _ _ => rfl)) (.cons (.ix (.var (by rfl) (by first | exact .inl rfl | exact .inr (.inl rfl) | exact .inr (.inr rfl)) (by rfl) (by rfl)) .int (fun _ _ => rfl)) (.cons .non .nil (fun _ => rfl)) (fun _ => rfl)) (fun _ => rfl)) (fun _ => rfl)) (fun _ => rfl) (fun _ _ => rfl)) (fun _ => rfl)) .nil)) .nil)) .nil)) .nil)) .nil)) .nil)
abbrev s_agree : Stmt := topS 43
abbrev N_agree : List Str := ["system", "first", "second", "state"]
def b_agree : MSs := (.cons (.ex (.call "check_system" (.cons (.var 0) .nil))) (.cons (.ex (.call "check_sequence" (.cons (.var 0) (.cons (.var 1) (.cons (.con (.str "first")) .nil))))) (.cons (.ex (.call "check_sequence" (.cons (.var 0) (.cons (.var 2) (.cons (.con (.str "second")) .nil))))) (.cons (.ex (.call "check_state" (.cons (.var 0) (.cons (.var 3) (.cons (.con (.str "state")) .nil))))) (.cons (.ret (.cmp .eq (.call "follow" (.cons (.var 0) (.cons (.var 3) (.cons (.var 1) .nil)))) (.call "follow" (.cons (.var 0) (.cons (.var 3) (.cons (.var 2) .nil)))))) .nil)))))
def d_agree : Df := ⟨4, 4, b_agree⟩
abbrev bn_agree : List Str := []
abbrev gl_agree : List (Str × V) := []
theorem sc_agree : FnScope N_agree ["system", "first", "second", "state"] (defScope s_agree) := ⟨rfl, rfl, rfl, by decide +kernel, rfl, by decide +kernel, by decide +kernel⟩
theorem er_agree {P : Addr} {xs : Xs} {k : Nat} {e_check_system e_check_sequence e_check_state e_follow : Fe} (H_check_system : e_check_system.lv ≤ k) (H_check_sequence : e_check_sequence.lv ≤ k) (H_check_state : e_check_state.lv ≤ k) (H_follow : e_follow.lv ≤ k) : ErSs ⟨N_agree, fnL [("check_system", e_check_system), ("check_sequence", e_check_sequence), ("check_state", e_check_state), ("follow", e_follow)], glL gl_agree, bn_agree, P, xs.xt, xs.xh, xs.xm, xs.px⟩ ⟨defScope s_agree, defScope s_agree, k, false⟩ b_agree (defBody s_agree) := by
  have h_check_system : e_check_system.lv ≤ k := H_check_system
  have h_check_sequence : e_check_sequence.lv ≤ k := H_check_sequence
  have h_check_state : e_check_state.lv ≤ k := H_check_state
  have h_follow : e_follow.lv ≤ k := H_follow
  exact (.cons (.ex (.call (fe := e_check_system) (by rfl) h_check_system (by rfl) (by rfl) (.cons (.var (by rfl) (by first | exact .inl rfl | exact .inr (.inl rfl) | exact .inr (.inr rfl)) (by rfl) (by rfl)) .nil (fun _ => rfl)) (fun _ => rfl) (fun _ _ => rfl)) (fun _ => rfl)) (.cons (.ex (.call (fe := e_check_sequence) (by rfl) h_check_sequence (by rfl) (by rfl) (.cons (.var (by rfl) (by first | exact .inl rfl | exact .inr (.inl rfl) | exact .inr (.inr rfl)) (by rfl) (by rfl)) (.cons (.var (by rfl) (by first | exact .inl rfl | exact .inr (.inl rfl) | exact .inr (.inr rfl)) (by rfl) (by rfl)) (.cons .str .nil (fun _ => rfl)) (fun _ => rfl)) (fun _ => rfl)) (fun _ => rfl) (fun _ _ => rfl)) (fun _ => rfl)) (.cons (.ex (.call (fe := e_check_sequence) (by rfl) h_check_sequence (by rfl) (by rfl) (.cons (.var (by rfl) (by first | exact .inl rfl | exact .inr (.inl rfl) | exact .inr (.inr rfl)) (by rfl) (by rfl)) (.cons (.var (by rfl) (by first | exact .inl rfl | exact .inr (.inl rfl) | exact .inr (.inr rfl)) (by rfl) (by rfl)) (.cons .str .nil (fun _ => rfl)) (fun _ => rfl)) (fun _ => rfl)) (fun _ => rfl) (fun _ _ => rfl)) (fun _ => rfl)) (.cons (.ex (.call (fe := e_check_state) (by rfl) h_check_state (by rfl) (by rfl) (.cons (.var (by rfl) (by first | exact .inl rfl | exact .inr (.inl rfl) | exact .inr (.inr rfl)) (by rfl) (by rfl)) (.cons (.var (by rfl) (by first | exact .inl rfl | exact .inr (.inl rfl) | exact .inr (.inr rfl)) (by rfl) (by rfl)) (.cons .str .nil (fun _ => rfl)) (fun _ => rfl)) (fun _ => rfl)) (fun _ => rfl) (fun _ _ => rfl)) (fun _ => rfl)) (.cons (.ret (.cmp (o := .eq) rfl (.call (fe := e_follow) (by rfl) h_follow (by rfl) (by rfl) (.cons (.var (by rfl) (by first | exact .inl rfl | exact .inr (.inl rfl) | exact .inr (.inr rfl)) (by rfl) (by rfl)) (.cons (.var (by rfl) (by first | exact .inl rfl | exact .inr (.inl rfl) | exact .inr (.inr rfl)) (by rfl) (by rfl)) (.cons (.var (by rfl) (by first | exact .inl rfl | exact .inr (.inl rfl) | exact .inr (.inr rfl)) (by rfl) (by rfl)) .nil (fun _ => rfl)) (fun _ => rfl)) (fun _ => rfl)) (fun _ => rfl) (fun _ _ => rfl)) (.call (fe := e_follow) (by rfl) h_follow (by rfl) (by rfl) (.cons (.var (by rfl) (by first | exact .inl rfl | exact .inr (.inl rfl) | exact .inr (.inr rfl)) (by rfl) (by rfl)) (.cons (.var (by rfl) (by first | exact .inl rfl | exact .inr (.inl rfl) | exact .inr (.inr rfl)) (by rfl) (by rfl)) (.cons (.var (by rfl) (by first | exact .inl rfl | exact .inr (.inl rfl) | exact .inr (.inr rfl)) (by rfl) (by rfl)) .nil (fun _ => rfl)) (fun _ => rfl)) (fun _ => rfl)) (fun _ => rfl) (fun _ _ => rfl)) (by rfl))) .nil)))))
abbrev s_least_difference : Stmt := topS 44
abbrev N_least_difference : List Str := ["system", "first", "second", "state"]
def b_least_difference : MSs := (.cons (.fr (.name 3) .val (.cons (.call "reached_from" (.cons (.var 0) (.cons (.ix (.var 0) (.con (.int 1))) .nil))) .nil) (.cons (.ite (.cmp .ne (.call "follow" (.cons (.var 0) (.cons (.var 3) (.cons (.var 1) .nil)))) (.call "follow" (.cons (.var 0) (.cons (.var 3) (.cons (.var 2) .nil))))) (.cons (.ret (.var 3)) .nil) .nil) .nil)) (.cons (.ret (.con .non)) .nil))
def d_least_difference : Df := ⟨3, 4, b_least_difference⟩
abbrev bn_least_difference : List Str := []
abbrev gl_least_difference : List (Str × V) := []
theorem sc_least_difference : FnScope N_least_difference ["system", "first", "second"] (defScope s_least_difference) := ⟨rfl, rfl, rfl, by decide +kernel, rfl, by decide +kernel, by decide +kernel⟩
theorem er_least_difference {P : Addr} {xs : Xs} {k : Nat} {e_reached_from e_follow : Fe} (H_reached_from : e_reached_from.lv ≤ k) (H_follow : e_follow.lv ≤ k) : ErSs ⟨N_least_difference, fnL [("reached_from", e_reached_from), ("follow", e_follow)], glL gl_least_difference, bn_least_difference, P, xs.xt, xs.xh, xs.xm, xs.px⟩ ⟨defScope s_least_difference, defScope s_least_difference, k, false⟩ b_least_difference (defBody s_least_difference) := by
  have h_reached_from : e_reached_from.lv ≤ k := H_reached_from
  have h_follow : e_follow.lv ≤ k := H_follow
  exact (.cons (.fr (.name (by rfl) (by first | exact .inl rfl | exact .inr rfl)) (.val (.call (fe := e_reached_from) (by rfl) h_reached_from (by rfl) (by rfl) (.cons (.var (by rfl) (by first | exact .inl rfl | exact .inr (.inl rfl) | exact .inr (.inr rfl)) (by rfl) (by rfl)) (.cons (.ix (.var (by rfl) (by first | exact .inl rfl | exact .inr (.inl rfl) | exact .inr (.inr rfl)) (by rfl) (by rfl)) .int (fun _ _ => rfl)) .nil (fun _ => rfl)) (fun _ => rfl)) (fun _ => rfl) (fun _ _ => rfl))) (.cons (.ite (.cmp (o := .ne) rfl (.call (fe := e_follow) (by rfl) h_follow (by rfl) (by rfl) (.cons (.var (by rfl) (by first | exact .inl rfl | exact .inr (.inl rfl) | exact .inr (.inr rfl)) (by rfl) (by rfl)) (.cons (.var (by rfl) (by first | exact .inl rfl | exact .inr (.inl rfl) | exact .inr (.inr rfl)) (by rfl) (by rfl)) (.cons (.var (by rfl) (by first | exact .inl rfl | exact .inr (.inl rfl) | exact .inr (.inr rfl)) (by rfl) (by rfl)) .nil (fun _ => rfl)) (fun _ => rfl)) (fun _ => rfl)) (fun _ => rfl) (fun _ _ => rfl)) (.call (fe := e_follow) (by rfl) h_follow (by rfl) (by rfl) (.cons (.var (by rfl) (by first | exact .inl rfl | exact .inr (.inl rfl) | exact .inr (.inr rfl)) (by rfl) (by rfl)) (.cons (.var (by rfl) (by first | exact .inl rfl | exact .inr (.inl rfl) | exact .inr (.inr rfl)) (by rfl) (by rfl)) (.cons (.var (by rfl) (by first | exact .inl rfl | exact .inr (.inl rfl) | exact .inr (.inr rfl)) (by rfl) (by rfl)) .nil (fun _ => rfl)) (fun _ => rfl)) (fun _ => rfl)) (fun _ => rfl) (fun _ _ => rfl)) (by rfl)) (.cons (.ret (.var (by rfl) (by first | exact .inl rfl | exact .inr (.inl rfl) | exact .inr (.inr rfl)) (by rfl) (by rfl))) .nil) .nil) .nil) (fun _ _ => rfl)) (.cons (.ret .non) .nil))
abbrev s_difference : Stmt := topS 45
abbrev N_difference : List Str := ["system", "first", "second"]
def b_difference : MSs := (.cons (.ex (.call "check_system" (.cons (.var 0) .nil))) (.cons (.ex (.call "check_sequence" (.cons (.var 0) (.cons (.var 1) (.cons (.con (.str "first")) .nil))))) (.cons (.ex (.call "check_sequence" (.cons (.var 0) (.cons (.var 2) (.cons (.con (.str "second")) .nil))))) (.cons (.ret (.call "least_difference" (.cons (.var 0) (.cons (.var 1) (.cons (.var 2) .nil))))) .nil))))
def d_difference : Df := ⟨3, 3, b_difference⟩
abbrev bn_difference : List Str := []
abbrev gl_difference : List (Str × V) := []
theorem sc_difference : FnScope N_difference ["system", "first", "second"] (defScope s_difference) := ⟨rfl, rfl, rfl, by decide +kernel, rfl, by decide +kernel, by decide +kernel⟩
theorem er_difference {P : Addr} {xs : Xs} {k : Nat} {e_check_system e_check_sequence e_least_difference : Fe} (H_check_system : e_check_system.lv ≤ k) (H_check_sequence : e_check_sequence.lv ≤ k) (H_least_difference : e_least_difference.lv ≤ k) : ErSs ⟨N_difference, fnL [("check_system", e_check_system), ("check_sequence", e_check_sequence), ("least_difference", e_least_difference)], glL gl_difference, bn_difference, P, xs.xt, xs.xh, xs.xm, xs.px⟩ ⟨defScope s_difference, defScope s_difference, k, false⟩ b_difference (defBody s_difference) := by
  have h_check_system : e_check_system.lv ≤ k := H_check_system
  have h_check_sequence : e_check_sequence.lv ≤ k := H_check_sequence
  have h_least_difference : e_least_difference.lv ≤ k := H_least_difference
  exact (.cons (.ex (.call (fe := e_check_system) (by rfl) h_check_system (by rfl) (by rfl) (.cons (.var (by rfl) (by first | exact .inl rfl | exact .inr (.inl rfl) | exact .inr (.inr rfl)) (by rfl) (by rfl)) .nil (fun _ => rfl)) (fun _ => rfl) (fun _ _ => rfl)) (fun _ => rfl)) (.cons (.ex (.call (fe := e_check_sequence) (by rfl) h_check_sequence (by rfl) (by rfl) (.cons (.var (by rfl) (by first | exact .inl rfl | exact .inr (.inl rfl) | exact .inr (.inr rfl)) (by rfl) (by rfl)) (.cons (.var (by rfl) (by first | exact .inl rfl | exact .inr (.inl rfl) | exact .inr (.inr rfl)) (by rfl) (by rfl)) (.cons .str .nil (fun _ => rfl)) (fun _ => rfl)) (fun _ => rfl)) (fun _ => rfl) (fun _ _ => rfl)) (fun _ => rfl)) (.cons (.ex (.call (fe := e_check_sequence) (by rfl) h_check_sequence (by rfl) (by rfl) (.cons (.var (by rfl) (by first | exact .inl rfl | exact .inr (.inl rfl) | exact .inr (.inr rfl)) (by rfl) (by rfl)) (.cons (.var (by rfl) (by first | exact .inl rfl | exact .inr (.inl rfl) | exact .inr (.inr rfl)) (by rfl) (by rfl)) (.cons .str .nil (fun _ => rfl)) (fun _ => rfl)) (fun _ => rfl)) (fun _ => rfl) (fun _ _ => rfl)) (fun _ => rfl)) (.cons (.ret (.call (fe := e_least_difference) (by rfl) h_least_difference (by rfl) (by rfl) (.cons (.var (by rfl) (by first | exact .inl rfl | exact .inr (.inl rfl) | exact .inr (.inr rfl)) (by rfl) (by rfl)) (.cons (.var (by rfl) (by first | exact .inl rfl | exact .inr (.inl rfl) | exact .inr (.inr rfl)) (by rfl) (by rfl)) (.cons (.var (by rfl) (by first | exact .inl rfl | exact .inr (.inl rfl) | exact .inr (.inr rfl)) (by rfl) (by rfl)) .nil (fun _ => rfl)) (fun _ => rfl)) (fun _ => rfl)) (fun _ => rfl) (fun _ _ => rfl))) .nil))))
abbrev s_first_merged : Stmt := topS 46
abbrev N_first_merged : List Str := ["system", "command", "chosen", "one", "other"]
def b_first_merged : MSs := (.cons (.set 2 (.call "reached_from" (.cons (.var 0) (.cons (.ix (.var 0) (.con (.int 1))) .nil)))) (.cons (.fr (.name 3) .val (.cons (.var 2) .nil) (.cons (.fr (.name 4) .val (.cons (.var 2) .nil) (.cons (.ite (.bop true (.cmp .lt (.var 3) (.var 4)) (.cons (.cmp .eq (.call "after" (.cons (.var 0) (.cons (.var 3) (.cons (.var 1) .nil)))) (.call "after" (.cons (.var 0) (.cons (.var 4) (.cons (.var 1) .nil))))) .nil)) (.cons (.ret (.tup (.cons (.var 3) (.cons (.var 4) .nil)))) .nil) .nil) .nil)) .nil)) (.cons (.ret (.con .non)) .nil)))
def d_first_merged : Df := ⟨2, 5, b_first_merged⟩
abbrev bn_first_merged : List Str := []
abbrev gl_first_merged : List (Str × V) := []
theorem sc_first_merged : FnScope N_first_merged ["system", "command"] (defScope s_first_merged) := ⟨rfl, rfl, rfl, by decide +kernel, rfl, by decide +kernel, by decide +kernel⟩
theorem er_first_merged {P : Addr} {xs : Xs} {k : Nat} {e_reached_from e_after : Fe} (H_reached_from : e_reached_from.lv ≤ k) (H_after : e_after.lv ≤ k) : ErSs ⟨N_first_merged, fnL [("reached_from", e_reached_from), ("after", e_after)], glL gl_first_merged, bn_first_merged, P, xs.xt, xs.xh, xs.xm, xs.px⟩ ⟨defScope s_first_merged, defScope s_first_merged, k, false⟩ b_first_merged (defBody s_first_merged) := by
  have h_reached_from : e_reached_from.lv ≤ k := H_reached_from
  have h_after : e_after.lv ≤ k := H_after
  exact (.cons (.set (by rfl) (by first | exact .inl rfl | exact .inr rfl) (.call (fe := e_reached_from) (by rfl) h_reached_from (by rfl) (by rfl) (.cons (.var (by rfl) (by first | exact .inl rfl | exact .inr (.inl rfl) | exact .inr (.inr rfl)) (by rfl) (by rfl)) (.cons (.ix (.var (by rfl) (by first | exact .inl rfl | exact .inr (.inl rfl) | exact .inr (.inr rfl)) (by rfl) (by rfl)) .int (fun _ _ => rfl)) .nil (fun _ => rfl)) (fun _ => rfl)) (fun _ => rfl) (fun _ _ => rfl)) (fun _ _ => by rfl)) (.cons (.fr (.name (by rfl) (by first | exact .inl rfl | exact .inr rfl)) (.val (.var (by rfl) (by first | exact .inl rfl | exact .inr (.inl rfl) | exact .inr (.inr rfl)) (by rfl) (by rfl))) (.cons (.fr (.name (by rfl) (by first | exact .inl rfl | exact .inr rfl)) (.val (.var (by rfl) (by first | exact .inl rfl | exact .inr (.inl rfl) | exact .inr (.inr rfl)) (by rfl) (by rfl))) (.cons (.ite (.bop rfl (.cmp (o := .lt) rfl (.var (by rfl) (by first | exact .inl rfl | exact .inr (.inl rfl) | exact .inr (.inr rfl)) (by rfl) (by rfl)) (.var (by rfl) (by first | exact .inl rfl | exact .inr (.inl rfl) | exact .inr (.inr rfl)) (by rfl) (by rfl)) (by rfl)) (.cons (.cmp (o := .eq) rfl (.call (fe := e_after) (by rfl) h_after (by rfl) (by rfl) (.cons (.var (by rfl) (by first | exact .inl rfl | exact .inr (.inl rfl) | exact .inr (.inr rfl)) (by rfl) (by rfl)) (.cons (.var (by rfl) (by first | exact .inl rfl | exact .inr (.inl rfl) | exact .inr (.inr rfl)) (by rfl) (by rfl)) (.cons (.var (by rfl) (by first | exact .inl rfl | exact .inr (.inl rfl) | exact .inr (.inr rfl)) (by rfl) (by rfl)) .nil (fun _ => rfl)) (fun _ => rfl)) (fun _ => rfl)) (fun _ => rfl) (fun _ _ => rfl)) (.call (fe := e_after) (by rfl) h_after (by rfl) (by rfl) (.cons (.var (by rfl) (by first | exact .inl rfl | exact .inr (.inl rfl) | exact .inr (.inr rfl)) (by rfl) (by rfl)) (.cons (.var (by rfl) (by first | exact .inl rfl | exact .inr (.inl rfl) | exact .inr (.inr rfl)) (by rfl) (by rfl)) (.cons (.var (by rfl) (by first | exact .inl rfl | exact .inr (.inl rfl) | exact .inr (.inr rfl)) (by rfl) (by rfl)) .nil (fun _ => rfl)) (fun _ => rfl)) (fun _ => rfl)) (fun _ => rfl) (fun _ _ => rfl)) (by rfl)) .nil)) (.cons (.ret (.tup (.cons (.var (by rfl) (by first | exact .inl rfl | exact .inr (.inl rfl) | exact .inr (.inr rfl)) (by rfl) (by rfl)) (.cons (.var (by rfl) (by first | exact .inl rfl | exact .inr (.inl rfl) | exact .inr (.inr rfl)) (by rfl) (by rfl)) .nil (fun _ => rfl)) (fun _ => rfl)))) .nil) .nil) .nil) (fun _ _ => rfl)) .nil) (fun _ _ => rfl)) (.cons (.ret .non) .nil)))
abbrev s_one_to_one : Stmt := topS 47
abbrev N_one_to_one : List Str := ["system", "command"]
def b_one_to_one : MSs := (.cons (.ex (.call "check_system" (.cons (.var 0) .nil))) (.cons (.ret (.bfn .tuple (.lc [1] (.name 1) .rng1 (.cons (.bfn .len (.ix (.var 0) (.con (.int 2)))) .nil) (.some (.isn true (.call "first_merged" (.cons (.var 0) (.cons (.var 1) .nil))))) (.var 1)))) .nil))
def d_one_to_one : Df := ⟨1, 2, b_one_to_one⟩
abbrev bn_one_to_one : List Str := ["tuple", "range", "len"]
abbrev gl_one_to_one : List (Str × V) := []
theorem sc_one_to_one : FnScope N_one_to_one ["system"] (defScope s_one_to_one) := ⟨rfl, rfl, rfl, by decide +kernel, rfl, by decide +kernel, by decide +kernel⟩
theorem er_one_to_one {P : Addr} {xs : Xs} {k : Nat} {e_check_system e_first_merged : Fe} (H_check_system : e_check_system.lv ≤ k) (H_first_merged : e_first_merged.lv ≤ k) : ErSs ⟨N_one_to_one, fnL [("check_system", e_check_system), ("first_merged", e_first_merged)], glL gl_one_to_one, bn_one_to_one, P, xs.xt, xs.xh, xs.xm, xs.px⟩ ⟨defScope s_one_to_one, defScope s_one_to_one, k, false⟩ b_one_to_one (defBody s_one_to_one) := by
  have h_check_system : e_check_system.lv ≤ k := H_check_system
  have h_first_merged : e_first_merged.lv ≤ k := H_first_merged
  exact (.cons (.ex (.call (fe := e_check_system) (by rfl) h_check_system (by rfl) (by rfl) (.cons (.var (by rfl) (by first | exact .inl rfl | exact .inr (.inl rfl) | exact .inr (.inr rfl)) (by rfl) (by rfl)) .nil (fun _ => rfl)) (fun _ => rfl) (fun _ _ => rfl)) (fun _ => rfl)) (.cons (.ret (.bfn (o := .tuple) rfl (by simp) (by rfl) (.lc (own := [("command", 1)]) rfl (show BlkOk N_one_to_one _ _ _ from ⟨rfl, by decide +kernel, by decide +kernel, by dsimp only; decide +kernel, by decide +kernel⟩) (.rng1 (by simp) (by rfl) (.bfn (o := .len) rfl (by simp) (by rfl) (.ix (.var (by rfl) (by first | exact .inl rfl | exact .inr (.inl rfl) | exact .inr (.inr rfl)) (by rfl) (by rfl)) .int (fun _ _ => rfl)) (fun _ => rfl)) (fun _ => rfl)) (.name (by rfl) (by first | exact .inl rfl | exact .inr rfl)) (.some (.isn (.call (fe := e_first_merged) (by rfl) h_first_merged (by rfl) (by rfl) (.cons (.var (by rfl) (by first | exact .inl rfl | exact .inr (.inl rfl) | exact .inr (.inr rfl)) (by rfl) (by rfl)) (.cons (.var (by rfl) (by first | exact .inl rfl | exact .inr (.inl rfl) | exact .inr (.inr rfl)) (by rfl) (by rfl)) .nil (fun _ => rfl)) (fun _ => rfl)) (fun _ => rfl) (fun _ _ => rfl)))) (.var (by rfl) (by first | exact .inl rfl | exact .inr (.inl rfl) | exact .inr (.inr rfl)) (by rfl) (by rfl)) (fun _ _ => rfl)) (fun _ => rfl))) .nil))
abbrev s_is_command : Stmt := topS 16
abbrev N_is_command : List Str := ["system", "value"]
def b_is_command : MSs := (.cons (.ret (.call "is_index" (.cons (.var 1) (.cons (.bfn .len (.ix (.var 0) (.con (.int 2)))) .nil)))) .nil)
def d_is_command : Df := ⟨2, 2, b_is_command⟩
abbrev bn_is_command : List Str := ["len"]
abbrev gl_is_command : List (Str × V) := []
theorem sc_is_command : FnScope N_is_command ["system", "value"] (defScope s_is_command) := ⟨rfl, rfl, rfl, by decide +kernel, rfl, by decide +kernel, by decide +kernel⟩
theorem er_is_command {P : Addr} {xs : Xs} {k : Nat} {e_is_index : Fe} (H_is_index : e_is_index.lv ≤ k) : ErSs ⟨N_is_command, fnL [("is_index", e_is_index)], glL gl_is_command, bn_is_command, P, xs.xt, xs.xh, xs.xm, xs.px⟩ ⟨defScope s_is_command, defScope s_is_command, k, false⟩ b_is_command (defBody s_is_command) := by
  have h_is_index : e_is_index.lv ≤ k := H_is_index
  exact (.cons (.ret (.call (fe := e_is_index) (by rfl) h_is_index (by rfl) (by rfl) (.cons (.var (by rfl) (by first | exact .inl rfl | exact .inr (.inl rfl) | exact .inr (.inr rfl)) (by rfl) (by rfl)) (.cons (.bfn (o := .len) rfl (by simp) (by rfl) (.ix (.var (by rfl) (by first | exact .inl rfl | exact .inr (.inl rfl) | exact .inr (.inr rfl)) (by rfl) (by rfl)) .int (fun _ _ => rfl)) (fun _ => rfl)) .nil (fun _ => rfl)) (fun _ => rfl)) (fun _ => rfl) (fun _ _ => rfl))) .nil)
abbrev s_check_command : Stmt := topS 21
abbrev N_check_command : List Str := ["system", "value", "name"]
def b_check_command : MSs := (.cons (.ite (.not (.tv (.call "is_command" (.cons (.var 0) (.cons (.var 1) .nil))))) (.cons (.rs "BadValue" "name" (.var 2)) .nil) .nil) .nil)
def d_check_command : Df := ⟨3, 3, b_check_command⟩
abbrev bn_check_command : List Str := []
abbrev gl_check_command : List (Str × V) := []
theorem sc_check_command : FnScope N_check_command ["system", "value", "name"] (defScope s_check_command) := ⟨rfl, rfl, rfl, by decide +kernel, rfl, by decide +kernel, by decide +kernel⟩
theorem er_check_command {P : Addr} {xs : Xs} {k : Nat} {e_is_command : Fe} (H_is_command : e_is_command.lv ≤ k) {C_BadValue : Addr} (H2 : 2 ≤ k) (hx_BadValue : xs.xt "BadValue" = some (C_BadValue, ("name" : Str))) : ErSs ⟨N_check_command, fnL [("is_command", e_is_command)], glL gl_check_command, bn_check_command, P, xs.xt, xs.xh, xs.xm, xs.px⟩ ⟨defScope s_check_command, defScope s_check_command, k, false⟩ b_check_command (defBody s_check_command) := by
  have h_is_command : e_is_command.lv ≤ k := H_is_command
  exact (.cons (.ite (.not (.tv (.call (fe := e_is_command) (by rfl) h_is_command (by rfl) (by rfl) (.cons (.var (by rfl) (by first | exact .inl rfl | exact .inr (.inl rfl) | exact .inr (.inr rfl)) (by rfl) (by rfl)) (.cons (.var (by rfl) (by first | exact .inl rfl | exact .inr (.inl rfl) | exact .inr (.inr rfl)) (by rfl) (by rfl)) .nil (fun _ => rfl)) (fun _ => rfl)) (fun _ => rfl) (fun _ _ => rfl)) (fun _ _ => rfl))) (.cons (.rs hx_BadValue H2 (by rfl) (.var (by rfl) (by first | exact .inl rfl | exact .inr (.inl rfl) | exact .inr (.inr rfl)) (by rfl) (by rfl)) (fun _ => rfl) (fun _ _ => rfl)) .nil) .nil) .nil)
abbrev s_merged : Stmt := topS 48
abbrev N_merged : List Str := ["system", "command"]
def b_merged : MSs := (.cons (.ex (.call "check_system" (.cons (.var 0) .nil))) (.cons (.ex (.call "check_command" (.cons (.var 0) (.cons (.var 1) (.cons (.con (.str "command")) .nil))))) (.cons (.ret (.call "first_merged" (.cons (.var 0) (.cons (.var 1) .nil)))) .nil)))
def d_merged : Df := ⟨2, 2, b_merged⟩
abbrev bn_merged : List Str := []
abbrev gl_merged : List (Str × V) := []
theorem sc_merged : FnScope N_merged ["system", "command"] (defScope s_merged) := ⟨rfl, rfl, rfl, by decide +kernel, rfl, by decide +kernel, by decide +kernel⟩
theorem er_merged {P : Addr} {xs : Xs} {k : Nat} {e_check_system e_check_command e_first_merged : Fe} (H_check_system : e_check_system.lv ≤ k) (H_check_command : e_check_command.lv ≤ k) (H_first_merged : e_first_merged.lv ≤ k) : ErSs ⟨N_merged, fnL [("check_system", e_check_system), ("check_command", e_check_command), ("first_merged", e_first_merged)], glL gl_merged, bn_merged, P, xs.xt, xs.xh, xs.xm, xs.px⟩ ⟨defScope s_merged, defScope s_merged, k, false⟩ b_merged (defBody s_merged) := by
  have h_check_system : e_check_system.lv ≤ k := H_check_system
  have h_check_command : e_check_command.lv ≤ k := H_check_command
  have h_first_merged : e_first_merged.lv ≤ k := H_first_merged
  exact (.cons (.ex (.call (fe := e_check_system) (by rfl) h_check_system (by rfl) (by rfl) (.cons (.var (by rfl) (by first | exact .inl rfl | exact .inr (.inl rfl) | exact .inr (.inr rfl)) (by rfl) (by rfl)) .nil (fun _ => rfl)) (fun _ => rfl) (fun _ _ => rfl)) (fun _ => rfl)) (.cons (.ex (.call (fe := e_check_command) (by rfl) h_check_command (by rfl) (by rfl) (.cons (.var (by rfl) (by first | exact .inl rfl | exact .inr (.inl rfl) | exact .inr (.inr rfl)) (by rfl) (by rfl)) (.cons (.var (by rfl) (by first | exact .inl rfl | exact .inr (.inl rfl) | exact .inr (.inr rfl)) (by rfl) (by rfl)) (.cons .str .nil (fun _ => rfl)) (fun _ => rfl)) (fun _ => rfl)) (fun _ => rfl) (fun _ _ => rfl)) (fun _ => rfl)) (.cons (.ret (.call (fe := e_first_merged) (by rfl) h_first_merged (by rfl) (by rfl) (.cons (.var (by rfl) (by first | exact .inl rfl | exact .inr (.inl rfl) | exact .inr (.inr rfl)) (by rfl) (by rfl)) (.cons (.var (by rfl) (by first | exact .inl rfl | exact .inr (.inl rfl) | exact .inr (.inr rfl)) (by rfl) (by rfl)) .nil (fun _ => rfl)) (fun _ => rfl)) (fun _ => rfl) (fun _ _ => rfl))) .nil)))
abbrev s_is_reachable : Stmt := topS 33
abbrev N_is_reachable : List Str := ["system", "value"]
def b_is_reachable : MSs := (.cons (.ret (.bop true (.call "is_state" (.cons (.var 0) (.cons (.var 1) .nil))) (.cons (.cmp .inn (.var 1) (.call "reached_from" (.cons (.var 0) (.cons (.ix (.var 0) (.con (.int 1))) .nil)))) .nil))) .nil)
def d_is_reachable : Df := ⟨2, 2, b_is_reachable⟩
abbrev bn_is_reachable : List Str := []
abbrev gl_is_reachable : List (Str × V) := []
theorem sc_is_reachable : FnScope N_is_reachable ["system", "value"] (defScope s_is_reachable) := ⟨rfl, rfl, rfl, by decide +kernel, rfl, by decide +kernel, by decide +kernel⟩
theorem er_is_reachable {P : Addr} {xs : Xs} {k : Nat} {e_is_state e_reached_from : Fe} (H_is_state : e_is_state.lv ≤ k) (H_reached_from : e_reached_from.lv ≤ k) : ErSs ⟨N_is_reachable, fnL [("is_state", e_is_state), ("reached_from", e_reached_from)], glL gl_is_reachable, bn_is_reachable, P, xs.xt, xs.xh, xs.xm, xs.px⟩ ⟨defScope s_is_reachable, defScope s_is_reachable, k, false⟩ b_is_reachable (defBody s_is_reachable) := by
  have h_is_state : e_is_state.lv ≤ k := H_is_state
  have h_reached_from : e_reached_from.lv ≤ k := H_reached_from
  exact (.cons (.ret (.bop rfl (.call (fe := e_is_state) (by rfl) h_is_state (by rfl) (by rfl) (.cons (.var (by rfl) (by first | exact .inl rfl | exact .inr (.inl rfl) | exact .inr (.inr rfl)) (by rfl) (by rfl)) (.cons (.var (by rfl) (by first | exact .inl rfl | exact .inr (.inl rfl) | exact .inr (.inr rfl)) (by rfl) (by rfl)) .nil (fun _ => rfl)) (fun _ => rfl)) (fun _ => rfl) (fun _ _ => rfl)) (.cons (.cmp (o := .inn) rfl (.var (by rfl) (by first | exact .inl rfl | exact .inr (.inl rfl) | exact .inr (.inr rfl)) (by rfl) (by rfl)) (.call (fe := e_reached_from) (by rfl) h_reached_from (by rfl) (by rfl) (.cons (.var (by rfl) (by first | exact .inl rfl | exact .inr (.inl rfl) | exact .inr (.inr rfl)) (by rfl) (by rfl)) (.cons (.ix (.var (by rfl) (by first | exact .inl rfl | exact .inr (.inl rfl) | exact .inr (.inr rfl)) (by rfl) (by rfl)) .int (fun _ _ => rfl)) .nil (fun _ => rfl)) (fun _ => rfl)) (fun _ => rfl) (fun _ _ => rfl)) (by rfl)) .nil (fun _ => rfl)))) .nil)
abbrev s_accepts_merged : Stmt := topS 49
abbrev N_accepts_merged : List Str := ["system", "command", "value", "one", "other", "state"]
def b_accepts_merged : MSs := (.cons (.ex (.call "check_system" (.cons (.var 0) .nil))) (.cons (.ex (.call "check_command" (.cons (.var 0) (.cons (.var 1) (.cons (.con (.str "command")) .nil))))) (.cons (.ite (.bop false (.not (.tv (.call "is_tuple_of" (.cons (.var 2) (.cons (.con (.int 2)) .nil))))) (.cons (.not (.tv (.gen true [5] (.name 5) .val (.cons (.var 2) .nil) .none (.call "is_reachable" (.cons (.var 0) (.cons (.var 5) .nil)))))) .nil)) (.cons (.ret (.con (.bl false))) .nil) .nil) (.cons (.unp (.tup (.cons (.name 3) (.cons (.name 4) .nil))) (.var 2)) (.cons (.ret (.bop true (.cmp .lt (.var 3) (.var 4)) (.cons (.cmp .eq (.call "after" (.cons (.var 0) (.cons (.var 3) (.cons (.var 1) .nil)))) (.call "after" (.cons (.var 0) (.cons (.var 4) (.cons (.var 1) .nil))))) .nil))) .nil)))))
def d_accepts_merged : Df := ⟨3, 6, b_accepts_merged⟩
abbrev bn_accepts_merged : List Str := ["all"]
abbrev gl_accepts_merged : List (Str × V) := []
theorem sc_accepts_merged : FnScope N_accepts_merged ["system", "command", "value"] (defScope s_accepts_merged) := ⟨rfl, rfl, rfl, by decide +kernel, rfl, by decide +kernel, by decide +kernel⟩
theorem er_accepts_merged {P : Addr} {xs : Xs} {k : Nat} {e_check_system e_check_command e_is_tuple_of e_is_reachable e_after : Fe} (H_check_system : e_check_system.lv ≤ k) (H_check_command : e_check_command.lv ≤ k) (H_is_tuple_of : e_is_tuple_of.lv ≤ k) (H_is_reachable : e_is_reachable.lv ≤ k) (H_after : e_after.lv ≤ k) : ErSs ⟨N_accepts_merged, fnL [("check_system", e_check_system), ("check_command", e_check_command), ("is_tuple_of", e_is_tuple_of), ("is_reachable", e_is_reachable), ("after", e_after)], glL gl_accepts_merged, bn_accepts_merged, P, xs.xt, xs.xh, xs.xm, xs.px⟩ ⟨defScope s_accepts_merged, defScope s_accepts_merged, (k + 1), true⟩ b_accepts_merged (defBody s_accepts_merged) := by
  have h_check_system : e_check_system.lv ≤ (k + 1) := Nat.le_succ_of_le H_check_system
  have h_check_command : e_check_command.lv ≤ (k + 1) := Nat.le_succ_of_le H_check_command
  have h_is_tuple_of : e_is_tuple_of.lv ≤ (k + 1) := Nat.le_succ_of_le H_is_tuple_of
  have h_is_reachable : e_is_reachable.lv ≤ (k + 1) := Nat.le_succ_of_le H_is_reachable
  have h_after : e_after.lv ≤ (k + 1) := Nat.le_succ_of_le H_after
  exact (.cons (.ex (.call (fe := e_check_system) (by rfl) h_check_system (by rfl) (by rfl) (.cons (.var (by rfl) (by first | exact .inl rfl | exact .inr (.inl rfl) | exact .inr (.inr rfl)) (by rfl) (by rfl)) .nil (fun _ => rfl)) (fun _ => rfl) (fun _ _ => rfl)) (fun _ => rfl)) (.cons (.ex (.call (fe := e_check_command) (by rfl) h_check_command (by rfl) (by rfl) (.cons (.var (by rfl) (by first | exact .inl rfl | exact .inr (.inl rfl) | exact .inr (.inr rfl)) (by rfl) (by rfl)) (.cons (.var (by rfl) (by first | exact .inl rfl | exact .inr (.inl rfl) | exact .inr (.inr rfl)) (by rfl) (by rfl)) (.cons .str .nil (fun _ => rfl)) (fun _ => rfl)) (fun _ => rfl)) (fun _ => rfl) (fun _ _ => rfl)) (fun _ => rfl)) (.cons (.ite (.bop rfl (.not (.tv (.call (fe := e_is_tuple_of) (by rfl) h_is_tuple_of (by rfl) (by rfl) (.cons (.var (by rfl) (by first | exact .inl rfl | exact .inr (.inl rfl) | exact .inr (.inr rfl)) (by rfl) (by rfl)) (.cons .int .nil (fun _ => rfl)) (fun _ => rfl)) (fun _ => rfl) (fun _ _ => rfl)) (fun _ _ => rfl))) (.cons (.not (.tv (.gen (own := [("state", 5)]) rfl (by simp) (by rfl) rfl rfl rfl (show BlkOk N_accepts_merged _ _ _ from ⟨rfl, by decide +kernel, by decide +kernel, by dsimp only; decide +kernel, by decide +kernel⟩) (by decide +kernel) rfl rfl (.val (.var (by rfl) (by first | exact .inl rfl | exact .inr (.inl rfl) | exact .inr (.inr rfl)) (by rfl) (by rfl))) (.name (by rfl) (by first | exact .inl rfl | exact .inr rfl)) .none (.call (fe := e_is_reachable) (by rfl) H_is_reachable (by rfl) (by rfl) (.cons (.var (by rfl) (by first | exact .inl rfl | exact .inr (.inl rfl) | exact .inr (.inr rfl)) (by rfl) (by rfl)) (.cons (.var (by rfl) (by first | exact .inl rfl | exact .inr (.inl rfl) | exact .inr (.inr rfl)) (by rfl) (by rfl)) .nil (fun _ => rfl)) (fun _ => rfl)) (fun _ => rfl) (fun _ _ => rfl)) (fun _ _ => rfl)) (fun _ _ => rfl))) .nil)) (.cons (.ret .bl) .nil) .nil) (.cons (.unp (.tup (.cons (.name (by rfl) (by first | exact .inl rfl | exact .inr rfl)) (.cons (.name (by rfl) (by first | exact .inl rfl | exact .inr rfl)) .nil (fun _ => rfl)) (fun _ => rfl)) (fun _ => rfl) (fun _ => rfl)) (.var (by rfl) (by first | exact .inl rfl | exact .inr (.inl rfl) | exact .inr (.inr rfl)) (by rfl) (by rfl)) (fun _ => rfl) (fun _ => rfl) (fun _ => rfl)) (.cons (.ret (.bop rfl (.cmp (o := .lt) rfl (.var (by rfl) (by first | exact .inl rfl | exact .inr (.inl rfl) | exact .inr (.inr rfl)) (by rfl) (by rfl)) (.var (by rfl) (by first | exact .inl rfl | exact .inr (.inl rfl) | exact .inr (.inr rfl)) (by rfl) (by rfl)) (by rfl)) (.cons (.cmp (o := .eq) rfl (.call (fe := e_after) (by rfl) h_after (by rfl) (by rfl) (.cons (.var (by rfl) (by first | exact .inl rfl | exact .inr (.inl rfl) | exact .inr (.inr rfl)) (by rfl) (by rfl)) (.cons (.var (by rfl) (by first | exact .inl rfl | exact .inr (.inl rfl) | exact .inr (.inr rfl)) (by rfl) (by rfl)) (.cons (.var (by rfl) (by first | exact .inl rfl | exact .inr (.inl rfl) | exact .inr (.inr rfl)) (by rfl) (by rfl)) .nil (fun _ => rfl)) (fun _ => rfl)) (fun _ => rfl)) (fun _ => rfl) (fun _ _ => rfl)) (.call (fe := e_after) (by rfl) h_after (by rfl) (by rfl) (.cons (.var (by rfl) (by first | exact .inl rfl | exact .inr (.inl rfl) | exact .inr (.inr rfl)) (by rfl) (by rfl)) (.cons (.var (by rfl) (by first | exact .inl rfl | exact .inr (.inl rfl) | exact .inr (.inr rfl)) (by rfl) (by rfl)) (.cons (.var (by rfl) (by first | exact .inl rfl | exact .inr (.inl rfl) | exact .inr (.inr rfl)) (by rfl) (by rfl)) .nil (fun _ => rfl)) (fun _ => rfl)) (fun _ => rfl)) (fun _ => rfl) (fun _ _ => rfl)) (by rfl)) .nil (fun _ => rfl)))) .nil)))))
abbrev s_inverse : Stmt := topS 50
abbrev N_inverse : List Str := ["system", "command", "back", "state"]
def b_inverse : MSs := (.cons (.ite (.isn false (.call "merged" (.cons (.var 0) (.cons (.var 1) .nil)))) (.cons (.rs "NotPossible" "why" (.con (.str "merge"))) .nil) .nil) (.cons (.set 2 (.op .mul (.lst (.cons (.con .non) .nil)) (.ix (.var 0) (.con (.int 0))))) (.cons (.fr (.name 3) .val (.cons (.call "reachable" (.cons (.var 0) .nil)) .nil) (.cons (.sub (.var 2) (.call "after" (.cons (.var 0) (.cons (.var 3) (.cons (.var 1) .nil)))) (.var 3)) .nil)) (.cons (.ret (.bfn .tuple (.var 2))) .nil))))
def d_inverse : Df := ⟨2, 4, b_inverse⟩
abbrev bn_inverse : List Str := ["tuple"]
abbrev gl_inverse : List (Str × V) := []
theorem sc_inverse : FnScope N_inverse ["system", "command"] (defScope s_inverse) := ⟨rfl, rfl, rfl, by decide +kernel, rfl, by decide +kernel, by decide +kernel⟩
theorem er_inverse {P : Addr} {xs : Xs} {k : Nat} {e_merged e_reachable e_after : Fe} (H_merged : e_merged.lv ≤ k) (H_reachable : e_reachable.lv ≤ k) (H_after : e_after.lv ≤ k) {C_NotPossible : Addr} (H2 : 2 ≤ k) (hx_NotPossible : xs.xt "NotPossible" = some (C_NotPossible, ("why" : Str))) : ErSs ⟨N_inverse, fnL [("merged", e_merged), ("reachable", e_reachable), ("after", e_after)], glL gl_inverse, bn_inverse, P, xs.xt, xs.xh, xs.xm, xs.px⟩ ⟨defScope s_inverse, defScope s_inverse, k, false⟩ b_inverse (defBody s_inverse) := by
  have h_merged : e_merged.lv ≤ k := H_merged
  have h_reachable : e_reachable.lv ≤ k := H_reachable
  have h_after : e_after.lv ≤ k := H_after
  exact (.cons (.ite (.isnt (.call (fe := e_merged) (by rfl) h_merged (by rfl) (by rfl) (.cons (.var (by rfl) (by first | exact .inl rfl | exact .inr (.inl rfl) | exact .inr (.inr rfl)) (by rfl) (by rfl)) (.cons (.var (by rfl) (by first | exact .inl rfl | exact .inr (.inl rfl) | exact .inr (.inr rfl)) (by rfl) (by rfl)) .nil (fun _ => rfl)) (fun _ => rfl)) (fun _ => rfl) (fun _ _ => rfl))) (.cons (.rs hx_NotPossible H2 (by rfl) .str (fun _ => rfl) (fun _ _ => rfl)) .nil) .nil) (.cons (.set (by rfl) (by first | exact .inl rfl | exact .inr rfl) (.op rfl (.lst (.cons .non .nil (fun _ => rfl))) (.ix (.var (by rfl) (by first | exact .inl rfl | exact .inr (.inl rfl) | exact .inr (.inr rfl)) (by rfl) (by rfl)) .int (fun _ _ => rfl))) (fun _ _ => by rfl)) (.cons (.fr (.name (by rfl) (by first | exact .inl rfl | exact .inr rfl)) (.val (.call (fe := e_reachable) (by rfl) h_reachable (by rfl) (by rfl) (.cons (.var (by rfl) (by first | exact .inl rfl | exact .inr (.inl rfl) | exact .inr (.inr rfl)) (by rfl) (by rfl)) .nil (fun _ => rfl)) (fun _ => rfl) (fun _ _ => rfl))) (.cons (.sub (.var (by rfl) (by first | exact .inl rfl | exact .inr (.inl rfl) | exact .inr (.inr rfl)) (by rfl) (by rfl)) (.call (fe := e_after) (by rfl) h_after (by rfl) (by rfl) (.cons (.var (by rfl) (by first | exact .inl rfl | exact .inr (.inl rfl) | exact .inr (.inr rfl)) (by rfl) (by rfl)) (.cons (.var (by rfl) (by first | exact .inl rfl | exact .inr (.inl rfl) | exact .inr (.inr rfl)) (by rfl) (by rfl)) (.cons (.var (by rfl) (by first | exact .inl rfl | exact .inr (.inl rfl) | exact .inr (.inr rfl)) (by rfl) (by rfl)) .nil (fun _ => rfl)) (fun _ => rfl)) (fun _ => rfl)) (fun _ => rfl) (fun _ _ => rfl)) (.var (by rfl) (by first | exact .inl rfl | exact .inr (.inl rfl) | exact .inr (.inr rfl)) (by rfl) (by rfl)) (fun _ _ => rfl) (fun _ => rfl) (fun _ => rfl) (fun _ => rfl)) .nil) (fun _ _ => rfl)) (.cons (.ret (.bfn (o := .tuple) rfl (by simp) (by rfl) (.var (by rfl) (by first | exact .inl rfl | exact .inr (.inl rfl) | exact .inr (.inr rfl)) (by rfl) (by rfl)) (fun _ => rfl))) .nil))))
abbrev s_can_be_exchanged : Stmt := topS 51
abbrev N_can_be_exchanged : List Str := ["system", "state", "one", "other"]
def b_can_be_exchanged : MSs := (.cons (.ret (.cmp .eq (.call "follow" (.cons (.var 0) (.cons (.var 1) (.cons (.tup (.cons (.var 2) (.cons (.var 3) .nil))) .nil)))) (.call "follow" (.cons (.var 0) (.cons (.var 1) (.cons (.tup (.cons (.var 3) (.cons (.var 2) .nil))) .nil)))))) .nil)
def d_can_be_exchanged : Df := ⟨4, 4, b_can_be_exchanged⟩
abbrev bn_can_be_exchanged : List Str := []
abbrev gl_can_be_exchanged : List (Str × V) := []
theorem sc_can_be_exchanged : FnScope N_can_be_exchanged ["system", "state", "one", "other"] (defScope s_can_be_exchanged) := ⟨rfl, rfl, rfl, by decide +kernel, rfl, by decide +kernel, by decide +kernel⟩
theorem er_can_be_exchanged {P : Addr} {xs : Xs} {k : Nat} {e_follow : Fe} (H_follow : e_follow.lv ≤ k) : ErSs ⟨N_can_be_exchanged, fnL [("follow", e_follow)], glL gl_can_be_exchanged, bn_can_be_exchanged, P, xs.xt, xs.xh, xs.xm, xs.px⟩ ⟨defScope s_can_be_exchanged, defScope s_can_be_exchanged, k, false⟩ b_can_be_exchanged (defBody s_can_be_exchanged) := by
  have h_follow : e_follow.lv ≤ k := H_follow
  exact (.cons (.ret (.cmp (o := .eq) rfl (.call (fe := e_follow) (by rfl) h_follow (by rfl) (by rfl) (.cons (.var (by rfl) (by first | exact .inl rfl | exact .inr (.inl rfl) | exact .inr (.inr rfl)) (by rfl) (by rfl)) (.cons (.var (by rfl) (by first | exact .inl rfl | exact .inr (.inl rfl) | exact .inr (.inr rfl)) (by rfl) (by rfl)) (.cons (.tup (.cons (.var (by rfl) (by first | exact .inl rfl | exact .inr (.inl rfl) | exact .inr (.inr rfl)) (by rfl) (by rfl)) (.cons (.var (by rfl) (by first | exact .inl rfl | exact .inr (.inl rfl) | exact .inr (.inr rfl)) (by rfl) (by rfl)) .nil (fun _ => rfl)) (fun _ => rfl))) .nil (fun _ => rfl)) (fun _ => rfl)) (fun _ => rfl)) (fun _ => rfl) (fun _ _ => rfl)) (.call (fe := e_follow) (by rfl) h_follow (by rfl) (by rfl) (.cons (.var (by rfl) (by first | exact .inl rfl | exact .inr (.inl rfl) | exact .inr (.inr rfl)) (by rfl) (by rfl)) (.cons (.var (by rfl) (by first | exact .inl rfl | exact .inr (.inl rfl) | exact .inr (.inr rfl)) (by rfl) (by rfl)) (.cons (.tup (.cons (.var (by rfl) (by first | exact .inl rfl | exact .inr (.inl rfl) | exact .inr (.inr rfl)) (by rfl) (by rfl)) (.cons (.var (by rfl) (by first | exact .inl rfl | exact .inr (.inl rfl) | exact .inr (.inr rfl)) (by rfl) (by rfl)) .nil (fun _ => rfl)) (fun _ => rfl))) .nil (fun _ => rfl)) (fun _ => rfl)) (fun _ => rfl)) (fun _ => rfl) (fun _ _ => rfl)) (by rfl))) .nil)
abbrev s_exchanged : Stmt := topS 52
abbrev N_exchanged : List Str := ["system", "command", "other", "state"]
def b_exchanged : MSs := (.cons (.ex (.call "check_system" (.cons (.var 0) .nil))) (.cons (.ex (.call "check_command" (.cons (.var 0) (.cons (.var 1) (.cons (.con (.str "command")) .nil))))) (.cons (.ex (.call "check_command" (.cons (.var 0) (.cons (.var 2) (.cons (.con (.str "other")) .nil))))) (.cons (.ret (.bfn .tuple (.lc [3] (.name 3) .val (.cons (.call "reachable" (.cons (.var 0) .nil)) .nil) (.some (.tv (.call "can_be_exchanged" (.cons (.var 0) (.cons (.var 3) (.cons (.var 1) (.cons (.var 2) .nil))))))) (.var 3)))) .nil))))
def d_exchanged : Df := ⟨3, 4, b_exchanged⟩
abbrev bn_exchanged : List Str := ["tuple"]
abbrev gl_exchanged : List (Str × V) := []
theorem sc_exchanged : FnScope N_exchanged ["system", "command", "other"] (defScope s_exchanged) := ⟨rfl, rfl, rfl, by decide +kernel, rfl, by decide +kernel, by decide +kernel⟩
theorem er_exchanged {P : Addr} {xs : Xs} {k : Nat} {e_check_system e_check_command e_reachable e_can_be_exchanged : Fe} (H_check_system : e_check_system.lv ≤ k) (H_check_command : e_check_command.lv ≤ k) (H_reachable : e_reachable.lv ≤ k) (H_can_be_exchanged : e_can_be_exchanged.lv ≤ k) : ErSs ⟨N_exchanged, fnL [("check_system", e_check_system), ("check_command", e_check_command), ("reachable", e_reachable), ("can_be_exchanged", e_can_be_exchanged)], glL gl_exchanged, bn_exchanged, P, xs.xt, xs.xh, xs.xm, xs.px⟩ ⟨defScope s_exchanged, defScope s_exchanged, k, false⟩ b_exchanged (defBody s_exchanged) := by
  have h_check_system : e_check_system.lv ≤ k := H_check_system
  have h_check_command : e_check_command.lv ≤ k := H_check_command
  have h_reachable : e_reachable.lv ≤ k := H_reachable
  have h_can_be_exchanged : e_can_be_exchanged.lv ≤ k := H_can_be_exchanged
  exact (.cons (.ex (.call (fe := e_check_system) (by rfl) h_check_system (by rfl) (by rfl) (.cons (.var (by rfl) (by first | exact .inl rfl | exact .inr (.inl rfl) | exact .inr (.inr rfl)) (by rfl) (by rfl)) .nil (fun _ => rfl)) (fun _ => rfl) (fun _ _ => rfl)) (fun _ => rfl)) (.cons (.ex (.call (fe := e_check_command) (by rfl) h_check_command (by rfl) (by rfl) (.cons (.var (by rfl) (by first | exact .inl rfl | exact .inr (.inl rfl) | exact .inr (.inr rfl)) (by rfl) (by rfl)) (.cons (.var (by rfl) (by first | exact .inl rfl | exact .inr (.inl rfl) | exact .inr (.inr rfl)) (by rfl) (by rfl)) (.cons .str .nil (fun _ => rfl)) (fun _ => rfl)) (fun _ => rfl)) (fun _ => rfl) (fun _ _ => rfl)) (fun _ => rfl)) (.cons (.ex (.call (fe := e_check_command) (by rfl) h_check_command (by rfl) (by rfl) (.cons (.var (by rfl) (by first | exact .inl rfl | exact .inr (.inl rfl) | exact .inr (.inr rfl)) (by rfl) (by rfl)) (.cons (.var (by rfl) (by first | exact .inl rfl | exact .inr (.inl rfl) | exact .inr (.inr rfl)) (by rfl) (by rfl)) (.cons .str .nil (fun _ => rfl)) (fun _ => rfl)) (fun _ => rfl)) (fun _ => rfl) (fun _ _ => rfl)) (fun _ => rfl)) (.cons (.ret (.bfn (o := .tuple) rfl (by simp) (by rfl) (.lc (own := [("state", 3)]) rfl (show BlkOk N_exchanged _ _ _ from ⟨rfl, by decide +kernel, by decide +kernel, by dsimp only; decide +kernel, by decide +kernel⟩) (.val (.call (fe := e_reachable) (by rfl) h_reachable (by rfl) (by rfl) (.cons (.var (by rfl) (by first | exact .inl rfl | exact .inr (.inl rfl) | exact .inr (.inr rfl)) (by rfl) (by rfl)) .nil (fun _ => rfl)) (fun _ => rfl) (fun _ _ => rfl))) (.name (by rfl) (by first | exact .inl rfl | exact .inr rfl)) (.some (.tv (.call (fe := e_can_be_exchanged) (by rfl) h_can_be_exchanged (by rfl) (by rfl) (.cons (.var (by rfl) (by first | exact .inl rfl | exact .inr (.inl rfl) | exact .inr (.inr rfl)) (by rfl) (by rfl)) (.cons (.var (by rfl) (by first | exact .inl rfl | exact .inr (.inl rfl) | exact .inr (.inr rfl)) (by rfl) (by rfl)) (.cons (.var (by rfl) (by first | exact .inl rfl | exact .inr (.inl rfl) | exact .inr (.inr rfl)) (by rfl) (by rfl)) (.cons (.var (by rfl) (by first | exact .inl rfl | exact .inr (.inl rfl) | exact .inr (.inr rfl)) (by rfl) (by rfl)) .nil (fun _ => rfl)) (fun _ => rfl)) (fun _ => rfl)) (fun _ => rfl)) (fun _ => rfl) (fun _ _ => rfl)) (fun _ _ => rfl))) (.var (by rfl) (by first | exact .inl rfl | exact .inr (.inl rfl) | exact .inr (.inr rfl)) (by rfl) (by rfl)) (fun _ _ => rfl)) (fun _ => rfl))) .nil))))
abbrev s_law_second : Stmt := topS 58
abbrev N_law_second : List Str := ["word", "parts"]
def b_law_second : MSs := (.cons (.ite (.cmp .eq (.var 0) (.con (.str "agree"))) (.cons (.ex (.call "agree" (.cons (.ix (.var 1) (.con (.int 0))) (.cons (.ix (.var 1) (.con (.int 1))) (.cons (.ix (.var 1) (.con (.int 2))) (.cons (.ix (.var 1) (.con (.int 3))) .nil)))))) .nil) (.cons (.ite (.cmp .eq (.var 0) (.con (.str "difference"))) (.cons (.ex (.call "difference" (.cons (.ix (.var 1) (.con (.int 0))) (.cons (.ix (.var 1) (.con (.int 1))) (.cons (.ix (.var 1) (.con (.int 2))) .nil))))) .nil) (.cons (.ite (.cmp .eq (.var 0) (.con (.str "one"))) (.cons (.ex (.call "one_to_one" (.cons (.ix (.var 1) (.con (.int 0))) .nil))) .nil) (.cons (.ite (.cmp .eq (.var 0) (.con (.str "merged"))) (.cons (.ex (.call "merged" (.cons (.ix (.var 1) (.con (.int 0))) (.cons (.ix (.var 1) (.con (.int 1))) .nil)))) .nil) (.cons (.ite (.cmp .eq (.var 0) (.con (.str "merges"))) (.cons (.ex (.call "accepts_merged" (.cons (.ix (.var 1) (.con (.int 0))) (.cons (.ix (.var 1) (.con (.int 1))) (.cons (.con .non) .nil))))) .nil) (.cons (.ite (.cmp .eq (.var 0) (.con (.str "inverse"))) (.cons (.ex (.call "inverse" (.cons (.ix (.var 1) (.con (.int 0))) (.cons (.ix (.var 1) (.con (.int 1))) .nil)))) .nil) (.cons (.ex (.call "exchanged" (.cons (.ix (.var 1) (.con (.int 0))) (.cons (.ix (.var 1) (.con (.int 1))) (.cons (.ix (.var 1) (.con (.int 2))) .nil))))) .nil)) .nil)) .nil)) .nil)) .nil)) .nil)) .nil)
def d_law_second : Df := ⟨2, 2, b_law_second⟩
abbrev bn_law_second : List Str := []
abbrev gl_law_second : List (Str × V) := []
theorem sc_law_second : FnScope N_law_second ["word", "parts"] (defScope s_law_second) := ⟨rfl, rfl, rfl, by decide +kernel, rfl, by decide +kernel, by decide +kernel⟩
theorem er_law_second {P : Addr} {xs : Xs} {k : Nat} {e_agree e_difference e_one_to_one e_merged e_accepts_merged e_inverse e_exchanged : Fe} (H_agree : e_agree.lv ≤ k) (H_difference : e_difference.lv ≤ k) (H_one_to_one : e_one_to_one.lv ≤ k) (H_merged : e_merged.lv ≤ k) (H_accepts_merged : e_accepts_merged.lv ≤ k) (H_inverse : e_inverse.lv ≤ k) (H_exchanged : e_exchanged.lv ≤ k) : ErSs ⟨N_law_second, fnL [("agree", e_agree), ("difference", e_difference), ("one_to_one", e_one_to_one), ("merged", e_merged), ("accepts_merged", e_accepts_merged), ("inverse", e_inverse), ("exchanged", e_exchanged)], glL gl_law_second, bn_law_second, P, xs.xt, xs.xh, xs.xm, xs.px⟩ ⟨defScope s_law_second, defScope s_law_second, k, false⟩ b_law_second (defBody s_law_second) := by
  have h_agree : e_agree.lv ≤ k := H_agree
  have h_difference : e_difference.lv ≤ k := H_difference
  have h_one_to_one : e_one_to_one.lv ≤ k := H_one_to_one
  have h_merged : e_merged.lv ≤ k := H_merged
  have h_accepts_merged : e_accepts_merged.lv ≤ k := H_accepts_merged
  have h_inverse : e_inverse.lv ≤ k := H_inverse
  have h_exchanged : e_exchanged.lv ≤ k := H_exchanged
  exact (.cons (.ite (.cmp (o := .eq) rfl (.var (by rfl) (by first | exact .inl rfl | exact .inr (.inl rfl) | exact .inr (.inr rfl)) (by rfl) (by rfl)) .str (by rfl)) (.cons (.ex (.call (fe := e_agree) (by rfl) h_agree (by rfl) (by rfl) (.cons (.ix (.var (by rfl) (by first | exact .inl rfl | exact .inr (.inl rfl) | exact .inr (.inr rfl)) (by rfl) (by rfl)) .int (fun _ _ => rfl)) (.cons (.ix (.var (by rfl) (by first | exact .inl rfl | exact .inr (.inl rfl) | exact .inr (.inr rfl)) (by rfl) (by rfl)) .int (fun _ _ => rfl)) (.cons (.ix (.var (by rfl) (by first | exact .inl rfl | exact .inr (.inl rfl) | exact .inr (.inr rfl)) (by rfl) (by rfl)) .int (fun _ _ => rfl)) (.cons (.ix (.var (by rfl) (by first | exact .inl rfl | exact .inr (.inl rfl) | exact .inr (.inr rfl)) (by rfl) (by rfl)) .int (fun _ _ => rfl)) .nil (fun _ => rfl)) (fun _ => rfl)) (fun _ => rfl)) (fun _ => rfl)) (fun _ => rfl) (fun _ _ => rfl)) (fun _ => rfl)) .nil) (.cons (.ite (.cmp (o := .eq) rfl (.var (by rfl) (by first | exact .inl rfl | exact .inr (.inl rfl) | exact .inr (.inr rfl)) (by rfl) (by rfl)) .str (by rfl)) (.cons (.ex (.call (fe := e_difference) (by rfl) h_difference (by rfl) (by rfl) (.cons (.ix (.var (by rfl) (by first | exact .inl rfl | exact .inr (.inl rfl) | exact .inr (.inr rfl)) (by rfl) (by rfl)) .int (fun _ _ => rfl)) (.cons (.ix (.var (by rfl) (by first | exact .inl rfl | exact .inr (.inl rfl) | exact .inr (.inr rfl)) (by rfl) (by rfl)) .int (fun _ _ => rfl)) (.cons (.ix (.var (by rfl) (by first | exact .inl rfl | exact .inr (.inl rfl) | exact .inr (.inr rfl)) (by rfl) (by rfl)) .int (fun _ _ => rfl)) .nil (fun _ => rfl)) (fun _ => rfl)) (fun _ => rfl)) (fun _ => rfl) (fun _ _ => rfl)) (fun _ => rfl)) .nil) (.cons (.ite (.cmp (o := .eq) rfl (.var (by rfl) (by first | exact .inl rfl | exact .inr (.inl rfl) | exact .inr (.inr rfl)) (by rfl) (by rfl)) .str (by rfl)) (.cons (.ex (.call (fe := e_one_to_one) (by rfl) h_one_to_one (by rfl) (by rfl) (.cons (.ix (.var (by rfl) (by first | exact .inl rfl | exact .inr (.inl rfl) | exact .inr (.inr rfl)) (by rfl) (by rfl)) .int (fun _ _ => rfl)) .nil (fun _ => rfl)) (fun _ => rfl) (fun _ _ => rfl)) (fun _ => rfl)) .nil) (.cons (.ite (.cmp (o := .eq) rfl (.var (by rfl) (by first | exact .inl rfl | exact .inr (.inl rfl) | exact .inr (.inr rfl)) (by rfl) (by rfl)) .str (by rfl)) (.cons (.ex (.call (fe := e_merged) (by rfl) h_merged (by rfl) (by rfl) (.cons (.ix (.var (by rfl) (by first | exact .inl rfl | exact .inr (.inl rfl) | exact .inr (.inr rfl)) (by rfl) (by rfl)) .int (fun _ _ => rfl)) (.cons (.ix (.var (by rfl) (by first | exact .inl rfl | exact .inr (.inl rfl) | exact .inr (.inr rfl)) (by rfl) (by rfl)) .int (fun _ _ => rfl)) .nil (fun _ => rfl)) (fun _ => rfl)) (fun _ => rfl) (fun _ _ => rfl)) (fun _ => rfl)) .nil) (.cons (.ite (.cmp (o := .eq) rfl (.var (by rfl) (by first | exact .inl rfl | exact .inr (.inl rfl) | exact .inr (.inr rfl)) (by rfl) (by rfl)) .str (by rfl)) (.cons (.ex (.call (fe := e_accepts_merged) (by rfl) h_accepts_merged (by rfl) (by rfl) (.cons (.ix (.var (by rfl) (by first | exact .inl rfl | exact .inr (.inl rfl) | exact .inr (.inr rfl)) (by rfl) (by rfl)) .int (fun _ _ => rfl)) (.cons (.ix (.var (by rfl) (by first | exact .inl rfl | exact .inr (.inl rfl) | exact .inr (.inr rfl)) (by rfl) (by rfl)) .int (fun _ _ => rfl)) (.cons .non .nil (fun _ => rfl)) (fun _ => rfl)) (fun _ => rfl)) (fun _ => rfl) (fun _ _ => rfl)) (fun _ => rfl)) .nil) (.cons (.ite (.cmp (o := .eq) rfl (.var (by rfl) (by first | exact .inl rfl | exact .inr (.inl rfl) | exact .inr (.inr rfl)) (by rfl) (by rfl)) .str (by rfl)) (.cons (.ex (.call (fe := e_inverse) (by rfl) h_inverse (by rfl) (by rfl) (.cons (.ix (.var (by rfl) (by first | exact .inl rfl | exact .inr (.inl rfl) | exact .inr (.inr rfl)) (by rfl) (by rfl)) .int (fun _ _ => rfl)) (.cons (.ix (.var (by rfl) (by first | exact .inl rfl | exact .inr (.inl rfl) | exact .inr (.inr rfl)) (by rfl) (by rfl)) .int (fun _ _ => rfl)) .nil (fun _ => rfl)) (fun _ => rfl)) (fun _ => rfl) (fun _ _ => rfl)) (fun _ => rfl)) .nil) (.cons (.ex (.call (fe := e_exchanged) (by rfl) h_exchanged (by rfl) (by rfl) (.cons (.ix (.var (by rfl) (by first | exact .inl rfl | exact .inr (.inl rfl) | exact .inr (.inr rfl)) (by rfl) (by rfl)) .int (fun _ _ => rfl)) (.cons (.ix (.var (by rfl) (by first | exact .inl rfl | exact .inr (.inl rfl) | exact .inr (.inr rfl)) (by rfl) (by rfl)) .int (fun _ _ => rfl)) (.cons (.ix (.var (by rfl) (by first | exact .inl rfl | exact .inr (.inl rfl) | exact .inr (.inr rfl)) (by rfl) (by rfl)) .int (fun _ _ => rfl)) .nil (fun _ => rfl)) (fun _ => rfl)) (fun _ => rfl)) (fun _ => rfl) (fun _ _ => rfl)) (fun _ => rfl)) .nil)) .nil)) .nil)) .nil)) .nil)) .nil)) .nil)
abbrev s_law_told : Stmt := topS 59
abbrev N_law_told : List Str := ["word", "parts", "problem"]
def b_law_told : MSs := (.cons (.trr (.cons (.ite (.cmp .inn (.var 0) (.lst (.cons (.con (.str "led")) (.cons (.con (.str "run")) (.cons (.con (.str "reachable")) (.cons (.con (.str "sequence")) (.cons (.con (.str "evidence")) (.cons (.con (.str "reaches")) .nil)))))))) (.cons (.ex (.call "_law_first" (.cons (.var 0) (.cons (.var 1) .nil)))) .nil) (.cons (.ex (.call "_law_second" (.cons (.var 0) (.cons (.var 1) .nil)))) .nil)) .nil) "BadValue" ["BadValue"] ["NotPossible"] 2 (.ite "BadValue" (.fld "name") (.con .non))) (.cons (.ret (.con (.str ""))) .nil))
def d_law_told : Df := ⟨2, 3, b_law_told⟩
abbrev bn_law_told : List Str := ["isinstance", "ValueError"]
abbrev gl_law_told : List (Str × V) := []
theorem sc_law_told : FnScope N_law_told ["word", "parts"] (defScope s_law_told) := ⟨rfl, rfl, rfl, by decide +kernel, rfl, by decide +kernel, by decide +kernel⟩
theorem er_law_told {P : Addr} {xs : Xs} {k : Nat} {e_law_first e_law_second : Fe} (H_law_first : e_law_first.lv ≤ k) (H_law_second : e_law_second.lv ≤ k) {C_BadValue : Addr} (hm1_BadValue : ∀ x, mem x ["BadValue"] = true → xs.xm x "BadValue" = true) (hm2_BadValue : ∀ x, mem x ["NotPossible"] = true → xs.xm x "BadValue" = false) (hh_BadValue : xs.xh "BadValue" = some C_BadValue) (hi_BadValue_UndoError_ValueError : ∀ K mg C fld, xs.px K mg → xs.xt "BadValue" = some (C, fld) → IsT K mg C "UndoError" "ValueError") : ErSs ⟨N_law_told, fnL [("_law_first", e_law_first), ("_law_second", e_law_second)], glL gl_law_told, bn_law_told, P, xs.xt, xs.xh, xs.xm, xs.px⟩ ⟨defScope s_law_told, defScope s_law_told, k, false⟩ b_law_told (defBody s_law_told) := by
  have h_law_first : e_law_first.lv ≤ k := H_law_first
  have h_law_second : e_law_second.lv ≤ k := H_law_second
  exact (.cons (.trr (C := C_BadValue) (by rfl) (by rfl) (by rfl) (by rfl) (.cons (.ite (.cmp (o := .inn) rfl (.var (by rfl) (by first | exact .inl rfl | exact .inr (.inl rfl) | exact .inr (.inr rfl)) (by rfl) (by rfl)) (.lst (.cons .str (.cons .str (.cons .str (.cons .str (.cons .str (.cons .str .nil (fun _ => rfl)) (fun _ => rfl)) (fun _ => rfl)) (fun _ => rfl)) (fun _ => rfl)) (fun _ => rfl))) (by rfl)) (.cons (.ex (.call (fe := e_law_first) (by rfl) h_law_first (by rfl) (by rfl) (.cons (.var (by rfl) (by first | exact .inl rfl | exact .inr (.inl rfl) | exact .inr (.inr rfl)) (by rfl) (by rfl)) (.cons (.var (by rfl) (by first | exact .inl rfl | exact .inr (.inl rfl) | exact .inr (.inr rfl)) (by rfl) (by rfl)) .nil (fun _ => rfl)) (fun _ => rfl)) (fun _ => rfl) (fun _ _ => rfl)) (fun _ => rfl)) .nil) (.cons (.ex (.call (fe := e_law_second) (by rfl) h_law_second (by rfl) (by rfl) (.cons (.var (by rfl) (by first | exact .inl rfl | exact .inr (.inl rfl) | exact .inr (.inr rfl)) (by rfl) (by rfl)) (.cons (.var (by rfl) (by first | exact .inl rfl | exact .inr (.inl rfl) | exact .inr (.inr rfl)) (by rfl) (by rfl)) .nil (fun _ => rfl)) (fun _ => rfl)) (fun _ => rfl) (fun _ _ => rfl)) (fun _ => rfl)) .nil)) .nil) (.ite (.fld (by first | exact .inl rfl | exact .inr (.inl rfl) | exact .inr (.inr rfl)) (by rfl) (by rfl) (fun _ => rfl)) .non (by first | exact .inl rfl | exact .inr (.inl rfl) | exact .inr (.inr rfl)) (by rfl) (by rfl) (by rfl) (by rfl) (by rfl) (by rfl) (by rfl) (by decide) (by simp) (by simp) hi_BadValue_UndoError_ValueError (fun _ => rfl) (fun _ => rfl) (fun _ => rfl) (fun _ => rfl) (fun _ _ => rfl) (fun _ _ => rfl)) hm1_BadValue hm2_BadValue hh_BadValue) (.cons (.ret .str) .nil))
abbrev s_law : Stmt := topS 60
abbrev N_law : List Str := ["script", "stream", "system", "bad_system", "bad_state", "bad_sequence", "bad_command", "good", "rows", "word", "fine", "bad", "names", "k", "wrong", "alone", "options"]
def b_law : MSs := (.cons (.set 1 (.call "_law_stream" (.cons (.var 0) .nil))) (.cons (.set 2 (.tup (.cons (.con (.int 3)) (.cons (.con (.int 1)) (.cons (.tup (.cons (.tup (.cons (.con (.int 1)) (.cons (.con (.int 0)) (.cons (.con (.int 2)) .nil)))) (.cons (.tup (.cons (.con (.int 0)) (.cons (.con (.int 2)) (.cons (.con (.int 1)) .nil)))) .nil))) .nil))))) (.cons (.set 3 (.lst (.cons (.con .non) (.cons (.lst (.cons (.con (.int 3)) (.cons (.con (.int 1)) (.cons (.tup .nil) .nil)))) (.cons (.tup (.cons (.con (.int 3)) (.cons (.con (.int 1)) .nil))) (.cons (.tup (.cons (.con (.int 0)) (.cons (.con (.int 0)) (.cons (.tup .nil) .nil)))) (.cons (.tup (.cons (.con (.int 9)) (.cons (.con (.int 0)) (.cons (.tup .nil) .nil)))) (.cons (.tup (.cons (.con (.int 3)) (.cons (.con (.int 3)) (.cons (.tup .nil) .nil)))) (.cons (.tup (.cons (.con (.int 3)) (.cons (.con (.bl true)) (.cons (.tup .nil) .nil)))) (.cons (.tup (.cons (.con (.int 3)) (.cons (.con (.int 1)) (.cons (.tup (.cons (.tup (.cons (.con (.int 0)) (.cons (.con (.int 0)) .nil))) .nil)) .nil)))) (.cons (.tup (.cons (.con (.int 3)) (.cons (.con (.int 1)) (.cons (.tup (.cons (.tup (.cons (.con (.int 0)) (.cons (.con (.int 0)) (.cons (.con (.int 3)) .nil)))) .nil)) .nil)))) (.cons (.tup (.cons (.con (.int 3)) (.cons (.con (.int 1)) (.cons (.tup (.cons (.tup (.cons (.con (.int 0)) (.cons (.con (.int 0)) (.cons (.con (.bl true)) .nil)))) .nil)) .nil)))) (.cons (.tup (.cons (.con (.int 3)) (.cons (.con (.int 1)) (.cons (.lst (.cons (.tup (.cons (.con (.int 0)) (.cons (.con (.int 0)) (.cons (.con (.int 0)) .nil)))) .nil)) .nil)))) (.cons (.tup (.cons (.con (.int 3)) (.cons (.con (.int 1)) (.cons (.op .mul (.tup (.cons (.tup (.cons (.con (.int 0)) (.cons (.con (.int 0)) (.cons (.con (.int 0)) .nil)))) .nil)) (.con (.int 5))) .nil)))) (.cons (.tup (.cons (.con (.bl true)) (.cons (.con (.int 0)) (.cons (.tup .nil) .nil)))) (.cons (.con (.int 3)) .nil)))))))))))))))) (.cons (.set 4 (.lst (.cons (.con (.int 3)) (.cons (.neg (.con (.int 1))) (.cons (.con .non) (.cons (.con (.bl true)) (.cons (.con (.str "0")) (.cons (.tup (.cons (.con (.int 0)) .nil)) .nil)))))))) (.cons (.set 5 (.lst (.cons (.con .non) (.cons (.lst (.cons (.con (.int 0)) .nil)) (.cons (.tup (.cons (.con (.int 2)) .nil)) (.cons (.tup (.cons (.neg (.con (.int 1))) .nil)) (.cons (.tup (.cons (.con (.bl true)) .nil)) (.cons (.tup (.cons (.con .non) .nil)) (.cons (.op .mul (.tup (.cons (.con (.int 0)) .nil)) (.con (.int 17))) (.cons (.con (.int 0)) (.cons (.con (.str "")) (.cons (.tup (.cons (.con (.str "0")) .nil)) (.cons (.tup (.cons (.con (.int 0)) (.cons (.con (.int 2)) .nil))) .nil))))))))))))) (.cons (.set 6 (.lst (.cons (.con (.int 2)) (.cons (.neg (.con (.int 1))) (.cons (.con .non) (.cons (.con (.bl true)) (.cons (.con (.str "0")) .nil))))))) (.cons (.set 7 (.call "_law_pick" (.cons (.var 1) (.cons (.lst (.cons (.tup .nil) (.cons (.tup (.cons (.con (.int 0)) (.cons (.con (.int 1)) .nil))) (.cons (.op .mul (.tup (.cons (.con (.int 1)) .nil)) (.con (.int 16))) .nil)))) .nil)))) (.cons (.set 8 (.lc [9] (.name 9) .val (.cons (.lst (.cons (.con (.str "led")) (.cons (.con (.str "run")) .nil))) .nil) .none (.tup (.cons (.var 9) (.cons (.lst (.cons (.var 2) (.cons (.con (.int 2)) (.cons (.var 7) .nil)))) (.cons (.lst (.cons (.var 3) (.cons (.var 4) (.cons (.var 5) .nil)))) (.cons (.lst (.cons (.con (.str "system")) (.cons (.con (.str "state")) (.cons (.con (.str "sequence")) .nil)))) .nil))))))) (.cons (.ex (.mth .extend (.var 8) (.cons (.lc [9] (.name 9) .val (.cons (.lst (.cons (.con (.str "sequence")) (.cons (.con (.str "evidence")) (.cons (.con (.str "reaches")) .nil)))) .nil) .none (.tup (.cons (.var 9) (.cons (.lst (.cons (.var 2) (.cons (.con (.int 2)) (.cons (.con (.int 0)) .nil)))) (.cons (.lst (.cons (.var 3) (.cons (.var 4) (.cons (.var 4) .nil)))) (.cons (.lst (.cons (.con (.str "system")) (.cons (.con (.str "state")) (.cons (.con (.str "target")) .nil)))) .nil)))))) .nil))) (.cons (.ex (.mth .extend (.var 8) (.cons (.lc [9] (.name 9) .val (.cons (.lst (.cons (.con (.str "reachable")) (.cons (.con (.str "one")) .nil))) .nil) .none (.tup (.cons (.var 9) (.cons (.lst (.cons (.var 2) .nil)) (.cons (.lst (.cons (.var 3) .nil)) (.cons (.lst (.cons (.con (.str "system")) .nil)) .nil)))))) .nil))) (.cons (.ex (.mth .append (.var 8) (.cons (.tup (.cons (.con (.str "agree")) (.cons (.lst (.cons (.var 2) (.cons (.var 7) (.cons (.tup (.cons (.con (.int 1)) .nil)) (.cons (.con (.int 0)) .nil))))) (.cons (.lst (.cons (.var 3) (.cons (.var 5) (.cons (.var 5) (.cons (.var 4) .nil))))) (.cons (.lst (.cons (.con (.str "system")) (.cons (.con (.str "first")) (.cons (.con (.str "second")) (.cons (.con (.str "state")) .nil))))) .nil))))) .nil))) (.cons (.ex (.mth .append (.var 8) (.cons (.tup (.cons (.con (.str "difference")) (.cons (.lst (.cons (.var 2) (.cons (.var 7) (.cons (.tup (.cons (.con (.int 1)) .nil)) .nil)))) (.cons (.lst (.cons (.var 3) (.cons (.var 5) (.cons (.var 5) .nil)))) (.cons (.lst (.cons (.con (.str "system")) (.cons (.con (.str "first")) (.cons (.con (.str "second")) .nil)))) .nil))))) .nil))) (.cons (.ex (.mth .extend (.var 8) (.cons (.lc [9] (.name 9) .val (.cons (.lst (.cons (.con (.str "merged")) (.cons (.con (.str "merges")) (.cons (.con (.str "inverse")) .nil)))) .nil) .none (.tup (.cons (.var 9) (.cons (.lst (.cons (.var 2) (.cons (.con (.int 1)) .nil))) (.cons (.lst (.cons (.var 3) (.cons (.var 6) .nil))) (.cons (.lst (.cons (.con (.str "system")) (.cons (.con (.str "command")) .nil))) .nil)))))) .nil))) (.cons (.ex (.mth .append (.var 8) (.cons (.tup (.cons (.con (.str "exchanged")) (.cons (.lst (.cons (.var 2) (.cons (.con (.int 1)) (.cons (.con (.int 0)) .nil)))) (.cons (.lst (.cons (.var 3) (.cons (.var 6) (.cons (.var 6) .nil)))) (.cons (.lst (.cons (.con (.str "system")) (.cons (.con (.str "command")) (.cons (.con (.str "other")) .nil)))) .nil))))) .nil))) (.cons (.fr (.tup (.cons (.name 9) (.cons (.name 10) (.cons (.name 11) (.cons (.name 12) .nil))))) .val (.cons (.var 8) .nil) (.cons (.ite (.cmp .ne (.call "_law_told" (.cons (.var 9) (.cons (.var 10) .nil))) (.con (.str ""))) (.cons (.ret (.con (.bl false))) .nil) .nil) (.cons (.fr (.name 13) .rng1 (.cons (.bfn .len (.var 10)) .nil) (.cons (.set 14 (.lc [16] (.name 16) .val (.cons (.var 11) .nil) .none (.call "_law_pick" (.cons (.var 1) (.cons (.var 16) .nil))))) (.cons (.set 15 (.op .add (.op .add (.slc (.var 10) .none (.some (.var 13))) (.lst (.cons (.ix (.var 14) (.var 13)) .nil))) (.slc (.var 10) (.some (.op .add (.var 13) (.con (.int 1)))) .none))) (.cons (.ite (.bop false (.cmp .ne (.call "_law_told" (.cons (.var 9) (.cons (.var 15) .nil))) (.ix (.var 12) (.var 13))) (.cons (.cmp .ne (.call "_law_told" (.cons (.var 9) (.cons (.op .add (.slc (.var 10) .none (.some (.var 13))) (.slc (.var 14) (.some (.var 13)) .none)) .nil))) (.ix (.var 12) (.var 13))) .nil)) (.cons (.ret (.con (.bl false))) .nil) .nil) .nil)))) .nil))) (.cons (.ret (.cmp .eq (.call "_law_told" (.cons (.con (.str "inverse")) (.cons (.lst (.cons (.tup (.cons (.con (.int 2)) (.cons (.con (.int 0)) (.cons (.tup (.cons (.tup (.cons (.con (.int 1)) (.cons (.con (.int 1)) .nil))) .nil)) .nil)))) (.cons (.con (.int 1)) .nil))) .nil))) (.con (.str "command")))) .nil))))))))))))))))
def d_law : Df := ⟨1, 17, b_law⟩
abbrev bn_law : List Str := ["range", "len"]
abbrev gl_law : List (Str × V) := []
theorem sc_law : FnScope N_law ["script"] (defScope s_law) := ⟨rfl, rfl, rfl, by decide +kernel, rfl, by decide +kernel, by decide +kernel⟩
theorem er_law {P : Addr} {xs : Xs} {k : Nat} {e_law_stream e_law_pick e_law_told : Fe} (H_law_stream : e_law_stream.lv ≤ k) (H_law_pick : e_law_pick.lv ≤ k) (H_law_told : e_law_told.lv ≤ k) : ErSs ⟨N_law, fnL [("_law_stream", e_law_stream), ("_law_pick", e_law_pick), ("_law_told", e_law_told)], glL gl_law, bn_law, P, xs.xt, xs.xh, xs.xm, xs.px⟩ ⟨defScope s_law, defScope s_law, k, false⟩ b_law (defBody s_law) := by
  have h_law_stream : e_law_stream.lv ≤ k := H_law_stream
  have h_law_pick : e_law_pick.lv ≤ k := H_law_pick
  have h_law_told : e_law_told.lv ≤ k := H_law_told
  exact (.cons (.set (by rfl) (by first | exact .inl rfl | exact .inr rfl) (.call (fe := e_law_stream) (by rfl) h_law_stream (by rfl) (by rfl) (.cons (.var (by rfl) (by first | exact .inl rfl | exact .inr (.inl rfl) | exact .inr (.inr rfl)) (by rfl) (by rfl)) .nil (fun _ => rfl)) (fun _ => rfl) (fun _ _ => rfl)) (fun _ _ => by rfl)) (.cons (.set (by rfl) (by first | exact .inl rfl | exact .inr rfl) (.tup (.cons .int (.cons .int (.cons (.tup (.cons (.tup (.cons .int (.cons .int (.cons .int .nil (fun _ => rfl)) (fun _ => rfl)) (fun _ => rfl))) (.cons (.tup (.cons .int (.cons .int (.cons .int .nil (fun _ => rfl)) (fun _ => rfl)) (fun _ => rfl))) .nil (fun _ => rfl)) (fun _ => rfl))) .nil (fun _ => rfl)) (fun _ => rfl)) (fun _ => rfl))) (fun _ _ => by rfl)) (.cons (.set (by rfl) (by first | exact .inl rfl | exact .inr rfl) (.lst (.cons .non (.cons (.lst (.cons .int (.cons .int (.cons (.tup .nil) .nil (fun _ => rfl)) (fun _ => rfl)) (fun _ => rfl))) (.cons (.tup (.cons .int (.cons .int .nil (fun _ => rfl)) (fun _ => rfl))) (.cons (.tup (.cons .int (.cons .int (.cons (.tup .nil) .nil (fun _ => rfl)) (fun _ => rfl)) (fun _ => rfl))) (.cons (.tup (.cons .int (.cons .int (.cons (.tup .nil) .nil (fun _ => rfl)) (fun _ => rfl)) (fun _ => rfl))) (.cons (.tup (.cons .int (.cons .int (.cons (.tup .nil) .nil (fun _ => rfl)) (fun _ => rfl)) (fun _ => rfl))) (.cons (.tup (.cons .int (.cons .bl (.cons (.tup .nil) .nil (fun _ => rfl)) (fun _ => rfl)) (fun _ => rfl))) (.cons (.tup (.cons .int (.cons .int (.cons (.tup (.cons (.tup (.cons .int (.cons .int .nil (fun _ => rfl)) (fun _ => rfl))) .nil (fun _ => rfl))) .nil (fun _ => rfl)) (fun _ => rfl)) (fun _ => rfl))) (.cons (.tup (.cons .int (.cons .int (.cons (.tup (.cons (.tup (.cons .int (.cons .int (.cons .int .nil (fun _ => rfl)) (fun _ => rfl)) (fun _ => rfl))) .nil (fun _ => rfl))) .nil (fun _ => rfl)) (fun _ => rfl)) (fun _ => rfl))) (.cons (.tup (.cons .int (.cons .int (.cons (.tup (.cons (.tup (.cons .int (.cons .int (.cons .bl .nil (fun _ => rfl)) (fun _ => rfl)) (fun _ => rfl))) .nil (fun _ => rfl))) .nil (fun _ => rfl)) (fun _ => rfl)) (fun _ => rfl))) (.cons (.tup (.cons .int (.cons .int (.cons (.lst (.cons (.tup (.cons .int (.cons .int (.cons .int .nil (fun _ => rfl)) (fun _ => rfl)) (fun _ => rfl))) .nil (fun _ => rfl))) .nil (fun _ => rfl)) (fun _ => rfl)) (fun _ => rfl))) (.cons (.tup (.cons .int (.cons .int (.cons (.op rfl (.tup (.cons (.tup (.cons .int (.cons .int (.cons .int .nil (fun _ => rfl)) (fun _ => rfl)) (fun _ => rfl))) .nil (fun _ => rfl))) .int) .nil (fun _ => rfl)) (fun _ => rfl)) (fun _ => rfl))) (.cons (.tup (.cons .bl (.cons .int (.cons (.tup .nil) .nil (fun _ => rfl)) (fun _ => rfl)) (fun _ => rfl))) (.cons .int .nil (fun _ => rfl)) (fun _ => rfl)) (fun _ => rfl)) (fun _ => rfl)) (fun _ => rfl)) (fun _ => rfl)) (fun _ => rfl)) (fun _ => rfl)) (fun _ => rfl)) (fun _ => rfl)) (fun _ => rfl)) (fun _ => rfl)) (fun _ => rfl)) (fun _ => rfl))) (fun _ _ => by rfl)) (.cons (.set (by rfl) (by first | exact .inl rfl | exact .inr rfl) (.lst (.cons .int (.cons (.neg .int) (.cons .non (.cons .bl (.cons .str (.cons (.tup (.cons .int .nil (fun _ => rfl))) .nil (fun _ => rfl)) (fun _ => rfl)) (fun _ => rfl)) (fun _ => rfl)) (fun _ => rfl)) (fun _ => rfl))) (fun _ _ => by rfl)) (.cons (.set (by rfl) (by first | exact .inl rfl | exact .inr rfl) (.lst (.cons .non (.cons (.lst (.cons .int .nil (fun _ => rfl))) (.cons (.tup (.cons .int .nil (fun _ => rfl))) (.cons (.tup (.cons (.neg .int) .nil (fun _ => rfl))) (.cons (.tup (.cons .bl .nil (fun _ => rfl))) (.cons (.tup (.cons .non .nil (fun _ => rfl))) (.cons (.op rfl (.tup (.cons .int .nil (fun _ => rfl))) .int) (.cons .int (.cons .str (.cons (.tup (.cons .str .nil (fun _ => rfl))) (.cons (.tup (.cons .int (.cons .int .nil (fun _ => rfl)) (fun _ => rfl))) .nil (fun _ => rfl)) (fun _ => rfl)) (fun _ => rfl)) (fun _ => rfl)) (fun _ => rfl)) (fun _ => rfl)) (fun _ => rfl)) (fun _ => rfl)) (fun _ => rfl)) (fun _ => rfl)) (fun _ => rfl))) (fun _ _ => by rfl)) (.cons (.set (by rfl) (by first | exact .inl rfl | exact .inr rfl) (.lst (.cons .int (.cons (.neg .int) (.cons .non (.cons .bl (.cons .str .nil (fun _ => rfl)) (fun _ => rfl)) (fun _ => rfl)) (fun _ => rfl)) (fun _ => rfl))) (fun _ _ => by rfl)) (.cons (.set (by rfl) (by first | exact .inl rfl | exact .inr rfl) (.call (fe := e_law_pick) (by rfl) h_law_pick (by rfl) (by rfl) (.cons (.var (by rfl) (by first | exact .inl rfl | exact .inr (.inl rfl) | exact .inr (.inr rfl)) (by rfl) (by rfl)) (.cons (.lst (.cons (.tup .nil) (.cons (.tup (.cons .int (.cons .int .nil (fun _ => rfl)) (fun _ => rfl))) (.cons (.op rfl (.tup (.cons .int .nil (fun _ => rfl))) .int) .nil (fun _ => rfl)) (fun _ => rfl)) (fun _ => rfl))) .nil (fun _ => rfl)) (fun _ => rfl)) (fun _ => rfl) (fun _ _ => rfl)) (fun _ _ => by rfl)) (.cons (.setc (own := [("word", 9)]) rfl rfl rfl rfl rfl rfl (show BlkOk N_law _ _ _ from ⟨rfl, by decide +kernel, by decide +kernel, by dsimp only; decide +kernel, by decide +kernel⟩) (.val (.lst (.cons .str (.cons .str .nil (fun _ => rfl)) (fun _ => rfl)))) (.name (by rfl) (by first | exact .inl rfl | exact .inr rfl)) .none (.tup (.cons (.var (by rfl) (by first | exact .inl rfl | exact .inr (.inl rfl) | exact .inr (.inr rfl)) (by rfl) (by rfl)) (.cons (.lst (.cons (.var (by rfl) (by first | exact .inl rfl | exact .inr (.inl rfl) | exact .inr (.inr rfl)) (by rfl) (by rfl)) (.cons .int (.cons (.var (by rfl) (by first | exact .inl rfl | exact .inr (.inl rfl) | exact .inr (.inr rfl)) (by rfl) (by rfl)) .nil (fun _ => rfl)) (fun _ => rfl)) (fun _ => rfl))) (.cons (.lst (.cons (.var (by rfl) (by first | exact .inl rfl | exact .inr (.inl rfl) | exact .inr (.inr rfl)) (by rfl) (by rfl)) (.cons (.var (by rfl) (by first | exact .inl rfl | exact .inr (.inl rfl) | exact .inr (.inr rfl)) (by rfl) (by rfl)) (.cons (.var (by rfl) (by first | exact .inl rfl | exact .inr (.inl rfl) | exact .inr (.inr rfl)) (by rfl) (by rfl)) .nil (fun _ => rfl)) (fun _ => rfl)) (fun _ => rfl))) (.cons (.lst (.cons .str (.cons .str (.cons .str .nil (fun _ => rfl)) (fun _ => rfl)) (fun _ => rfl))) .nil (fun _ => rfl)) (fun _ => rfl)) (fun _ => rfl)) (fun _ => rfl))) (fun _ _ => rfl)) (.cons (.ex (.mth (o := .extend) rfl (.var (by rfl) (by first | exact .inl rfl | exact .inr (.inl rfl) | exact .inr (.inr rfl)) (by rfl) (by rfl)) (.cons (.lc (own := [("word", 9)]) rfl (show BlkOk N_law _ _ _ from ⟨rfl, by decide +kernel, by decide +kernel, by dsimp only; decide +kernel, by decide +kernel⟩) (.val (.lst (.cons .str (.cons .str (.cons .str .nil (fun _ => rfl)) (fun _ => rfl)) (fun _ => rfl)))) (.name (by rfl) (by first | exact .inl rfl | exact .inr rfl)) .none (.tup (.cons (.var (by rfl) (by first | exact .inl rfl | exact .inr (.inl rfl) | exact .inr (.inr rfl)) (by rfl) (by rfl)) (.cons (.lst (.cons (.var (by rfl) (by first | exact .inl rfl | exact .inr (.inl rfl) | exact .inr (.inr rfl)) (by rfl) (by rfl)) (.cons .int (.cons .int .nil (fun _ => rfl)) (fun _ => rfl)) (fun _ => rfl))) (.cons (.lst (.cons (.var (by rfl) (by first | exact .inl rfl | exact .inr (.inl rfl) | exact .inr (.inr rfl)) (by rfl) (by rfl)) (.cons (.var (by rfl) (by first | exact .inl rfl | exact .inr (.inl rfl) | exact .inr (.inr rfl)) (by rfl) (by rfl)) (.cons (.var (by rfl) (by first | exact .inl rfl | exact .inr (.inl rfl) | exact .inr (.inr rfl)) (by rfl) (by rfl)) .nil (fun _ => rfl)) (fun _ => rfl)) (fun _ => rfl))) (.cons (.lst (.cons .str (.cons .str (.cons .str .nil (fun _ => rfl)) (fun _ => rfl)) (fun _ => rfl))) .nil (fun _ => rfl)) (fun _ => rfl)) (fun _ => rfl)) (fun _ => rfl))) (fun _ _ => rfl)) .nil (fun _ => rfl)) (fun _ => rfl) (fun _ => rfl) (by rfl) (fun _ => rfl) (fun _ _ => rfl)) (fun _ => rfl)) (.cons (.ex (.mth (o := .extend) rfl (.var (by rfl) (by first | exact .inl rfl | exact .inr (.inl rfl) | exact .inr (.inr rfl)) (by rfl) (by rfl)) (.cons (.lc (own := [("word", 9)]) rfl (show BlkOk N_law _ _ _ from ⟨rfl, by decide +kernel, by decide +kernel, by dsimp only; decide +kernel, by decide +kernel⟩) (.val (.lst (.cons .str (.cons .str .nil (fun _ => rfl)) (fun _ => rfl)))) (.name (by rfl) (by first | exact .inl rfl | exact .inr rfl)) .none (.tup (.cons (.var (by rfl) (by first | exact .inl rfl | exact .inr (.inl rfl) | exact .inr (.inr rfl)) (by rfl) (by rfl)) (.cons (.lst (.cons (.var (by rfl) (by first | exact .inl rfl | exact .inr (.inl rfl) | exact .inr (.inr rfl)) (by rfl) (by rfl)) .nil (fun _ => rfl))) (.cons (.lst (.cons (.var (by rfl) (by first | exact .inl rfl | exact .inr (.inl rfl) | exact .inr (.inr rfl)) (by rfl) (by rfl)) .nil (fun _ => rfl))) (.cons (.lst (.cons .str .nil (fun _ => rfl))) .nil (fun _ => rfl)) (fun _ => rfl)) (fun _ => rfl)) (fun _ => rfl))) (fun _ _ => rfl)) .nil (fun _ => rfl)) (fun _ => rfl) (fun _ => rfl) (by rfl) (fun _ => rfl) (fun _ _ => rfl)) (fun _ => rfl)) (.cons (.ex (.mth (o := .append) rfl (.var (by rfl) (by first | exact .inl rfl | exact .inr (.inl rfl) | exact .inr (.inr rfl)) (by rfl) (by rfl)) (.cons (.tup (.cons .str (.cons (.lst (.cons (.var (by rfl) (by first | exact .inl rfl | exact .inr (.inl rfl) | exact .inr (.inr rfl)) (by rfl) (by rfl)) (.cons (.var (by rfl) (by first | exact .inl rfl | exact .inr (.inl rfl) | exact .inr (.inr rfl)) (by rfl) (by rfl)) (.cons (.tup (.cons .int .nil (fun _ => rfl))) (.cons .int .nil (fun _ => rfl)) (fun _ => rfl)) (fun _ => rfl)) (fun _ => rfl))) (.cons (.lst (.cons (.var (by rfl) (by first | exact .inl rfl | exact .inr (.inl rfl) | exact .inr (.inr rfl)) (by rfl) (by rfl)) (.cons (.var (by rfl) (by first | exact .inl rfl | exact .inr (.inl rfl) | exact .inr (.inr rfl)) (by rfl) (by rfl)) (.cons (.var (by rfl) (by first | exact .inl rfl | exact .inr (.inl rfl) | exact .inr (.inr rfl)) (by rfl) (by rfl)) (.cons (.var (by rfl) (by first | exact .inl rfl | exact .inr (.inl rfl) | exact .inr (.inr rfl)) (by rfl) (by rfl)) .nil (fun _ => rfl)) (fun _ => rfl)) (fun _ => rfl)) (fun _ => rfl))) (.cons (.lst (.cons .str (.cons .str (.cons .str (.cons .str .nil (fun _ => rfl)) (fun _ => rfl)) (fun _ => rfl)) (fun _ => rfl))) .nil (fun _ => rfl)) (fun _ => rfl)) (fun _ => rfl)) (fun _ => rfl))) .nil (fun _ => rfl)) (fun _ => rfl) (fun _ => rfl) (by rfl) (fun _ => rfl) (fun _ _ => rfl)) (fun _ => rfl)) (.cons (.ex (.mth (o := .append) rfl (.var (by rfl) (by first | exact .inl rfl | exact .inr (.inl rfl) | exact .inr (.inr rfl)) (by rfl) (by rfl)) (.cons (.tup (.cons .str (.cons (.lst (.cons (.var (by rfl) (by first | exact .inl rfl | exact .inr (.inl rfl) | exact .inr (.inr rfl)) (by rfl) (by rfl)) (.cons (.var (by rfl) (by first | exact .inl rfl | exact .inr (.inl rfl) | exact .inr (.inr rfl)) (by rfl) (by rfl)) (.cons (.tup (.cons .int .nil (fun _ => rfl))) .nil (fun _ => rfl)) (fun _ => rfl)) (fun _ => rfl))) (.cons (.lst (.cons (.var (by rfl) (by first | exact .inl rfl | exact .inr (.inl rfl) | exact .inr (.inr rfl)) (by rfl) (by rfl)) (.cons (.var (by rfl) (by first | exact .inl rfl | exact .inr (.inl rfl) | exact .inr (.inr rfl)) (by rfl) (by rfl)) (.cons (.var (by rfl) (by first | exact .inl rfl | exact .inr (.inl rfl) | exact .inr (.inr rfl)) (by rfl) (by rfl)) .nil (fun _ => rfl)) (fun _ => rfl)) (fun _ => rfl))) (.cons (.lst (.cons .str (.cons .str (.cons .str .nil (fun _ => rfl)) (fun _ => rfl)) (fun _ => rfl))) .nil (fun _ => rfl)) (fun _ => rfl)) (fun _ => rfl)) (fun _ => rfl))) .nil (fun _ => rfl)) (fun _ => rfl) (fun _ => rfl) (by rfl) (fun _ => rfl) (fun _ _ => rfl)) (fun _ => rfl)) (.cons (.ex (.mth (o := .extend) rfl (.var (by rfl) (by first | exact .inl rfl | exact .inr (.inl rfl) | exact .inr (.inr rfl)) (by rfl) (by rfl)) (.cons (.lc (own := [("word", 9)]) rfl (show BlkOk N_law _ _ _ from ⟨rfl, by decide +kernel, by decide +kernel, by dsimp only; decide +kernel, by decide +kernel⟩) (.val (.lst (.cons .str (.cons .str (.cons .str .nil (fun _ => rfl)) (fun _ => rfl)) (fun _ => rfl)))) (.name (by rfl) (by first | exact .inl rfl | exact .inr rfl)) .none (.tup (.cons (.var (by rfl) (by first | exact .inl rfl | exact .inr (.inl rfl) | exact .inr (.inr rfl)) (by rfl) (by rfl)) (.cons (.lst (.cons (.var (by rfl) (by first | exact .inl rfl | exact .inr (.inl rfl) | exact .inr (.inr rfl)) (by rfl) (by rfl)) (.cons .int .nil (fun _ => rfl)) (fun _ => rfl))) (.cons (.lst (.cons (.var (by rfl) (by first | exact .inl rfl | exact .inr (.inl rfl) | exact .inr (.inr rfl)) (by rfl) (by rfl)) (.cons (.var (by rfl) (by first | exact .inl rfl | exact .inr (.inl rfl) | exact .inr (.inr rfl)) (by rfl) (by rfl)) .nil (fun _ => rfl)) (fun _ => rfl))) (.cons (.lst (.cons .str (.cons .str .nil (fun _ => rfl)) (fun _ => rfl))) .nil (fun _ => rfl)) (fun _ => rfl)) (fun _ => rfl)) (fun _ => rfl))) (fun _ _ => rfl)) .nil (fun _ => rfl)) (fun _ => rfl) (fun _ => rfl) (by rfl) (fun _ => rfl) (fun _ _ => rfl)) (fun _ => rfl)) (.cons (.ex (.mth (o := .append) rfl (.var (by rfl) (by first | exact .inl rfl | exact .inr (.inl rfl) | exact .inr (.inr rfl)) (by rfl) (by rfl)) (.cons (.tup (.cons .str (.cons (.lst (.cons (.var (by rfl) (by first | exact .inl rfl | exact .inr (.inl rfl) | exact .inr (.inr rfl)) (by rfl) (by rfl)) (.cons .int (.cons .int .nil (fun _ => rfl)) (fun _ => rfl)) (fun _ => rfl))) (.cons (.lst (.cons (.var (by rfl) (by first | exact .inl rfl | exact .inr (.inl rfl) | exact .inr (.inr rfl)) (by rfl) (by rfl)) (.cons (.var (by rfl) (by first | exact .inl rfl | exact .inr (.inl rfl) | exact .inr (.inr rfl)) (by rfl) (by rfl)) (.cons (.var (by rfl) (by first | exact .inl rfl | exact .inr (.inl rfl) | exact .inr (.inr rfl)) (by rfl) (by rfl)) .nil (fun _ => rfl)) (fun _ => rfl)) (fun _ => rfl))) (.cons (.lst (.cons .str (.cons .str (.cons .str .nil (fun _ => rfl)) (fun _ => rfl)) (fun _ => rfl))) .nil (fun _ => rfl)) (fun _ => rfl)) (fun _ => rfl)) (fun _ => rfl))) .nil (fun _ => rfl)) (fun _ => rfl) (fun _ => rfl) (by rfl) (fun _ => rfl) (fun _ _ => rfl)) (fun _ => rfl)) (.cons (.fr (.tup (.cons (.name (by rfl) (by first | exact .inl rfl | exact .inr rfl)) (.cons (.name (by rfl) (by first | exact .inl rfl | exact .inr rfl)) (.cons (.name (by rfl) (by first | exact .inl rfl | exact .inr rfl)) (.cons (.name (by rfl) (by first | exact .inl rfl | exact .inr rfl)) .nil (fun _ => rfl)) (fun _ => rfl)) (fun _ => rfl)) (fun _ => rfl)) (fun _ => rfl) (fun _ => rfl)) (.val (.var (by rfl) (by first | exact .inl rfl | exact .inr (.inl rfl) | exact .inr (.inr rfl)) (by rfl) (by rfl))) (.cons (.ite (.cmp (o := .ne) rfl (.call (fe := e_law_told) (by rfl) h_law_told (by rfl) (by rfl) (.cons (.var (by rfl) (by first | exact .inl rfl | exact .inr (.inl rfl) | exact .inr (.inr rfl)) (by rfl) (by rfl)) (.cons (.var (by rfl) (by first | exact .inl rfl | exact .inr (.inl rfl) | exact .inr (.inr rfl)) (by rfl) (by rfl)) .nil (fun _ => rfl)) (fun _ => rfl)) (fun _ => rfl) (fun _ _ => rfl)) .str (by rfl)) (.cons (.ret .bl) .nil) .nil) (.cons (.fr (.name (by rfl) (by first | exact .inl rfl | exact .inr rfl)) (.rng1 (by simp) (by rfl) (.bfn (o := .len) rfl (by simp) (by rfl) (.var (by rfl) (by first | exact .inl rfl | exact .inr (.inl rfl) | exact .inr (.inr rfl)) (by rfl) (by rfl)) (fun _ => rfl)) (fun _ => rfl)) (.cons (.setc (own := [("options", 16)]) rfl rfl rfl rfl rfl rfl (show BlkOk N_law _ _ _ from ⟨rfl, by decide +kernel, by decide +kernel, by dsimp only; decide +kernel, by decide +kernel⟩) (.val (.var (by rfl) (by first | exact .inl rfl | exact .inr (.inl rfl) | exact .inr (.inr rfl)) (by rfl) (by rfl))) (.name (by rfl) (by first | exact .inl rfl | exact .inr rfl)) .none (.call (fe := e_law_pick) (by rfl) h_law_pick (by rfl) (by rfl) (.cons (.var (by rfl) (by first | exact .inl rfl | exact .inr (.inl rfl) | exact .inr (.inr rfl)) (by rfl) (by rfl)) (.cons (.var (by rfl) (by first | exact .inl rfl | exact .inr (.inl rfl) | exact .inr (.inr rfl)) (by rfl) (by rfl)) .nil (fun _ => rfl)) (fun _ => rfl)) (fun _ => rfl) (fun _ _ => rfl)) (fun _ _ => rfl)) (.cons (.set (by rfl) (by first | exact .inl rfl | exact .inr rfl) (.op rfl (.op rfl (.slc (.var (by rfl) (by first | exact .inl rfl | exact .inr (.inl rfl) | exact .inr (.inr rfl)) (by rfl) (by rfl)) .none (.some (.var (by rfl) (by first | exact .inl rfl | exact .inr (.inl rfl) | exact .inr (.inr rfl)) (by rfl) (by rfl)))) (.lst (.cons (.ix (.var (by rfl) (by first | exact .inl rfl | exact .inr (.inl rfl) | exact .inr (.inr rfl)) (by rfl) (by rfl)) (.var (by rfl) (by first | exact .inl rfl | exact .inr (.inl rfl) | exact .inr (.inr rfl)) (by rfl) (by rfl)) (fun _ _ => rfl)) .nil (fun _ => rfl)))) (.slc (.var (by rfl) (by first | exact .inl rfl | exact .inr (.inl rfl) | exact .inr (.inr rfl)) (by rfl) (by rfl)) (.some (.op rfl (.var (by rfl) (by first | exact .inl rfl | exact .inr (.inl rfl) | exact .inr (.inr rfl)) (by rfl) (by rfl)) .int)) .none)) (fun _ _ => by rfl)) (.cons (.ite (.bop rfl (.cmp (o := .ne) rfl (.call (fe := e_law_told) (by rfl) h_law_told (by rfl) (by rfl) (.cons (.var (by rfl) (by first | exact .inl rfl | exact .inr (.inl rfl) | exact .inr (.inr rfl)) (by rfl) (by rfl)) (.cons (.var (by rfl) (by first | exact .inl rfl | exact .inr (.inl rfl) | exact .inr (.inr rfl)) (by rfl) (by rfl)) .nil (fun _ => rfl)) (fun _ => rfl)) (fun _ => rfl) (fun _ _ => rfl)) (.ix (.var (by rfl) (by first | exact .inl rfl | exact .inr (.inl rfl) | exact .inr (.inr rfl)) (by rfl) (by rfl)) (.var (by rfl) (by first | exact .inl rfl | exact .inr (.inl rfl) | exact .inr (.inr rfl)) (by rfl) (by rfl)) (fun _ _ => rfl)) (by rfl)) (.cons (.cmp (o := .ne) rfl (.call (fe := e_law_told) (by rfl) h_law_told (by rfl) (by rfl) (.cons (.var (by rfl) (by first | exact .inl rfl | exact .inr (.inl rfl) | exact .inr (.inr rfl)) (by rfl) (by rfl)) (.cons (.op rfl (.slc (.var (by rfl) (by first | exact .inl rfl | exact .inr (.inl rfl) | exact .inr (.inr rfl)) (by rfl) (by rfl)) .none (.some (.var (by rfl) (by first | exact .inl rfl | exact .inr (.inl rfl) | exact .inr (.inr rfl)) (by rfl) (by rfl)))) (.slc (.var (by rfl) (by first | exact .inl rfl | exact .inr (.inl rfl) | exact .inr (.inr rfl)) (by rfl) (by rfl)) (.some (.var (by rfl) (by first | exact .inl rfl | exact .inr (.inl rfl) | exact .inr (.inr rfl)) (by rfl) (by rfl))) .none)) .nil (fun _ => rfl)) (fun _ => rfl)) (fun _ => rfl) (fun _ _ => rfl)) (.ix (.var (by rfl) (by first | exact .inl rfl | exact .inr (.inl rfl) | exact .inr (.inr rfl)) (by rfl) (by rfl)) (.var (by rfl) (by first | exact .inl rfl | exact .inr (.inl rfl) | exact .inr (.inr rfl)) (by rfl) (by rfl)) (fun _ _ => rfl)) (by rfl)) .nil)) (.cons (.ret .bl) .nil) .nil) .nil))) (fun _ _ => rfl)) .nil)) (fun _ _ => rfl)) (.cons (.ret (.cmp (o := .eq) rfl (.call (fe := e_law_told) (by rfl) h_law_told (by rfl) (by rfl) (.cons .str (.cons (.lst (.cons (.tup (.cons .int (.cons .int (.cons (.tup (.cons (.tup (.cons .int (.cons .int .nil (fun _ => rfl)) (fun _ => rfl))) .nil (fun _ => rfl))) .nil (fun _ => rfl)) (fun _ => rfl)) (fun _ => rfl))) (.cons .int .nil (fun _ => rfl)) (fun _ => rfl))) .nil (fun _ => rfl)) (fun _ => rfl)) (fun _ => rfl) (fun _ _ => rfl)) .str (by rfl))) .nil))))))))))))))))
abbrev m_law_stream : Fn := mStream
abbrev m_law_next : Fn := mNext
def E_law_pick : Str → Fn := enN [("_law_next", (m_law_next))]
def m_law_pick : Fn := runD E_law_pick d_law_pick
theorem E_law_pick_law_next : E_law_pick "_law_next" = (m_law_next) := enN_hd
def E_is_tuple_of : Str → Fn := enN []
def m_is_tuple_of : Fn := runD E_is_tuple_of d_is_tuple_of
def E_is_integer : Str → Fn := enN []
def m_is_integer : Fn := runD E_is_integer d_is_integer
def E_is_index : Str → Fn := enN [("is_integer", (m_is_integer))]
def m_is_index : Fn := runD E_is_index d_is_index
theorem E_is_index_is_integer : E_is_index "is_integer" = (m_is_integer) := enN_hd
def E_is_index_tuple : Str → Fn := enN [("is_index", (m_is_index))]
def m_is_index_tuple : Fn := runD E_is_index_tuple d_is_index_tuple
theorem E_is_index_tuple_is_index : E_is_index_tuple "is_index" = (m_is_index) := enN_hd
def E_is_command_row : Str → Fn := enN [("is_index_tuple", (m_is_index_tuple))]
def m_is_command_row : Fn := runD E_is_command_row d_is_command_row
theorem E_is_command_row_is_index_tuple : E_is_command_row "is_index_tuple" = (m_is_index_tuple) := enN_hd
def E_is_system : Str → Fn := enN [("is_tuple_of", (m_is_tuple_of)), ("is_integer", (m_is_integer)), ("is_index", (m_is_index)), ("is_command_row", (m_is_command_row))]
def m_is_system : Fn := runD E_is_system d_is_system
theorem E_is_system_is_tuple_of : E_is_system "is_tuple_of" = (m_is_tuple_of) := enN_hd
theorem E_is_system_is_integer : E_is_system "is_integer" = (m_is_integer) := (enN_tl (by decide +kernel) enN_hd)
theorem E_is_system_is_index : E_is_system "is_index" = (m_is_index) := (enN_tl (by decide +kernel) (enN_tl (by decide +kernel) enN_hd))
theorem E_is_system_is_command_row : E_is_system "is_command_row" = (m_is_command_row) := (enN_tl (by decide +kernel) (enN_tl (by decide +kernel) (enN_tl (by decide +kernel) enN_hd)))
def E_check_system : Str → Fn := enN [("is_system", (m_is_system))]
def m_check_system : Fn := runD E_check_system d_check_system
theorem E_check_system_is_system : E_check_system "is_system" = (m_is_system) := enN_hd
def E_is_state : Str → Fn := enN [("is_index", (m_is_index))]
def m_is_state : Fn := runD E_is_state d_is_state
theorem E_is_state_is_index : E_is_state "is_index" = (m_is_index) := enN_hd
def E_check_state : Str → Fn := enN [("is_state", (m_is_state))]
def m_check_state : Fn := runD E_check_state d_check_state
theorem E_check_state_is_state : E_check_state "is_state" = (m_is_state) := enN_hd
def E_is_sequence_within : Str → Fn := enN [("is_index_tuple", (m_is_index_tuple))]
def m_is_sequence_within : Fn := runD E_is_sequence_within d_is_sequence_within
theorem E_is_sequence_within_is_index_tuple : E_is_sequence_within "is_index_tuple" = (m_is_index_tuple) := enN_hd
def E_is_sequence : Str → Fn := enN [("is_sequence_within", (m_is_sequence_within))]
def m_is_sequence : Fn := runD E_is_sequence d_is_sequence
theorem E_is_sequence_is_sequence_within : E_is_sequence "is_sequence_within" = (m_is_sequence_within) := enN_hd
def E_check_sequence : Str → Fn := enN [("is_sequence", (m_is_sequence))]
def m_check_sequence : Fn := runD E_check_sequence d_check_sequence
theorem E_check_sequence_is_sequence : E_check_sequence "is_sequence" = (m_is_sequence) := enN_hd
def E_after : Str → Fn := enN []
def m_after : Fn := runD E_after d_after
def E_follow : Str → Fn := enN [("after", (m_after))]
def m_follow : Fn := runD E_follow d_follow
theorem E_follow_after : E_follow "after" = (m_after) := enN_hd
def E_led_to : Str → Fn := enN [("check_system", (m_check_system)), ("check_state", (m_check_state)), ("check_sequence", (m_check_sequence)), ("follow", (m_follow))]
def m_led_to : Fn := runD E_led_to d_led_to
theorem E_led_to_check_system : E_led_to "check_system" = (m_check_system) := enN_hd
theorem E_led_to_check_state : E_led_to "check_state" = (m_check_state) := (enN_tl (by decide +kernel) enN_hd)
theorem E_led_to_check_sequence : E_led_to "check_sequence" = (m_check_sequence) := (enN_tl (by decide +kernel) (enN_tl (by decide +kernel) enN_hd))
theorem E_led_to_follow : E_led_to "follow" = (m_follow) := (enN_tl (by decide +kernel) (enN_tl (by decide +kernel) (enN_tl (by decide +kernel) enN_hd)))
def E_run : Str → Fn := enN [("check_system", (m_check_system)), ("check_state", (m_check_state)), ("check_sequence", (m_check_sequence)), ("after", (m_after))]
def m_run : Fn := runD E_run d_run
theorem E_run_check_system : E_run "check_system" = (m_check_system) := enN_hd
theorem E_run_check_state : E_run "check_state" = (m_check_state) := (enN_tl (by decide +kernel) enN_hd)
theorem E_run_check_sequence : E_run "check_sequence" = (m_check_sequence) := (enN_tl (by decide +kernel) (enN_tl (by decide +kernel) enN_hd))
theorem E_run_after : E_run "after" = (m_after) := (enN_tl (by decide +kernel) (enN_tl (by decide +kernel) (enN_tl (by decide +kernel) enN_hd)))
def E_all_after : Str → Fn := enN []
def m_all_after : Fn := runD E_all_after d_all_after
def E_tuples_from : Str → Fn := enN [("all_after", (m_all_after))]
def m_tuples_from : Fn := runD E_tuples_from d_tuples_from
theorem E_tuples_from_all_after : E_tuples_from "all_after" = (m_all_after) := enN_hd
def E_sequences_from : Str → Fn := enN [("tuples_from", (m_tuples_from))]
def m_sequences_from : Fn := runD E_sequences_from d_sequences_from
theorem E_sequences_from_tuples_from : E_sequences_from "tuples_from" = (m_tuples_from) := enN_hd
def E_reached_from : Str → Fn := enN [("sequences_from", (m_sequences_from))]
def m_reached_from : Fn := runD E_reached_from d_reached_from
theorem E_reached_from_sequences_from : E_reached_from "sequences_from" = (m_sequences_from) := enN_hd
def E_reachable : Str → Fn := enN [("check_system", (m_check_system)), ("reached_from", (m_reached_from))]
def m_reachable : Fn := runD E_reachable d_reachable
theorem E_reachable_check_system : E_reachable "check_system" = (m_check_system) := enN_hd
theorem E_reachable_reached_from : E_reachable "reached_from" = (m_reached_from) := (enN_tl (by decide +kernel) enN_hd)
def E_first_sequence : Str → Fn := enN [("check_system", (m_check_system)), ("check_state", (m_check_state)), ("sequences_from", (m_sequences_from))]
def m_first_sequence : Fn := runD E_first_sequence d_first_sequence
theorem E_first_sequence_check_system : E_first_sequence "check_system" = (m_check_system) := enN_hd
theorem E_first_sequence_check_state : E_first_sequence "check_state" = (m_check_state) := (enN_tl (by decide +kernel) enN_hd)
theorem E_first_sequence_sequences_from : E_first_sequence "sequences_from" = (m_sequences_from) := (enN_tl (by decide +kernel) (enN_tl (by decide +kernel) enN_hd))
def E_reach_evidence : Str → Fn := enN [("first_sequence", (m_first_sequence)), ("reached_from", (m_reached_from))]
def m_reach_evidence : Fn := runD E_reach_evidence d_reach_evidence
theorem E_reach_evidence_first_sequence : E_reach_evidence "first_sequence" = (m_first_sequence) := enN_hd
theorem E_reach_evidence_reached_from : E_reach_evidence "reached_from" = (m_reached_from) := (enN_tl (by decide +kernel) enN_hd)
def E_has_word : Str → Fn := enN [("is_tuple_of", (m_is_tuple_of))]
def m_has_word : Fn := runD E_has_word d_has_word
theorem E_has_word_is_tuple_of : E_has_word "is_tuple_of" = (m_is_tuple_of) := enN_hd
def E_shows_reach : Str → Fn := enN [("is_sequence_within", (m_is_sequence_within)), ("follow", (m_follow))]
def m_shows_reach : Fn := runD E_shows_reach d_shows_reach
theorem E_shows_reach_is_sequence_within : E_shows_reach "is_sequence_within" = (m_is_sequence_within) := enN_hd
theorem E_shows_reach_follow : E_shows_reach "follow" = (m_follow) := (enN_tl (by decide +kernel) enN_hd)
def E_is_ascending : Str → Fn := enN []
def m_is_ascending : Fn := runD E_is_ascending d_is_ascending
def E_is_closed : Str → Fn := enN []
def m_is_closed : Fn := runD E_is_closed d_is_closed
def E_shows_no_reach : Str → Fn := enN [("is_index_tuple", (m_is_index_tuple)), ("is_ascending", (m_is_ascending)), ("is_closed", (m_is_closed))]
def m_shows_no_reach : Fn := runD E_shows_no_reach d_shows_no_reach
theorem E_shows_no_reach_is_index_tuple : E_shows_no_reach "is_index_tuple" = (m_is_index_tuple) := enN_hd
theorem E_shows_no_reach_is_ascending : E_shows_no_reach "is_ascending" = (m_is_ascending) := (enN_tl (by decide +kernel) enN_hd)
theorem E_shows_no_reach_is_closed : E_shows_no_reach "is_closed" = (m_is_closed) := (enN_tl (by decide +kernel) (enN_tl (by decide +kernel) enN_hd))
def E_accepts_reach : Str → Fn := enN [("check_system", (m_check_system)), ("check_state", (m_check_state)), ("has_word", (m_has_word)), ("shows_reach", (m_shows_reach)), ("shows_no_reach", (m_shows_no_reach))]
def m_accepts_reach : Fn := runD E_accepts_reach d_accepts_reach
theorem E_accepts_reach_check_system : E_accepts_reach "check_system" = (m_check_system) := enN_hd
theorem E_accepts_reach_check_state : E_accepts_reach "check_state" = (m_check_state) := (enN_tl (by decide +kernel) enN_hd)
theorem E_accepts_reach_has_word : E_accepts_reach "has_word" = (m_has_word) := (enN_tl (by decide +kernel) (enN_tl (by decide +kernel) enN_hd))
theorem E_accepts_reach_shows_reach : E_accepts_reach "shows_reach" = (m_shows_reach) := (enN_tl (by decide +kernel) (enN_tl (by decide +kernel) (enN_tl (by decide +kernel) enN_hd)))
theorem E_accepts_reach_shows_no_reach : E_accepts_reach "shows_no_reach" = (m_shows_no_reach) := (enN_tl (by decide +kernel) (enN_tl (by decide +kernel) (enN_tl (by decide +kernel) (enN_tl (by decide +kernel) enN_hd))))
def E_law_first : Str → Fn := enN [("led_to", (m_led_to)), ("run", (m_run)), ("reachable", (m_reachable)), ("first_sequence", (m_first_sequence)), ("reach_evidence", (m_reach_evidence)), ("accepts_reach", (m_accepts_reach))]
def m_law_first : Fn := runD E_law_first d_law_first
theorem E_law_first_led_to : E_law_first "led_to" = (m_led_to) := enN_hd
theorem E_law_first_run : E_law_first "run" = (m_run) := (enN_tl (by decide +kernel) enN_hd)
theorem E_law_first_reachable : E_law_first "reachable" = (m_reachable) := (enN_tl (by decide +kernel) (enN_tl (by decide +kernel) enN_hd))
theorem E_law_first_first_sequence : E_law_first "first_sequence" = (m_first_sequence) := (enN_tl (by decide +kernel) (enN_tl (by decide +kernel) (enN_tl (by decide +kernel) enN_hd)))
theorem E_law_first_reach_evidence : E_law_first "reach_evidence" = (m_reach_evidence) := (enN_tl (by decide +kernel) (enN_tl (by decide +kernel) (enN_tl (by decide +kernel) (enN_tl (by decide +kernel) enN_hd))))
theorem E_law_first_accepts_reach : E_law_first "accepts_reach" = (m_accepts_reach) := (enN_tl (by decide +kernel) (enN_tl (by decide +kernel) (enN_tl (by decide +kernel) (enN_tl (by decide +kernel) (enN_tl (by decide +kernel) enN_hd)))))
def E_agree : Str → Fn := enN [("check_system", (m_check_system)), ("check_sequence", (m_check_sequence)), ("check_state", (m_check_state)), ("follow", (m_follow))]
def m_agree : Fn := runD E_agree d_agree
theorem E_agree_check_system : E_agree "check_system" = (m_check_system) := enN_hd
theorem E_agree_check_sequence : E_agree "check_sequence" = (m_check_sequence) := (enN_tl (by decide +kernel) enN_hd)
theorem E_agree_check_state : E_agree "check_state" = (m_check_state) := (enN_tl (by decide +kernel) (enN_tl (by decide +kernel) enN_hd))
theorem E_agree_follow : E_agree "follow" = (m_follow) := (enN_tl (by decide +kernel) (enN_tl (by decide +kernel) (enN_tl (by decide +kernel) enN_hd)))
def E_least_difference : Str → Fn := enN [("reached_from", (m_reached_from)), ("follow", (m_follow))]
def m_least_difference : Fn := runD E_least_difference d_least_difference
theorem E_least_difference_reached_from : E_least_difference "reached_from" = (m_reached_from) := enN_hd
theorem E_least_difference_follow : E_least_difference "follow" = (m_follow) := (enN_tl (by decide +kernel) enN_hd)
def E_difference : Str → Fn := enN [("check_system", (m_check_system)), ("check_sequence", (m_check_sequence)), ("least_difference", (m_least_difference))]
def m_difference : Fn := runD E_difference d_difference
theorem E_difference_check_system : E_difference "check_system" = (m_check_system) := enN_hd
theorem E_difference_check_sequence : E_difference "check_sequence" = (m_check_sequence) := (enN_tl (by decide +kernel) enN_hd)
theorem E_difference_least_difference : E_difference "least_difference" = (m_least_difference) := (enN_tl (by decide +kernel) (enN_tl (by decide +kernel) enN_hd))
def E_first_merged : Str → Fn := enN [("reached_from", (m_reached_from)), ("after", (m_after))]
def m_first_merged : Fn := runD E_first_merged d_first_merged
theorem E_first_merged_reached_from : E_first_merged "reached_from" = (m_reached_from) := enN_hd
theorem E_first_merged_after : E_first_merged "after" = (m_after) := (enN_tl (by decide +kernel) enN_hd)
def E_one_to_one : Str → Fn := enN [("check_system", (m_check_system)), ("first_merged", (m_first_merged))]
def m_one_to_one : Fn := runD E_one_to_one d_one_to_one
theorem E_one_to_one_check_system : E_one_to_one "check_system" = (m_check_system) := enN_hd
theorem E_one_to_one_first_merged : E_one_to_one "first_merged" = (m_first_merged) := (enN_tl (by decide +kernel) enN_hd)
def E_is_command : Str → Fn := enN [("is_index", (m_is_index))]
def m_is_command : Fn := runD E_is_command d_is_command
theorem E_is_command_is_index : E_is_command "is_index" = (m_is_index) := enN_hd
def E_check_command : Str → Fn := enN [("is_command", (m_is_command))]
def m_check_command : Fn := runD E_check_command d_check_command
theorem E_check_command_is_command : E_check_command "is_command" = (m_is_command) := enN_hd
def E_merged : Str → Fn := enN [("check_system", (m_check_system)), ("check_command", (m_check_command)), ("first_merged", (m_first_merged))]
def m_merged : Fn := runD E_merged d_merged
theorem E_merged_check_system : E_merged "check_system" = (m_check_system) := enN_hd
theorem E_merged_check_command : E_merged "check_command" = (m_check_command) := (enN_tl (by decide +kernel) enN_hd)
theorem E_merged_first_merged : E_merged "first_merged" = (m_first_merged) := (enN_tl (by decide +kernel) (enN_tl (by decide +kernel) enN_hd))
def E_is_reachable : Str → Fn := enN [("is_state", (m_is_state)), ("reached_from", (m_reached_from))]
def m_is_reachable : Fn := runD E_is_reachable d_is_reachable
theorem E_is_reachable_is_state : E_is_reachable "is_state" = (m_is_state) := enN_hd
theorem E_is_reachable_reached_from : E_is_reachable "reached_from" = (m_reached_from) := (enN_tl (by decide +kernel) enN_hd)
def E_accepts_merged : Str → Fn := enN [("check_system", (m_check_system)), ("check_command", (m_check_command)), ("is_tuple_of", (m_is_tuple_of)), ("is_reachable", (m_is_reachable)), ("after", (m_after))]
def m_accepts_merged : Fn := runD E_accepts_merged d_accepts_merged
theorem E_accepts_merged_check_system : E_accepts_merged "check_system" = (m_check_system) := enN_hd
theorem E_accepts_merged_check_command : E_accepts_merged "check_command" = (m_check_command) := (enN_tl (by decide +kernel) enN_hd)
theorem E_accepts_merged_is_tuple_of : E_accepts_merged "is_tuple_of" = (m_is_tuple_of) := (enN_tl (by decide +kernel) (enN_tl (by decide +kernel) enN_hd))
theorem E_accepts_merged_is_reachable : E_accepts_merged "is_reachable" = (m_is_reachable) := (enN_tl (by decide +kernel) (enN_tl (by decide +kernel) (enN_tl (by decide +kernel) enN_hd)))
theorem E_accepts_merged_after : E_accepts_merged "after" = (m_after) := (enN_tl (by decide +kernel) (enN_tl (by decide +kernel) (enN_tl (by decide +kernel) (enN_tl (by decide +kernel) enN_hd))))
def E_inverse : Str → Fn := enN [("merged", (m_merged)), ("reachable", (m_reachable)), ("after", (m_after))]
def m_inverse : Fn := runD E_inverse d_inverse
theorem E_inverse_merged : E_inverse "merged" = (m_merged) := enN_hd
theorem E_inverse_reachable : E_inverse "reachable" = (m_reachable) := (enN_tl (by decide +kernel) enN_hd)
theorem E_inverse_after : E_inverse "after" = (m_after) := (enN_tl (by decide +kernel) (enN_tl (by decide +kernel) enN_hd))
def E_can_be_exchanged : Str → Fn := enN [("follow", (m_follow))]
def m_can_be_exchanged : Fn := runD E_can_be_exchanged d_can_be_exchanged
theorem E_can_be_exchanged_follow : E_can_be_exchanged "follow" = (m_follow) := enN_hd
def E_exchanged : Str → Fn := enN [("check_system", (m_check_system)), ("check_command", (m_check_command)), ("reachable", (m_reachable)), ("can_be_exchanged", (m_can_be_exchanged))]
def m_exchanged : Fn := runD E_exchanged d_exchanged
theorem E_exchanged_check_system : E_exchanged "check_system" = (m_check_system) := enN_hd
theorem E_exchanged_check_command : E_exchanged "check_command" = (m_check_command) := (enN_tl (by decide +kernel) enN_hd)
theorem E_exchanged_reachable : E_exchanged "reachable" = (m_reachable) := (enN_tl (by decide +kernel) (enN_tl (by decide +kernel) enN_hd))
theorem E_exchanged_can_be_exchanged : E_exchanged "can_be_exchanged" = (m_can_be_exchanged) := (enN_tl (by decide +kernel) (enN_tl (by decide +kernel) (enN_tl (by decide +kernel) enN_hd)))
def E_law_second : Str → Fn := enN [("agree", (m_agree)), ("difference", (m_difference)), ("one_to_one", (m_one_to_one)), ("merged", (m_merged)), ("accepts_merged", (m_accepts_merged)), ("inverse", (m_inverse)), ("exchanged", (m_exchanged))]
def m_law_second : Fn := runD E_law_second d_law_second
theorem E_law_second_agree : E_law_second "agree" = (m_agree) := enN_hd
theorem E_law_second_difference : E_law_second "difference" = (m_difference) := (enN_tl (by decide +kernel) enN_hd)
theorem E_law_second_one_to_one : E_law_second "one_to_one" = (m_one_to_one) := (enN_tl (by decide +kernel) (enN_tl (by decide +kernel) enN_hd))
theorem E_law_second_merged : E_law_second "merged" = (m_merged) := (enN_tl (by decide +kernel) (enN_tl (by decide +kernel) (enN_tl (by decide +kernel) enN_hd)))
theorem E_law_second_accepts_merged : E_law_second "accepts_merged" = (m_accepts_merged) := (enN_tl (by decide +kernel) (enN_tl (by decide +kernel) (enN_tl (by decide +kernel) (enN_tl (by decide +kernel) enN_hd))))
theorem E_law_second_inverse : E_law_second "inverse" = (m_inverse) := (enN_tl (by decide +kernel) (enN_tl (by decide +kernel) (enN_tl (by decide +kernel) (enN_tl (by decide +kernel) (enN_tl (by decide +kernel) enN_hd)))))
theorem E_law_second_exchanged : E_law_second "exchanged" = (m_exchanged) := (enN_tl (by decide +kernel) (enN_tl (by decide +kernel) (enN_tl (by decide +kernel) (enN_tl (by decide +kernel) (enN_tl (by decide +kernel) (enN_tl (by decide +kernel) enN_hd))))))
def E_law_told : Str → Fn := enN [("_law_first", (m_law_first)), ("_law_second", (m_law_second))]
def m_law_told : Fn := runD E_law_told d_law_told
theorem E_law_told_law_first : E_law_told "_law_first" = (m_law_first) := enN_hd
theorem E_law_told_law_second : E_law_told "_law_second" = (m_law_second) := (enN_tl (by decide +kernel) enN_hd)
def E_law : Str → Fn := enN [("_law_stream", (m_law_stream)), ("_law_pick", (m_law_pick)), ("_law_told", (m_law_told))]
def m_law : Fn := runD E_law d_law
theorem E_law_law_stream : E_law "_law_stream" = (m_law_stream) := enN_hd
theorem E_law_law_pick : E_law "_law_pick" = (m_law_pick) := (enN_tl (by decide +kernel) enN_hd)
theorem E_law_law_told : E_law "_law_told" = (m_law_told) := (enN_tl (by decide +kernel) (enN_tl (by decide +kernel) enN_hd))
end Ux

namespace Ux
open PySem PySem.Spec PyProof.Rows L2 GxR
/-- nothing leaves a def of which no error is wished -/
theorem cx_none {P : Program} {w : World} {H : Hp} {s : Shared} {e : Value} {s' : Shared} (z : L2.CX P w [] H s (fun _ _ _ => False) e s') : False := by
  obtain ⟨_, _, _, _, _, _, _, _, _, _, _, _, h⟩ := z
  exact h
end Ux

namespace Ux
open PySem PySem.Spec PyProof.Rows L2 GxR

abbrev kS : D := .tup [.int 3, .int 1, .tup [.tup [.int 1, .int 0, .int 2], .tup [.int 0, .int 2, .int 1]]]
abbrev bS : List D := [.non, .lst [.int 3, .int 1, .tup []], .tup [.int 3, .int 1], .tup [.int 0, .int 0, .tup []], .tup [.int 9, .int 0, .tup []], .tup [.int 3, .int 3, .tup []], .tup [.int 3, .bl true, .tup []], .tup [.int 3, .int 1, .tup [.tup [.int 0, .int 0]]], .tup [.int 3, .int 1, .tup [.tup [.int 0, .int 0, .int 3]]], .tup [.int 3, .int 1, .tup [.tup [.int 0, .int 0, .bl true]]], .tup [.int 3, .int 1, .lst [.tup [.int 0, .int 0, .int 0]]], .tup [.int 3, .int 1, .tup [.tup [.int 0, .int 0, .int 0], .tup [.int 0, .int 0, .int 0], .tup [.int 0, .int 0, .int 0], .tup [.int 0, .int 0, .int 0], .tup [.int 0, .int 0, .int 0]]], .tup [.bl true, .int 0, .tup []], .int 3]
abbrev bT : List D := [.int 3, .int (-1), .non, .bl true, .str "0", .tup [.int 0]]
abbrev bQ : List D := [.non, .lst [.int 0], .tup [.int 2], .tup [.int (-1)], .tup [.bl true], .tup [.non], .tup [.int 0, .int 0, .int 0, .int 0, .int 0, .int 0, .int 0, .int 0, .int 0, .int 0, .int 0, .int 0, .int 0, .int 0, .int 0, .int 0, .int 0], .int 0, .str "", .tup [.str "0"], .tup [.int 0, .int 2]]
abbrev bC : List D := [.int 2, .int (-1), .non, .bl true, .str "0"]
abbrev gd : List D := [.tup [], .tup [.int 0, .int 1], .tup [.int 1, .int 1, .int 1, .int 1, .int 1, .int 1, .int 1, .int 1, .int 1, .int 1, .int 1, .int 1, .int 1, .int 1, .int 1, .int 1]]
/-- what is told of one row of the law -/
structure RowOk (wd : Str) (fine : List D) (bad : List (List D)) (names : List Str) : Prop where
  good : ∀ s, m_law_told [.str wd, .lst fine] (some s) = .ok (.str "", false, some s)
  wrong : ∀ (k : Nat) (f : D) (b : List D) (nm : Str), fine[k]? = some f → bad[k]? = some b → names[k]? = some nm → ∀ x ∈ b, ∀ later : List D, k + 1 + later.length = fine.length → ∀ s, m_law_told [.str wd, .lst (fine.take k ++ x :: later)] (some s) = .ok (.str nm, false, some s)

end Ux

namespace Ux
open PySem PySem.Spec PyProof.Rows L2 GxR
def isI : D → Bool | .int _ => true | _ => false
def inIx (n : Int) : D → Bool | .int i => decide (0 ≤ i) && decide (i < n) | _ => false
theorem ok_mem {xs : List D} {x : D} (h : xs.all okD = true) (hx : x ∈ xs) : okD x = true := List.all_eq_true.mp h x hx
theorem isi_tup {d : D} (h : okD d = true) : isiD "tuple" d = some (match d with | .tup _ => true | _ => false) := by
  cases d <;> simp [okD] at h <;> simp [isiD, tyD, isiB]
theorem isi_str {d : D} (h : okD d = true) : isiD "str" d = some (match d with | .str _ => true | _ => false) := by
  cases d <;> simp [okD] at h <;> simp [isiD, tyD, isiB]
def ixTup (n : Int) : D → Bool | .tup xs => xs.all (inIx n) | _ => false
def okT : D → Bool | .tup xs => xs.all okD | _ => true
def sysD (a b : D) (cs : List D) : D := .tup [a, b, .tup cs]
def lenLe (m : Int) : D → Bool | .tup xs => decide ((xs.length : Int) ≤ m) | _ => false
def lenEq (n : Int) : D → Bool | .tup xs => decide ((xs.length : Int) = n) | _ => false
def rowOk (n : Int) (d : D) : Bool := ixTup n d && lenEq n d
def sys3 : D → D → D → Bool
  | .int n, b, .tup cs => decide (1 ≤ n) && decide (n ≤ 8) && inIx n b && decide ((cs.length : Int) ≤ 4) && cs.all (rowOk n)
  | _, _, _ => false
def okC : D → Bool | .tup cs => cs.all okD && cs.all okT | _ => true
theorem e_is_tuple_of (d : D) (n : Int) (w : Wd) (h : okD d = true) : m_is_tuple_of [d, .int n] w = .ok (.bl (lenEq n d), false, w) := by
  cases d <;> simp [okD] at h <;> simp [m_is_tuple_of, runD, d_is_tuple_of, b_is_tuple_of, isiD, tyD, isiB, lenEq, evSs, evS.eq_1, evS.eq_2, evS.eq_3, evS.eq_4, evS.eq_5, evS.eq_6, evS.eq_7, evS.eq_10, evS.eq_11, evS.eq_12, evS.eq_13, evS.eq_14, evE.eq_1, evE.eq_2, evE.eq_3, evE.eq_4, evE.eq_5, evE.eq_6, evE.eq_7, evE.eq_8, evE.eq_9, evE.eq_10, evE.eq_11, evE.eq_12, evE.eq_13, evE.eq_14, evE.eq_15, evE.eq_16, evE.eq_17, evE.eq_18, evE.eq_19, evE.eq_20, evE.eq_21, evE.eq_22, evB, evEs, evC, evCB, evI, evO, R.bd_ok, R.bd_err, R.st_ok, R.of_some, rd_old, rd_frs, rd_vr, mkP_f, mkP_l, fzps_nil, fzps_old, fzps_frs, fzp_old, fzp_frs, rds_nil, rds_old, rds_frs, Option.map_some, cm_lt, cm_le, cm_gt, cm_ge, cm_eq, cm_ne, eq_int, op_add, op_sub, ix_tup, ix_lst, bf_len, len_tup, len_lst, ofV, okV, ite_self, List.map_cons, List.map_nil, List.getElem?_cons_zero, List.getElem?_cons_succ, List.cons_append, List.nil_append, List.length_cons, List.length_nil, ne_eq, not_true, not_false_eq_true, if_true, if_false, Bool.false_eq_true, List.replicate_succ, List.replicate_zero]
theorem e_is_integer (d : D) (w : Wd) (h : okD d = true) : m_is_integer [d] w = .ok (.bl (isI d), false, w) := by
  cases d <;> simp [okD] at h <;> simp [m_is_integer, runD, d_is_integer, b_is_integer, isiD, tyD, isiB, isI, evSs, evS.eq_1, evS.eq_2, evS.eq_3, evS.eq_4, evS.eq_5, evS.eq_6, evS.eq_7, evS.eq_10, evS.eq_11, evS.eq_12, evS.eq_13, evS.eq_14, evE.eq_1, evE.eq_2, evE.eq_3, evE.eq_4, evE.eq_5, evE.eq_6, evE.eq_7, evE.eq_8, evE.eq_9, evE.eq_10, evE.eq_11, evE.eq_12, evE.eq_13, evE.eq_14, evE.eq_15, evE.eq_16, evE.eq_17, evE.eq_18, evE.eq_19, evE.eq_20, evE.eq_21, evE.eq_22, evB, evEs, evC, evCB, evI, evO, R.bd_ok, R.bd_err, R.st_ok, R.of_some, rd_old, rd_frs, rd_vr, mkP_f, mkP_l, fzps_nil, fzps_old, fzps_frs, fzp_old, fzp_frs, rds_nil, rds_old, rds_frs, Option.map_some, cm_lt, cm_le, cm_gt, cm_ge, cm_eq, cm_ne, eq_int, op_add, op_sub, ix_tup, ix_lst, bf_len, len_tup, len_lst, ofV, okV, ite_self, List.map_cons, List.map_nil, List.getElem?_cons_zero, List.getElem?_cons_succ, List.cons_append, List.nil_append, List.length_cons, List.length_nil, ne_eq, not_true, not_false_eq_true, if_true, if_false, Bool.false_eq_true, List.replicate_succ, List.replicate_zero]
theorem e_is_index (d : D) (n : Int) (w : Wd) (h : okD d = true) : m_is_index [d, .int n] w = .ok (.bl (inIx n d), false, w) := by
  have e1 := fun w => e_is_integer d w h
  cases d <;> simp [okD] at h <;> simp only [isI] at e1 <;> simp [m_is_index, runD, d_is_index, b_is_index, E_is_index_is_integer, e1, inIx, evSs, evS.eq_1, evS.eq_2, evS.eq_3, evS.eq_4, evS.eq_5, evS.eq_6, evS.eq_7, evS.eq_10, evS.eq_11, evS.eq_12, evS.eq_13, evS.eq_14, evE.eq_1, evE.eq_2, evE.eq_3, evE.eq_4, evE.eq_5, evE.eq_6, evE.eq_7, evE.eq_8, evE.eq_9, evE.eq_10, evE.eq_11, evE.eq_12, evE.eq_13, evE.eq_14, evE.eq_15, evE.eq_16, evE.eq_17, evE.eq_18, evE.eq_19, evE.eq_20, evE.eq_21, evE.eq_22, evB, evEs, evC, evCB, evI, evO, R.bd_ok, R.bd_err, R.st_ok, R.of_some, rd_old, rd_frs, rd_vr, mkP_f, mkP_l, fzps_nil, fzps_old, fzps_frs, fzp_old, fzp_frs, rds_nil, rds_old, rds_frs, Option.map_some, cm_lt, cm_le, cm_gt, cm_ge, cm_eq, cm_ne, eq_int, op_add, op_sub, ix_tup, ix_lst, bf_len, len_tup, len_lst, ofV, okV, ite_self, List.map_cons, List.map_nil, List.getElem?_cons_zero, List.getElem?_cons_succ, List.cons_append, List.nil_append, List.length_cons, List.length_nil, ne_eq, not_true, not_false_eq_true, if_true, if_false, Bool.false_eq_true, List.replicate_succ, List.replicate_zero]
  rename_i i
  by_cases h0 : 0 ≤ i <;> simp [h0]
theorem e_is_index_tuple (d : D) (n : Int) (w : Wd) (h : okD d = true) (h2 : okT d = true) : m_is_index_tuple [d, .int n] w = .ok (.bl (ixTup n d), false, w) := by
  cases d <;> simp [okD] at h
  case tup xs =>
    have hg : evE E_is_index_tuple (.gen true [2] (.name 2) .val (.cons (.var 0) .nil) .none (.call "is_index" (.cons (.var 2) (.cons (.var 1) .nil)))) { sl := [some (D.tup xs, false), some (D.int n, false), none], w := w } = .ok (.old (.bl (xs.all (inIx n))), { sl := [some (D.tup xs, false), some (D.int n, false), none], w := w }) :=
      ev_gen (ps := [.old (.tup xs)]) (ds := [.tup xs]) (xs := xs) (by simp [evSs, evS.eq_1, evS.eq_2, evS.eq_3, evS.eq_4, evS.eq_5, evS.eq_6, evS.eq_7, evS.eq_10, evS.eq_11, evS.eq_12, evS.eq_13, evS.eq_14, evE.eq_1, evE.eq_2, evE.eq_3, evE.eq_4, evE.eq_5, evE.eq_6, evE.eq_7, evE.eq_8, evE.eq_9, evE.eq_10, evE.eq_11, evE.eq_12, evE.eq_13, evE.eq_14, evE.eq_15, evE.eq_16, evE.eq_17, evE.eq_18, evE.eq_19, evE.eq_20, evE.eq_21, evE.eq_22, evB, evEs, evC, evCB, evI, evO, R.bd_ok, R.bd_err, R.st_ok, R.of_some, rd_old, rd_frs, rd_vr, mkP_f, mkP_l, fzps_nil, fzps_old, fzps_frs, fzp_old, fzp_frs, rds_nil, rds_old, rds_frs, Option.map_some, cm_lt, cm_le, cm_gt, cm_ge, cm_eq, cm_ne, eq_int, op_add, op_sub, ix_tup, ix_lst, bf_len, len_tup, len_lst, ofV, okV, ite_self, List.map_cons, List.map_nil, List.getElem?_cons_zero, List.getElem?_cons_succ, List.cons_append, List.nil_append, List.length_cons, List.length_nil, ne_eq, not_true, not_false_eq_true, if_true, if_false, Bool.false_eq_true, List.replicate_succ, List.replicate_zero]) rfl (by rw [src_val, it_tup]) rfl (fun x hx => by
        simp [E_is_index_tuple_is_index, e_is_index _ _ _ (ok_mem h2 hx), bnd, evSs, evS.eq_1, evS.eq_2, evS.eq_3, evS.eq_4, evS.eq_5, evS.eq_6, evS.eq_7, evS.eq_10, evS.eq_11, evS.eq_12, evS.eq_13, evS.eq_14, evE.eq_1, evE.eq_2, evE.eq_3, evE.eq_4, evE.eq_5, evE.eq_6, evE.eq_7, evE.eq_8, evE.eq_9, evE.eq_10, evE.eq_11, evE.eq_12, evE.eq_13, evE.eq_14, evE.eq_15, evE.eq_16, evE.eq_17, evE.eq_18, evE.eq_19, evE.eq_20, evE.eq_21, evE.eq_22, evB, evEs, evC, evCB, evI, evO, R.bd_ok, R.bd_err, R.st_ok, R.of_some, rd_old, rd_frs, rd_vr, mkP_f, mkP_l, fzps_nil, fzps_old, fzps_frs, fzp_old, fzp_frs, rds_nil, rds_old, rds_frs, Option.map_some, cm_lt, cm_le, cm_gt, cm_ge, cm_eq, cm_ne, eq_int, op_add, op_sub, ix_tup, ix_lst, bf_len, len_tup, len_lst, ofV, okV, ite_self, List.map_cons, List.map_nil, List.getElem?_cons_zero, List.getElem?_cons_succ, List.cons_append, List.nil_append, List.length_cons, List.length_nil, ne_eq, not_true, not_false_eq_true, if_true, if_false, Bool.false_eq_true, List.replicate_succ, List.replicate_zero])
    simp [m_is_index_tuple, runD, d_is_index_tuple, b_is_index_tuple, isiD, tyD, isiB, ixTup, hg, evSs, evS.eq_1, evS.eq_2, evS.eq_3, evS.eq_4, evS.eq_5, evS.eq_6, evS.eq_7, evS.eq_10, evS.eq_11, evS.eq_12, evS.eq_13, evS.eq_14, evE.eq_1, evE.eq_2, evE.eq_3, evE.eq_4, evE.eq_5, evE.eq_6, evE.eq_7, evE.eq_8, evE.eq_9, evE.eq_10, evE.eq_11, evE.eq_12, evE.eq_13, evE.eq_14, evE.eq_15, evE.eq_16, evE.eq_17, evE.eq_18, evE.eq_19, evE.eq_20, evE.eq_21, evE.eq_22, evB, evEs, evC, evCB, evI, evO, R.bd_ok, R.bd_err, R.st_ok, R.of_some, rd_old, rd_frs, rd_vr, mkP_f, mkP_l, fzps_nil, fzps_old, fzps_frs, fzp_old, fzp_frs, rds_nil, rds_old, rds_frs, Option.map_some, cm_lt, cm_le, cm_gt, cm_ge, cm_eq, cm_ne, eq_int, op_add, op_sub, ix_tup, ix_lst, bf_len, len_tup, len_lst, ofV, okV, ite_self, List.map_cons, List.map_nil, List.getElem?_cons_zero, List.getElem?_cons_succ, List.cons_append, List.nil_append, List.length_cons, List.length_nil, ne_eq, not_true, not_false_eq_true, if_true, if_false, Bool.false_eq_true, List.replicate_succ, List.replicate_zero]
  all_goals simp [m_is_index_tuple, runD, d_is_index_tuple, b_is_index_tuple, isiD, tyD, isiB, ixTup, evSs, evS.eq_1, evS.eq_2, evS.eq_3, evS.eq_4, evS.eq_5, evS.eq_6, evS.eq_7, evS.eq_10, evS.eq_11, evS.eq_12, evS.eq_13, evS.eq_14, evE.eq_1, evE.eq_2, evE.eq_3, evE.eq_4, evE.eq_5, evE.eq_6, evE.eq_7, evE.eq_8, evE.eq_9, evE.eq_10, evE.eq_11, evE.eq_12, evE.eq_13, evE.eq_14, evE.eq_15, evE.eq_16, evE.eq_17, evE.eq_18, evE.eq_19, evE.eq_20, evE.eq_21, evE.eq_22, evB, evEs, evC, evCB, evI, evO, R.bd_ok, R.bd_err, R.st_ok, R.of_some, rd_old, rd_frs, rd_vr, mkP_f, mkP_l, fzps_nil, fzps_old, fzps_frs, fzp_old, fzp_frs, rds_nil, rds_old, rds_frs, Option.map_some, cm_lt, cm_le, cm_gt, cm_ge, cm_eq, cm_ne, eq_int, op_add, op_sub, ix_tup, ix_lst, bf_len, len_tup, len_lst, ofV, okV, ite_self, List.map_cons, List.map_nil, List.getElem?_cons_zero, List.getElem?_cons_succ, List.cons_append, List.nil_append, List.length_cons, List.length_nil, ne_eq, not_true, not_false_eq_true, if_true, if_false, Bool.false_eq_true, List.replicate_succ, List.replicate_zero]
theorem e_is_command_row (v : D) (n : Int) (w : Wd) (h : okD v = true) (h2 : okT v = true) : m_is_command_row [v, .int n] w = .ok (.bl (rowOk n v), false, w) := by
  have e := fun w => e_is_index_tuple v n w h h2
  cases hv : ixTup n v with
  | false => simp [m_is_command_row, runD, d_is_command_row, b_is_command_row, E_is_command_row_is_index_tuple, e, hv, rowOk, evSs, evS.eq_1, evS.eq_2, evS.eq_3, evS.eq_4, evS.eq_5, evS.eq_6, evS.eq_7, evS.eq_10, evS.eq_11, evS.eq_12, evS.eq_13, evS.eq_14, evE.eq_1, evE.eq_2, evE.eq_3, evE.eq_4, evE.eq_5, evE.eq_6, evE.eq_7, evE.eq_8, evE.eq_9, evE.eq_10, evE.eq_11, evE.eq_12, evE.eq_13, evE.eq_14, evE.eq_15, evE.eq_16, evE.eq_17, evE.eq_18, evE.eq_19, evE.eq_20, evE.eq_21, evE.eq_22, evB, evEs, evC, evCB, evI, evO, R.bd_ok, R.bd_err, R.st_ok, R.of_some, rd_old, rd_frs, rd_vr, mkP_f, mkP_l, fzps_nil, fzps_old, fzps_frs, fzp_old, fzp_frs, rds_nil, rds_old, rds_frs, Option.map_some, cm_lt, cm_le, cm_gt, cm_ge, cm_eq, cm_ne, eq_int, op_add, op_sub, ix_tup, ix_lst, bf_len, len_tup, len_lst, ofV, okV, ite_self, List.map_cons, List.map_nil, List.getElem?_cons_zero, List.getElem?_cons_succ, List.cons_append, List.nil_append, List.length_cons, List.length_nil, ne_eq, not_true, not_false_eq_true, if_true, if_false, Bool.false_eq_true, List.replicate_succ, List.replicate_zero]
  | true =>
    cases v <;> simp [ixTup] at hv
    rename_i xs
    have hv : ixTup n (.tup xs) = true := by simpa [ixTup] using hv
    simp [m_is_command_row, runD, d_is_command_row, b_is_command_row, E_is_command_row_is_index_tuple, e, hv, rowOk, lenEq, evSs, evS.eq_1, evS.eq_2, evS.eq_3, evS.eq_4, evS.eq_5, evS.eq_6, evS.eq_7, evS.eq_10, evS.eq_11, evS.eq_12, evS.eq_13, evS.eq_14, evE.eq_1, evE.eq_2, evE.eq_3, evE.eq_4, evE.eq_5, evE.eq_6, evE.eq_7, evE.eq_8, evE.eq_9, evE.eq_10, evE.eq_11, evE.eq_12, evE.eq_13, evE.eq_14, evE.eq_15, evE.eq_16, evE.eq_17, evE.eq_18, evE.eq_19, evE.eq_20, evE.eq_21, evE.eq_22, evB, evEs, evC, evCB, evI, evO, R.bd_ok, R.bd_err, R.st_ok, R.of_some, rd_old, rd_frs, rd_vr, mkP_f, mkP_l, fzps_nil, fzps_old, fzps_frs, fzp_old, fzp_frs, rds_nil, rds_old, rds_frs, Option.map_some, cm_lt, cm_le, cm_gt, cm_ge, cm_eq, cm_ne, eq_int, op_add, op_sub, ix_tup, ix_lst, bf_len, len_tup, len_lst, ofV, okV, ite_self, List.map_cons, List.map_nil, List.getElem?_cons_zero, List.getElem?_cons_succ, List.cons_append, List.nil_append, List.length_cons, List.length_nil, ne_eq, not_true, not_false_eq_true, if_true, if_false, Bool.false_eq_true, List.replicate_succ, List.replicate_zero]
theorem e_is_system_3 (a b c : D) (w : Wd) (ha : okD a = true) (hb : okD b = true) (hc : okD c = true) (hc2 : okC c = true) : m_is_system [.tup [a, b, c]] w = .ok (.bl (sys3 a b c), false, w) := by
  have ea := fun w => e_is_integer a w ha
  have et : ∀ w, m_is_tuple_of [.tup [a, b, c], .int 3] w = .ok (.bl true, false, w) := fun w => e_is_tuple_of _ 3 w rfl
  by_cases hi : isI a = true
  · cases a <;> simp [isI] at hi
    rename_i n
    have hi : isI (.int n) = true := rfl
    have eb := fun w => e_is_index b n w hb
    by_cases h1 : 1 ≤ n
    · by_cases h2 : n ≤ 8
      · cases hx : inIx n b with
        | false => simp [m_is_system, runD, d_is_system, b_is_system, E_is_system_is_tuple_of, et, E_is_system_is_integer, E_is_system_is_index, ea, hi, eb, hx, h1, h2, sys3, isiD, tyD, isiB, truD, asg_nm, asg_tp, asgs_nil, asgs_cons, evSs, evS.eq_1, evS.eq_2, evS.eq_3, evS.eq_4, evS.eq_5, evS.eq_6, evS.eq_7, evS.eq_10, evS.eq_11, evS.eq_12, evS.eq_13, evS.eq_14, evE.eq_1, evE.eq_2, evE.eq_3, evE.eq_4, evE.eq_5, evE.eq_6, evE.eq_7, evE.eq_8, evE.eq_9, evE.eq_10, evE.eq_11, evE.eq_12, evE.eq_13, evE.eq_14, evE.eq_15, evE.eq_16, evE.eq_17, evE.eq_18, evE.eq_19, evE.eq_20, evE.eq_21, evE.eq_22, evB, evEs, evC, evCB, evI, evO, R.bd_ok, R.bd_err, R.st_ok, R.of_some, rd_old, rd_frs, rd_vr, mkP_f, mkP_l, fzps_nil, fzps_old, fzps_frs, fzp_old, fzp_frs, rds_nil, rds_old, rds_frs, Option.map_some, cm_lt, cm_le, cm_gt, cm_ge, cm_eq, cm_ne, eq_int, op_add, op_sub, ix_tup, ix_lst, bf_len, len_tup, len_lst, ofV, okV, ite_self, List.map_cons, List.map_nil, List.getElem?_cons_zero, List.getElem?_cons_succ, List.cons_append, List.nil_append, List.length_cons, List.length_nil, ne_eq, not_true, not_false_eq_true, if_true, if_false, Bool.false_eq_true, List.replicate_succ, List.replicate_zero]; cases c <;> simp [sys3, hx]
        | true =>
          by_cases ht : ∃ cs, c = .tup cs
          · obtain ⟨cs, rfl⟩ := ht
            have hc2 := and2 hc2
            have hg : evE E_is_system (.gen true [4] (.name 4) .val (.cons (.var 3) .nil) .none (.call "is_command_row" (.cons (.var 4) (.cons (.var 1) .nil)))) { sl := [some (.tup [.int n, b, .tup cs], false), some (.int n, false), some (b, false), some (.tup cs, false), none], w := w } = .ok (.old (.bl (cs.all (rowOk n))), { sl := [some (.tup [.int n, b, .tup cs], false), some (.int n, false), some (b, false), some (.tup cs, false), none], w := w }) :=
              ev_gen (ps := [.old (.tup cs)]) (ds := [.tup cs]) (xs := cs) (by simp [evSs, evS.eq_1, evS.eq_2, evS.eq_3, evS.eq_4, evS.eq_5, evS.eq_6, evS.eq_7, evS.eq_10, evS.eq_11, evS.eq_12, evS.eq_13, evS.eq_14, evE.eq_1, evE.eq_2, evE.eq_3, evE.eq_4, evE.eq_5, evE.eq_6, evE.eq_7, evE.eq_8, evE.eq_9, evE.eq_10, evE.eq_11, evE.eq_12, evE.eq_13, evE.eq_14, evE.eq_15, evE.eq_16, evE.eq_17, evE.eq_18, evE.eq_19, evE.eq_20, evE.eq_21, evE.eq_22, evB, evEs, evC, evCB, evI, evO, R.bd_ok, R.bd_err, R.st_ok, R.of_some, rd_old, rd_frs, rd_vr, mkP_f, mkP_l, fzps_nil, fzps_old, fzps_frs, fzp_old, fzp_frs, rds_nil, rds_old, rds_frs, Option.map_some, cm_lt, cm_le, cm_gt, cm_ge, cm_eq, cm_ne, eq_int, op_add, op_sub, ix_tup, ix_lst, bf_len, len_tup, len_lst, ofV, okV, ite_self, List.map_cons, List.map_nil, List.getElem?_cons_zero, List.getElem?_cons_succ, List.cons_append, List.nil_append, List.length_cons, List.length_nil, ne_eq, not_true, not_false_eq_true, if_true, if_false, Bool.false_eq_true, List.replicate_succ, List.replicate_zero]) rfl (by rw [src_val, it_tup]) rfl (fun x hx => by
                simp [E_is_system_is_command_row, e_is_command_row _ _ _ (ok_mem hc2.1 hx) (List.all_eq_true.mp hc2.2 x hx), bnd, evSs, evS.eq_1, evS.eq_2, evS.eq_3, evS.eq_4, evS.eq_5, evS.eq_6, evS.eq_7, evS.eq_10, evS.eq_11, evS.eq_12, evS.eq_13, evS.eq_14, evE.eq_1, evE.eq_2, evE.eq_3, evE.eq_4, evE.eq_5, evE.eq_6, evE.eq_7, evE.eq_8, evE.eq_9, evE.eq_10, evE.eq_11, evE.eq_12, evE.eq_13, evE.eq_14, evE.eq_15, evE.eq_16, evE.eq_17, evE.eq_18, evE.eq_19, evE.eq_20, evE.eq_21, evE.eq_22, evB, evEs, evC, evCB, evI, evO, R.bd_ok, R.bd_err, R.st_ok, R.of_some, rd_old, rd_frs, rd_vr, mkP_f, mkP_l, fzps_nil, fzps_old, fzps_frs, fzp_old, fzp_frs, rds_nil, rds_old, rds_frs, Option.map_some, cm_lt, cm_le, cm_gt, cm_ge, cm_eq, cm_ne, eq_int, op_add, op_sub, ix_tup, ix_lst, bf_len, len_tup, len_lst, ofV, okV, ite_self, List.map_cons, List.map_nil, List.getElem?_cons_zero, List.getElem?_cons_succ, List.cons_append, List.nil_append, List.length_cons, List.length_nil, ne_eq, not_true, not_false_eq_true, if_true, if_false, Bool.false_eq_true, List.replicate_succ, List.replicate_zero])
            by_cases hl : (cs.length : Int) ≤ 4
            · have hl' : ¬ (4 : Int) < cs.length := by omega
              simp [m_is_system, runD, d_is_system, b_is_system, E_is_system_is_tuple_of, et, E_is_system_is_integer, E_is_system_is_index, ea, hi, eb, hx, h1, h2, sys3, isiD, tyD, isiB, truD, asg_nm, asg_tp, asgs_nil, asgs_cons, hl, hl', hg, evSs, evS.eq_1, evS.eq_2, evS.eq_3, evS.eq_4, evS.eq_5, evS.eq_6, evS.eq_7, evS.eq_10, evS.eq_11, evS.eq_12, evS.eq_13, evS.eq_14, evE.eq_1, evE.eq_2, evE.eq_3, evE.eq_4, evE.eq_5, evE.eq_6, evE.eq_7, evE.eq_8, evE.eq_9, evE.eq_10, evE.eq_11, evE.eq_12, evE.eq_13, evE.eq_14, evE.eq_15, evE.eq_16, evE.eq_17, evE.eq_18, evE.eq_19, evE.eq_20, evE.eq_21, evE.eq_22, evB, evEs, evC, evCB, evI, evO, R.bd_ok, R.bd_err, R.st_ok, R.of_some, rd_old, rd_frs, rd_vr, mkP_f, mkP_l, fzps_nil, fzps_old, fzps_frs, fzp_old, fzp_frs, rds_nil, rds_old, rds_frs, Option.map_some, cm_lt, cm_le, cm_gt, cm_ge, cm_eq, cm_ne, eq_int, op_add, op_sub, ix_tup, ix_lst, bf_len, len_tup, len_lst, ofV, okV, ite_self, List.map_cons, List.map_nil, List.getElem?_cons_zero, List.getElem?_cons_succ, List.cons_append, List.nil_append, List.length_cons, List.length_nil, ne_eq, not_true, not_false_eq_true, if_true, if_false, Bool.false_eq_true, List.replicate_succ, List.replicate_zero]
            · have hl' : (4 : Int) < cs.length := by omega
              simp [m_is_system, runD, d_is_system, b_is_system, E_is_system_is_tuple_of, et, E_is_system_is_integer, E_is_system_is_index, ea, hi, eb, hx, h1, h2, sys3, isiD, tyD, isiB, truD, asg_nm, asg_tp, asgs_nil, asgs_cons, hl, hl', evSs, evS.eq_1, evS.eq_2, evS.eq_3, evS.eq_4, evS.eq_5, evS.eq_6, evS.eq_7, evS.eq_10, evS.eq_11, evS.eq_12, evS.eq_13, evS.eq_14, evE.eq_1, evE.eq_2, evE.eq_3, evE.eq_4, evE.eq_5, evE.eq_6, evE.eq_7, evE.eq_8, evE.eq_9, evE.eq_10, evE.eq_11, evE.eq_12, evE.eq_13, evE.eq_14, evE.eq_15, evE.eq_16, evE.eq_17, evE.eq_18, evE.eq_19, evE.eq_20, evE.eq_21, evE.eq_22, evB, evEs, evC, evCB, evI, evO, R.bd_ok, R.bd_err, R.st_ok, R.of_some, rd_old, rd_frs, rd_vr, mkP_f, mkP_l, fzps_nil, fzps_old, fzps_frs, fzp_old, fzp_frs, rds_nil, rds_old, rds_frs, Option.map_some, cm_lt, cm_le, cm_gt, cm_ge, cm_eq, cm_ne, eq_int, op_add, op_sub, ix_tup, ix_lst, bf_len, len_tup, len_lst, ofV, okV, ite_self, List.map_cons, List.map_nil, List.getElem?_cons_zero, List.getElem?_cons_succ, List.cons_append, List.nil_append, List.length_cons, List.length_nil, ne_eq, not_true, not_false_eq_true, if_true, if_false, Bool.false_eq_true, List.replicate_succ, List.replicate_zero]
          · have hs : sys3 (.int n) b c = false := by cases c <;> first | rfl | exact absurd ⟨_, rfl⟩ ht
            have hc3 : isiD "tuple" c = some false := by
              rw [isi_tup hc]
              cases c <;> first | rfl | exact absurd ⟨_, rfl⟩ ht
            rw [hs]
            have h0 : ∀ xs, isiD "tuple" (.tup xs) = some true := fun xs => rfl
            simp [m_is_system, runD, d_is_system, b_is_system, E_is_system_is_tuple_of, et, E_is_system_is_integer, E_is_system_is_index, ea, hi, eb, hx, h1, h2, h0, hc3, truD, asg_nm, asg_tp, asgs_nil, asgs_cons, evSs, evS.eq_1, evS.eq_2, evS.eq_3, evS.eq_4, evS.eq_5, evS.eq_6, evS.eq_7, evS.eq_10, evS.eq_11, evS.eq_12, evS.eq_13, evS.eq_14, evE.eq_1, evE.eq_2, evE.eq_3, evE.eq_4, evE.eq_5, evE.eq_6, evE.eq_7, evE.eq_8, evE.eq_9, evE.eq_10, evE.eq_11, evE.eq_12, evE.eq_13, evE.eq_14, evE.eq_15, evE.eq_16, evE.eq_17, evE.eq_18, evE.eq_19, evE.eq_20, evE.eq_21, evE.eq_22, evB, evEs, evC, evCB, evI, evO, R.bd_ok, R.bd_err, R.st_ok, R.of_some, rd_old, rd_frs, rd_vr, mkP_f, mkP_l, fzps_nil, fzps_old, fzps_frs, fzp_old, fzp_frs, rds_nil, rds_old, rds_frs, Option.map_some, cm_lt, cm_le, cm_gt, cm_ge, cm_eq, cm_ne, eq_int, op_add, op_sub, ix_tup, ix_lst, bf_len, len_tup, len_lst, ofV, okV, ite_self, List.map_cons, List.map_nil, List.getElem?_cons_zero, List.getElem?_cons_succ, List.cons_append, List.nil_append, List.length_cons, List.length_nil, ne_eq, not_true, not_false_eq_true, if_true, if_false, Bool.false_eq_true, List.replicate_succ, List.replicate_zero]
      · have hs : sys3 (.int n) b c = false := by cases c <;> simp [sys3, h2]
        rw [hs]
        simp [m_is_system, runD, d_is_system, b_is_system, E_is_system_is_tuple_of, et, E_is_system_is_integer, ea, hi, h1, h2, isiD, tyD, isiB, truD, asg_nm, asg_tp, asgs_nil, asgs_cons, evSs, evS.eq_1, evS.eq_2, evS.eq_3, evS.eq_4, evS.eq_5, evS.eq_6, evS.eq_7, evS.eq_10, evS.eq_11, evS.eq_12, evS.eq_13, evS.eq_14, evE.eq_1, evE.eq_2, evE.eq_3, evE.eq_4, evE.eq_5, evE.eq_6, evE.eq_7, evE.eq_8, evE.eq_9, evE.eq_10, evE.eq_11, evE.eq_12, evE.eq_13, evE.eq_14, evE.eq_15, evE.eq_16, evE.eq_17, evE.eq_18, evE.eq_19, evE.eq_20, evE.eq_21, evE.eq_22, evB, evEs, evC, evCB, evI, evO, R.bd_ok, R.bd_err, R.st_ok, R.of_some, rd_old, rd_frs, rd_vr, mkP_f, mkP_l, fzps_nil, fzps_old, fzps_frs, fzp_old, fzp_frs, rds_nil, rds_old, rds_frs, Option.map_some, cm_lt, cm_le, cm_gt, cm_ge, cm_eq, cm_ne, eq_int, op_add, op_sub, ix_tup, ix_lst, bf_len, len_tup, len_lst, ofV, okV, ite_self, List.map_cons, List.map_nil, List.getElem?_cons_zero, List.getElem?_cons_succ, List.cons_append, List.nil_append, List.length_cons, List.length_nil, ne_eq, not_true, not_false_eq_true, if_true, if_false, Bool.false_eq_true, List.replicate_succ, List.replicate_zero]
    · have hs : sys3 (.int n) b c = false := by cases c <;> simp [sys3, h1]
      rw [hs]
      simp [m_is_system, runD, d_is_system, b_is_system, E_is_system_is_tuple_of, et, E_is_system_is_integer, ea, hi, h1, isiD, tyD, isiB, truD, asg_nm, asg_tp, asgs_nil, asgs_cons, evSs, evS.eq_1, evS.eq_2, evS.eq_3, evS.eq_4, evS.eq_5, evS.eq_6, evS.eq_7, evS.eq_10, evS.eq_11, evS.eq_12, evS.eq_13, evS.eq_14, evE.eq_1, evE.eq_2, evE.eq_3, evE.eq_4, evE.eq_5, evE.eq_6, evE.eq_7, evE.eq_8, evE.eq_9, evE.eq_10, evE.eq_11, evE.eq_12, evE.eq_13, evE.eq_14, evE.eq_15, evE.eq_16, evE.eq_17, evE.eq_18, evE.eq_19, evE.eq_20, evE.eq_21, evE.eq_22, evB, evEs, evC, evCB, evI, evO, R.bd_ok, R.bd_err, R.st_ok, R.of_some, rd_old, rd_frs, rd_vr, mkP_f, mkP_l, fzps_nil, fzps_old, fzps_frs, fzp_old, fzp_frs, rds_nil, rds_old, rds_frs, Option.map_some, cm_lt, cm_le, cm_gt, cm_ge, cm_eq, cm_ne, eq_int, op_add, op_sub, ix_tup, ix_lst, bf_len, len_tup, len_lst, ofV, okV, ite_self, List.map_cons, List.map_nil, List.getElem?_cons_zero, List.getElem?_cons_succ, List.cons_append, List.nil_append, List.length_cons, List.length_nil, ne_eq, not_true, not_false_eq_true, if_true, if_false, Bool.false_eq_true, List.replicate_succ, List.replicate_zero]
  · have hi' : isI a = false := by simpa using hi
    have hs : sys3 a b c = false := by cases a <;> first | rfl | (simp [isI] at hi')
    rw [hs]
    simp [m_is_system, runD, d_is_system, b_is_system, E_is_system_is_tuple_of, et, E_is_system_is_integer, ea, hi', isiD, tyD, isiB, truD, asg_nm, asg_tp, asgs_nil, asgs_cons, evSs, evS.eq_1, evS.eq_2, evS.eq_3, evS.eq_4, evS.eq_5, evS.eq_6, evS.eq_7, evS.eq_10, evS.eq_11, evS.eq_12, evS.eq_13, evS.eq_14, evE.eq_1, evE.eq_2, evE.eq_3, evE.eq_4, evE.eq_5, evE.eq_6, evE.eq_7, evE.eq_8, evE.eq_9, evE.eq_10, evE.eq_11, evE.eq_12, evE.eq_13, evE.eq_14, evE.eq_15, evE.eq_16, evE.eq_17, evE.eq_18, evE.eq_19, evE.eq_20, evE.eq_21, evE.eq_22, evB, evEs, evC, evCB, evI, evO, R.bd_ok, R.bd_err, R.st_ok, R.of_some, rd_old, rd_frs, rd_vr, mkP_f, mkP_l, fzps_nil, fzps_old, fzps_frs, fzp_old, fzp_frs, rds_nil, rds_old, rds_frs, Option.map_some, cm_lt, cm_le, cm_gt, cm_ge, cm_eq, cm_ne, eq_int, op_add, op_sub, ix_tup, ix_lst, bf_len, len_tup, len_lst, ofV, okV, ite_self, List.map_cons, List.map_nil, List.getElem?_cons_zero, List.getElem?_cons_succ, List.cons_append, List.nil_append, List.length_cons, List.length_nil, ne_eq, not_true, not_false_eq_true, if_true, if_false, Bool.false_eq_true, List.replicate_succ, List.replicate_zero]
theorem e_is_system_n (xs : List D) (w : Wd) (h : xs.length ≠ 3) : m_is_system [.tup xs] w = .ok (.bl false, false, w) := by
  have et : ∀ w, m_is_tuple_of [.tup xs, .int 3] w = .ok (.bl false, false, w) := fun w => by
    have : lenEq 3 (.tup xs) = false := by simp [lenEq]; omega
    rw [e_is_tuple_of _ 3 w rfl, this]
  simp [m_is_system, runD, d_is_system, b_is_system, E_is_system_is_tuple_of, et, truD, evSs, evS.eq_1, evS.eq_2, evS.eq_3, evS.eq_4, evS.eq_5, evS.eq_6, evS.eq_7, evS.eq_10, evS.eq_11, evS.eq_12, evS.eq_13, evS.eq_14, evE.eq_1, evE.eq_2, evE.eq_3, evE.eq_4, evE.eq_5, evE.eq_6, evE.eq_7, evE.eq_8, evE.eq_9, evE.eq_10, evE.eq_11, evE.eq_12, evE.eq_13, evE.eq_14, evE.eq_15, evE.eq_16, evE.eq_17, evE.eq_18, evE.eq_19, evE.eq_20, evE.eq_21, evE.eq_22, evB, evEs, evC, evCB, evI, evO, R.bd_ok, R.bd_err, R.st_ok, R.of_some, rd_old, rd_frs, rd_vr, mkP_f, mkP_l, fzps_nil, fzps_old, fzps_frs, fzp_old, fzp_frs, rds_nil, rds_old, rds_frs, Option.map_some, cm_lt, cm_le, cm_gt, cm_ge, cm_eq, cm_ne, eq_int, op_add, op_sub, ix_tup, ix_lst, bf_len, len_tup, len_lst, ofV, okV, ite_self, List.map_cons, List.map_nil, List.getElem?_cons_zero, List.getElem?_cons_succ, List.cons_append, List.nil_append, List.length_cons, List.length_nil, ne_eq, not_true, not_false_eq_true, if_true, if_false, Bool.false_eq_true, List.replicate_succ, List.replicate_zero]
theorem e_is_system_x (d : D) (w : Wd) (h : okD d = true) (h2 : ∀ xs, d ≠ .tup xs) : m_is_system [d] w = .ok (.bl false, false, w) := by
  have et : ∀ w, m_is_tuple_of [d, .int 3] w = .ok (.bl false, false, w) := fun w => by
    have : lenEq 3 d = false := by cases d <;> first | rfl | exact absurd rfl (h2 _)
    rw [e_is_tuple_of _ 3 w h, this]
  simp [m_is_system, runD, d_is_system, b_is_system, E_is_system_is_tuple_of, et, truD, evSs, evS.eq_1, evS.eq_2, evS.eq_3, evS.eq_4, evS.eq_5, evS.eq_6, evS.eq_7, evS.eq_10, evS.eq_11, evS.eq_12, evS.eq_13, evS.eq_14, evE.eq_1, evE.eq_2, evE.eq_3, evE.eq_4, evE.eq_5, evE.eq_6, evE.eq_7, evE.eq_8, evE.eq_9, evE.eq_10, evE.eq_11, evE.eq_12, evE.eq_13, evE.eq_14, evE.eq_15, evE.eq_16, evE.eq_17, evE.eq_18, evE.eq_19, evE.eq_20, evE.eq_21, evE.eq_22, evB, evEs, evC, evCB, evI, evO, R.bd_ok, R.bd_err, R.st_ok, R.of_some, rd_old, rd_frs, rd_vr, mkP_f, mkP_l, fzps_nil, fzps_old, fzps_frs, fzp_old, fzp_frs, rds_nil, rds_old, rds_frs, Option.map_some, cm_lt, cm_le, cm_gt, cm_ge, cm_eq, cm_ne, eq_int, op_add, op_sub, ix_tup, ix_lst, bf_len, len_tup, len_lst, ofV, okV, ite_self, List.map_cons, List.map_nil, List.getElem?_cons_zero, List.getElem?_cons_succ, List.cons_append, List.nil_append, List.length_cons, List.length_nil, ne_eq, not_true, not_false_eq_true, if_true, if_false, Bool.false_eq_true, List.replicate_succ, List.replicate_zero]
def isSysB : D → Bool
  | .tup [a, b, c] => sys3 a b c
  | _ => false
def okS : D → Bool
  | .tup [a, b, c] => okD a && okD b && okD c && okC c
  | d => okD d
theorem e_is_system (d : D) (w : Wd) (h : okS d = true) : m_is_system [d] w = .ok (.bl (isSysB d), false, w) := by
  cases d with
  | tup xs =>
    match xs, h with
    | [], _ => exact e_is_system_n _ w (by simp)
    | [_], _ => exact e_is_system_n _ w (by simp)
    | [_, _], _ => exact e_is_system_n _ w (by simp)
    | [a, b, c], h =>
      simp only [okS, Bool.and_eq_true] at h
      exact e_is_system_3 a b c w h.1.1.1 h.1.1.2 h.1.2 h.2
    | _ :: _ :: _ :: _ :: _, _ => exact e_is_system_n _ w (by simp)
  | _ => exact e_is_system_x _ w h (fun xs z => nomatch z)
def eBad (x : Str) : Ex := ⟨"BadValue", "name", .str x⟩
theorem e_check_system (d : D) (w : Wd) (h : okS d = true) (g : isSysB d = true) : m_check_system [d] w = .ok (.non, false, w) := by
  have e := fun w => e_is_system d w h
  simp [m_check_system, runD, d_check_system, b_check_system, E_check_system_is_system, e, g, truD, evSs, evS.eq_1, evS.eq_2, evS.eq_3, evS.eq_4, evS.eq_5, evS.eq_6, evS.eq_7, evS.eq_10, evS.eq_11, evS.eq_12, evS.eq_13, evS.eq_14, evE.eq_1, evE.eq_2, evE.eq_3, evE.eq_4, evE.eq_5, evE.eq_6, evE.eq_7, evE.eq_8, evE.eq_9, evE.eq_10, evE.eq_11, evE.eq_12, evE.eq_13, evE.eq_14, evE.eq_15, evE.eq_16, evE.eq_17, evE.eq_18, evE.eq_19, evE.eq_20, evE.eq_21, evE.eq_22, evB, evEs, evC, evCB, evI, evO, R.bd_ok, R.bd_err, R.st_ok, R.of_some, rd_old, rd_frs, rd_vr, mkP_f, mkP_l, fzps_nil, fzps_old, fzps_frs, fzp_old, fzp_frs, rds_nil, rds_old, rds_frs, Option.map_some, cm_lt, cm_le, cm_gt, cm_ge, cm_eq, cm_ne, eq_int, op_add, op_sub, ix_tup, ix_lst, bf_len, len_tup, len_lst, ofV, okV, ite_self, List.map_cons, List.map_nil, List.getElem?_cons_zero, List.getElem?_cons_succ, List.cons_append, List.nil_append, List.length_cons, List.length_nil, ne_eq, not_true, not_false_eq_true, if_true, if_false, Bool.false_eq_true, List.replicate_succ, List.replicate_zero]
theorem b_check_system' (d : D) (w : Wd) (h : okS d = true) (g : isSysB d = false) : m_check_system [d] w = .err (eBad "system") w := by
  have e := fun w => e_is_system d w h
  simp [m_check_system, runD, d_check_system, b_check_system, E_check_system_is_system, e, g, truD, vOf, eBad, evSs, evS.eq_1, evS.eq_2, evS.eq_3, evS.eq_4, evS.eq_5, evS.eq_6, evS.eq_7, evS.eq_10, evS.eq_11, evS.eq_12, evS.eq_13, evS.eq_14, evE.eq_1, evE.eq_2, evE.eq_3, evE.eq_4, evE.eq_5, evE.eq_6, evE.eq_7, evE.eq_8, evE.eq_9, evE.eq_10, evE.eq_11, evE.eq_12, evE.eq_13, evE.eq_14, evE.eq_15, evE.eq_16, evE.eq_17, evE.eq_18, evE.eq_19, evE.eq_20, evE.eq_21, evE.eq_22, evB, evEs, evC, evCB, evI, evO, R.bd_ok, R.bd_err, R.st_ok, R.of_some, rd_old, rd_frs, rd_vr, mkP_f, mkP_l, fzps_nil, fzps_old, fzps_frs, fzp_old, fzp_frs, rds_nil, rds_old, rds_frs, Option.map_some, cm_lt, cm_le, cm_gt, cm_ge, cm_eq, cm_ne, eq_int, op_add, op_sub, ix_tup, ix_lst, bf_len, len_tup, len_lst, ofV, okV, ite_self, List.map_cons, List.map_nil, List.getElem?_cons_zero, List.getElem?_cons_succ, List.cons_append, List.nil_append, List.length_cons, List.length_nil, ne_eq, not_true, not_false_eq_true, if_true, if_false, Bool.false_eq_true, List.replicate_succ, List.replicate_zero]
theorem e_is_state (n : Int) (b v : D) (cs : List D) (w : Wd) (h : okD v = true) : m_is_state [sysD (.int n) b cs, v] w = .ok (.bl (inIx n v), false, w) := by
  have ix : L2.atI [D.int n, b, D.tup cs] 0 = some (D.int n) := rfl
  simp [m_is_state, runD, d_is_state, b_is_state, E_is_state_is_index, e_is_index _ _ _ h, sysD, ix, evSs, evS.eq_1, evS.eq_2, evS.eq_3, evS.eq_4, evS.eq_5, evS.eq_6, evS.eq_7, evS.eq_10, evS.eq_11, evS.eq_12, evS.eq_13, evS.eq_14, evE.eq_1, evE.eq_2, evE.eq_3, evE.eq_4, evE.eq_5, evE.eq_6, evE.eq_7, evE.eq_8, evE.eq_9, evE.eq_10, evE.eq_11, evE.eq_12, evE.eq_13, evE.eq_14, evE.eq_15, evE.eq_16, evE.eq_17, evE.eq_18, evE.eq_19, evE.eq_20, evE.eq_21, evE.eq_22, evB, evEs, evC, evCB, evI, evO, R.bd_ok, R.bd_err, R.st_ok, R.of_some, rd_old, rd_frs, rd_vr, mkP_f, mkP_l, fzps_nil, fzps_old, fzps_frs, fzp_old, fzp_frs, rds_nil, rds_old, rds_frs, Option.map_some, cm_lt, cm_le, cm_gt, cm_ge, cm_eq, cm_ne, eq_int, op_add, op_sub, ix_tup, ix_lst, bf_len, len_tup, len_lst, ofV, okV, ite_self, List.map_cons, List.map_nil, List.getElem?_cons_zero, List.getElem?_cons_succ, List.cons_append, List.nil_append, List.length_cons, List.length_nil, ne_eq, not_true, not_false_eq_true, if_true, if_false, Bool.false_eq_true, List.replicate_succ, List.replicate_zero]
theorem e_check_state (n : Int) (b v : D) (cs : List D) (x : D) (w : Wd) (h : okD v = true) (g : inIx n v = true) : m_check_state [sysD (.int n) b cs, v, x] w = .ok (.non, false, w) := by
  have e := fun w => e_is_state n b v cs w h
  simp [m_check_state, runD, d_check_state, b_check_state, E_check_state_is_state, e, g, truD, evSs, evS.eq_1, evS.eq_2, evS.eq_3, evS.eq_4, evS.eq_5, evS.eq_6, evS.eq_7, evS.eq_10, evS.eq_11, evS.eq_12, evS.eq_13, evS.eq_14, evE.eq_1, evE.eq_2, evE.eq_3, evE.eq_4, evE.eq_5, evE.eq_6, evE.eq_7, evE.eq_8, evE.eq_9, evE.eq_10, evE.eq_11, evE.eq_12, evE.eq_13, evE.eq_14, evE.eq_15, evE.eq_16, evE.eq_17, evE.eq_18, evE.eq_19, evE.eq_20, evE.eq_21, evE.eq_22, evB, evEs, evC, evCB, evI, evO, R.bd_ok, R.bd_err, R.st_ok, R.of_some, rd_old, rd_frs, rd_vr, mkP_f, mkP_l, fzps_nil, fzps_old, fzps_frs, fzp_old, fzp_frs, rds_nil, rds_old, rds_frs, Option.map_some, cm_lt, cm_le, cm_gt, cm_ge, cm_eq, cm_ne, eq_int, op_add, op_sub, ix_tup, ix_lst, bf_len, len_tup, len_lst, ofV, okV, ite_self, List.map_cons, List.map_nil, List.getElem?_cons_zero, List.getElem?_cons_succ, List.cons_append, List.nil_append, List.length_cons, List.length_nil, ne_eq, not_true, not_false_eq_true, if_true, if_false, Bool.false_eq_true, List.replicate_succ, List.replicate_zero]
theorem b_check_state' (n : Int) (b v : D) (cs : List D) (x : Str) (w : Wd) (h : okD v = true) (g : inIx n v = false) : m_check_state [sysD (.int n) b cs, v, .str x] w = .err (eBad x) w := by
  have e := fun w => e_is_state n b v cs w h
  simp [m_check_state, runD, d_check_state, b_check_state, E_check_state_is_state, e, g, truD, vOf, eBad, evSs, evS.eq_1, evS.eq_2, evS.eq_3, evS.eq_4, evS.eq_5, evS.eq_6, evS.eq_7, evS.eq_10, evS.eq_11, evS.eq_12, evS.eq_13, evS.eq_14, evE.eq_1, evE.eq_2, evE.eq_3, evE.eq_4, evE.eq_5, evE.eq_6, evE.eq_7, evE.eq_8, evE.eq_9, evE.eq_10, evE.eq_11, evE.eq_12, evE.eq_13, evE.eq_14, evE.eq_15, evE.eq_16, evE.eq_17, evE.eq_18, evE.eq_19, evE.eq_20, evE.eq_21, evE.eq_22, evB, evEs, evC, evCB, evI, evO, R.bd_ok, R.bd_err, R.st_ok, R.of_some, rd_old, rd_frs, rd_vr, mkP_f, mkP_l, fzps_nil, fzps_old, fzps_frs, fzp_old, fzp_frs, rds_nil, rds_old, rds_frs, Option.map_some, cm_lt, cm_le, cm_gt, cm_ge, cm_eq, cm_ne, eq_int, op_add, op_sub, ix_tup, ix_lst, bf_len, len_tup, len_lst, ofV, okV, ite_self, List.map_cons, List.map_nil, List.getElem?_cons_zero, List.getElem?_cons_succ, List.cons_append, List.nil_append, List.length_cons, List.length_nil, ne_eq, not_true, not_false_eq_true, if_true, if_false, Bool.false_eq_true, List.replicate_succ, List.replicate_zero]
theorem e_is_sequence_within (a b v : D) (cs : List D) (m : Int) (w : Wd) (h : okD v = true) (h2 : okT v = true) : m_is_sequence_within [sysD a b cs, v, .int m] w = .ok (.bl (ixTup cs.length v && lenLe m v), false, w) := by
  have e := fun w => e_is_index_tuple v cs.length w h h2
  have ix : L2.atI [a, b, D.tup cs] 2 = some (D.tup cs) := rfl
  cases hv : ixTup cs.length v with
  | false => simp [m_is_sequence_within, runD, d_is_sequence_within, b_is_sequence_within, E_is_sequence_within_is_index_tuple, sysD, e, ix, hv, evSs, evS.eq_1, evS.eq_2, evS.eq_3, evS.eq_4, evS.eq_5, evS.eq_6, evS.eq_7, evS.eq_10, evS.eq_11, evS.eq_12, evS.eq_13, evS.eq_14, evE.eq_1, evE.eq_2, evE.eq_3, evE.eq_4, evE.eq_5, evE.eq_6, evE.eq_7, evE.eq_8, evE.eq_9, evE.eq_10, evE.eq_11, evE.eq_12, evE.eq_13, evE.eq_14, evE.eq_15, evE.eq_16, evE.eq_17, evE.eq_18, evE.eq_19, evE.eq_20, evE.eq_21, evE.eq_22, evB, evEs, evC, evCB, evI, evO, R.bd_ok, R.bd_err, R.st_ok, R.of_some, rd_old, rd_frs, rd_vr, mkP_f, mkP_l, fzps_nil, fzps_old, fzps_frs, fzp_old, fzp_frs, rds_nil, rds_old, rds_frs, Option.map_some, cm_lt, cm_le, cm_gt, cm_ge, cm_eq, cm_ne, eq_int, op_add, op_sub, ix_tup, ix_lst, bf_len, len_tup, len_lst, ofV, okV, ite_self, List.map_cons, List.map_nil, List.getElem?_cons_zero, List.getElem?_cons_succ, List.cons_append, List.nil_append, List.length_cons, List.length_nil, ne_eq, not_true, not_false_eq_true, if_true, if_false, Bool.false_eq_true, List.replicate_succ, List.replicate_zero]
  | true =>
    cases v <;> simp [ixTup] at hv
    rename_i xs
    have hv : ixTup cs.length (.tup xs) = true := by simpa [ixTup] using hv
    simp [m_is_sequence_within, runD, d_is_sequence_within, b_is_sequence_within, E_is_sequence_within_is_index_tuple, sysD, e, ix, hv, lenLe, evSs, evS.eq_1, evS.eq_2, evS.eq_3, evS.eq_4, evS.eq_5, evS.eq_6, evS.eq_7, evS.eq_10, evS.eq_11, evS.eq_12, evS.eq_13, evS.eq_14, evE.eq_1, evE.eq_2, evE.eq_3, evE.eq_4, evE.eq_5, evE.eq_6, evE.eq_7, evE.eq_8, evE.eq_9, evE.eq_10, evE.eq_11, evE.eq_12, evE.eq_13, evE.eq_14, evE.eq_15, evE.eq_16, evE.eq_17, evE.eq_18, evE.eq_19, evE.eq_20, evE.eq_21, evE.eq_22, evB, evEs, evC, evCB, evI, evO, R.bd_ok, R.bd_err, R.st_ok, R.of_some, rd_old, rd_frs, rd_vr, mkP_f, mkP_l, fzps_nil, fzps_old, fzps_frs, fzp_old, fzp_frs, rds_nil, rds_old, rds_frs, Option.map_some, cm_lt, cm_le, cm_gt, cm_ge, cm_eq, cm_ne, eq_int, op_add, op_sub, ix_tup, ix_lst, bf_len, len_tup, len_lst, ofV, okV, ite_self, List.map_cons, List.map_nil, List.getElem?_cons_zero, List.getElem?_cons_succ, List.cons_append, List.nil_append, List.length_cons, List.length_nil, ne_eq, not_true, not_false_eq_true, if_true, if_false, Bool.false_eq_true, List.replicate_succ, List.replicate_zero]
theorem e_is_sequence (a b v : D) (cs : List D) (w : Wd) (h : okD v = true) (h2 : okT v = true) : m_is_sequence [sysD a b cs, v] w = .ok (.bl (ixTup cs.length v && lenLe 16 v), false, w) := by
  simp [m_is_sequence, runD, d_is_sequence, b_is_sequence, E_is_sequence_is_sequence_within, e_is_sequence_within _ _ _ _ _ _ h h2, evSs, evS.eq_1, evS.eq_2, evS.eq_3, evS.eq_4, evS.eq_5, evS.eq_6, evS.eq_7, evS.eq_10, evS.eq_11, evS.eq_12, evS.eq_13, evS.eq_14, evE.eq_1, evE.eq_2, evE.eq_3, evE.eq_4, evE.eq_5, evE.eq_6, evE.eq_7, evE.eq_8, evE.eq_9, evE.eq_10, evE.eq_11, evE.eq_12, evE.eq_13, evE.eq_14, evE.eq_15, evE.eq_16, evE.eq_17, evE.eq_18, evE.eq_19, evE.eq_20, evE.eq_21, evE.eq_22, evB, evEs, evC, evCB, evI, evO, R.bd_ok, R.bd_err, R.st_ok, R.of_some, rd_old, rd_frs, rd_vr, mkP_f, mkP_l, fzps_nil, fzps_old, fzps_frs, fzp_old, fzp_frs, rds_nil, rds_old, rds_frs, Option.map_some, cm_lt, cm_le, cm_gt, cm_ge, cm_eq, cm_ne, eq_int, op_add, op_sub, ix_tup, ix_lst, bf_len, len_tup, len_lst, ofV, okV, ite_self, List.map_cons, List.map_nil, List.getElem?_cons_zero, List.getElem?_cons_succ, List.cons_append, List.nil_append, List.length_cons, List.length_nil, ne_eq, not_true, not_false_eq_true, if_true, if_false, Bool.false_eq_true, List.replicate_succ, List.replicate_zero]
theorem e_check_sequence (a b v : D) (cs : List D) (x : D) (w : Wd) (h : okD v = true) (h2 : okT v = true) (g : (ixTup cs.length v && lenLe 16 v) = true) : m_check_sequence [sysD a b cs, v, x] w = .ok (.non, false, w) := by
  have e := fun w => e_is_sequence a b v cs w h h2
  simp [m_check_sequence, runD, d_check_sequence, b_check_sequence, E_check_sequence_is_sequence, e, g, truD, evSs, evS.eq_1, evS.eq_2, evS.eq_3, evS.eq_4, evS.eq_5, evS.eq_6, evS.eq_7, evS.eq_10, evS.eq_11, evS.eq_12, evS.eq_13, evS.eq_14, evE.eq_1, evE.eq_2, evE.eq_3, evE.eq_4, evE.eq_5, evE.eq_6, evE.eq_7, evE.eq_8, evE.eq_9, evE.eq_10, evE.eq_11, evE.eq_12, evE.eq_13, evE.eq_14, evE.eq_15, evE.eq_16, evE.eq_17, evE.eq_18, evE.eq_19, evE.eq_20, evE.eq_21, evE.eq_22, evB, evEs, evC, evCB, evI, evO, R.bd_ok, R.bd_err, R.st_ok, R.of_some, rd_old, rd_frs, rd_vr, mkP_f, mkP_l, fzps_nil, fzps_old, fzps_frs, fzp_old, fzp_frs, rds_nil, rds_old, rds_frs, Option.map_some, cm_lt, cm_le, cm_gt, cm_ge, cm_eq, cm_ne, eq_int, op_add, op_sub, ix_tup, ix_lst, bf_len, len_tup, len_lst, ofV, okV, ite_self, List.map_cons, List.map_nil, List.getElem?_cons_zero, List.getElem?_cons_succ, List.cons_append, List.nil_append, List.length_cons, List.length_nil, ne_eq, not_true, not_false_eq_true, if_true, if_false, Bool.false_eq_true, List.replicate_succ, List.replicate_zero]
theorem b_check_sequence' (a b v : D) (cs : List D) (x : Str) (w : Wd) (h : okD v = true) (h2 : okT v = true) (g : (ixTup cs.length v && lenLe 16 v) = false) : m_check_sequence [sysD a b cs, v, .str x] w = .err (eBad x) w := by
  have e := fun w => e_is_sequence a b v cs w h h2
  simp [m_check_sequence, runD, d_check_sequence, b_check_sequence, E_check_sequence_is_sequence, e, g, truD, vOf, eBad, evSs, evS.eq_1, evS.eq_2, evS.eq_3, evS.eq_4, evS.eq_5, evS.eq_6, evS.eq_7, evS.eq_10, evS.eq_11, evS.eq_12, evS.eq_13, evS.eq_14, evE.eq_1, evE.eq_2, evE.eq_3, evE.eq_4, evE.eq_5, evE.eq_6, evE.eq_7, evE.eq_8, evE.eq_9, evE.eq_10, evE.eq_11, evE.eq_12, evE.eq_13, evE.eq_14, evE.eq_15, evE.eq_16, evE.eq_17, evE.eq_18, evE.eq_19, evE.eq_20, evE.eq_21, evE.eq_22, evB, evEs, evC, evCB, evI, evO, R.bd_ok, R.bd_err, R.st_ok, R.of_some, rd_old, rd_frs, rd_vr, mkP_f, mkP_l, fzps_nil, fzps_old, fzps_frs, fzp_old, fzp_frs, rds_nil, rds_old, rds_frs, Option.map_some, cm_lt, cm_le, cm_gt, cm_ge, cm_eq, cm_ne, eq_int, op_add, op_sub, ix_tup, ix_lst, bf_len, len_tup, len_lst, ofV, okV, ite_self, List.map_cons, List.map_nil, List.getElem?_cons_zero, List.getElem?_cons_succ, List.cons_append, List.nil_append, List.length_cons, List.length_nil, ne_eq, not_true, not_false_eq_true, if_true, if_false, Bool.false_eq_true, List.replicate_succ, List.replicate_zero]
theorem e_is_command (a b v : D) (cs : List D) (w : Wd) (h : okD v = true) : m_is_command [sysD a b cs, v] w = .ok (.bl (inIx cs.length v), false, w) := by
  have ix : L2.atI [a, b, D.tup cs] 2 = some (D.tup cs) := rfl
  simp [m_is_command, runD, d_is_command, b_is_command, E_is_command_is_index, e_is_index _ _ _ h, sysD, ix, evSs, evS.eq_1, evS.eq_2, evS.eq_3, evS.eq_4, evS.eq_5, evS.eq_6, evS.eq_7, evS.eq_10, evS.eq_11, evS.eq_12, evS.eq_13, evS.eq_14, evE.eq_1, evE.eq_2, evE.eq_3, evE.eq_4, evE.eq_5, evE.eq_6, evE.eq_7, evE.eq_8, evE.eq_9, evE.eq_10, evE.eq_11, evE.eq_12, evE.eq_13, evE.eq_14, evE.eq_15, evE.eq_16, evE.eq_17, evE.eq_18, evE.eq_19, evE.eq_20, evE.eq_21, evE.eq_22, evB, evEs, evC, evCB, evI, evO, R.bd_ok, R.bd_err, R.st_ok, R.of_some, rd_old, rd_frs, rd_vr, mkP_f, mkP_l, fzps_nil, fzps_old, fzps_frs, fzp_old, fzp_frs, rds_nil, rds_old, rds_frs, Option.map_some, cm_lt, cm_le, cm_gt, cm_ge, cm_eq, cm_ne, eq_int, op_add, op_sub, ix_tup, ix_lst, bf_len, len_tup, len_lst, ofV, okV, ite_self, List.map_cons, List.map_nil, List.getElem?_cons_zero, List.getElem?_cons_succ, List.cons_append, List.nil_append, List.length_cons, List.length_nil, ne_eq, not_true, not_false_eq_true, if_true, if_false, Bool.false_eq_true, List.replicate_succ, List.replicate_zero]
theorem e_check_command (a b v : D) (cs : List D) (x : D) (w : Wd) (h : okD v = true) (g : inIx cs.length v = true) : m_check_command [sysD a b cs, v, x] w = .ok (.non, false, w) := by
  have e := fun w => e_is_command a b v cs w h
  simp [m_check_command, runD, d_check_command, b_check_command, E_check_command_is_command, e, g, truD, evSs, evS.eq_1, evS.eq_2, evS.eq_3, evS.eq_4, evS.eq_5, evS.eq_6, evS.eq_7, evS.eq_10, evS.eq_11, evS.eq_12, evS.eq_13, evS.eq_14, evE.eq_1, evE.eq_2, evE.eq_3, evE.eq_4, evE.eq_5, evE.eq_6, evE.eq_7, evE.eq_8, evE.eq_9, evE.eq_10, evE.eq_11, evE.eq_12, evE.eq_13, evE.eq_14, evE.eq_15, evE.eq_16, evE.eq_17, evE.eq_18, evE.eq_19, evE.eq_20, evE.eq_21, evE.eq_22, evB, evEs, evC, evCB, evI, evO, R.bd_ok, R.bd_err, R.st_ok, R.of_some, rd_old, rd_frs, rd_vr, mkP_f, mkP_l, fzps_nil, fzps_old, fzps_frs, fzp_old, fzp_frs, rds_nil, rds_old, rds_frs, Option.map_some, cm_lt, cm_le, cm_gt, cm_ge, cm_eq, cm_ne, eq_int, op_add, op_sub, ix_tup, ix_lst, bf_len, len_tup, len_lst, ofV, okV, ite_self, List.map_cons, List.map_nil, List.getElem?_cons_zero, List.getElem?_cons_succ, List.cons_append, List.nil_append, List.length_cons, List.length_nil, ne_eq, not_true, not_false_eq_true, if_true, if_false, Bool.false_eq_true, List.replicate_succ, List.replicate_zero]
theorem b_check_command' (a b v : D) (cs : List D) (x : Str) (w : Wd) (h : okD v = true) (g : inIx cs.length v = false) : m_check_command [sysD a b cs, v, .str x] w = .err (eBad x) w := by
  have e := fun w => e_is_command a b v cs w h
  simp [m_check_command, runD, d_check_command, b_check_command, E_check_command_is_command, e, g, truD, vOf, eBad, evSs, evS.eq_1, evS.eq_2, evS.eq_3, evS.eq_4, evS.eq_5, evS.eq_6, evS.eq_7, evS.eq_10, evS.eq_11, evS.eq_12, evS.eq_13, evS.eq_14, evE.eq_1, evE.eq_2, evE.eq_3, evE.eq_4, evE.eq_5, evE.eq_6, evE.eq_7, evE.eq_8, evE.eq_9, evE.eq_10, evE.eq_11, evE.eq_12, evE.eq_13, evE.eq_14, evE.eq_15, evE.eq_16, evE.eq_17, evE.eq_18, evE.eq_19, evE.eq_20, evE.eq_21, evE.eq_22, evB, evEs, evC, evCB, evI, evO, R.bd_ok, R.bd_err, R.st_ok, R.of_some, rd_old, rd_frs, rd_vr, mkP_f, mkP_l, fzps_nil, fzps_old, fzps_frs, fzp_old, fzp_frs, rds_nil, rds_old, rds_frs, Option.map_some, cm_lt, cm_le, cm_gt, cm_ge, cm_eq, cm_ne, eq_int, op_add, op_sub, ix_tup, ix_lst, bf_len, len_tup, len_lst, ofV, okV, ite_self, List.map_cons, List.map_nil, List.getElem?_cons_zero, List.getElem?_cons_succ, List.cons_append, List.nil_append, List.length_cons, List.length_nil, ne_eq, not_true, not_false_eq_true, if_true, if_false, Bool.false_eq_true, List.replicate_succ, List.replicate_zero]
/-- a row of numbers below n, as a tuple -/
def IsRow (n : Nat) (d : D) : Prop := ∃ r : List Int, d = .tup (r.map .int) ∧ r.length = n ∧ ∀ x ∈ r, 0 ≤ x ∧ x < n
theorem ints_of {ys : List D} {P : Int → Prop} (h : ∀ y ∈ ys, ∃ i, y = .int i ∧ P i) : ∃ r : List Int, ys = r.map .int ∧ ∀ x ∈ r, P x := by
  induction ys with
  | nil => exact ⟨[], rfl, fun _ h => nomatch h⟩
  | cons y ys ih =>
    obtain ⟨i, rfl, hi⟩ := h y (by simp)
    obtain ⟨r, rfl, hr⟩ := ih fun z hz => h z (by simp [hz])
    refine ⟨i :: r, rfl, fun x hx => ?_⟩
    rcases List.mem_cons.mp hx with rfl | hx
    · exact hi
    · exact hr x hx
theorem erase_map : ∀ (xs : List Int) (i : Nat), (xs.map D.int).eraseIdx i = (xs.eraseIdx i).map D.int
  | [], _ => rfl
  | x :: xs, 0 => rfl
  | x :: xs, i + 1 => by
    show D.int x :: (xs.map D.int).eraseIdx i = D.int x :: (xs.eraseIdx i).map D.int
    rw [erase_map xs i]
/-- a statement in front -/
theorem nxS {F : Str → Fn} {s : MS} {r : MSs} {Γ Γ1 : En} (h : evS F s Γ = .ok (.nx Γ1)) : evSs F (.cons s r) Γ = evSs F r Γ1 := by
  simp only [evSs]
  rw [h, R.bd_ok]
theorem ev_for {F : Str → Fn} {t : MT} {k : IK} {es : MEs} {b : MSs} {Γ Γ1 : En} {ps : List Pv} {ds xs : List D} {fl : Fl} (he : evEs F es Γ = .ok (ps, Γ1)) (hd : rds Γ1 ps = some ds) (hs : srcP k ps ds = some xs) (e : forN (fun Γ d => asg Γ t d) (fun Γ => evSs F b Γ) xs (fzps Γ1 ps) = .ok fl) : evS F (.fr t k es b) Γ = .ok fl := by
  rw [evS.eq_9, he, R.st_ok, R.bd_ok]
  simp only
  rw [hd, R.of_some, R.bd_ok, hs, R.of_some, R.bd_ok, e]
/-- a loop by what it keeps -/
theorem forN_inv {asg : En → D → Option En} {body : En → R Fl} {I : List D → En → Prop} (h : ∀ x rest Γ, I (x :: rest) Γ → ∃ Γ1 Γ2, asg Γ x = some Γ1 ∧ body Γ1 = .ok (.nx Γ2) ∧ I rest Γ2) : ∀ {xs : List D} {Γ : En}, I xs Γ → ∃ Γ', forN asg body xs Γ = .ok (.nx Γ') ∧ I [] Γ'
  | [], Γ, hp => ⟨Γ, by simp [forN], hp⟩
  | x :: xs, Γ, hp => by
    obtain ⟨Γ1, Γ2, e1, e2, e3⟩ := h x xs Γ hp
    obtain ⟨Γ', e4, e5⟩ := forN_inv h e3
    refine ⟨Γ', ?_, e5⟩
    unfold forN
    rw [e1, R.of_some, R.bd_ok, e2, R.bd_ok]
    exact e4
/-- a drawn item -/
theorem pick_at (xs : List D) (s : Strm) (n : Int) (hn : (xs.length : Int) = n) (h0 : 0 < n) : ∃ d ∈ xs, L2.atI xs (drawI s n) = some d := by
  have a := draw_lo s h0
  have b := draw_hi s h0
  obtain ⟨j, hj⟩ := Int.eq_ofNat_of_zero_le a
  have hl : j < xs.length := by omega
  exact ⟨xs[j], List.getElem_mem hl, by rw [hj, atI_nat', List.getElem?_eq_getElem hl]⟩
theorem row_ok {n : Nat} {d : D} (h : IsRow n d) : okD d = true ∧ okT d = true ∧ rowOk n d = true := by
  obtain ⟨r, rfl, hl, hr⟩ := h
  refine ⟨rfl, ?_, ?_⟩
  · show (r.map D.int).all okD = true
    rw [List.all_eq_true]
    intro x hx
    obtain ⟨i, _, rfl⟩ := List.mem_map.mp hx
    rfl
  · simp only [rowOk, ixTup, lenEq, Bool.and_eq_true, decide_eq_true_eq, List.all_eq_true]
    refine ⟨fun x hx => ?_, by simp [hl]⟩
    obtain ⟨i, hi, rfl⟩ := List.mem_map.mp hx
    have := hr i hi
    simp [inIx, this]
theorem rows_ok {n : Nat} {rows : List D} (h : ∀ r ∈ rows, IsRow n r) : okC (.tup rows) = true := by
  show (rows.all okD && rows.all okT) = true
  rw [Bool.and_eq_true, List.all_eq_true, List.all_eq_true]
  exact ⟨fun x hx => (row_ok (h x hx)).1, fun x hx => (row_ok (h x hx)).2.1⟩
/-- a drawn system -/
theorem good_sys {n : Nat} {st : Int} {rows : List D} (h1 : 1 ≤ n) (h8 : n ≤ 8) (s0 : 0 ≤ st) (s1 : st < n) (l4 : rows.length ≤ 4) (h : ∀ r ∈ rows, IsRow n r) : okS (sysD (.int n) (.int st) rows) = true ∧ isSysB (sysD (.int n) (.int st) rows) = true := by
  constructor
  · show (okD (.int n) && okD (.int st) && okD (.tup rows) && okC (.tup rows)) = true
    rw [rows_ok h]; rfl
  · show sys3 (.int n) (.int st) (.tup rows) = true
    simp only [sys3, inIx, Bool.and_eq_true, decide_eq_true_eq, List.all_eq_true]
    exact ⟨⟨⟨⟨by omega, by omega⟩, s0, s1⟩, by omega⟩, fun x hx => (row_ok (h x hx)).2.2⟩
end Ux

namespace Ux
open PySem PySem.Spec PyProof.Rows L2 GxR
/-! ### what the loops' pieces do -/
/-- the environment in the loops -/
abbrev EK (sc a2 a3 a4 a5 a6 a7 a8 wd fine bad names : D) (k wr al : Option (D × Bool)) (s : Strm) : En := { sl := [some (sc, false), some (.strm, false), some (a2, false), some (a3, false), some (a4, false), some (a5, false), some (a6, false), some (a7, false), some (a8, false), some (wd, false), some (fine, false), some (bad, false), some (names, false), k, wr, al, none], w := some s }
def ol : Option (List D) → Option (D × Bool)
  | some l => some (.lst l, true)
  | none => none
def NmOk (a : Str) : Prop := dEq (.str a) (.str a) = some true
theorem ev_told {es : MEs} {Γ : En} {ps : List Pv} {ds : List D} {nm : Str} {s : Strm} (e : evEs E_law es Γ = .ok (ps, Γ)) (h : rds Γ ps = some ds) (hw : Γ.w = some s) (hd : noDct Γ = true) (t : m_law_told ds (some s) = .ok (.str nm, false, some s)) : evE E_law (.call "_law_told" es) Γ = .ok (.old (.str nm), Γ) := by
  obtain ⟨sl, w⟩ := Γ
  have hw : w = some s := hw
  subst hw
  rw [evE.eq_16, e, R.bd_ok]
  simp only
  rw [h, R.of_some, R.bd_ok, E_law_law_told, t, R.bd_ok]
  simp only
  rw [hd]
  rfl
theorem ev_ne {a b : ME} {Γ : En} {nm : Str} (hn : NmOk nm) (h1 : evE E_law a Γ = .ok (.old (.str nm), Γ)) (h2 : evE E_law b Γ = .ok (.old (.str nm), Γ)) : evC E_law (.cmp .ne a b) Γ = .ok (false, Γ) := by
  have hn : dEq (.str nm) (.str nm) = some true := hn
  simp [evC, h1, h2, R.bd, R.of, rd, cmD, hn]
theorem ev_if2 {c d : MC} {x : MSs} {Γ : En} (h1 : evC E_law c Γ = .ok (false, Γ)) (h2 : evC E_law d Γ = .ok (false, Γ)) : evS E_law (.ite (.bop false c (.cons d .nil)) x .nil) Γ = .ok (.nx Γ) := by
  simp [evS, evC, evCB, evSs, h1, h2, R.bd]
theorem ev_if1 {c : MC} {x : MSs} {Γ : En} (h1 : evC E_law c Γ = .ok (false, Γ)) : evS E_law (.ite c x .nil) Γ = .ok (.nx Γ) := by
  simp [evS, evSs, h1, R.bd]
theorem e_pick {opts : List D} (h0 : 0 < opts.length) (h1 : opts.length < 1000) (s : Strm) : ∃ x ∈ opts, ∃ s', m_law_pick [.strm, .lst opts] (some s) = .ok (x, false, some s') := by
  obtain ⟨x, hx, e⟩ := pick_at opts s opts.length rfl (by omega)
  have d := e_next s opts.length (by omega) (by omega)
  refine ⟨x, hx, drawS s opts.length, ?_⟩
  simp [m_law_pick, runD, d_law_pick, b_law_pick, E_law_pick_law_next, d, e, evSs, evS.eq_1, evS.eq_2, evS.eq_3, evS.eq_4, evS.eq_5, evS.eq_6, evS.eq_7, evS.eq_10, evS.eq_11, evS.eq_12, evS.eq_13, evS.eq_14, evE.eq_1, evE.eq_2, evE.eq_3, evE.eq_4, evE.eq_5, evE.eq_6, evE.eq_7, evE.eq_8, evE.eq_9, evE.eq_10, evE.eq_11, evE.eq_12, evE.eq_13, evE.eq_14, evE.eq_15, evE.eq_16, evE.eq_17, evE.eq_18, evE.eq_19, evE.eq_20, evE.eq_21, evE.eq_22, evB, evEs, evC, evCB, evI, evO, R.bd_ok, R.bd_err, R.st_ok, R.of_some, rd_old, rd_frs, rd_vr, mkP_f, mkP_l, fzps_nil, fzps_old, fzps_frs, fzp_old, fzp_frs, rds_nil, rds_old, rds_frs, Option.map_some, cm_lt, cm_le, cm_gt, cm_ge, cm_eq, cm_ne, eq_int, op_add, op_sub, ix_tup, ix_lst, bf_len, len_tup, len_lst, ofV, okV, ite_self, List.map_cons, List.map_nil, List.getElem?_cons_zero, List.getElem?_cons_succ, List.cons_append, List.nil_append, List.length_cons, List.length_nil, ne_eq, not_true, not_false_eq_true, if_true, if_false, Bool.false_eq_true, List.replicate_succ, List.replicate_zero]
/-- one chosen of each -/
def Chosen : List D → List (List D) → Prop
  | [], [] => True
  | x :: xs, b :: bs => x ∈ b ∧ Chosen xs bs
  | _, _ => False
theorem Chosen.len : ∀ {xs : List D} {bs : List (List D)}, Chosen xs bs → xs.length = bs.length
  | [], [], _ => rfl
  | _ :: _, _ :: _, h => congrArg (· + 1) (Chosen.len h.2)
  | [], _ :: _, h => h.elim
  | _ :: _, [], h => h.elim
theorem Chosen.get : ∀ {xs : List D} {bs : List (List D)} {k : Nat} {b : List D}, Chosen xs bs → bs[k]? = some b → ∃ x, xs[k]? = some x ∧ x ∈ b
  | x :: _, _ :: _, 0, _, h, e => by simp at e; subst e; exact ⟨x, rfl, h.1⟩
  | _ :: _, _ :: _, k + 1, _, h, e => by simp at e; obtain ⟨x, e1, e2⟩ := Chosen.get h.2 e; exact ⟨x, by simpa using e1, e2⟩
  | [], [], _, _, _, e => by simp at e
  | [], _ :: _, _, _, h, _ => h.elim
  | _ :: _, [], _, _, h, _ => h.elim
section
variable (sc a2 a3 a4 a5 a6 a7 a8 wd fine bad names : D) (k al : Option (D × Bool))
theorem e_wrongs (wr : Option (D × Bool)) : ∀ (bs : List (List D)) (acc : List D) (s : Strm), (∀ b ∈ bs, 0 < b.length ∧ b.length < 1000) → acc.length + bs.length ≤ 10 → ∃ ws s', Chosen ws bs ∧
    lcN [16] (fun Γ d => asg Γ (.name 16) d) (fun Γ => evI E_law .none Γ) (fun Γ => evE E_law (.call "_law_pick" (.cons (.var 1) (.cons (.var 16) .nil))) Γ) (bs.map .lst) acc (EK sc a2 a3 a4 a5 a6 a7 a8 wd fine bad names k wr al s) = .ok (acc ++ ws, EK sc a2 a3 a4 a5 a6 a7 a8 wd fine bad names k wr al s')
  | [], acc, s, _, _ => ⟨[], s, trivial, by simp [lcN]⟩
  | b :: bs, acc, s, hb, hl => by
    obtain ⟨x, hx, s1, e1⟩ := e_pick (hb b (by simp)).1 (hb b (by simp)).2 s
    obtain ⟨ws, s', c, e2⟩ := e_wrongs wr bs (acc ++ [x]) s1 (fun b h => hb b (by simp [h])) (by simp at hl ⊢; omega)
    refine ⟨x :: ws, s', ⟨hx, c⟩, ?_⟩
    rw [List.map_cons]
    unfold lcN
    rw [asg_nm, R.of_some, R.bd_ok]
    have l1 : acc.length < LIM := by simp at hl; have : LIM = 1000000 := rfl; omega
    have el : evE E_law (.call "_law_pick" (.cons (.var 1) (.cons (.var 16) .nil))) { EK sc a2 a3 a4 a5 a6 a7 a8 wd fine bad names k wr al s with sl := (EK sc a2 a3 a4 a5 a6 a7 a8 wd fine bad names k wr al s).sl.set 16 (some (.lst b, false)) } = .ok (.old x, { EK sc a2 a3 a4 a5 a6 a7 a8 wd fine bad names k wr al s1 with sl := (EK sc a2 a3 a4 a5 a6 a7 a8 wd fine bad names k wr al s1).sl.set 16 (some (.lst b, false)) }) := by
      have q : m_law_pick [.strm, .lst b] (some s) = .ok (x, false, some s1) := e1
      simp [E_law_law_pick, q, List.set, evSs, evS.eq_1, evS.eq_2, evS.eq_3, evS.eq_4, evS.eq_5, evS.eq_6, evS.eq_7, evS.eq_10, evS.eq_11, evS.eq_12, evS.eq_13, evS.eq_14, evE.eq_1, evE.eq_2, evE.eq_3, evE.eq_4, evE.eq_5, evE.eq_6, evE.eq_7, evE.eq_8, evE.eq_9, evE.eq_10, evE.eq_11, evE.eq_12, evE.eq_13, evE.eq_14, evE.eq_15, evE.eq_16, evE.eq_17, evE.eq_18, evE.eq_19, evE.eq_20, evE.eq_21, evE.eq_22, evB, evEs, evC, evCB, evI, evO, R.bd_ok, R.bd_err, R.st_ok, R.of_some, rd_old, rd_frs, rd_vr, mkP_f, mkP_l, fzps_nil, fzps_old, fzps_frs, fzp_old, fzp_frs, rds_nil, rds_old, rds_frs, Option.map_some, cm_lt, cm_le, cm_gt, cm_ge, cm_eq, cm_ne, eq_int, op_add, op_sub, ix_tup, ix_lst, bf_len, len_tup, len_lst, ofV, okV, ite_self, List.map_cons, List.map_nil, List.getElem?_cons_zero, List.getElem?_cons_succ, List.cons_append, List.nil_append, List.length_cons, List.length_nil, ne_eq, not_true, not_false_eq_true, if_true, if_false, Bool.false_eq_true, List.replicate_succ, List.replicate_zero]
    simp only [evI, R.bd_ok, if_true]
    rw [el, R.bd_ok]
    simp only [rd, R.of_some, R.bd_ok]
    rw [if_pos l1]
    have fin : (wipeE ((fzp { EK sc a2 a3 a4 a5 a6 a7 a8 wd fine bad names k wr al s1 with sl := (EK sc a2 a3 a4 a5 a6 a7 a8 wd fine bad names k wr al s1).sl.set 16 (some (.lst b, false)) } (.old x)).sl) [16]) = (EK sc a2 a3 a4 a5 a6 a7 a8 wd fine bad names k wr al s1).sl := rfl
    rw [fin]
    have e2' := e2
    rw [List.append_assoc] at e2'
    exact e2'
end
end Ux

namespace Ux
open PySem PySem.Spec PyProof.Rows L2 GxR

def oki : Option Int → Option (D × Bool)
  | some i => some (.int i, false)
  | none => none
theorem forN_step {asg : En → D → Option En} {body : En → R Fl} {x : D} {xs : List D} {Γ Γ1 Γ2 : En} (h1 : asg Γ x = some Γ1) (h2 : body Γ1 = .ok (.nx Γ2)) : forN asg body (x :: xs) Γ = forN asg body xs Γ2 := by
  simp [forN, h1, h2, R.of, R.bd]
theorem sl_ext {a b : List (Option (D × Bool))} {w : Wd} (h : a = b) : ({ sl := a, w := w } : En) = { sl := b, w := w } := by rw [h]
abbrev I0 : MS := (.set 14 (.lc [16] (.name 16) .val (.cons (.var 11) .nil) .none (.call "_law_pick" (.cons (.var 1) (.cons (.var 16) .nil)))))
abbrev I1 : MS := (.set 15 (.op .add (.op .add (.slc (.var 10) .none (.some (.var 13))) (.lst (.cons (.ix (.var 14) (.var 13)) .nil))) (.slc (.var 10) (.some (.op .add (.var 13) (.con (.int 1)))) .none)))
abbrev I2 : MS := (.ite (.bop false (.cmp .ne (.call "_law_told" (.cons (.var 9) (.cons (.var 15) .nil))) (.ix (.var 12) (.var 13))) (.cons (.cmp .ne (.call "_law_told" (.cons (.var 9) (.cons (.op .add (.slc (.var 10) .none (.some (.var 13))) (.slc (.var 14) (.some (.var 13)) .none)) .nil))) (.ix (.var 12) (.var 13))) .nil)) (.cons (.ret (.con (.bl false))) .nil) .nil)
abbrev IB : MSs := (.cons (.set 14 (.lc [16] (.name 16) .val (.cons (.var 11) .nil) .none (.call "_law_pick" (.cons (.var 1) (.cons (.var 16) .nil))))) (.cons (.set 15 (.op .add (.op .add (.slc (.var 10) .none (.some (.var 13))) (.lst (.cons (.ix (.var 14) (.var 13)) .nil))) (.slc (.var 10) (.some (.op .add (.var 13) (.con (.int 1)))) .none))) (.cons (.ite (.bop false (.cmp .ne (.call "_law_told" (.cons (.var 9) (.cons (.var 15) .nil))) (.ix (.var 12) (.var 13))) (.cons (.cmp .ne (.call "_law_told" (.cons (.var 9) (.cons (.op .add (.slc (.var 10) .none (.some (.var 13))) (.slc (.var 14) (.some (.var 13)) .none)) .nil))) (.ix (.var 12) (.var 13))) .nil)) (.cons (.ret (.con (.bl false))) .nil) .nil) .nil)))
abbrev J0 : MS := (.ite (.cmp .ne (.call "_law_told" (.cons (.var 9) (.cons (.var 10) .nil))) (.con (.str ""))) (.cons (.ret (.con (.bl false))) .nil) .nil)
abbrev J1 : MS := (.fr (.name 13) .rng1 (.cons (.bfn .len (.var 10)) .nil) (.cons (.set 14 (.lc [16] (.name 16) .val (.cons (.var 11) .nil) .none (.call "_law_pick" (.cons (.var 1) (.cons (.var 16) .nil))))) (.cons (.set 15 (.op .add (.op .add (.slc (.var 10) .none (.some (.var 13))) (.lst (.cons (.ix (.var 14) (.var 13)) .nil))) (.slc (.var 10) (.some (.op .add (.var 13) (.con (.int 1)))) .none))) (.cons (.ite (.bop false (.cmp .ne (.call "_law_told" (.cons (.var 9) (.cons (.var 15) .nil))) (.ix (.var 12) (.var 13))) (.cons (.cmp .ne (.call "_law_told" (.cons (.var 9) (.cons (.op .add (.slc (.var 10) .none (.some (.var 13))) (.slc (.var 14) (.some (.var 13)) .none)) .nil))) (.ix (.var 12) (.var 13))) .nil)) (.cons (.ret (.con (.bl false))) .nil) .nil) .nil))))
section
variable {sc a2 a3 a4 a5 a6 a7 a8 : D} {wd : Str}
theorem s_wrong {fine : D} {bs : List (List D)} {names : D} {k wr al : Option (D × Bool)} {s : Strm} (hb : ∀ b ∈ bs, 0 < b.length ∧ b.length < 1000) (hl : bs.length ≤ 10) : ∃ ws s', Chosen ws bs ∧ evS E_law I0 (EK sc a2 a3 a4 a5 a6 a7 a8 (.str wd) fine (.lst (bs.map .lst)) names k wr al s) = .ok (.nx (EK sc a2 a3 a4 a5 a6 a7 a8 (.str wd) fine (.lst (bs.map .lst)) names k (some (.lst ws, true)) al s')) := by
  obtain ⟨ws, s', c, e⟩ := e_wrongs sc a2 a3 a4 a5 a6 a7 a8 (.str wd) fine (.lst (bs.map .lst)) names k al wr bs [] s hb (by simpa using hl)
  refine ⟨ws, s', c, ?_⟩
  have e1 := ev_lc0 (F := E_law) (i := 16) (k := .val) (es := .cons (.var 11) .nil) (el := .call "_law_pick" (.cons (.var 1) (.cons (.var 16) .nil))) (Γ := EK sc a2 a3 a4 a5 a6 a7 a8 (.str wd) fine (.lst (bs.map .lst)) names k wr al s) (Γ1 := EK sc a2 a3 a4 a5 a6 a7 a8 (.str wd) fine (.lst (bs.map .lst)) names k wr al s) (Γ2 := EK sc a2 a3 a4 a5 a6 a7 a8 (.str wd) fine (.lst (bs.map .lst)) names k wr al s') (ps := [.old (.lst (bs.map .lst))]) (ds := [.lst (bs.map .lst)]) (xs := bs.map .lst) (acc := ws) (by rfl) (by rfl) (by rfl) (by rfl) e (by rfl)
  rw [evS.eq_1, e1]
  rfl

theorem turn_1_0 {f0 : D} {b0 : List D} {m0 : Str} (R : RowOk wd [f0] [b0] [m0]) (hb : ∀ b ∈ [b0], 0 < b.length ∧ b.length < 1000) (hn : ∀ x ∈ [m0], NmOk x) (wr al : Option (List D)) (s : Strm) : ∃ ws al2 s2, evSs E_law IB (EK sc a2 a3 a4 a5 a6 a7 a8 (.str wd) (.lst [f0]) (.lst [.lst b0]) (.lst [.str m0]) (some (.int 0, false)) (ol wr) (ol al) s) = .ok (.nx (EK sc a2 a3 a4 a5 a6 a7 a8 (.str wd) (.lst [f0]) (.lst [.lst b0]) (.lst [.str m0]) (some (.int 0, false)) (ol (some ws)) (ol (some al2)) s2)) := by
  obtain ⟨ws, s1, c, e1⟩ := s_wrong (sc := sc) (a2 := a2) (a3 := a3) (a4 := a4) (a5 := a5) (a6 := a6) (a7 := a7) (a8 := a8) (wd := wd) (fine := .lst [f0]) (bs := [b0]) (names := .lst [.str m0]) (k := (some (.int 0, false))) (wr := ol wr) (al := ol al) (s := s) hb (by simp)
  match ws, c with
  | [w0], c =>
  have hw : w0 ∈ b0 := c.1
  have e2 : evS E_law I1 (EK sc a2 a3 a4 a5 a6 a7 a8 (.str wd) (.lst [f0]) (.lst [.lst b0]) (.lst [.str m0]) (some (.int 0, false)) (some (.lst [w0], true)) (ol al) s1) = .ok (.nx (EK sc a2 a3 a4 a5 a6 a7 a8 (.str wd) (.lst [f0]) (.lst [.lst b0]) (.lst [.str m0]) (some (.int 0, false)) (some (.lst [w0], true)) (some (.lst [w0], true)) s1)) := by cases al <;> kernel_rfl
  have n1 : evE E_law (.ix (.var 12) (.var 13)) (EK sc a2 a3 a4 a5 a6 a7 a8 (.str wd) (.lst [f0]) (.lst [.lst b0]) (.lst [.str m0]) (some (.int 0, false)) (some (.lst [w0], true)) (some (.lst [w0], true)) s1) = .ok (.old (.str m0), (EK sc a2 a3 a4 a5 a6 a7 a8 (.str wd) (.lst [f0]) (.lst [.lst b0]) (.lst [.str m0]) (some (.int 0, false)) (some (.lst [w0], true)) (some (.lst [w0], true)) s1)) := by kernel_rfl
  have t1 := ev_told (es := .cons (.var 9) (.cons (.var 15) .nil)) (Γ := (EK sc a2 a3 a4 a5 a6 a7 a8 (.str wd) (.lst [f0]) (.lst [.lst b0]) (.lst [.str m0]) (some (.int 0, false)) (some (.lst [w0], true)) (some (.lst [w0], true)) s1)) (ps := [.old (.str wd), .vr 15]) (ds := [.str wd, .lst [w0]]) (nm := m0) (s := s1) (by kernel_rfl) (by kernel_rfl) rfl (by kernel_rfl) (R.wrong 0 f0 b0 m0 rfl rfl rfl w0 hw [] rfl s1)
  have t2 := ev_told (es := .cons (.var 9) (.cons (.op .add (.slc (.var 10) .none (.some (.var 13))) (.slc (.var 14) (.some (.var 13)) .none)) .nil)) (Γ := (EK sc a2 a3 a4 a5 a6 a7 a8 (.str wd) (.lst [f0]) (.lst [.lst b0]) (.lst [.str m0]) (some (.int 0, false)) (some (.lst [w0], true)) (some (.lst [w0], true)) s1)) (ps := [.old (.str wd), .frs (.lst [w0])]) (ds := [.str wd, .lst [w0]]) (nm := m0) (s := s1) (by kernel_rfl) (by kernel_rfl) rfl (by kernel_rfl) (R.wrong 0 f0 b0 m0 rfl rfl rfl w0 hw [] rfl s1)
  have e3 : evS E_law I2 (EK sc a2 a3 a4 a5 a6 a7 a8 (.str wd) (.lst [f0]) (.lst [.lst b0]) (.lst [.str m0]) (some (.int 0, false)) (some (.lst [w0], true)) (some (.lst [w0], true)) s1) = .ok (.nx (EK sc a2 a3 a4 a5 a6 a7 a8 (.str wd) (.lst [f0]) (.lst [.lst b0]) (.lst [.str m0]) (some (.int 0, false)) (some (.lst [w0], true)) (some (.lst [w0], true)) s1)) := ev_if2 (ev_ne (hn _ (by simp)) t1 n1) (ev_ne (hn _ (by simp)) t2 n1)
  refine ⟨[w0], [w0], s1, ?_⟩
  show evSs E_law (.cons I0 (.cons I1 (.cons I2 .nil))) _ = _
  refine (nxS e1).trans ?_
  refine (nxS e2).trans ?_
  refine (nxS e3).trans ?_
  rfl

theorem row_1 {f0 : D} {b0 : List D} {m0 : Str} (R : RowOk wd [f0] [b0] [m0]) (hb : ∀ b ∈ [b0], 0 < b.length ∧ b.length < 1000) (hn : ∀ x ∈ [m0], NmOk x) (hne : NmOk "") (k : Option Int) (wr al : Option (List D)) (s : Strm) : ∃ k2 wr2 al2 s2, evSs E_law (.cons J0 (.cons J1 .nil)) (EK sc a2 a3 a4 a5 a6 a7 a8 (.str wd) (.lst [f0]) (.lst [.lst b0]) (.lst [.str m0]) (oki k) (ol wr) (ol al) s) = .ok (.nx (EK sc a2 a3 a4 a5 a6 a7 a8 (.str wd) (.lst [f0]) (.lst [.lst b0]) (.lst [.str m0]) (oki k2) (ol wr2) (ol al2) s2)) := by
  have t0 := ev_told (es := .cons (.var 9) (.cons (.var 10) .nil)) (Γ := (EK sc a2 a3 a4 a5 a6 a7 a8 (.str wd) (.lst [f0]) (.lst [.lst b0]) (.lst [.str m0]) (oki k) (ol wr) (ol al) s)) (ps := [.old (.str wd), .old (.lst [f0])]) (ds := [.str wd, .lst [f0]]) (nm := "") (s := s) (by kernel_rfl) (by kernel_rfl) rfl (by cases k <;> cases wr <;> cases al <;> kernel_rfl) (R.good s)
  have n0 : evE E_law (.con (.str "")) (EK sc a2 a3 a4 a5 a6 a7 a8 (.str wd) (.lst [f0]) (.lst [.lst b0]) (.lst [.str m0]) (oki k) (ol wr) (ol al) s) = .ok (.old (.str ""), (EK sc a2 a3 a4 a5 a6 a7 a8 (.str wd) (.lst [f0]) (.lst [.lst b0]) (.lst [.str m0]) (oki k) (ol wr) (ol al) s)) := by kernel_rfl
  have e0 : evS E_law J0 (EK sc a2 a3 a4 a5 a6 a7 a8 (.str wd) (.lst [f0]) (.lst [.lst b0]) (.lst [.str m0]) (oki k) (ol wr) (ol al) s) = .ok (.nx (EK sc a2 a3 a4 a5 a6 a7 a8 (.str wd) (.lst [f0]) (.lst [.lst b0]) (.lst [.str m0]) (oki k) (ol wr) (ol al) s)) := ev_if1 (ev_ne hne t0 n0)
  obtain ⟨ws0, al0, s0, q0⟩ := turn_1_0 (sc := sc) (a2 := a2) (a3 := a3) (a4 := a4) (a5 := a5) (a6 := a6) (a7 := a7) (a8 := a8) R hb hn wr al s
  have ef : forN (fun Γ d => asg Γ (.name 13) d) (fun Γ => evSs E_law IB Γ) (rgD 0 1) (EK sc a2 a3 a4 a5 a6 a7 a8 (.str wd) (.lst [f0]) (.lst [.lst b0]) (.lst [.str m0]) (oki k) (ol wr) (ol al) s) = .ok (.nx (EK sc a2 a3 a4 a5 a6 a7 a8 (.str wd) (.lst [f0]) (.lst [.lst b0]) (.lst [.str m0]) (oki (some 0)) (ol (some ws0)) (ol (some al0)) s0)) := by
    show forN _ _ [.int 0] _ = _
    refine (forN_step asg_nm q0).trans ?_
    rfl
  refine ⟨some 0, some ws0, some al0, s0, ?_⟩
  refine (nxS e0).trans ?_
  have e1 : evS E_law J1 (EK sc a2 a3 a4 a5 a6 a7 a8 (.str wd) (.lst [f0]) (.lst [.lst b0]) (.lst [.str m0]) (oki k) (ol wr) (ol al) s) = .ok (.nx (EK sc a2 a3 a4 a5 a6 a7 a8 (.str wd) (.lst [f0]) (.lst [.lst b0]) (.lst [.str m0]) (oki (some 0)) (ol (some ws0)) (ol (some al0)) s0)) := ev_for (Γ1 := (EK sc a2 a3 a4 a5 a6 a7 a8 (.str wd) (.lst [f0]) (.lst [.lst b0]) (.lst [.str m0]) (oki k) (ol wr) (ol al) s)) (ps := [.old (.int 1)]) (ds := [.int 1]) (xs := rgD 0 1) (by kernel_rfl) (by kernel_rfl) (src_rng (by omega) (by omega)) ef
  refine (nxS e1).trans ?_
  rfl
theorem turn_2_0 {f0 f1 : D} {b0 b1 : List D} {m0 m1 : Str} (R : RowOk wd [f0, f1] [b0, b1] [m0, m1]) (hb : ∀ b ∈ [b0, b1], 0 < b.length ∧ b.length < 1000) (hn : ∀ x ∈ [m0, m1], NmOk x) (wr al : Option (List D)) (s : Strm) : ∃ ws al2 s2, evSs E_law IB (EK sc a2 a3 a4 a5 a6 a7 a8 (.str wd) (.lst [f0, f1]) (.lst [.lst b0, .lst b1]) (.lst [.str m0, .str m1]) (some (.int 0, false)) (ol wr) (ol al) s) = .ok (.nx (EK sc a2 a3 a4 a5 a6 a7 a8 (.str wd) (.lst [f0, f1]) (.lst [.lst b0, .lst b1]) (.lst [.str m0, .str m1]) (some (.int 0, false)) (ol (some ws)) (ol (some al2)) s2)) := by
  obtain ⟨ws, s1, c, e1⟩ := s_wrong (sc := sc) (a2 := a2) (a3 := a3) (a4 := a4) (a5 := a5) (a6 := a6) (a7 := a7) (a8 := a8) (wd := wd) (fine := .lst [f0, f1]) (bs := [b0, b1]) (names := .lst [.str m0, .str m1]) (k := (some (.int 0, false))) (wr := ol wr) (al := ol al) (s := s) hb (by simp)
  match ws, c with
  | [w0, w1], c =>
  have hw : w0 ∈ b0 := c.1
  have e2 : evS E_law I1 (EK sc a2 a3 a4 a5 a6 a7 a8 (.str wd) (.lst [f0, f1]) (.lst [.lst b0, .lst b1]) (.lst [.str m0, .str m1]) (some (.int 0, false)) (some (.lst [w0, w1], true)) (ol al) s1) = .ok (.nx (EK sc a2 a3 a4 a5 a6 a7 a8 (.str wd) (.lst [f0, f1]) (.lst [.lst b0, .lst b1]) (.lst [.str m0, .str m1]) (some (.int 0, false)) (some (.lst [w0, w1], true)) (some (.lst [w0, f1], true)) s1)) := by cases al <;> kernel_rfl
  have n1 : evE E_law (.ix (.var 12) (.var 13)) (EK sc a2 a3 a4 a5 a6 a7 a8 (.str wd) (.lst [f0, f1]) (.lst [.lst b0, .lst b1]) (.lst [.str m0, .str m1]) (some (.int 0, false)) (some (.lst [w0, w1], true)) (some (.lst [w0, f1], true)) s1) = .ok (.old (.str m0), (EK sc a2 a3 a4 a5 a6 a7 a8 (.str wd) (.lst [f0, f1]) (.lst [.lst b0, .lst b1]) (.lst [.str m0, .str m1]) (some (.int 0, false)) (some (.lst [w0, w1], true)) (some (.lst [w0, f1], true)) s1)) := by kernel_rfl
  have t1 := ev_told (es := .cons (.var 9) (.cons (.var 15) .nil)) (Γ := (EK sc a2 a3 a4 a5 a6 a7 a8 (.str wd) (.lst [f0, f1]) (.lst [.lst b0, .lst b1]) (.lst [.str m0, .str m1]) (some (.int 0, false)) (some (.lst [w0, w1], true)) (some (.lst [w0, f1], true)) s1)) (ps := [.old (.str wd), .vr 15]) (ds := [.str wd, .lst [w0, f1]]) (nm := m0) (s := s1) (by kernel_rfl) (by kernel_rfl) rfl (by kernel_rfl) (R.wrong 0 f0 b0 m0 rfl rfl rfl w0 hw [f1] rfl s1)
  have t2 := ev_told (es := .cons (.var 9) (.cons (.op .add (.slc (.var 10) .none (.some (.var 13))) (.slc (.var 14) (.some (.var 13)) .none)) .nil)) (Γ := (EK sc a2 a3 a4 a5 a6 a7 a8 (.str wd) (.lst [f0, f1]) (.lst [.lst b0, .lst b1]) (.lst [.str m0, .str m1]) (some (.int 0, false)) (some (.lst [w0, w1], true)) (some (.lst [w0, f1], true)) s1)) (ps := [.old (.str wd), .frs (.lst [w0, w1])]) (ds := [.str wd, .lst [w0, w1]]) (nm := m0) (s := s1) (by kernel_rfl) (by kernel_rfl) rfl (by kernel_rfl) (R.wrong 0 f0 b0 m0 rfl rfl rfl w0 hw [w1] rfl s1)
  have e3 : evS E_law I2 (EK sc a2 a3 a4 a5 a6 a7 a8 (.str wd) (.lst [f0, f1]) (.lst [.lst b0, .lst b1]) (.lst [.str m0, .str m1]) (some (.int 0, false)) (some (.lst [w0, w1], true)) (some (.lst [w0, f1], true)) s1) = .ok (.nx (EK sc a2 a3 a4 a5 a6 a7 a8 (.str wd) (.lst [f0, f1]) (.lst [.lst b0, .lst b1]) (.lst [.str m0, .str m1]) (some (.int 0, false)) (some (.lst [w0, w1], true)) (some (.lst [w0, f1], true)) s1)) := ev_if2 (ev_ne (hn _ (by simp)) t1 n1) (ev_ne (hn _ (by simp)) t2 n1)
  refine ⟨[w0, w1], [w0, f1], s1, ?_⟩
  show evSs E_law (.cons I0 (.cons I1 (.cons I2 .nil))) _ = _
  refine (nxS e1).trans ?_
  refine (nxS e2).trans ?_
  refine (nxS e3).trans ?_
  rfl

theorem turn_2_1 {f0 f1 : D} {b0 b1 : List D} {m0 m1 : Str} (R : RowOk wd [f0, f1] [b0, b1] [m0, m1]) (hb : ∀ b ∈ [b0, b1], 0 < b.length ∧ b.length < 1000) (hn : ∀ x ∈ [m0, m1], NmOk x) (wr al : Option (List D)) (s : Strm) : ∃ ws al2 s2, evSs E_law IB (EK sc a2 a3 a4 a5 a6 a7 a8 (.str wd) (.lst [f0, f1]) (.lst [.lst b0, .lst b1]) (.lst [.str m0, .str m1]) (some (.int 1, false)) (ol wr) (ol al) s) = .ok (.nx (EK sc a2 a3 a4 a5 a6 a7 a8 (.str wd) (.lst [f0, f1]) (.lst [.lst b0, .lst b1]) (.lst [.str m0, .str m1]) (some (.int 1, false)) (ol (some ws)) (ol (some al2)) s2)) := by
  obtain ⟨ws, s1, c, e1⟩ := s_wrong (sc := sc) (a2 := a2) (a3 := a3) (a4 := a4) (a5 := a5) (a6 := a6) (a7 := a7) (a8 := a8) (wd := wd) (fine := .lst [f0, f1]) (bs := [b0, b1]) (names := .lst [.str m0, .str m1]) (k := (some (.int 1, false))) (wr := ol wr) (al := ol al) (s := s) hb (by simp)
  match ws, c with
  | [w0, w1], c =>
  have hw : w1 ∈ b1 := c.2.1
  have e2 : evS E_law I1 (EK sc a2 a3 a4 a5 a6 a7 a8 (.str wd) (.lst [f0, f1]) (.lst [.lst b0, .lst b1]) (.lst [.str m0, .str m1]) (some (.int 1, false)) (some (.lst [w0, w1], true)) (ol al) s1) = .ok (.nx (EK sc a2 a3 a4 a5 a6 a7 a8 (.str wd) (.lst [f0, f1]) (.lst [.lst b0, .lst b1]) (.lst [.str m0, .str m1]) (some (.int 1, false)) (some (.lst [w0, w1], true)) (some (.lst [f0, w1], true)) s1)) := by cases al <;> kernel_rfl
  have n1 : evE E_law (.ix (.var 12) (.var 13)) (EK sc a2 a3 a4 a5 a6 a7 a8 (.str wd) (.lst [f0, f1]) (.lst [.lst b0, .lst b1]) (.lst [.str m0, .str m1]) (some (.int 1, false)) (some (.lst [w0, w1], true)) (some (.lst [f0, w1], true)) s1) = .ok (.old (.str m1), (EK sc a2 a3 a4 a5 a6 a7 a8 (.str wd) (.lst [f0, f1]) (.lst [.lst b0, .lst b1]) (.lst [.str m0, .str m1]) (some (.int 1, false)) (some (.lst [w0, w1], true)) (some (.lst [f0, w1], true)) s1)) := by kernel_rfl
  have t1 := ev_told (es := .cons (.var 9) (.cons (.var 15) .nil)) (Γ := (EK sc a2 a3 a4 a5 a6 a7 a8 (.str wd) (.lst [f0, f1]) (.lst [.lst b0, .lst b1]) (.lst [.str m0, .str m1]) (some (.int 1, false)) (some (.lst [w0, w1], true)) (some (.lst [f0, w1], true)) s1)) (ps := [.old (.str wd), .vr 15]) (ds := [.str wd, .lst [f0, w1]]) (nm := m1) (s := s1) (by kernel_rfl) (by kernel_rfl) rfl (by kernel_rfl) (R.wrong 1 f1 b1 m1 rfl rfl rfl w1 hw [] rfl s1)
  have t2 := ev_told (es := .cons (.var 9) (.cons (.op .add (.slc (.var 10) .none (.some (.var 13))) (.slc (.var 14) (.some (.var 13)) .none)) .nil)) (Γ := (EK sc a2 a3 a4 a5 a6 a7 a8 (.str wd) (.lst [f0, f1]) (.lst [.lst b0, .lst b1]) (.lst [.str m0, .str m1]) (some (.int 1, false)) (some (.lst [w0, w1], true)) (some (.lst [f0, w1], true)) s1)) (ps := [.old (.str wd), .frs (.lst [f0, w1])]) (ds := [.str wd, .lst [f0, w1]]) (nm := m1) (s := s1) (by kernel_rfl) (by kernel_rfl) rfl (by kernel_rfl) (R.wrong 1 f1 b1 m1 rfl rfl rfl w1 hw [] rfl s1)
  have e3 : evS E_law I2 (EK sc a2 a3 a4 a5 a6 a7 a8 (.str wd) (.lst [f0, f1]) (.lst [.lst b0, .lst b1]) (.lst [.str m0, .str m1]) (some (.int 1, false)) (some (.lst [w0, w1], true)) (some (.lst [f0, w1], true)) s1) = .ok (.nx (EK sc a2 a3 a4 a5 a6 a7 a8 (.str wd) (.lst [f0, f1]) (.lst [.lst b0, .lst b1]) (.lst [.str m0, .str m1]) (some (.int 1, false)) (some (.lst [w0, w1], true)) (some (.lst [f0, w1], true)) s1)) := ev_if2 (ev_ne (hn _ (by simp)) t1 n1) (ev_ne (hn _ (by simp)) t2 n1)
  refine ⟨[w0, w1], [f0, w1], s1, ?_⟩
  show evSs E_law (.cons I0 (.cons I1 (.cons I2 .nil))) _ = _
  refine (nxS e1).trans ?_
  refine (nxS e2).trans ?_
  refine (nxS e3).trans ?_
  rfl

theorem row_2 {f0 f1 : D} {b0 b1 : List D} {m0 m1 : Str} (R : RowOk wd [f0, f1] [b0, b1] [m0, m1]) (hb : ∀ b ∈ [b0, b1], 0 < b.length ∧ b.length < 1000) (hn : ∀ x ∈ [m0, m1], NmOk x) (hne : NmOk "") (k : Option Int) (wr al : Option (List D)) (s : Strm) : ∃ k2 wr2 al2 s2, evSs E_law (.cons J0 (.cons J1 .nil)) (EK sc a2 a3 a4 a5 a6 a7 a8 (.str wd) (.lst [f0, f1]) (.lst [.lst b0, .lst b1]) (.lst [.str m0, .str m1]) (oki k) (ol wr) (ol al) s) = .ok (.nx (EK sc a2 a3 a4 a5 a6 a7 a8 (.str wd) (.lst [f0, f1]) (.lst [.lst b0, .lst b1]) (.lst [.str m0, .str m1]) (oki k2) (ol wr2) (ol al2) s2)) := by
  have t0 := ev_told (es := .cons (.var 9) (.cons (.var 10) .nil)) (Γ := (EK sc a2 a3 a4 a5 a6 a7 a8 (.str wd) (.lst [f0, f1]) (.lst [.lst b0, .lst b1]) (.lst [.str m0, .str m1]) (oki k) (ol wr) (ol al) s)) (ps := [.old (.str wd), .old (.lst [f0, f1])]) (ds := [.str wd, .lst [f0, f1]]) (nm := "") (s := s) (by kernel_rfl) (by kernel_rfl) rfl (by cases k <;> cases wr <;> cases al <;> kernel_rfl) (R.good s)
  have n0 : evE E_law (.con (.str "")) (EK sc a2 a3 a4 a5 a6 a7 a8 (.str wd) (.lst [f0, f1]) (.lst [.lst b0, .lst b1]) (.lst [.str m0, .str m1]) (oki k) (ol wr) (ol al) s) = .ok (.old (.str ""), (EK sc a2 a3 a4 a5 a6 a7 a8 (.str wd) (.lst [f0, f1]) (.lst [.lst b0, .lst b1]) (.lst [.str m0, .str m1]) (oki k) (ol wr) (ol al) s)) := by kernel_rfl
  have e0 : evS E_law J0 (EK sc a2 a3 a4 a5 a6 a7 a8 (.str wd) (.lst [f0, f1]) (.lst [.lst b0, .lst b1]) (.lst [.str m0, .str m1]) (oki k) (ol wr) (ol al) s) = .ok (.nx (EK sc a2 a3 a4 a5 a6 a7 a8 (.str wd) (.lst [f0, f1]) (.lst [.lst b0, .lst b1]) (.lst [.str m0, .str m1]) (oki k) (ol wr) (ol al) s)) := ev_if1 (ev_ne hne t0 n0)
  obtain ⟨ws0, al0, s0, q0⟩ := turn_2_0 (sc := sc) (a2 := a2) (a3 := a3) (a4 := a4) (a5 := a5) (a6 := a6) (a7 := a7) (a8 := a8) R hb hn wr al s
  obtain ⟨ws1, al1, s1, q1⟩ := turn_2_1 (sc := sc) (a2 := a2) (a3 := a3) (a4 := a4) (a5 := a5) (a6 := a6) (a7 := a7) (a8 := a8) R hb hn (some ws0) (some al0) s0
  have ef : forN (fun Γ d => asg Γ (.name 13) d) (fun Γ => evSs E_law IB Γ) (rgD 0 2) (EK sc a2 a3 a4 a5 a6 a7 a8 (.str wd) (.lst [f0, f1]) (.lst [.lst b0, .lst b1]) (.lst [.str m0, .str m1]) (oki k) (ol wr) (ol al) s) = .ok (.nx (EK sc a2 a3 a4 a5 a6 a7 a8 (.str wd) (.lst [f0, f1]) (.lst [.lst b0, .lst b1]) (.lst [.str m0, .str m1]) (oki (some 1)) (ol (some ws1)) (ol (some al1)) s1)) := by
    show forN _ _ [.int 0, .int 1] _ = _
    refine (forN_step asg_nm q0).trans ?_
    refine (forN_step asg_nm q1).trans ?_
    rfl
  refine ⟨some 1, some ws1, some al1, s1, ?_⟩
  refine (nxS e0).trans ?_
  have e1 : evS E_law J1 (EK sc a2 a3 a4 a5 a6 a7 a8 (.str wd) (.lst [f0, f1]) (.lst [.lst b0, .lst b1]) (.lst [.str m0, .str m1]) (oki k) (ol wr) (ol al) s) = .ok (.nx (EK sc a2 a3 a4 a5 a6 a7 a8 (.str wd) (.lst [f0, f1]) (.lst [.lst b0, .lst b1]) (.lst [.str m0, .str m1]) (oki (some 1)) (ol (some ws1)) (ol (some al1)) s1)) := ev_for (Γ1 := (EK sc a2 a3 a4 a5 a6 a7 a8 (.str wd) (.lst [f0, f1]) (.lst [.lst b0, .lst b1]) (.lst [.str m0, .str m1]) (oki k) (ol wr) (ol al) s)) (ps := [.old (.int 2)]) (ds := [.int 2]) (xs := rgD 0 2) (by kernel_rfl) (by kernel_rfl) (src_rng (by omega) (by omega)) ef
  refine (nxS e1).trans ?_
  rfl
theorem turn_3_0 {f0 f1 f2 : D} {b0 b1 b2 : List D} {m0 m1 m2 : Str} (R : RowOk wd [f0, f1, f2] [b0, b1, b2] [m0, m1, m2]) (hb : ∀ b ∈ [b0, b1, b2], 0 < b.length ∧ b.length < 1000) (hn : ∀ x ∈ [m0, m1, m2], NmOk x) (wr al : Option (List D)) (s : Strm) : ∃ ws al2 s2, evSs E_law IB (EK sc a2 a3 a4 a5 a6 a7 a8 (.str wd) (.lst [f0, f1, f2]) (.lst [.lst b0, .lst b1, .lst b2]) (.lst [.str m0, .str m1, .str m2]) (some (.int 0, false)) (ol wr) (ol al) s) = .ok (.nx (EK sc a2 a3 a4 a5 a6 a7 a8 (.str wd) (.lst [f0, f1, f2]) (.lst [.lst b0, .lst b1, .lst b2]) (.lst [.str m0, .str m1, .str m2]) (some (.int 0, false)) (ol (some ws)) (ol (some al2)) s2)) := by
  obtain ⟨ws, s1, c, e1⟩ := s_wrong (sc := sc) (a2 := a2) (a3 := a3) (a4 := a4) (a5 := a5) (a6 := a6) (a7 := a7) (a8 := a8) (wd := wd) (fine := .lst [f0, f1, f2]) (bs := [b0, b1, b2]) (names := .lst [.str m0, .str m1, .str m2]) (k := (some (.int 0, false))) (wr := ol wr) (al := ol al) (s := s) hb (by simp)
  match ws, c with
  | [w0, w1, w2], c =>
  have hw : w0 ∈ b0 := c.1
  have e2 : evS E_law I1 (EK sc a2 a3 a4 a5 a6 a7 a8 (.str wd) (.lst [f0, f1, f2]) (.lst [.lst b0, .lst b1, .lst b2]) (.lst [.str m0, .str m1, .str m2]) (some (.int 0, false)) (some (.lst [w0, w1, w2], true)) (ol al) s1) = .ok (.nx (EK sc a2 a3 a4 a5 a6 a7 a8 (.str wd) (.lst [f0, f1, f2]) (.lst [.lst b0, .lst b1, .lst b2]) (.lst [.str m0, .str m1, .str m2]) (some (.int 0, false)) (some (.lst [w0, w1, w2], true)) (some (.lst [w0, f1, f2], true)) s1)) := by cases al <;> kernel_rfl
  have n1 : evE E_law (.ix (.var 12) (.var 13)) (EK sc a2 a3 a4 a5 a6 a7 a8 (.str wd) (.lst [f0, f1, f2]) (.lst [.lst b0, .lst b1, .lst b2]) (.lst [.str m0, .str m1, .str m2]) (some (.int 0, false)) (some (.lst [w0, w1, w2], true)) (some (.lst [w0, f1, f2], true)) s1) = .ok (.old (.str m0), (EK sc a2 a3 a4 a5 a6 a7 a8 (.str wd) (.lst [f0, f1, f2]) (.lst [.lst b0, .lst b1, .lst b2]) (.lst [.str m0, .str m1, .str m2]) (some (.int 0, false)) (some (.lst [w0, w1, w2], true)) (some (.lst [w0, f1, f2], true)) s1)) := by kernel_rfl
  have t1 := ev_told (es := .cons (.var 9) (.cons (.var 15) .nil)) (Γ := (EK sc a2 a3 a4 a5 a6 a7 a8 (.str wd) (.lst [f0, f1, f2]) (.lst [.lst b0, .lst b1, .lst b2]) (.lst [.str m0, .str m1, .str m2]) (some (.int 0, false)) (some (.lst [w0, w1, w2], true)) (some (.lst [w0, f1, f2], true)) s1)) (ps := [.old (.str wd), .vr 15]) (ds := [.str wd, .lst [w0, f1, f2]]) (nm := m0) (s := s1) (by kernel_rfl) (by kernel_rfl) rfl (by kernel_rfl) (R.wrong 0 f0 b0 m0 rfl rfl rfl w0 hw [f1, f2] rfl s1)
  have t2 := ev_told (es := .cons (.var 9) (.cons (.op .add (.slc (.var 10) .none (.some (.var 13))) (.slc (.var 14) (.some (.var 13)) .none)) .nil)) (Γ := (EK sc a2 a3 a4 a5 a6 a7 a8 (.str wd) (.lst [f0, f1, f2]) (.lst [.lst b0, .lst b1, .lst b2]) (.lst [.str m0, .str m1, .str m2]) (some (.int 0, false)) (some (.lst [w0, w1, w2], true)) (some (.lst [w0, f1, f2], true)) s1)) (ps := [.old (.str wd), .frs (.lst [w0, w1, w2])]) (ds := [.str wd, .lst [w0, w1, w2]]) (nm := m0) (s := s1) (by kernel_rfl) (by kernel_rfl) rfl (by kernel_rfl) (R.wrong 0 f0 b0 m0 rfl rfl rfl w0 hw [w1, w2] rfl s1)
  have e3 : evS E_law I2 (EK sc a2 a3 a4 a5 a6 a7 a8 (.str wd) (.lst [f0, f1, f2]) (.lst [.lst b0, .lst b1, .lst b2]) (.lst [.str m0, .str m1, .str m2]) (some (.int 0, false)) (some (.lst [w0, w1, w2], true)) (some (.lst [w0, f1, f2], true)) s1) = .ok (.nx (EK sc a2 a3 a4 a5 a6 a7 a8 (.str wd) (.lst [f0, f1, f2]) (.lst [.lst b0, .lst b1, .lst b2]) (.lst [.str m0, .str m1, .str m2]) (some (.int 0, false)) (some (.lst [w0, w1, w2], true)) (some (.lst [w0, f1, f2], true)) s1)) := ev_if2 (ev_ne (hn _ (by simp)) t1 n1) (ev_ne (hn _ (by simp)) t2 n1)
  refine ⟨[w0, w1, w2], [w0, f1, f2], s1, ?_⟩
  show evSs E_law (.cons I0 (.cons I1 (.cons I2 .nil))) _ = _
  refine (nxS e1).trans ?_
  refine (nxS e2).trans ?_
  refine (nxS e3).trans ?_
  rfl

theorem turn_3_1 {f0 f1 f2 : D} {b0 b1 b2 : List D} {m0 m1 m2 : Str} (R : RowOk wd [f0, f1, f2] [b0, b1, b2] [m0, m1, m2]) (hb : ∀ b ∈ [b0, b1, b2], 0 < b.length ∧ b.length < 1000) (hn : ∀ x ∈ [m0, m1, m2], NmOk x) (wr al : Option (List D)) (s : Strm) : ∃ ws al2 s2, evSs E_law IB (EK sc a2 a3 a4 a5 a6 a7 a8 (.str wd) (.lst [f0, f1, f2]) (.lst [.lst b0, .lst b1, .lst b2]) (.lst [.str m0, .str m1, .str m2]) (some (.int 1, false)) (ol wr) (ol al) s) = .ok (.nx (EK sc a2 a3 a4 a5 a6 a7 a8 (.str wd) (.lst [f0, f1, f2]) (.lst [.lst b0, .lst b1, .lst b2]) (.lst [.str m0, .str m1, .str m2]) (some (.int 1, false)) (ol (some ws)) (ol (some al2)) s2)) := by
  obtain ⟨ws, s1, c, e1⟩ := s_wrong (sc := sc) (a2 := a2) (a3 := a3) (a4 := a4) (a5 := a5) (a6 := a6) (a7 := a7) (a8 := a8) (wd := wd) (fine := .lst [f0, f1, f2]) (bs := [b0, b1, b2]) (names := .lst [.str m0, .str m1, .str m2]) (k := (some (.int 1, false))) (wr := ol wr) (al := ol al) (s := s) hb (by simp)
  match ws, c with
  | [w0, w1, w2], c =>
  have hw : w1 ∈ b1 := c.2.1
  have e2 : evS E_law I1 (EK sc a2 a3 a4 a5 a6 a7 a8 (.str wd) (.lst [f0, f1, f2]) (.lst [.lst b0, .lst b1, .lst b2]) (.lst [.str m0, .str m1, .str m2]) (some (.int 1, false)) (some (.lst [w0, w1, w2], true)) (ol al) s1) = .ok (.nx (EK sc a2 a3 a4 a5 a6 a7 a8 (.str wd) (.lst [f0, f1, f2]) (.lst [.lst b0, .lst b1, .lst b2]) (.lst [.str m0, .str m1, .str m2]) (some (.int 1, false)) (some (.lst [w0, w1, w2], true)) (some (.lst [f0, w1, f2], true)) s1)) := by cases al <;> kernel_rfl
  have n1 : evE E_law (.ix (.var 12) (.var 13)) (EK sc a2 a3 a4 a5 a6 a7 a8 (.str wd) (.lst [f0, f1, f2]) (.lst [.lst b0, .lst b1, .lst b2]) (.lst [.str m0, .str m1, .str m2]) (some (.int 1, false)) (some (.lst [w0, w1, w2], true)) (some (.lst [f0, w1, f2], true)) s1) = .ok (.old (.str m1), (EK sc a2 a3 a4 a5 a6 a7 a8 (.str wd) (.lst [f0, f1, f2]) (.lst [.lst b0, .lst b1, .lst b2]) (.lst [.str m0, .str m1, .str m2]) (some (.int 1, false)) (some (.lst [w0, w1, w2], true)) (some (.lst [f0, w1, f2], true)) s1)) := by kernel_rfl
  have t1 := ev_told (es := .cons (.var 9) (.cons (.var 15) .nil)) (Γ := (EK sc a2 a3 a4 a5 a6 a7 a8 (.str wd) (.lst [f0, f1, f2]) (.lst [.lst b0, .lst b1, .lst b2]) (.lst [.str m0, .str m1, .str m2]) (some (.int 1, false)) (some (.lst [w0, w1, w2], true)) (some (.lst [f0, w1, f2], true)) s1)) (ps := [.old (.str wd), .vr 15]) (ds := [.str wd, .lst [f0, w1, f2]]) (nm := m1) (s := s1) (by kernel_rfl) (by kernel_rfl) rfl (by kernel_rfl) (R.wrong 1 f1 b1 m1 rfl rfl rfl w1 hw [f2] rfl s1)
  have t2 := ev_told (es := .cons (.var 9) (.cons (.op .add (.slc (.var 10) .none (.some (.var 13))) (.slc (.var 14) (.some (.var 13)) .none)) .nil)) (Γ := (EK sc a2 a3 a4 a5 a6 a7 a8 (.str wd) (.lst [f0, f1, f2]) (.lst [.lst b0, .lst b1, .lst b2]) (.lst [.str m0, .str m1, .str m2]) (some (.int 1, false)) (some (.lst [w0, w1, w2], true)) (some (.lst [f0, w1, f2], true)) s1)) (ps := [.old (.str wd), .frs (.lst [f0, w1, w2])]) (ds := [.str wd, .lst [f0, w1, w2]]) (nm := m1) (s := s1) (by kernel_rfl) (by kernel_rfl) rfl (by kernel_rfl) (R.wrong 1 f1 b1 m1 rfl rfl rfl w1 hw [w2] rfl s1)
  have e3 : evS E_law I2 (EK sc a2 a3 a4 a5 a6 a7 a8 (.str wd) (.lst [f0, f1, f2]) (.lst [.lst b0, .lst b1, .lst b2]) (.lst [.str m0, .str m1, .str m2]) (some (.int 1, false)) (some (.lst [w0, w1, w2], true)) (some (.lst [f0, w1, f2], true)) s1) = .ok (.nx (EK sc a2 a3 a4 a5 a6 a7 a8 (.str wd) (.lst [f0, f1, f2]) (.lst [.lst b0, .lst b1, .lst b2]) (.lst [.str m0, .str m1, .str m2]) (some (.int 1, false)) (some (.lst [w0, w1, w2], true)) (some (.lst [f0, w1, f2], true)) s1)) := ev_if2 (ev_ne (hn _ (by simp)) t1 n1) (ev_ne (hn _ (by simp)) t2 n1)
  refine ⟨[w0, w1, w2], [f0, w1, f2], s1, ?_⟩
  show evSs E_law (.cons I0 (.cons I1 (.cons I2 .nil))) _ = _
  refine (nxS e1).trans ?_
  refine (nxS e2).trans ?_
  refine (nxS e3).trans ?_
  rfl

theorem turn_3_2 {f0 f1 f2 : D} {b0 b1 b2 : List D} {m0 m1 m2 : Str} (R : RowOk wd [f0, f1, f2] [b0, b1, b2] [m0, m1, m2]) (hb : ∀ b ∈ [b0, b1, b2], 0 < b.length ∧ b.length < 1000) (hn : ∀ x ∈ [m0, m1, m2], NmOk x) (wr al : Option (List D)) (s : Strm) : ∃ ws al2 s2, evSs E_law IB (EK sc a2 a3 a4 a5 a6 a7 a8 (.str wd) (.lst [f0, f1, f2]) (.lst [.lst b0, .lst b1, .lst b2]) (.lst [.str m0, .str m1, .str m2]) (some (.int 2, false)) (ol wr) (ol al) s) = .ok (.nx (EK sc a2 a3 a4 a5 a6 a7 a8 (.str wd) (.lst [f0, f1, f2]) (.lst [.lst b0, .lst b1, .lst b2]) (.lst [.str m0, .str m1, .str m2]) (some (.int 2, false)) (ol (some ws)) (ol (some al2)) s2)) := by
  obtain ⟨ws, s1, c, e1⟩ := s_wrong (sc := sc) (a2 := a2) (a3 := a3) (a4 := a4) (a5 := a5) (a6 := a6) (a7 := a7) (a8 := a8) (wd := wd) (fine := .lst [f0, f1, f2]) (bs := [b0, b1, b2]) (names := .lst [.str m0, .str m1, .str m2]) (k := (some (.int 2, false))) (wr := ol wr) (al := ol al) (s := s) hb (by simp)
  match ws, c with
  | [w0, w1, w2], c =>
  have hw : w2 ∈ b2 := c.2.2.1
  have e2 : evS E_law I1 (EK sc a2 a3 a4 a5 a6 a7 a8 (.str wd) (.lst [f0, f1, f2]) (.lst [.lst b0, .lst b1, .lst b2]) (.lst [.str m0, .str m1, .str m2]) (some (.int 2, false)) (some (.lst [w0, w1, w2], true)) (ol al) s1) = .ok (.nx (EK sc a2 a3 a4 a5 a6 a7 a8 (.str wd) (.lst [f0, f1, f2]) (.lst [.lst b0, .lst b1, .lst b2]) (.lst [.str m0, .str m1, .str m2]) (some (.int 2, false)) (some (.lst [w0, w1, w2], true)) (some (.lst [f0, f1, w2], true)) s1)) := by cases al <;> kernel_rfl
  have n1 : evE E_law (.ix (.var 12) (.var 13)) (EK sc a2 a3 a4 a5 a6 a7 a8 (.str wd) (.lst [f0, f1, f2]) (.lst [.lst b0, .lst b1, .lst b2]) (.lst [.str m0, .str m1, .str m2]) (some (.int 2, false)) (some (.lst [w0, w1, w2], true)) (some (.lst [f0, f1, w2], true)) s1) = .ok (.old (.str m2), (EK sc a2 a3 a4 a5 a6 a7 a8 (.str wd) (.lst [f0, f1, f2]) (.lst [.lst b0, .lst b1, .lst b2]) (.lst [.str m0, .str m1, .str m2]) (some (.int 2, false)) (some (.lst [w0, w1, w2], true)) (some (.lst [f0, f1, w2], true)) s1)) := by kernel_rfl
  have t1 := ev_told (es := .cons (.var 9) (.cons (.var 15) .nil)) (Γ := (EK sc a2 a3 a4 a5 a6 a7 a8 (.str wd) (.lst [f0, f1, f2]) (.lst [.lst b0, .lst b1, .lst b2]) (.lst [.str m0, .str m1, .str m2]) (some (.int 2, false)) (some (.lst [w0, w1, w2], true)) (some (.lst [f0, f1, w2], true)) s1)) (ps := [.old (.str wd), .vr 15]) (ds := [.str wd, .lst [f0, f1, w2]]) (nm := m2) (s := s1) (by kernel_rfl) (by kernel_rfl) rfl (by kernel_rfl) (R.wrong 2 f2 b2 m2 rfl rfl rfl w2 hw [] rfl s1)
  have t2 := ev_told (es := .cons (.var 9) (.cons (.op .add (.slc (.var 10) .none (.some (.var 13))) (.slc (.var 14) (.some (.var 13)) .none)) .nil)) (Γ := (EK sc a2 a3 a4 a5 a6 a7 a8 (.str wd) (.lst [f0, f1, f2]) (.lst [.lst b0, .lst b1, .lst b2]) (.lst [.str m0, .str m1, .str m2]) (some (.int 2, false)) (some (.lst [w0, w1, w2], true)) (some (.lst [f0, f1, w2], true)) s1)) (ps := [.old (.str wd), .frs (.lst [f0, f1, w2])]) (ds := [.str wd, .lst [f0, f1, w2]]) (nm := m2) (s := s1) (by kernel_rfl) (by kernel_rfl) rfl (by kernel_rfl) (R.wrong 2 f2 b2 m2 rfl rfl rfl w2 hw [] rfl s1)
  have e3 : evS E_law I2 (EK sc a2 a3 a4 a5 a6 a7 a8 (.str wd) (.lst [f0, f1, f2]) (.lst [.lst b0, .lst b1, .lst b2]) (.lst [.str m0, .str m1, .str m2]) (some (.int 2, false)) (some (.lst [w0, w1, w2], true)) (some (.lst [f0, f1, w2], true)) s1) = .ok (.nx (EK sc a2 a3 a4 a5 a6 a7 a8 (.str wd) (.lst [f0, f1, f2]) (.lst [.lst b0, .lst b1, .lst b2]) (.lst [.str m0, .str m1, .str m2]) (some (.int 2, false)) (some (.lst [w0, w1, w2], true)) (some (.lst [f0, f1, w2], true)) s1)) := ev_if2 (ev_ne (hn _ (by simp)) t1 n1) (ev_ne (hn _ (by simp)) t2 n1)
  refine ⟨[w0, w1, w2], [f0, f1, w2], s1, ?_⟩
  show evSs E_law (.cons I0 (.cons I1 (.cons I2 .nil))) _ = _
  refine (nxS e1).trans ?_
  refine (nxS e2).trans ?_
  refine (nxS e3).trans ?_
  rfl

theorem row_3 {f0 f1 f2 : D} {b0 b1 b2 : List D} {m0 m1 m2 : Str} (R : RowOk wd [f0, f1, f2] [b0, b1, b2] [m0, m1, m2]) (hb : ∀ b ∈ [b0, b1, b2], 0 < b.length ∧ b.length < 1000) (hn : ∀ x ∈ [m0, m1, m2], NmOk x) (hne : NmOk "") (k : Option Int) (wr al : Option (List D)) (s : Strm) : ∃ k2 wr2 al2 s2, evSs E_law (.cons J0 (.cons J1 .nil)) (EK sc a2 a3 a4 a5 a6 a7 a8 (.str wd) (.lst [f0, f1, f2]) (.lst [.lst b0, .lst b1, .lst b2]) (.lst [.str m0, .str m1, .str m2]) (oki k) (ol wr) (ol al) s) = .ok (.nx (EK sc a2 a3 a4 a5 a6 a7 a8 (.str wd) (.lst [f0, f1, f2]) (.lst [.lst b0, .lst b1, .lst b2]) (.lst [.str m0, .str m1, .str m2]) (oki k2) (ol wr2) (ol al2) s2)) := by
  have t0 := ev_told (es := .cons (.var 9) (.cons (.var 10) .nil)) (Γ := (EK sc a2 a3 a4 a5 a6 a7 a8 (.str wd) (.lst [f0, f1, f2]) (.lst [.lst b0, .lst b1, .lst b2]) (.lst [.str m0, .str m1, .str m2]) (oki k) (ol wr) (ol al) s)) (ps := [.old (.str wd), .old (.lst [f0, f1, f2])]) (ds := [.str wd, .lst [f0, f1, f2]]) (nm := "") (s := s) (by kernel_rfl) (by kernel_rfl) rfl (by cases k <;> cases wr <;> cases al <;> kernel_rfl) (R.good s)
  have n0 : evE E_law (.con (.str "")) (EK sc a2 a3 a4 a5 a6 a7 a8 (.str wd) (.lst [f0, f1, f2]) (.lst [.lst b0, .lst b1, .lst b2]) (.lst [.str m0, .str m1, .str m2]) (oki k) (ol wr) (ol al) s) = .ok (.old (.str ""), (EK sc a2 a3 a4 a5 a6 a7 a8 (.str wd) (.lst [f0, f1, f2]) (.lst [.lst b0, .lst b1, .lst b2]) (.lst [.str m0, .str m1, .str m2]) (oki k) (ol wr) (ol al) s)) := by kernel_rfl
  have e0 : evS E_law J0 (EK sc a2 a3 a4 a5 a6 a7 a8 (.str wd) (.lst [f0, f1, f2]) (.lst [.lst b0, .lst b1, .lst b2]) (.lst [.str m0, .str m1, .str m2]) (oki k) (ol wr) (ol al) s) = .ok (.nx (EK sc a2 a3 a4 a5 a6 a7 a8 (.str wd) (.lst [f0, f1, f2]) (.lst [.lst b0, .lst b1, .lst b2]) (.lst [.str m0, .str m1, .str m2]) (oki k) (ol wr) (ol al) s)) := ev_if1 (ev_ne hne t0 n0)
  obtain ⟨ws0, al0, s0, q0⟩ := turn_3_0 (sc := sc) (a2 := a2) (a3 := a3) (a4 := a4) (a5 := a5) (a6 := a6) (a7 := a7) (a8 := a8) R hb hn wr al s
  obtain ⟨ws1, al1, s1, q1⟩ := turn_3_1 (sc := sc) (a2 := a2) (a3 := a3) (a4 := a4) (a5 := a5) (a6 := a6) (a7 := a7) (a8 := a8) R hb hn (some ws0) (some al0) s0
  obtain ⟨ws2, al2, s2, q2⟩ := turn_3_2 (sc := sc) (a2 := a2) (a3 := a3) (a4 := a4) (a5 := a5) (a6 := a6) (a7 := a7) (a8 := a8) R hb hn (some ws1) (some al1) s1
  have ef : forN (fun Γ d => asg Γ (.name 13) d) (fun Γ => evSs E_law IB Γ) (rgD 0 3) (EK sc a2 a3 a4 a5 a6 a7 a8 (.str wd) (.lst [f0, f1, f2]) (.lst [.lst b0, .lst b1, .lst b2]) (.lst [.str m0, .str m1, .str m2]) (oki k) (ol wr) (ol al) s) = .ok (.nx (EK sc a2 a3 a4 a5 a6 a7 a8 (.str wd) (.lst [f0, f1, f2]) (.lst [.lst b0, .lst b1, .lst b2]) (.lst [.str m0, .str m1, .str m2]) (oki (some 2)) (ol (some ws2)) (ol (some al2)) s2)) := by
    show forN _ _ [.int 0, .int 1, .int 2] _ = _
    refine (forN_step asg_nm q0).trans ?_
    refine (forN_step asg_nm q1).trans ?_
    refine (forN_step asg_nm q2).trans ?_
    rfl
  refine ⟨some 2, some ws2, some al2, s2, ?_⟩
  refine (nxS e0).trans ?_
  have e1 : evS E_law J1 (EK sc a2 a3 a4 a5 a6 a7 a8 (.str wd) (.lst [f0, f1, f2]) (.lst [.lst b0, .lst b1, .lst b2]) (.lst [.str m0, .str m1, .str m2]) (oki k) (ol wr) (ol al) s) = .ok (.nx (EK sc a2 a3 a4 a5 a6 a7 a8 (.str wd) (.lst [f0, f1, f2]) (.lst [.lst b0, .lst b1, .lst b2]) (.lst [.str m0, .str m1, .str m2]) (oki (some 2)) (ol (some ws2)) (ol (some al2)) s2)) := ev_for (Γ1 := (EK sc a2 a3 a4 a5 a6 a7 a8 (.str wd) (.lst [f0, f1, f2]) (.lst [.lst b0, .lst b1, .lst b2]) (.lst [.str m0, .str m1, .str m2]) (oki k) (ol wr) (ol al) s)) (ps := [.old (.int 3)]) (ds := [.int 3]) (xs := rgD 0 3) (by kernel_rfl) (by kernel_rfl) (src_rng (by omega) (by omega)) ef
  refine (nxS e1).trans ?_
  rfl
theorem turn_4_0 {f0 f1 f2 f3 : D} {b0 b1 b2 b3 : List D} {m0 m1 m2 m3 : Str} (R : RowOk wd [f0, f1, f2, f3] [b0, b1, b2, b3] [m0, m1, m2, m3]) (hb : ∀ b ∈ [b0, b1, b2, b3], 0 < b.length ∧ b.length < 1000) (hn : ∀ x ∈ [m0, m1, m2, m3], NmOk x) (wr al : Option (List D)) (s : Strm) : ∃ ws al2 s2, evSs E_law IB (EK sc a2 a3 a4 a5 a6 a7 a8 (.str wd) (.lst [f0, f1, f2, f3]) (.lst [.lst b0, .lst b1, .lst b2, .lst b3]) (.lst [.str m0, .str m1, .str m2, .str m3]) (some (.int 0, false)) (ol wr) (ol al) s) = .ok (.nx (EK sc a2 a3 a4 a5 a6 a7 a8 (.str wd) (.lst [f0, f1, f2, f3]) (.lst [.lst b0, .lst b1, .lst b2, .lst b3]) (.lst [.str m0, .str m1, .str m2, .str m3]) (some (.int 0, false)) (ol (some ws)) (ol (some al2)) s2)) := by
  obtain ⟨ws, s1, c, e1⟩ := s_wrong (sc := sc) (a2 := a2) (a3 := a3) (a4 := a4) (a5 := a5) (a6 := a6) (a7 := a7) (a8 := a8) (wd := wd) (fine := .lst [f0, f1, f2, f3]) (bs := [b0, b1, b2, b3]) (names := .lst [.str m0, .str m1, .str m2, .str m3]) (k := (some (.int 0, false))) (wr := ol wr) (al := ol al) (s := s) hb (by simp)
  match ws, c with
  | [w0, w1, w2, w3], c =>
  have hw : w0 ∈ b0 := c.1
  have e2 : evS E_law I1 (EK sc a2 a3 a4 a5 a6 a7 a8 (.str wd) (.lst [f0, f1, f2, f3]) (.lst [.lst b0, .lst b1, .lst b2, .lst b3]) (.lst [.str m0, .str m1, .str m2, .str m3]) (some (.int 0, false)) (some (.lst [w0, w1, w2, w3], true)) (ol al) s1) = .ok (.nx (EK sc a2 a3 a4 a5 a6 a7 a8 (.str wd) (.lst [f0, f1, f2, f3]) (.lst [.lst b0, .lst b1, .lst b2, .lst b3]) (.lst [.str m0, .str m1, .str m2, .str m3]) (some (.int 0, false)) (some (.lst [w0, w1, w2, w3], true)) (some (.lst [w0, f1, f2, f3], true)) s1)) := by cases al <;> kernel_rfl
  have n1 : evE E_law (.ix (.var 12) (.var 13)) (EK sc a2 a3 a4 a5 a6 a7 a8 (.str wd) (.lst [f0, f1, f2, f3]) (.lst [.lst b0, .lst b1, .lst b2, .lst b3]) (.lst [.str m0, .str m1, .str m2, .str m3]) (some (.int 0, false)) (some (.lst [w0, w1, w2, w3], true)) (some (.lst [w0, f1, f2, f3], true)) s1) = .ok (.old (.str m0), (EK sc a2 a3 a4 a5 a6 a7 a8 (.str wd) (.lst [f0, f1, f2, f3]) (.lst [.lst b0, .lst b1, .lst b2, .lst b3]) (.lst [.str m0, .str m1, .str m2, .str m3]) (some (.int 0, false)) (some (.lst [w0, w1, w2, w3], true)) (some (.lst [w0, f1, f2, f3], true)) s1)) := by kernel_rfl
  have t1 := ev_told (es := .cons (.var 9) (.cons (.var 15) .nil)) (Γ := (EK sc a2 a3 a4 a5 a6 a7 a8 (.str wd) (.lst [f0, f1, f2, f3]) (.lst [.lst b0, .lst b1, .lst b2, .lst b3]) (.lst [.str m0, .str m1, .str m2, .str m3]) (some (.int 0, false)) (some (.lst [w0, w1, w2, w3], true)) (some (.lst [w0, f1, f2, f3], true)) s1)) (ps := [.old (.str wd), .vr 15]) (ds := [.str wd, .lst [w0, f1, f2, f3]]) (nm := m0) (s := s1) (by kernel_rfl) (by kernel_rfl) rfl (by kernel_rfl) (R.wrong 0 f0 b0 m0 rfl rfl rfl w0 hw [f1, f2, f3] rfl s1)
  have t2 := ev_told (es := .cons (.var 9) (.cons (.op .add (.slc (.var 10) .none (.some (.var 13))) (.slc (.var 14) (.some (.var 13)) .none)) .nil)) (Γ := (EK sc a2 a3 a4 a5 a6 a7 a8 (.str wd) (.lst [f0, f1, f2, f3]) (.lst [.lst b0, .lst b1, .lst b2, .lst b3]) (.lst [.str m0, .str m1, .str m2, .str m3]) (some (.int 0, false)) (some (.lst [w0, w1, w2, w3], true)) (some (.lst [w0, f1, f2, f3], true)) s1)) (ps := [.old (.str wd), .frs (.lst [w0, w1, w2, w3])]) (ds := [.str wd, .lst [w0, w1, w2, w3]]) (nm := m0) (s := s1) (by kernel_rfl) (by kernel_rfl) rfl (by kernel_rfl) (R.wrong 0 f0 b0 m0 rfl rfl rfl w0 hw [w1, w2, w3] rfl s1)
  have e3 : evS E_law I2 (EK sc a2 a3 a4 a5 a6 a7 a8 (.str wd) (.lst [f0, f1, f2, f3]) (.lst [.lst b0, .lst b1, .lst b2, .lst b3]) (.lst [.str m0, .str m1, .str m2, .str m3]) (some (.int 0, false)) (some (.lst [w0, w1, w2, w3], true)) (some (.lst [w0, f1, f2, f3], true)) s1) = .ok (.nx (EK sc a2 a3 a4 a5 a6 a7 a8 (.str wd) (.lst [f0, f1, f2, f3]) (.lst [.lst b0, .lst b1, .lst b2, .lst b3]) (.lst [.str m0, .str m1, .str m2, .str m3]) (some (.int 0, false)) (some (.lst [w0, w1, w2, w3], true)) (some (.lst [w0, f1, f2, f3], true)) s1)) := ev_if2 (ev_ne (hn _ (by simp)) t1 n1) (ev_ne (hn _ (by simp)) t2 n1)
  refine ⟨[w0, w1, w2, w3], [w0, f1, f2, f3], s1, ?_⟩
  show evSs E_law (.cons I0 (.cons I1 (.cons I2 .nil))) _ = _
  refine (nxS e1).trans ?_
  refine (nxS e2).trans ?_
  refine (nxS e3).trans ?_
  rfl

theorem turn_4_1 {f0 f1 f2 f3 : D} {b0 b1 b2 b3 : List D} {m0 m1 m2 m3 : Str} (R : RowOk wd [f0, f1, f2, f3] [b0, b1, b2, b3] [m0, m1, m2, m3]) (hb : ∀ b ∈ [b0, b1, b2, b3], 0 < b.length ∧ b.length < 1000) (hn : ∀ x ∈ [m0, m1, m2, m3], NmOk x) (wr al : Option (List D)) (s : Strm) : ∃ ws al2 s2, evSs E_law IB (EK sc a2 a3 a4 a5 a6 a7 a8 (.str wd) (.lst [f0, f1, f2, f3]) (.lst [.lst b0, .lst b1, .lst b2, .lst b3]) (.lst [.str m0, .str m1, .str m2, .str m3]) (some (.int 1, false)) (ol wr) (ol al) s) = .ok (.nx (EK sc a2 a3 a4 a5 a6 a7 a8 (.str wd) (.lst [f0, f1, f2, f3]) (.lst [.lst b0, .lst b1, .lst b2, .lst b3]) (.lst [.str m0, .str m1, .str m2, .str m3]) (some (.int 1, false)) (ol (some ws)) (ol (some al2)) s2)) := by
  obtain ⟨ws, s1, c, e1⟩ := s_wrong (sc := sc) (a2 := a2) (a3 := a3) (a4 := a4) (a5 := a5) (a6 := a6) (a7 := a7) (a8 := a8) (wd := wd) (fine := .lst [f0, f1, f2, f3]) (bs := [b0, b1, b2, b3]) (names := .lst [.str m0, .str m1, .str m2, .str m3]) (k := (some (.int 1, false))) (wr := ol wr) (al := ol al) (s := s) hb (by simp)
  match ws, c with
  | [w0, w1, w2, w3], c =>
  have hw : w1 ∈ b1 := c.2.1
  have e2 : evS E_law I1 (EK sc a2 a3 a4 a5 a6 a7 a8 (.str wd) (.lst [f0, f1, f2, f3]) (.lst [.lst b0, .lst b1, .lst b2, .lst b3]) (.lst [.str m0, .str m1, .str m2, .str m3]) (some (.int 1, false)) (some (.lst [w0, w1, w2, w3], true)) (ol al) s1) = .ok (.nx (EK sc a2 a3 a4 a5 a6 a7 a8 (.str wd) (.lst [f0, f1, f2, f3]) (.lst [.lst b0, .lst b1, .lst b2, .lst b3]) (.lst [.str m0, .str m1, .str m2, .str m3]) (some (.int 1, false)) (some (.lst [w0, w1, w2, w3], true)) (some (.lst [f0, w1, f2, f3], true)) s1)) := by cases al <;> kernel_rfl
  have n1 : evE E_law (.ix (.var 12) (.var 13)) (EK sc a2 a3 a4 a5 a6 a7 a8 (.str wd) (.lst [f0, f1, f2, f3]) (.lst [.lst b0, .lst b1, .lst b2, .lst b3]) (.lst [.str m0, .str m1, .str m2, .str m3]) (some (.int 1, false)) (some (.lst [w0, w1, w2, w3], true)) (some (.lst [f0, w1, f2, f3], true)) s1) = .ok (.old (.str m1), (EK sc a2 a3 a4 a5 a6 a7 a8 (.str wd) (.lst [f0, f1, f2, f3]) (.lst [.lst b0, .lst b1, .lst b2, .lst b3]) (.lst [.str m0, .str m1, .str m2, .str m3]) (some (.int 1, false)) (some (.lst [w0, w1, w2, w3], true)) (some (.lst [f0, w1, f2, f3], true)) s1)) := by kernel_rfl
  have t1 := ev_told (es := .cons (.var 9) (.cons (.var 15) .nil)) (Γ := (EK sc a2 a3 a4 a5 a6 a7 a8 (.str wd) (.lst [f0, f1, f2, f3]) (.lst [.lst b0, .lst b1, .lst b2, .lst b3]) (.lst [.str m0, .str m1, .str m2, .str m3]) (some (.int 1, false)) (some (.lst [w0, w1, w2, w3], true)) (some (.lst [f0, w1, f2, f3], true)) s1)) (ps := [.old (.str wd), .vr 15]) (ds := [.str wd, .lst [f0, w1, f2, f3]]) (nm := m1) (s := s1) (by kernel_rfl) (by kernel_rfl) rfl (by kernel_rfl) (R.wrong 1 f1 b1 m1 rfl rfl rfl w1 hw [f2, f3] rfl s1)
  have t2 := ev_told (es := .cons (.var 9) (.cons (.op .add (.slc (.var 10) .none (.some (.var 13))) (.slc (.var 14) (.some (.var 13)) .none)) .nil)) (Γ := (EK sc a2 a3 a4 a5 a6 a7 a8 (.str wd) (.lst [f0, f1, f2, f3]) (.lst [.lst b0, .lst b1, .lst b2, .lst b3]) (.lst [.str m0, .str m1, .str m2, .str m3]) (some (.int 1, false)) (some (.lst [w0, w1, w2, w3], true)) (some (.lst [f0, w1, f2, f3], true)) s1)) (ps := [.old (.str wd), .frs (.lst [f0, w1, w2, w3])]) (ds := [.str wd, .lst [f0, w1, w2, w3]]) (nm := m1) (s := s1) (by kernel_rfl) (by kernel_rfl) rfl (by kernel_rfl) (R.wrong 1 f1 b1 m1 rfl rfl rfl w1 hw [w2, w3] rfl s1)
  have e3 : evS E_law I2 (EK sc a2 a3 a4 a5 a6 a7 a8 (.str wd) (.lst [f0, f1, f2, f3]) (.lst [.lst b0, .lst b1, .lst b2, .lst b3]) (.lst [.str m0, .str m1, .str m2, .str m3]) (some (.int 1, false)) (some (.lst [w0, w1, w2, w3], true)) (some (.lst [f0, w1, f2, f3], true)) s1) = .ok (.nx (EK sc a2 a3 a4 a5 a6 a7 a8 (.str wd) (.lst [f0, f1, f2, f3]) (.lst [.lst b0, .lst b1, .lst b2, .lst b3]) (.lst [.str m0, .str m1, .str m2, .str m3]) (some (.int 1, false)) (some (.lst [w0, w1, w2, w3], true)) (some (.lst [f0, w1, f2, f3], true)) s1)) := ev_if2 (ev_ne (hn _ (by simp)) t1 n1) (ev_ne (hn _ (by simp)) t2 n1)
  refine ⟨[w0, w1, w2, w3], [f0, w1, f2, f3], s1, ?_⟩
  show evSs E_law (.cons I0 (.cons I1 (.cons I2 .nil))) _ = _
  refine (nxS e1).trans ?_
  refine (nxS e2).trans ?_
  refine (nxS e3).trans ?_
  rfl

theorem turn_4_2 {f0 f1 f2 f3 : D} {b0 b1 b2 b3 : List D} {m0 m1 m2 m3 : Str} (R : RowOk wd [f0, f1, f2, f3] [b0, b1, b2, b3] [m0, m1, m2, m3]) (hb : ∀ b ∈ [b0, b1, b2, b3], 0 < b.length ∧ b.length < 1000) (hn : ∀ x ∈ [m0, m1, m2, m3], NmOk x) (wr al : Option (List D)) (s : Strm) : ∃ ws al2 s2, evSs E_law IB (EK sc a2 a3 a4 a5 a6 a7 a8 (.str wd) (.lst [f0, f1, f2, f3]) (.lst [.lst b0, .lst b1, .lst b2, .lst b3]) (.lst [.str m0, .str m1, .str m2, .str m3]) (some (.int 2, false)) (ol wr) (ol al) s) = .ok (.nx (EK sc a2 a3 a4 a5 a6 a7 a8 (.str wd) (.lst [f0, f1, f2, f3]) (.lst [.lst b0, .lst b1, .lst b2, .lst b3]) (.lst [.str m0, .str m1, .str m2, .str m3]) (some (.int 2, false)) (ol (some ws)) (ol (some al2)) s2)) := by
  obtain ⟨ws, s1, c, e1⟩ := s_wrong (sc := sc) (a2 := a2) (a3 := a3) (a4 := a4) (a5 := a5) (a6 := a6) (a7 := a7) (a8 := a8) (wd := wd) (fine := .lst [f0, f1, f2, f3]) (bs := [b0, b1, b2, b3]) (names := .lst [.str m0, .str m1, .str m2, .str m3]) (k := (some (.int 2, false))) (wr := ol wr) (al := ol al) (s := s) hb (by simp)
  match ws, c with
  | [w0, w1, w2, w3], c =>
  have hw : w2 ∈ b2 := c.2.2.1
  have e2 : evS E_law I1 (EK sc a2 a3 a4 a5 a6 a7 a8 (.str wd) (.lst [f0, f1, f2, f3]) (.lst [.lst b0, .lst b1, .lst b2, .lst b3]) (.lst [.str m0, .str m1, .str m2, .str m3]) (some (.int 2, false)) (some (.lst [w0, w1, w2, w3], true)) (ol al) s1) = .ok (.nx (EK sc a2 a3 a4 a5 a6 a7 a8 (.str wd) (.lst [f0, f1, f2, f3]) (.lst [.lst b0, .lst b1, .lst b2, .lst b3]) (.lst [.str m0, .str m1, .str m2, .str m3]) (some (.int 2, false)) (some (.lst [w0, w1, w2, w3], true)) (some (.lst [f0, f1, w2, f3], true)) s1)) := by cases al <;> kernel_rfl
  have n1 : evE E_law (.ix (.var 12) (.var 13)) (EK sc a2 a3 a4 a5 a6 a7 a8 (.str wd) (.lst [f0, f1, f2, f3]) (.lst [.lst b0, .lst b1, .lst b2, .lst b3]) (.lst [.str m0, .str m1, .str m2, .str m3]) (some (.int 2, false)) (some (.lst [w0, w1, w2, w3], true)) (some (.lst [f0, f1, w2, f3], true)) s1) = .ok (.old (.str m2), (EK sc a2 a3 a4 a5 a6 a7 a8 (.str wd) (.lst [f0, f1, f2, f3]) (.lst [.lst b0, .lst b1, .lst b2, .lst b3]) (.lst [.str m0, .str m1, .str m2, .str m3]) (some (.int 2, false)) (some (.lst [w0, w1, w2, w3], true)) (some (.lst [f0, f1, w2, f3], true)) s1)) := by kernel_rfl
  have t1 := ev_told (es := .cons (.var 9) (.cons (.var 15) .nil)) (Γ := (EK sc a2 a3 a4 a5 a6 a7 a8 (.str wd) (.lst [f0, f1, f2, f3]) (.lst [.lst b0, .lst b1, .lst b2, .lst b3]) (.lst [.str m0, .str m1, .str m2, .str m3]) (some (.int 2, false)) (some (.lst [w0, w1, w2, w3], true)) (some (.lst [f0, f1, w2, f3], true)) s1)) (ps := [.old (.str wd), .vr 15]) (ds := [.str wd, .lst [f0, f1, w2, f3]]) (nm := m2) (s := s1) (by kernel_rfl) (by kernel_rfl) rfl (by kernel_rfl) (R.wrong 2 f2 b2 m2 rfl rfl rfl w2 hw [f3] rfl s1)
  have t2 := ev_told (es := .cons (.var 9) (.cons (.op .add (.slc (.var 10) .none (.some (.var 13))) (.slc (.var 14) (.some (.var 13)) .none)) .nil)) (Γ := (EK sc a2 a3 a4 a5 a6 a7 a8 (.str wd) (.lst [f0, f1, f2, f3]) (.lst [.lst b0, .lst b1, .lst b2, .lst b3]) (.lst [.str m0, .str m1, .str m2, .str m3]) (some (.int 2, false)) (some (.lst [w0, w1, w2, w3], true)) (some (.lst [f0, f1, w2, f3], true)) s1)) (ps := [.old (.str wd), .frs (.lst [f0, f1, w2, w3])]) (ds := [.str wd, .lst [f0, f1, w2, w3]]) (nm := m2) (s := s1) (by kernel_rfl) (by kernel_rfl) rfl (by kernel_rfl) (R.wrong 2 f2 b2 m2 rfl rfl rfl w2 hw [w3] rfl s1)
  have e3 : evS E_law I2 (EK sc a2 a3 a4 a5 a6 a7 a8 (.str wd) (.lst [f0, f1, f2, f3]) (.lst [.lst b0, .lst b1, .lst b2, .lst b3]) (.lst [.str m0, .str m1, .str m2, .str m3]) (some (.int 2, false)) (some (.lst [w0, w1, w2, w3], true)) (some (.lst [f0, f1, w2, f3], true)) s1) = .ok (.nx (EK sc a2 a3 a4 a5 a6 a7 a8 (.str wd) (.lst [f0, f1, f2, f3]) (.lst [.lst b0, .lst b1, .lst b2, .lst b3]) (.lst [.str m0, .str m1, .str m2, .str m3]) (some (.int 2, false)) (some (.lst [w0, w1, w2, w3], true)) (some (.lst [f0, f1, w2, f3], true)) s1)) := ev_if2 (ev_ne (hn _ (by simp)) t1 n1) (ev_ne (hn _ (by simp)) t2 n1)
  refine ⟨[w0, w1, w2, w3], [f0, f1, w2, f3], s1, ?_⟩
  show evSs E_law (.cons I0 (.cons I1 (.cons I2 .nil))) _ = _
  refine (nxS e1).trans ?_
  refine (nxS e2).trans ?_
  refine (nxS e3).trans ?_
  rfl

theorem turn_4_3 {f0 f1 f2 f3 : D} {b0 b1 b2 b3 : List D} {m0 m1 m2 m3 : Str} (R : RowOk wd [f0, f1, f2, f3] [b0, b1, b2, b3] [m0, m1, m2, m3]) (hb : ∀ b ∈ [b0, b1, b2, b3], 0 < b.length ∧ b.length < 1000) (hn : ∀ x ∈ [m0, m1, m2, m3], NmOk x) (wr al : Option (List D)) (s : Strm) : ∃ ws al2 s2, evSs E_law IB (EK sc a2 a3 a4 a5 a6 a7 a8 (.str wd) (.lst [f0, f1, f2, f3]) (.lst [.lst b0, .lst b1, .lst b2, .lst b3]) (.lst [.str m0, .str m1, .str m2, .str m3]) (some (.int 3, false)) (ol wr) (ol al) s) = .ok (.nx (EK sc a2 a3 a4 a5 a6 a7 a8 (.str wd) (.lst [f0, f1, f2, f3]) (.lst [.lst b0, .lst b1, .lst b2, .lst b3]) (.lst [.str m0, .str m1, .str m2, .str m3]) (some (.int 3, false)) (ol (some ws)) (ol (some al2)) s2)) := by
  obtain ⟨ws, s1, c, e1⟩ := s_wrong (sc := sc) (a2 := a2) (a3 := a3) (a4 := a4) (a5 := a5) (a6 := a6) (a7 := a7) (a8 := a8) (wd := wd) (fine := .lst [f0, f1, f2, f3]) (bs := [b0, b1, b2, b3]) (names := .lst [.str m0, .str m1, .str m2, .str m3]) (k := (some (.int 3, false))) (wr := ol wr) (al := ol al) (s := s) hb (by simp)
  match ws, c with
  | [w0, w1, w2, w3], c =>
  have hw : w3 ∈ b3 := c.2.2.2.1
  have e2 : evS E_law I1 (EK sc a2 a3 a4 a5 a6 a7 a8 (.str wd) (.lst [f0, f1, f2, f3]) (.lst [.lst b0, .lst b1, .lst b2, .lst b3]) (.lst [.str m0, .str m1, .str m2, .str m3]) (some (.int 3, false)) (some (.lst [w0, w1, w2, w3], true)) (ol al) s1) = .ok (.nx (EK sc a2 a3 a4 a5 a6 a7 a8 (.str wd) (.lst [f0, f1, f2, f3]) (.lst [.lst b0, .lst b1, .lst b2, .lst b3]) (.lst [.str m0, .str m1, .str m2, .str m3]) (some (.int 3, false)) (some (.lst [w0, w1, w2, w3], true)) (some (.lst [f0, f1, f2, w3], true)) s1)) := by cases al <;> kernel_rfl
  have n1 : evE E_law (.ix (.var 12) (.var 13)) (EK sc a2 a3 a4 a5 a6 a7 a8 (.str wd) (.lst [f0, f1, f2, f3]) (.lst [.lst b0, .lst b1, .lst b2, .lst b3]) (.lst [.str m0, .str m1, .str m2, .str m3]) (some (.int 3, false)) (some (.lst [w0, w1, w2, w3], true)) (some (.lst [f0, f1, f2, w3], true)) s1) = .ok (.old (.str m3), (EK sc a2 a3 a4 a5 a6 a7 a8 (.str wd) (.lst [f0, f1, f2, f3]) (.lst [.lst b0, .lst b1, .lst b2, .lst b3]) (.lst [.str m0, .str m1, .str m2, .str m3]) (some (.int 3, false)) (some (.lst [w0, w1, w2, w3], true)) (some (.lst [f0, f1, f2, w3], true)) s1)) := by kernel_rfl
  have t1 := ev_told (es := .cons (.var 9) (.cons (.var 15) .nil)) (Γ := (EK sc a2 a3 a4 a5 a6 a7 a8 (.str wd) (.lst [f0, f1, f2, f3]) (.lst [.lst b0, .lst b1, .lst b2, .lst b3]) (.lst [.str m0, .str m1, .str m2, .str m3]) (some (.int 3, false)) (some (.lst [w0, w1, w2, w3], true)) (some (.lst [f0, f1, f2, w3], true)) s1)) (ps := [.old (.str wd), .vr 15]) (ds := [.str wd, .lst [f0, f1, f2, w3]]) (nm := m3) (s := s1) (by kernel_rfl) (by kernel_rfl) rfl (by kernel_rfl) (R.wrong 3 f3 b3 m3 rfl rfl rfl w3 hw [] rfl s1)
  have t2 := ev_told (es := .cons (.var 9) (.cons (.op .add (.slc (.var 10) .none (.some (.var 13))) (.slc (.var 14) (.some (.var 13)) .none)) .nil)) (Γ := (EK sc a2 a3 a4 a5 a6 a7 a8 (.str wd) (.lst [f0, f1, f2, f3]) (.lst [.lst b0, .lst b1, .lst b2, .lst b3]) (.lst [.str m0, .str m1, .str m2, .str m3]) (some (.int 3, false)) (some (.lst [w0, w1, w2, w3], true)) (some (.lst [f0, f1, f2, w3], true)) s1)) (ps := [.old (.str wd), .frs (.lst [f0, f1, f2, w3])]) (ds := [.str wd, .lst [f0, f1, f2, w3]]) (nm := m3) (s := s1) (by kernel_rfl) (by kernel_rfl) rfl (by kernel_rfl) (R.wrong 3 f3 b3 m3 rfl rfl rfl w3 hw [] rfl s1)
  have e3 : evS E_law I2 (EK sc a2 a3 a4 a5 a6 a7 a8 (.str wd) (.lst [f0, f1, f2, f3]) (.lst [.lst b0, .lst b1, .lst b2, .lst b3]) (.lst [.str m0, .str m1, .str m2, .str m3]) (some (.int 3, false)) (some (.lst [w0, w1, w2, w3], true)) (some (.lst [f0, f1, f2, w3], true)) s1) = .ok (.nx (EK sc a2 a3 a4 a5 a6 a7 a8 (.str wd) (.lst [f0, f1, f2, f3]) (.lst [.lst b0, .lst b1, .lst b2, .lst b3]) (.lst [.str m0, .str m1, .str m2, .str m3]) (some (.int 3, false)) (some (.lst [w0, w1, w2, w3], true)) (some (.lst [f0, f1, f2, w3], true)) s1)) := ev_if2 (ev_ne (hn _ (by simp)) t1 n1) (ev_ne (hn _ (by simp)) t2 n1)
  refine ⟨[w0, w1, w2, w3], [f0, f1, f2, w3], s1, ?_⟩
  show evSs E_law (.cons I0 (.cons I1 (.cons I2 .nil))) _ = _
  refine (nxS e1).trans ?_
  refine (nxS e2).trans ?_
  refine (nxS e3).trans ?_
  rfl

theorem row_4 {f0 f1 f2 f3 : D} {b0 b1 b2 b3 : List D} {m0 m1 m2 m3 : Str} (R : RowOk wd [f0, f1, f2, f3] [b0, b1, b2, b3] [m0, m1, m2, m3]) (hb : ∀ b ∈ [b0, b1, b2, b3], 0 < b.length ∧ b.length < 1000) (hn : ∀ x ∈ [m0, m1, m2, m3], NmOk x) (hne : NmOk "") (k : Option Int) (wr al : Option (List D)) (s : Strm) : ∃ k2 wr2 al2 s2, evSs E_law (.cons J0 (.cons J1 .nil)) (EK sc a2 a3 a4 a5 a6 a7 a8 (.str wd) (.lst [f0, f1, f2, f3]) (.lst [.lst b0, .lst b1, .lst b2, .lst b3]) (.lst [.str m0, .str m1, .str m2, .str m3]) (oki k) (ol wr) (ol al) s) = .ok (.nx (EK sc a2 a3 a4 a5 a6 a7 a8 (.str wd) (.lst [f0, f1, f2, f3]) (.lst [.lst b0, .lst b1, .lst b2, .lst b3]) (.lst [.str m0, .str m1, .str m2, .str m3]) (oki k2) (ol wr2) (ol al2) s2)) := by
  have t0 := ev_told (es := .cons (.var 9) (.cons (.var 10) .nil)) (Γ := (EK sc a2 a3 a4 a5 a6 a7 a8 (.str wd) (.lst [f0, f1, f2, f3]) (.lst [.lst b0, .lst b1, .lst b2, .lst b3]) (.lst [.str m0, .str m1, .str m2, .str m3]) (oki k) (ol wr) (ol al) s)) (ps := [.old (.str wd), .old (.lst [f0, f1, f2, f3])]) (ds := [.str wd, .lst [f0, f1, f2, f3]]) (nm := "") (s := s) (by kernel_rfl) (by kernel_rfl) rfl (by cases k <;> cases wr <;> cases al <;> kernel_rfl) (R.good s)
  have n0 : evE E_law (.con (.str "")) (EK sc a2 a3 a4 a5 a6 a7 a8 (.str wd) (.lst [f0, f1, f2, f3]) (.lst [.lst b0, .lst b1, .lst b2, .lst b3]) (.lst [.str m0, .str m1, .str m2, .str m3]) (oki k) (ol wr) (ol al) s) = .ok (.old (.str ""), (EK sc a2 a3 a4 a5 a6 a7 a8 (.str wd) (.lst [f0, f1, f2, f3]) (.lst [.lst b0, .lst b1, .lst b2, .lst b3]) (.lst [.str m0, .str m1, .str m2, .str m3]) (oki k) (ol wr) (ol al) s)) := by kernel_rfl
  have e0 : evS E_law J0 (EK sc a2 a3 a4 a5 a6 a7 a8 (.str wd) (.lst [f0, f1, f2, f3]) (.lst [.lst b0, .lst b1, .lst b2, .lst b3]) (.lst [.str m0, .str m1, .str m2, .str m3]) (oki k) (ol wr) (ol al) s) = .ok (.nx (EK sc a2 a3 a4 a5 a6 a7 a8 (.str wd) (.lst [f0, f1, f2, f3]) (.lst [.lst b0, .lst b1, .lst b2, .lst b3]) (.lst [.str m0, .str m1, .str m2, .str m3]) (oki k) (ol wr) (ol al) s)) := ev_if1 (ev_ne hne t0 n0)
  obtain ⟨ws0, al0, s0, q0⟩ := turn_4_0 (sc := sc) (a2 := a2) (a3 := a3) (a4 := a4) (a5 := a5) (a6 := a6) (a7 := a7) (a8 := a8) R hb hn wr al s
  obtain ⟨ws1, al1, s1, q1⟩ := turn_4_1 (sc := sc) (a2 := a2) (a3 := a3) (a4 := a4) (a5 := a5) (a6 := a6) (a7 := a7) (a8 := a8) R hb hn (some ws0) (some al0) s0
  obtain ⟨ws2, al2, s2, q2⟩ := turn_4_2 (sc := sc) (a2 := a2) (a3 := a3) (a4 := a4) (a5 := a5) (a6 := a6) (a7 := a7) (a8 := a8) R hb hn (some ws1) (some al1) s1
  obtain ⟨ws3, al3, s3, q3⟩ := turn_4_3 (sc := sc) (a2 := a2) (a3 := a3) (a4 := a4) (a5 := a5) (a6 := a6) (a7 := a7) (a8 := a8) R hb hn (some ws2) (some al2) s2
  have ef : forN (fun Γ d => asg Γ (.name 13) d) (fun Γ => evSs E_law IB Γ) (rgD 0 4) (EK sc a2 a3 a4 a5 a6 a7 a8 (.str wd) (.lst [f0, f1, f2, f3]) (.lst [.lst b0, .lst b1, .lst b2, .lst b3]) (.lst [.str m0, .str m1, .str m2, .str m3]) (oki k) (ol wr) (ol al) s) = .ok (.nx (EK sc a2 a3 a4 a5 a6 a7 a8 (.str wd) (.lst [f0, f1, f2, f3]) (.lst [.lst b0, .lst b1, .lst b2, .lst b3]) (.lst [.str m0, .str m1, .str m2, .str m3]) (oki (some 3)) (ol (some ws3)) (ol (some al3)) s3)) := by
    show forN _ _ [.int 0, .int 1, .int 2, .int 3] _ = _
    refine (forN_step asg_nm q0).trans ?_
    refine (forN_step asg_nm q1).trans ?_
    refine (forN_step asg_nm q2).trans ?_
    refine (forN_step asg_nm q3).trans ?_
    rfl
  refine ⟨some 3, some ws3, some al3, s3, ?_⟩
  refine (nxS e0).trans ?_
  have e1 : evS E_law J1 (EK sc a2 a3 a4 a5 a6 a7 a8 (.str wd) (.lst [f0, f1, f2, f3]) (.lst [.lst b0, .lst b1, .lst b2, .lst b3]) (.lst [.str m0, .str m1, .str m2, .str m3]) (oki k) (ol wr) (ol al) s) = .ok (.nx (EK sc a2 a3 a4 a5 a6 a7 a8 (.str wd) (.lst [f0, f1, f2, f3]) (.lst [.lst b0, .lst b1, .lst b2, .lst b3]) (.lst [.str m0, .str m1, .str m2, .str m3]) (oki (some 3)) (ol (some ws3)) (ol (some al3)) s3)) := ev_for (Γ1 := (EK sc a2 a3 a4 a5 a6 a7 a8 (.str wd) (.lst [f0, f1, f2, f3]) (.lst [.lst b0, .lst b1, .lst b2, .lst b3]) (.lst [.str m0, .str m1, .str m2, .str m3]) (oki k) (ol wr) (ol al) s)) (ps := [.old (.int 4)]) (ds := [.int 4]) (xs := rgD 0 4) (by kernel_rfl) (by kernel_rfl) (src_rng (by omega) (by omega)) ef
  refine (nxS e1).trans ?_
  rfl
end
end Ux

namespace Ux
open PySem PySem.Spec PyProof.Rows L2 GxR
theorem cls_some {K : PySem.W.Frag} {C : Addr} (h : PySem.W.hasDictIn K C = true) : (PySem.W.clsIn K C).isSome = true := by
  unfold PySem.W.hasDictIn at h
  cases e : PySem.W.clsIn K C with
  | none => rw [e] at h; cases h
  | some x => rfl
theorem kit_refT {K : PySem.W.Frag} {t : Value} {D : Addr} (hd : PySem.W.hasDictIn K D = true) (ht : PySem.W.typeIn K (.ref D) = some (.type "type")) (hs : PySem.W.subIn K t (.ref D) = some true) : PySem.W.kitOne K t (.ref D) = some true := by
  unfold PySem.W.kitOne
  split
  · rfl
  · unfold PySem.W.kitCls
    simp only [cls_some hd, ht, Bool.true_and]
    rw [if_pos (by decide)]
    exact hs
theorem kit_tyT {K : PySem.W.Frag} {t : Value} {T : String} (hm : PySem.W.kitMeta T = true) (hs : PySem.W.subIn K t (.type T) = some true) : PySem.W.kitOne K t (.type T) = some true := by
  unfold PySem.W.kitOne
  split
  · rfl
  · unfold PySem.W.kitCls
    simp only [hm, if_true]
    exact hs
example : PySem.W.kitMeta "ValueError" = true := by kernel_rfl
end Ux

namespace Ux
open PySem PySem.Spec PyProof.Rows L2 GxR

theorem r_0_good {g : D} (hg : g ∈ gd) (s : Strm) : m_law_told [.str "led", .lst [kS, .int 2, g]] (some s) = .ok (.str "", false, some s) := by
  simp only [gd, List.mem_cons, List.not_mem_nil, or_false] at hg
  rcases hg with rfl | rfl | rfl <;> kernel_rfl
theorem r_0_0 {x : D} (hx : x ∈ bS) (a b : D) (s : Strm) : m_law_told [.str "led", .lst [x, a, b]] (some s) = .ok (.str "system", false, some s) := by
  simp only [bS, List.mem_cons, List.not_mem_nil, or_false] at hx
  rcases hx with rfl | rfl | rfl | rfl | rfl | rfl | rfl | rfl | rfl | rfl | rfl | rfl | rfl | rfl <;> kernel_rfl
theorem r_0_1 {x : D} (hx : x ∈ bT) (a : D) (s : Strm) : m_law_told [.str "led", .lst [kS, x, a]] (some s) = .ok (.str "state", false, some s) := by
  simp only [bT, List.mem_cons, List.not_mem_nil, or_false] at hx
  rcases hx with rfl | rfl | rfl | rfl | rfl | rfl <;> kernel_rfl
theorem r_0_2 {x : D} (hx : x ∈ bQ) (s : Strm) : m_law_told [.str "led", .lst [kS, .int 2, x]] (some s) = .ok (.str "sequence", false, some s) := by
  simp only [bQ, List.mem_cons, List.not_mem_nil, or_false] at hx
  rcases hx with rfl | rfl | rfl | rfl | rfl | rfl | rfl | rfl | rfl | rfl | rfl <;> kernel_rfl
theorem r_0 {g : D} (hg : g ∈ gd) : RowOk "led" [kS, .int 2, g] [bS, bT, bQ] ["system", "state", "sequence"] := by
  refine ⟨fun s => r_0_good hg s, fun k f b nm e1 e2 e3 x hx later hl s => ?_⟩
  match k with
  | 0 =>
    cases e1; cases e2; cases e3
    match later, (show later.length = 2 by simp only [List.length_cons, List.length_nil] at hl; omega) with
    | [a, b], _ => exact r_0_0 hx a b s
  | 1 =>
    cases e1; cases e2; cases e3
    match later, (show later.length = 1 by simp only [List.length_cons, List.length_nil] at hl; omega) with
    | [a], _ => exact r_0_1 hx a s
  | 2 =>
    cases e1; cases e2; cases e3
    match later, (show later.length = 0 by simp only [List.length_cons, List.length_nil] at hl; omega) with
    | [], _ => exact r_0_2 hx s
  | k + 3 => simp at e1
end Ux

namespace Ux
open PySem PySem.Spec PyProof.Rows L2 GxR

theorem r_1_good {g : D} (hg : g ∈ gd) (s : Strm) : m_law_told [.str "run", .lst [kS, .int 2, g]] (some s) = .ok (.str "", false, some s) := by
  simp only [gd, List.mem_cons, List.not_mem_nil, or_false] at hg
  rcases hg with rfl | rfl | rfl <;> kernel_rfl
theorem r_1_0 {x : D} (hx : x ∈ bS) (a b : D) (s : Strm) : m_law_told [.str "run", .lst [x, a, b]] (some s) = .ok (.str "system", false, some s) := by
  simp only [bS, List.mem_cons, List.not_mem_nil, or_false] at hx
  rcases hx with rfl | rfl | rfl | rfl | rfl | rfl | rfl | rfl | rfl | rfl | rfl | rfl | rfl | rfl <;> kernel_rfl
theorem r_1_1 {x : D} (hx : x ∈ bT) (a : D) (s : Strm) : m_law_told [.str "run", .lst [kS, x, a]] (some s) = .ok (.str "state", false, some s) := by
  simp only [bT, List.mem_cons, List.not_mem_nil, or_false] at hx
  rcases hx with rfl | rfl | rfl | rfl | rfl | rfl <;> kernel_rfl
theorem r_1_2 {x : D} (hx : x ∈ bQ) (s : Strm) : m_law_told [.str "run", .lst [kS, .int 2, x]] (some s) = .ok (.str "sequence", false, some s) := by
  simp only [bQ, List.mem_cons, List.not_mem_nil, or_false] at hx
  rcases hx with rfl | rfl | rfl | rfl | rfl | rfl | rfl | rfl | rfl | rfl | rfl <;> kernel_rfl
theorem r_1 {g : D} (hg : g ∈ gd) : RowOk "run" [kS, .int 2, g] [bS, bT, bQ] ["system", "state", "sequence"] := by
  refine ⟨fun s => r_1_good hg s, fun k f b nm e1 e2 e3 x hx later hl s => ?_⟩
  match k with
  | 0 =>
    cases e1; cases e2; cases e3
    match later, (show later.length = 2 by simp only [List.length_cons, List.length_nil] at hl; omega) with
    | [a, b], _ => exact r_1_0 hx a b s
  | 1 =>
    cases e1; cases e2; cases e3
    match later, (show later.length = 1 by simp only [List.length_cons, List.length_nil] at hl; omega) with
    | [a], _ => exact r_1_1 hx a s
  | 2 =>
    cases e1; cases e2; cases e3
    match later, (show later.length = 0 by simp only [List.length_cons, List.length_nil] at hl; omega) with
    | [], _ => exact r_1_2 hx s
  | k + 3 => simp at e1
end Ux

namespace Ux
open PySem PySem.Spec PyProof.Rows L2 GxR

theorem r_2_good (s : Strm) : m_law_told [.str "sequence", .lst [kS, .int 2, .int 0]] (some s) = .ok (.str "", false, some s) := by
  kernel_rfl
theorem r_2_0 {x : D} (hx : x ∈ bS) (a b : D) (s : Strm) : m_law_told [.str "sequence", .lst [x, a, b]] (some s) = .ok (.str "system", false, some s) := by
  simp only [bS, List.mem_cons, List.not_mem_nil, or_false] at hx
  rcases hx with rfl | rfl | rfl | rfl | rfl | rfl | rfl | rfl | rfl | rfl | rfl | rfl | rfl | rfl <;> kernel_rfl
theorem r_2_1 {x : D} (hx : x ∈ bT) (a : D) (s : Strm) : m_law_told [.str "sequence", .lst [kS, x, a]] (some s) = .ok (.str "state", false, some s) := by
  simp only [bT, List.mem_cons, List.not_mem_nil, or_false] at hx
  rcases hx with rfl | rfl | rfl | rfl | rfl | rfl <;> kernel_rfl
theorem r_2_2 {x : D} (hx : x ∈ bT) (s : Strm) : m_law_told [.str "sequence", .lst [kS, .int 2, x]] (some s) = .ok (.str "target", false, some s) := by
  simp only [bT, List.mem_cons, List.not_mem_nil, or_false] at hx
  rcases hx with rfl | rfl | rfl | rfl | rfl | rfl <;> kernel_rfl
theorem r_2 : RowOk "sequence" [kS, .int 2, .int 0] [bS, bT, bT] ["system", "state", "target"] := by
  refine ⟨fun s => r_2_good s, fun k f b nm e1 e2 e3 x hx later hl s => ?_⟩
  match k with
  | 0 =>
    cases e1; cases e2; cases e3
    match later, (show later.length = 2 by simp only [List.length_cons, List.length_nil] at hl; omega) with
    | [a, b], _ => exact r_2_0 hx a b s
  | 1 =>
    cases e1; cases e2; cases e3
    match later, (show later.length = 1 by simp only [List.length_cons, List.length_nil] at hl; omega) with
    | [a], _ => exact r_2_1 hx a s
  | 2 =>
    cases e1; cases e2; cases e3
    match later, (show later.length = 0 by simp only [List.length_cons, List.length_nil] at hl; omega) with
    | [], _ => exact r_2_2 hx s
  | k + 3 => simp at e1
theorem r_3_good (s : Strm) : m_law_told [.str "evidence", .lst [kS, .int 2, .int 0]] (some s) = .ok (.str "", false, some s) := by
  kernel_rfl
theorem r_3_0 {x : D} (hx : x ∈ bS) (a b : D) (s : Strm) : m_law_told [.str "evidence", .lst [x, a, b]] (some s) = .ok (.str "system", false, some s) := by
  simp only [bS, List.mem_cons, List.not_mem_nil, or_false] at hx
  rcases hx with rfl | rfl | rfl | rfl | rfl | rfl | rfl | rfl | rfl | rfl | rfl | rfl | rfl | rfl <;> kernel_rfl
theorem r_3_1 {x : D} (hx : x ∈ bT) (a : D) (s : Strm) : m_law_told [.str "evidence", .lst [kS, x, a]] (some s) = .ok (.str "state", false, some s) := by
  simp only [bT, List.mem_cons, List.not_mem_nil, or_false] at hx
  rcases hx with rfl | rfl | rfl | rfl | rfl | rfl <;> kernel_rfl
theorem r_3_2 {x : D} (hx : x ∈ bT) (s : Strm) : m_law_told [.str "evidence", .lst [kS, .int 2, x]] (some s) = .ok (.str "target", false, some s) := by
  simp only [bT, List.mem_cons, List.not_mem_nil, or_false] at hx
  rcases hx with rfl | rfl | rfl | rfl | rfl | rfl <;> kernel_rfl
theorem r_3 : RowOk "evidence" [kS, .int 2, .int 0] [bS, bT, bT] ["system", "state", "target"] := by
  refine ⟨fun s => r_3_good s, fun k f b nm e1 e2 e3 x hx later hl s => ?_⟩
  match k with
  | 0 =>
    cases e1; cases e2; cases e3
    match later, (show later.length = 2 by simp only [List.length_cons, List.length_nil] at hl; omega) with
    | [a, b], _ => exact r_3_0 hx a b s
  | 1 =>
    cases e1; cases e2; cases e3
    match later, (show later.length = 1 by simp only [List.length_cons, List.length_nil] at hl; omega) with
    | [a], _ => exact r_3_1 hx a s
  | 2 =>
    cases e1; cases e2; cases e3
    match later, (show later.length = 0 by simp only [List.length_cons, List.length_nil] at hl; omega) with
    | [], _ => exact r_3_2 hx s
  | k + 3 => simp at e1
end Ux

namespace Ux
open PySem PySem.Spec PyProof.Rows L2 GxR

theorem r_4_good (s : Strm) : m_law_told [.str "reaches", .lst [kS, .int 2, .int 0]] (some s) = .ok (.str "", false, some s) := by
  kernel_rfl
theorem r_4_0 {x : D} (hx : x ∈ bS) (a b : D) (s : Strm) : m_law_told [.str "reaches", .lst [x, a, b]] (some s) = .ok (.str "system", false, some s) := by
  simp only [bS, List.mem_cons, List.not_mem_nil, or_false] at hx
  rcases hx with rfl | rfl | rfl | rfl | rfl | rfl | rfl | rfl | rfl | rfl | rfl | rfl | rfl | rfl <;> kernel_rfl
theorem r_4_1 {x : D} (hx : x ∈ bT) (a : D) (s : Strm) : m_law_told [.str "reaches", .lst [kS, x, a]] (some s) = .ok (.str "state", false, some s) := by
  simp only [bT, List.mem_cons, List.not_mem_nil, or_false] at hx
  rcases hx with rfl | rfl | rfl | rfl | rfl | rfl <;> kernel_rfl
theorem r_4_2 {x : D} (hx : x ∈ bT) (s : Strm) : m_law_told [.str "reaches", .lst [kS, .int 2, x]] (some s) = .ok (.str "target", false, some s) := by
  simp only [bT, List.mem_cons, List.not_mem_nil, or_false] at hx
  rcases hx with rfl | rfl | rfl | rfl | rfl | rfl <;> kernel_rfl
theorem r_4 : RowOk "reaches" [kS, .int 2, .int 0] [bS, bT, bT] ["system", "state", "target"] := by
  refine ⟨fun s => r_4_good s, fun k f b nm e1 e2 e3 x hx later hl s => ?_⟩
  match k with
  | 0 =>
    cases e1; cases e2; cases e3
    match later, (show later.length = 2 by simp only [List.length_cons, List.length_nil] at hl; omega) with
    | [a, b], _ => exact r_4_0 hx a b s
  | 1 =>
    cases e1; cases e2; cases e3
    match later, (show later.length = 1 by simp only [List.length_cons, List.length_nil] at hl; omega) with
    | [a], _ => exact r_4_1 hx a s
  | 2 =>
    cases e1; cases e2; cases e3
    match later, (show later.length = 0 by simp only [List.length_cons, List.length_nil] at hl; omega) with
    | [], _ => exact r_4_2 hx s
  | k + 3 => simp at e1
theorem r_5_good (s : Strm) : m_law_told [.str "reachable", .lst [kS]] (some s) = .ok (.str "", false, some s) := by
  kernel_rfl
theorem r_5_0 {x : D} (hx : x ∈ bS) (s : Strm) : m_law_told [.str "reachable", .lst [x]] (some s) = .ok (.str "system", false, some s) := by
  simp only [bS, List.mem_cons, List.not_mem_nil, or_false] at hx
  rcases hx with rfl | rfl | rfl | rfl | rfl | rfl | rfl | rfl | rfl | rfl | rfl | rfl | rfl | rfl <;> kernel_rfl
theorem r_5 : RowOk "reachable" [kS] [bS] ["system"] := by
  refine ⟨fun s => r_5_good s, fun k f b nm e1 e2 e3 x hx later hl s => ?_⟩
  match k with
  | 0 =>
    cases e1; cases e2; cases e3
    match later, (show later.length = 0 by simp only [List.length_cons, List.length_nil] at hl; omega) with
    | [], _ => exact r_5_0 hx s
  | k + 1 => simp at e1
theorem r_6_good (s : Strm) : m_law_told [.str "one", .lst [kS]] (some s) = .ok (.str "", false, some s) := by
  kernel_rfl
theorem r_6_0 {x : D} (hx : x ∈ bS) (s : Strm) : m_law_told [.str "one", .lst [x]] (some s) = .ok (.str "system", false, some s) := by
  simp only [bS, List.mem_cons, List.not_mem_nil, or_false] at hx
  rcases hx with rfl | rfl | rfl | rfl | rfl | rfl | rfl | rfl | rfl | rfl | rfl | rfl | rfl | rfl <;> kernel_rfl
theorem r_6 : RowOk "one" [kS] [bS] ["system"] := by
  refine ⟨fun s => r_6_good s, fun k f b nm e1 e2 e3 x hx later hl s => ?_⟩
  match k with
  | 0 =>
    cases e1; cases e2; cases e3
    match later, (show later.length = 0 by simp only [List.length_cons, List.length_nil] at hl; omega) with
    | [], _ => exact r_6_0 hx s
  | k + 1 => simp at e1
end Ux

namespace Ux
open PySem PySem.Spec PyProof.Rows L2 GxR

theorem r_7_good {g : D} (hg : g ∈ gd) (s : Strm) : m_law_told [.str "agree", .lst [kS, g, .tup [.int 1], .int 0]] (some s) = .ok (.str "", false, some s) := by
  simp only [gd, List.mem_cons, List.not_mem_nil, or_false] at hg
  rcases hg with rfl | rfl | rfl <;> kernel_rfl
theorem r_7_0 {x : D} (hx : x ∈ bS) (a b c : D) (s : Strm) : m_law_told [.str "agree", .lst [x, a, b, c]] (some s) = .ok (.str "system", false, some s) := by
  simp only [bS, List.mem_cons, List.not_mem_nil, or_false] at hx
  rcases hx with rfl | rfl | rfl | rfl | rfl | rfl | rfl | rfl | rfl | rfl | rfl | rfl | rfl | rfl <;> kernel_rfl
theorem r_7_1 {x : D} (hx : x ∈ bQ) (a b : D) (s : Strm) : m_law_told [.str "agree", .lst [kS, x, a, b]] (some s) = .ok (.str "first", false, some s) := by
  simp only [bQ, List.mem_cons, List.not_mem_nil, or_false] at hx
  rcases hx with rfl | rfl | rfl | rfl | rfl | rfl | rfl | rfl | rfl | rfl | rfl <;> kernel_rfl
theorem r_7_2 {g : D} (hg : g ∈ gd) {x : D} (hx : x ∈ bQ) (a : D) (s : Strm) : m_law_told [.str "agree", .lst [kS, g, x, a]] (some s) = .ok (.str "second", false, some s) := by
  simp only [bQ, List.mem_cons, List.not_mem_nil, or_false] at hx
  simp only [gd, List.mem_cons, List.not_mem_nil, or_false] at hg
  rcases hg with rfl | rfl | rfl <;> rcases hx with rfl | rfl | rfl | rfl | rfl | rfl | rfl | rfl | rfl | rfl | rfl <;> kernel_rfl
theorem r_7_3 {g : D} (hg : g ∈ gd) {x : D} (hx : x ∈ bT) (s : Strm) : m_law_told [.str "agree", .lst [kS, g, .tup [.int 1], x]] (some s) = .ok (.str "state", false, some s) := by
  simp only [bT, List.mem_cons, List.not_mem_nil, or_false] at hx
  simp only [gd, List.mem_cons, List.not_mem_nil, or_false] at hg
  rcases hg with rfl | rfl | rfl <;> rcases hx with rfl | rfl | rfl | rfl | rfl | rfl <;> kernel_rfl
theorem r_7 {g : D} (hg : g ∈ gd) : RowOk "agree" [kS, g, .tup [.int 1], .int 0] [bS, bQ, bQ, bT] ["system", "first", "second", "state"] := by
  refine ⟨fun s => r_7_good hg s, fun k f b nm e1 e2 e3 x hx later hl s => ?_⟩
  match k with
  | 0 =>
    cases e1; cases e2; cases e3
    match later, (show later.length = 3 by simp only [List.length_cons, List.length_nil] at hl; omega) with
    | [a, b, c], _ => exact r_7_0 hx a b c s
  | 1 =>
    cases e1; cases e2; cases e3
    match later, (show later.length = 2 by simp only [List.length_cons, List.length_nil] at hl; omega) with
    | [a, b], _ => exact r_7_1 hx a b s
  | 2 =>
    cases e1; cases e2; cases e3
    match later, (show later.length = 1 by simp only [List.length_cons, List.length_nil] at hl; omega) with
    | [a], _ => exact r_7_2 hg hx a s
  | 3 =>
    cases e1; cases e2; cases e3
    match later, (show later.length = 0 by simp only [List.length_cons, List.length_nil] at hl; omega) with
    | [], _ => exact r_7_3 hg hx s
  | k + 4 => simp at e1
end Ux

namespace Ux
open PySem PySem.Spec PyProof.Rows L2 GxR

theorem r_8_good {g : D} (hg : g ∈ gd) (s : Strm) : m_law_told [.str "difference", .lst [kS, g, .tup [.int 1]]] (some s) = .ok (.str "", false, some s) := by
  simp only [gd, List.mem_cons, List.not_mem_nil, or_false] at hg
  rcases hg with rfl | rfl | rfl <;> kernel_rfl
theorem r_8_0 {x : D} (hx : x ∈ bS) (a b : D) (s : Strm) : m_law_told [.str "difference", .lst [x, a, b]] (some s) = .ok (.str "system", false, some s) := by
  simp only [bS, List.mem_cons, List.not_mem_nil, or_false] at hx
  rcases hx with rfl | rfl | rfl | rfl | rfl | rfl | rfl | rfl | rfl | rfl | rfl | rfl | rfl | rfl <;> kernel_rfl
theorem r_8_1 {x : D} (hx : x ∈ bQ) (a : D) (s : Strm) : m_law_told [.str "difference", .lst [kS, x, a]] (some s) = .ok (.str "first", false, some s) := by
  simp only [bQ, List.mem_cons, List.not_mem_nil, or_false] at hx
  rcases hx with rfl | rfl | rfl | rfl | rfl | rfl | rfl | rfl | rfl | rfl | rfl <;> kernel_rfl
theorem r_8_2 {g : D} (hg : g ∈ gd) {x : D} (hx : x ∈ bQ) (s : Strm) : m_law_told [.str "difference", .lst [kS, g, x]] (some s) = .ok (.str "second", false, some s) := by
  simp only [bQ, List.mem_cons, List.not_mem_nil, or_false] at hx
  simp only [gd, List.mem_cons, List.not_mem_nil, or_false] at hg
  rcases hg with rfl | rfl | rfl <;> rcases hx with rfl | rfl | rfl | rfl | rfl | rfl | rfl | rfl | rfl | rfl | rfl <;> kernel_rfl
theorem r_8 {g : D} (hg : g ∈ gd) : RowOk "difference" [kS, g, .tup [.int 1]] [bS, bQ, bQ] ["system", "first", "second"] := by
  refine ⟨fun s => r_8_good hg s, fun k f b nm e1 e2 e3 x hx later hl s => ?_⟩
  match k with
  | 0 =>
    cases e1; cases e2; cases e3
    match later, (show later.length = 2 by simp only [List.length_cons, List.length_nil] at hl; omega) with
    | [a, b], _ => exact r_8_0 hx a b s
  | 1 =>
    cases e1; cases e2; cases e3
    match later, (show later.length = 1 by simp only [List.length_cons, List.length_nil] at hl; omega) with
    | [a], _ => exact r_8_1 hx a s
  | 2 =>
    cases e1; cases e2; cases e3
    match later, (show later.length = 0 by simp only [List.length_cons, List.length_nil] at hl; omega) with
    | [], _ => exact r_8_2 hg hx s
  | k + 3 => simp at e1
end Ux

namespace Ux
open PySem PySem.Spec PyProof.Rows L2 GxR

theorem r_9_good (s : Strm) : m_law_told [.str "merged", .lst [kS, .int 1]] (some s) = .ok (.str "", false, some s) := by
  kernel_rfl
theorem r_9_0 {x : D} (hx : x ∈ bS) (a : D) (s : Strm) : m_law_told [.str "merged", .lst [x, a]] (some s) = .ok (.str "system", false, some s) := by
  simp only [bS, List.mem_cons, List.not_mem_nil, or_false] at hx
  rcases hx with rfl | rfl | rfl | rfl | rfl | rfl | rfl | rfl | rfl | rfl | rfl | rfl | rfl | rfl <;> kernel_rfl
theorem r_9_1 {x : D} (hx : x ∈ bC) (s : Strm) : m_law_told [.str "merged", .lst [kS, x]] (some s) = .ok (.str "command", false, some s) := by
  simp only [bC, List.mem_cons, List.not_mem_nil, or_false] at hx
  rcases hx with rfl | rfl | rfl | rfl | rfl <;> kernel_rfl
theorem r_9 : RowOk "merged" [kS, .int 1] [bS, bC] ["system", "command"] := by
  refine ⟨fun s => r_9_good s, fun k f b nm e1 e2 e3 x hx later hl s => ?_⟩
  match k with
  | 0 =>
    cases e1; cases e2; cases e3
    match later, (show later.length = 1 by simp only [List.length_cons, List.length_nil] at hl; omega) with
    | [a], _ => exact r_9_0 hx a s
  | 1 =>
    cases e1; cases e2; cases e3
    match later, (show later.length = 0 by simp only [List.length_cons, List.length_nil] at hl; omega) with
    | [], _ => exact r_9_1 hx s
  | k + 2 => simp at e1
theorem r_10_good (s : Strm) : m_law_told [.str "merges", .lst [kS, .int 1]] (some s) = .ok (.str "", false, some s) := by
  kernel_rfl
theorem r_10_0 {x : D} (hx : x ∈ bS) (a : D) (s : Strm) : m_law_told [.str "merges", .lst [x, a]] (some s) = .ok (.str "system", false, some s) := by
  simp only [bS, List.mem_cons, List.not_mem_nil, or_false] at hx
  rcases hx with rfl | rfl | rfl | rfl | rfl | rfl | rfl | rfl | rfl | rfl | rfl | rfl | rfl | rfl <;> kernel_rfl
theorem r_10_1 {x : D} (hx : x ∈ bC) (s : Strm) : m_law_told [.str "merges", .lst [kS, x]] (some s) = .ok (.str "command", false, some s) := by
  simp only [bC, List.mem_cons, List.not_mem_nil, or_false] at hx
  rcases hx with rfl | rfl | rfl | rfl | rfl <;> kernel_rfl
theorem r_10 : RowOk "merges" [kS, .int 1] [bS, bC] ["system", "command"] := by
  refine ⟨fun s => r_10_good s, fun k f b nm e1 e2 e3 x hx later hl s => ?_⟩
  match k with
  | 0 =>
    cases e1; cases e2; cases e3
    match later, (show later.length = 1 by simp only [List.length_cons, List.length_nil] at hl; omega) with
    | [a], _ => exact r_10_0 hx a s
  | 1 =>
    cases e1; cases e2; cases e3
    match later, (show later.length = 0 by simp only [List.length_cons, List.length_nil] at hl; omega) with
    | [], _ => exact r_10_1 hx s
  | k + 2 => simp at e1
end Ux

namespace Ux
open PySem PySem.Spec PyProof.Rows L2 GxR

theorem r_11_good (s : Strm) : m_law_told [.str "inverse", .lst [kS, .int 1]] (some s) = .ok (.str "", false, some s) := by
  kernel_rfl
theorem r_11_0 {x : D} (hx : x ∈ bS) (a : D) (s : Strm) : m_law_told [.str "inverse", .lst [x, a]] (some s) = .ok (.str "system", false, some s) := by
  simp only [bS, List.mem_cons, List.not_mem_nil, or_false] at hx
  rcases hx with rfl | rfl | rfl | rfl | rfl | rfl | rfl | rfl | rfl | rfl | rfl | rfl | rfl | rfl <;> kernel_rfl
theorem r_11_1 {x : D} (hx : x ∈ bC) (s : Strm) : m_law_told [.str "inverse", .lst [kS, x]] (some s) = .ok (.str "command", false, some s) := by
  simp only [bC, List.mem_cons, List.not_mem_nil, or_false] at hx
  rcases hx with rfl | rfl | rfl | rfl | rfl <;> kernel_rfl
theorem r_11 : RowOk "inverse" [kS, .int 1] [bS, bC] ["system", "command"] := by
  refine ⟨fun s => r_11_good s, fun k f b nm e1 e2 e3 x hx later hl s => ?_⟩
  match k with
  | 0 =>
    cases e1; cases e2; cases e3
    match later, (show later.length = 1 by simp only [List.length_cons, List.length_nil] at hl; omega) with
    | [a], _ => exact r_11_0 hx a s
  | 1 =>
    cases e1; cases e2; cases e3
    match later, (show later.length = 0 by simp only [List.length_cons, List.length_nil] at hl; omega) with
    | [], _ => exact r_11_1 hx s
  | k + 2 => simp at e1
theorem r_12_good (s : Strm) : m_law_told [.str "exchanged", .lst [kS, .int 1, .int 0]] (some s) = .ok (.str "", false, some s) := by
  kernel_rfl
theorem r_12_0 {x : D} (hx : x ∈ bS) (a b : D) (s : Strm) : m_law_told [.str "exchanged", .lst [x, a, b]] (some s) = .ok (.str "system", false, some s) := by
  simp only [bS, List.mem_cons, List.not_mem_nil, or_false] at hx
  rcases hx with rfl | rfl | rfl | rfl | rfl | rfl | rfl | rfl | rfl | rfl | rfl | rfl | rfl | rfl <;> kernel_rfl
theorem r_12_1 {x : D} (hx : x ∈ bC) (a : D) (s : Strm) : m_law_told [.str "exchanged", .lst [kS, x, a]] (some s) = .ok (.str "command", false, some s) := by
  simp only [bC, List.mem_cons, List.not_mem_nil, or_false] at hx
  rcases hx with rfl | rfl | rfl | rfl | rfl <;> kernel_rfl
theorem r_12_2 {x : D} (hx : x ∈ bC) (s : Strm) : m_law_told [.str "exchanged", .lst [kS, .int 1, x]] (some s) = .ok (.str "other", false, some s) := by
  simp only [bC, List.mem_cons, List.not_mem_nil, or_false] at hx
  rcases hx with rfl | rfl | rfl | rfl | rfl <;> kernel_rfl
theorem r_12 : RowOk "exchanged" [kS, .int 1, .int 0] [bS, bC, bC] ["system", "command", "other"] := by
  refine ⟨fun s => r_12_good s, fun k f b nm e1 e2 e3 x hx later hl s => ?_⟩
  match k with
  | 0 =>
    cases e1; cases e2; cases e3
    match later, (show later.length = 2 by simp only [List.length_cons, List.length_nil] at hl; omega) with
    | [a, b], _ => exact r_12_0 hx a b s
  | 1 =>
    cases e1; cases e2; cases e3
    match later, (show later.length = 1 by simp only [List.length_cons, List.length_nil] at hl; omega) with
    | [a], _ => exact r_12_1 hx a s
  | 2 =>
    cases e1; cases e2; cases e3
    match later, (show later.length = 0 by simp only [List.length_cons, List.length_nil] at hl; omega) with
    | [], _ => exact r_12_2 hx s
  | k + 3 => simp at e1
end Ux

namespace Ux
open PySem PySem.Spec PyProof.Rows L2 GxR

abbrev rw0 (g : D) : D := .tup [.str "led", .lst [kS, .int 2, g], .lst [.lst bS, .lst bT, .lst bQ], .lst [.str "system", .str "state", .str "sequence"]]
abbrev rw1 (g : D) : D := .tup [.str "run", .lst [kS, .int 2, g], .lst [.lst bS, .lst bT, .lst bQ], .lst [.str "system", .str "state", .str "sequence"]]
abbrev rw2 : D := .tup [.str "sequence", .lst [kS, .int 2, .int 0], .lst [.lst bS, .lst bT, .lst bT], .lst [.str "system", .str "state", .str "target"]]
abbrev rw3 : D := .tup [.str "evidence", .lst [kS, .int 2, .int 0], .lst [.lst bS, .lst bT, .lst bT], .lst [.str "system", .str "state", .str "target"]]
abbrev rw4 : D := .tup [.str "reaches", .lst [kS, .int 2, .int 0], .lst [.lst bS, .lst bT, .lst bT], .lst [.str "system", .str "state", .str "target"]]
abbrev rw5 : D := .tup [.str "reachable", .lst [kS], .lst [.lst bS], .lst [.str "system"]]
abbrev rw6 : D := .tup [.str "one", .lst [kS], .lst [.lst bS], .lst [.str "system"]]
abbrev rw7 (g : D) : D := .tup [.str "agree", .lst [kS, g, .tup [.int 1], .int 0], .lst [.lst bS, .lst bQ, .lst bQ, .lst bT], .lst [.str "system", .str "first", .str "second", .str "state"]]
abbrev rw8 (g : D) : D := .tup [.str "difference", .lst [kS, g, .tup [.int 1]], .lst [.lst bS, .lst bQ, .lst bQ], .lst [.str "system", .str "first", .str "second"]]
abbrev rw9 : D := .tup [.str "merged", .lst [kS, .int 1], .lst [.lst bS, .lst bC], .lst [.str "system", .str "command"]]
abbrev rw10 : D := .tup [.str "merges", .lst [kS, .int 1], .lst [.lst bS, .lst bC], .lst [.str "system", .str "command"]]
abbrev rw11 : D := .tup [.str "inverse", .lst [kS, .int 1], .lst [.lst bS, .lst bC], .lst [.str "system", .str "command"]]
abbrev rw12 : D := .tup [.str "exchanged", .lst [kS, .int 1, .int 0], .lst [.lst bS, .lst bC, .lst bC], .lst [.str "system", .str "command", .str "other"]]
theorem n_empty : NmOk "" := by
  show dEq _ _ = some true
  kernel_rfl
theorem n_command : NmOk "command" := by
  show dEq _ _ = some true
  kernel_rfl
theorem n_first : NmOk "first" := by
  show dEq _ _ = some true
  kernel_rfl
theorem n_other : NmOk "other" := by
  show dEq _ _ = some true
  kernel_rfl
theorem n_second : NmOk "second" := by
  show dEq _ _ = some true
  kernel_rfl
theorem n_sequence : NmOk "sequence" := by
  show dEq _ _ = some true
  kernel_rfl
theorem n_state : NmOk "state" := by
  show dEq _ _ = some true
  kernel_rfl
theorem n_system : NmOk "system" := by
  show dEq _ _ = some true
  kernel_rfl
theorem n_target : NmOk "target" := by
  show dEq _ _ = some true
  kernel_rfl
theorem ev_eq {a b : ME} {Γ : En} {nm : Str} (hn : NmOk nm) (h1 : evE E_law a Γ = .ok (.old (.str nm), Γ)) (h2 : evE E_law b Γ = .ok (.old (.str nm), Γ)) : evE E_law (.cmp .eq a b) Γ = .ok (.old (.bl true), Γ) := by
  have hn : dEq (.str nm) (.str nm) = some true := hn
  simp [evE, h1, h2, R.bd, R.of, rd, cmD, hn]
abbrev EL (sc : D) (x2 x3 x4 x5 x6 x7 x8 x9 x10 x11 x12 k wr al : Option (D × Bool)) (s : Strm) : En := { sl := [some (sc, false), some (.strm, false), x2, x3, x4, x5, x6, x7, x8, x9, x10, x11, x12, k, wr, al, none], w := some s }
theorem asg_row {sc a2 a3 a4 a5 a6 a7 a8 wd f b n : D} {x9 x10 x11 x12 k wr al : Option (D × Bool)} {s : Strm} : asg (EL sc (some (a2, false)) (some (a3, false)) (some (a4, false)) (some (a5, false)) (some (a6, false)) (some (a7, false)) (some (a8, false)) x9 x10 x11 x12 k wr al s) (.tup (.cons (.name 9) (.cons (.name 10) (.cons (.name 11) (.cons (.name 12) .nil))))) (.tup [wd, f, b, n]) = some (EK sc a2 a3 a4 a5 a6 a7 a8 wd f b n k wr al s) := by rfl

section
variable (sc : D)
theorem v1 (s : Strm) : evS E_law (.set 2 (.tup (.cons (.con (.int 3)) (.cons (.con (.int 1)) (.cons (.tup (.cons (.tup (.cons (.con (.int 1)) (.cons (.con (.int 0)) (.cons (.con (.int 2)) .nil)))) (.cons (.tup (.cons (.con (.int 0)) (.cons (.con (.int 2)) (.cons (.con (.int 1)) .nil)))) .nil))) .nil))))) (EL sc none none none none none none none none none none none none none none s) = .ok (.nx (EL sc (some (kS, false)) none none none none none none none none none none none none none s)) := by kernel_rfl
theorem v2 (s : Strm) : evS E_law (.set 3 (.lst (.cons (.con .non) (.cons (.lst (.cons (.con (.int 3)) (.cons (.con (.int 1)) (.cons (.tup .nil) .nil)))) (.cons (.tup (.cons (.con (.int 3)) (.cons (.con (.int 1)) .nil))) (.cons (.tup (.cons (.con (.int 0)) (.cons (.con (.int 0)) (.cons (.tup .nil) .nil)))) (.cons (.tup (.cons (.con (.int 9)) (.cons (.con (.int 0)) (.cons (.tup .nil) .nil)))) (.cons (.tup (.cons (.con (.int 3)) (.cons (.con (.int 3)) (.cons (.tup .nil) .nil)))) (.cons (.tup (.cons (.con (.int 3)) (.cons (.con (.bl true)) (.cons (.tup .nil) .nil)))) (.cons (.tup (.cons (.con (.int 3)) (.cons (.con (.int 1)) (.cons (.tup (.cons (.tup (.cons (.con (.int 0)) (.cons (.con (.int 0)) .nil))) .nil)) .nil)))) (.cons (.tup (.cons (.con (.int 3)) (.cons (.con (.int 1)) (.cons (.tup (.cons (.tup (.cons (.con (.int 0)) (.cons (.con (.int 0)) (.cons (.con (.int 3)) .nil)))) .nil)) .nil)))) (.cons (.tup (.cons (.con (.int 3)) (.cons (.con (.int 1)) (.cons (.tup (.cons (.tup (.cons (.con (.int 0)) (.cons (.con (.int 0)) (.cons (.con (.bl true)) .nil)))) .nil)) .nil)))) (.cons (.tup (.cons (.con (.int 3)) (.cons (.con (.int 1)) (.cons (.lst (.cons (.tup (.cons (.con (.int 0)) (.cons (.con (.int 0)) (.cons (.con (.int 0)) .nil)))) .nil)) .nil)))) (.cons (.tup (.cons (.con (.int 3)) (.cons (.con (.int 1)) (.cons (.op .mul (.tup (.cons (.tup (.cons (.con (.int 0)) (.cons (.con (.int 0)) (.cons (.con (.int 0)) .nil)))) .nil)) (.con (.int 5))) .nil)))) (.cons (.tup (.cons (.con (.bl true)) (.cons (.con (.int 0)) (.cons (.tup .nil) .nil)))) (.cons (.con (.int 3)) .nil)))))))))))))))) (EL sc (some (kS, false)) none none none none none none none none none none none none none s) = .ok (.nx (EL sc (some (kS, false)) (some (.lst bS, true)) none none none none none none none none none none none none s)) := by kernel_rfl
theorem v3 (s : Strm) : evS E_law (.set 4 (.lst (.cons (.con (.int 3)) (.cons (.neg (.con (.int 1))) (.cons (.con .non) (.cons (.con (.bl true)) (.cons (.con (.str "0")) (.cons (.tup (.cons (.con (.int 0)) .nil)) .nil)))))))) (EL sc (some (kS, false)) (some (.lst bS, true)) none none none none none none none none none none none none s) = .ok (.nx (EL sc (some (kS, false)) (some (.lst bS, true)) (some (.lst bT, true)) none none none none none none none none none none none s)) := by kernel_rfl
theorem v4 (s : Strm) : evS E_law (.set 5 (.lst (.cons (.con .non) (.cons (.lst (.cons (.con (.int 0)) .nil)) (.cons (.tup (.cons (.con (.int 2)) .nil)) (.cons (.tup (.cons (.neg (.con (.int 1))) .nil)) (.cons (.tup (.cons (.con (.bl true)) .nil)) (.cons (.tup (.cons (.con .non) .nil)) (.cons (.op .mul (.tup (.cons (.con (.int 0)) .nil)) (.con (.int 17))) (.cons (.con (.int 0)) (.cons (.con (.str "")) (.cons (.tup (.cons (.con (.str "0")) .nil)) (.cons (.tup (.cons (.con (.int 0)) (.cons (.con (.int 2)) .nil))) .nil))))))))))))) (EL sc (some (kS, false)) (some (.lst bS, true)) (some (.lst bT, true)) none none none none none none none none none none none s) = .ok (.nx (EL sc (some (kS, false)) (some (.lst bS, true)) (some (.lst bT, true)) (some (.lst bQ, true)) none none none none none none none none none none s)) := by kernel_rfl
theorem v5 (s : Strm) : evS E_law (.set 6 (.lst (.cons (.con (.int 2)) (.cons (.neg (.con (.int 1))) (.cons (.con .non) (.cons (.con (.bl true)) (.cons (.con (.str "0")) .nil))))))) (EL sc (some (kS, false)) (some (.lst bS, true)) (some (.lst bT, true)) (some (.lst bQ, true)) none none none none none none none none none none s) = .ok (.nx (EL sc (some (kS, false)) (some (.lst bS, true)) (some (.lst bT, true)) (some (.lst bQ, true)) (some (.lst bC, true)) none none none none none none none none none s)) := by kernel_rfl
theorem v6 (s : Strm) : ∃ g ∈ gd, ∃ s', evS E_law (.set 7 (.call "_law_pick" (.cons (.var 1) (.cons (.lst (.cons (.tup .nil) (.cons (.tup (.cons (.con (.int 0)) (.cons (.con (.int 1)) .nil))) (.cons (.op .mul (.tup (.cons (.con (.int 1)) .nil)) (.con (.int 16))) .nil)))) .nil)))) (EL sc (some (kS, false)) (some (.lst bS, true)) (some (.lst bT, true)) (some (.lst bQ, true)) (some (.lst bC, true)) none none none none none none none none none s) = .ok (.nx (EL sc (some (kS, false)) (some (.lst bS, true)) (some (.lst bT, true)) (some (.lst bQ, true)) (some (.lst bC, true)) (some (g, false)) none none none none none none none none s')) := by
  obtain ⟨g, hg, s', e⟩ := e_pick (opts := gd) (by decide) (by decide) s
  refine ⟨g, hg, s', ?_⟩
  have ea : evEs E_law (.cons (.var 1) (.cons (.lst (.cons (.tup .nil) (.cons (.tup (.cons (.con (.int 0)) (.cons (.con (.int 1)) .nil))) (.cons (.op .mul (.tup (.cons (.con (.int 1)) .nil)) (.con (.int 16))) .nil)))) .nil)) (EL sc (some (kS, false)) (some (.lst bS, true)) (some (.lst bT, true)) (some (.lst bQ, true)) (some (.lst bC, true)) none none none none none none none none none s) = .ok ([.old .strm, .frs (.lst gd)], (EL sc (some (kS, false)) (some (.lst bS, true)) (some (.lst bT, true)) (some (.lst bQ, true)) (some (.lst bC, true)) none none none none none none none none none s)) := by kernel_rfl
  rw [evS.eq_1, evE.eq_16, ea, R.bd_ok]
  simp only
  have er : rds (EL sc (some (kS, false)) (some (.lst bS, true)) (some (.lst bT, true)) (some (.lst bQ, true)) (some (.lst bC, true)) none none none none none none none none none s) [.old .strm, .frs (.lst gd)] = some [.strm, .lst gd] := rfl
  rw [er, R.of_some, R.bd_ok, E_law_law_pick]
  rw [e, R.bd_ok]
  simp only [gd, List.mem_cons, List.not_mem_nil, or_false] at hg
  rcases hg with rfl | rfl | rfl <;> rfl
theorem v7 (g : D) (s : Strm) : evS E_law (.set 8 (.lc [9] (.name 9) .val (.cons (.lst (.cons (.con (.str "led")) (.cons (.con (.str "run")) .nil))) .nil) .none (.tup (.cons (.var 9) (.cons (.lst (.cons (.var 2) (.cons (.con (.int 2)) (.cons (.var 7) .nil)))) (.cons (.lst (.cons (.var 3) (.cons (.var 4) (.cons (.var 5) .nil)))) (.cons (.lst (.cons (.con (.str "system")) (.cons (.con (.str "state")) (.cons (.con (.str "sequence")) .nil)))) .nil))))))) (EL sc (some (kS, false)) (some (.lst bS, true)) (some (.lst bT, true)) (some (.lst bQ, true)) (some (.lst bC, true)) (some (g, false)) none none none none none none none none s) = .ok (.nx (EL sc (some (kS, false)) (some (.lst bS, false)) (some (.lst bT, false)) (some (.lst bQ, false)) (some (.lst bC, true)) (some (g, false)) (some (.lst [(rw0 g), (rw1 g)], true)) none none none none none none none s)) := by kernel_rfl
theorem v8 (g : D) (s : Strm) : evS E_law (.ex (.mth .extend (.var 8) (.cons (.lc [9] (.name 9) .val (.cons (.lst (.cons (.con (.str "sequence")) (.cons (.con (.str "evidence")) (.cons (.con (.str "reaches")) .nil)))) .nil) .none (.tup (.cons (.var 9) (.cons (.lst (.cons (.var 2) (.cons (.con (.int 2)) (.cons (.con (.int 0)) .nil)))) (.cons (.lst (.cons (.var 3) (.cons (.var 4) (.cons (.var 4) .nil)))) (.cons (.lst (.cons (.con (.str "system")) (.cons (.con (.str "state")) (.cons (.con (.str "target")) .nil)))) .nil)))))) .nil))) (EL sc (some (kS, false)) (some (.lst bS, false)) (some (.lst bT, false)) (some (.lst bQ, false)) (some (.lst bC, true)) (some (g, false)) (some (.lst [(rw0 g), (rw1 g)], true)) none none none none none none none s) = .ok (.nx (EL sc (some (kS, false)) (some (.lst bS, false)) (some (.lst bT, false)) (some (.lst bQ, false)) (some (.lst bC, true)) (some (g, false)) (some (.lst [(rw0 g), (rw1 g), rw2, rw3, rw4], true)) none none none none none none none s)) := by kernel_rfl
theorem v9 (g : D) (s : Strm) : evS E_law (.ex (.mth .extend (.var 8) (.cons (.lc [9] (.name 9) .val (.cons (.lst (.cons (.con (.str "reachable")) (.cons (.con (.str "one")) .nil))) .nil) .none (.tup (.cons (.var 9) (.cons (.lst (.cons (.var 2) .nil)) (.cons (.lst (.cons (.var 3) .nil)) (.cons (.lst (.cons (.con (.str "system")) .nil)) .nil)))))) .nil))) (EL sc (some (kS, false)) (some (.lst bS, false)) (some (.lst bT, false)) (some (.lst bQ, false)) (some (.lst bC, true)) (some (g, false)) (some (.lst [(rw0 g), (rw1 g), rw2, rw3, rw4], true)) none none none none none none none s) = .ok (.nx (EL sc (some (kS, false)) (some (.lst bS, false)) (some (.lst bT, false)) (some (.lst bQ, false)) (some (.lst bC, true)) (some (g, false)) (some (.lst [(rw0 g), (rw1 g), rw2, rw3, rw4, rw5, rw6], true)) none none none none none none none s)) := by kernel_rfl
theorem v10 (g : D) (s : Strm) : evS E_law (.ex (.mth .append (.var 8) (.cons (.tup (.cons (.con (.str "agree")) (.cons (.lst (.cons (.var 2) (.cons (.var 7) (.cons (.tup (.cons (.con (.int 1)) .nil)) (.cons (.con (.int 0)) .nil))))) (.cons (.lst (.cons (.var 3) (.cons (.var 5) (.cons (.var 5) (.cons (.var 4) .nil))))) (.cons (.lst (.cons (.con (.str "system")) (.cons (.con (.str "first")) (.cons (.con (.str "second")) (.cons (.con (.str "state")) .nil))))) .nil))))) .nil))) (EL sc (some (kS, false)) (some (.lst bS, false)) (some (.lst bT, false)) (some (.lst bQ, false)) (some (.lst bC, true)) (some (g, false)) (some (.lst [(rw0 g), (rw1 g), rw2, rw3, rw4, rw5, rw6], true)) none none none none none none none s) = .ok (.nx (EL sc (some (kS, false)) (some (.lst bS, false)) (some (.lst bT, false)) (some (.lst bQ, false)) (some (.lst bC, true)) (some (g, false)) (some (.lst [(rw0 g), (rw1 g), rw2, rw3, rw4, rw5, rw6, (rw7 g)], true)) none none none none none none none s)) := by kernel_rfl
theorem v11 (g : D) (s : Strm) : evS E_law (.ex (.mth .append (.var 8) (.cons (.tup (.cons (.con (.str "difference")) (.cons (.lst (.cons (.var 2) (.cons (.var 7) (.cons (.tup (.cons (.con (.int 1)) .nil)) .nil)))) (.cons (.lst (.cons (.var 3) (.cons (.var 5) (.cons (.var 5) .nil)))) (.cons (.lst (.cons (.con (.str "system")) (.cons (.con (.str "first")) (.cons (.con (.str "second")) .nil)))) .nil))))) .nil))) (EL sc (some (kS, false)) (some (.lst bS, false)) (some (.lst bT, false)) (some (.lst bQ, false)) (some (.lst bC, true)) (some (g, false)) (some (.lst [(rw0 g), (rw1 g), rw2, rw3, rw4, rw5, rw6, (rw7 g)], true)) none none none none none none none s) = .ok (.nx (EL sc (some (kS, false)) (some (.lst bS, false)) (some (.lst bT, false)) (some (.lst bQ, false)) (some (.lst bC, true)) (some (g, false)) (some (.lst [(rw0 g), (rw1 g), rw2, rw3, rw4, rw5, rw6, (rw7 g), (rw8 g)], true)) none none none none none none none s)) := by kernel_rfl
theorem v12 (g : D) (s : Strm) : evS E_law (.ex (.mth .extend (.var 8) (.cons (.lc [9] (.name 9) .val (.cons (.lst (.cons (.con (.str "merged")) (.cons (.con (.str "merges")) (.cons (.con (.str "inverse")) .nil)))) .nil) .none (.tup (.cons (.var 9) (.cons (.lst (.cons (.var 2) (.cons (.con (.int 1)) .nil))) (.cons (.lst (.cons (.var 3) (.cons (.var 6) .nil))) (.cons (.lst (.cons (.con (.str "system")) (.cons (.con (.str "command")) .nil))) .nil)))))) .nil))) (EL sc (some (kS, false)) (some (.lst bS, false)) (some (.lst bT, false)) (some (.lst bQ, false)) (some (.lst bC, true)) (some (g, false)) (some (.lst [(rw0 g), (rw1 g), rw2, rw3, rw4, rw5, rw6, (rw7 g), (rw8 g)], true)) none none none none none none none s) = .ok (.nx (EL sc (some (kS, false)) (some (.lst bS, false)) (some (.lst bT, false)) (some (.lst bQ, false)) (some (.lst bC, false)) (some (g, false)) (some (.lst [(rw0 g), (rw1 g), rw2, rw3, rw4, rw5, rw6, (rw7 g), (rw8 g), rw9, rw10, rw11], true)) none none none none none none none s)) := by kernel_rfl
theorem v13 (g : D) (s : Strm) : evS E_law (.ex (.mth .append (.var 8) (.cons (.tup (.cons (.con (.str "exchanged")) (.cons (.lst (.cons (.var 2) (.cons (.con (.int 1)) (.cons (.con (.int 0)) .nil)))) (.cons (.lst (.cons (.var 3) (.cons (.var 6) (.cons (.var 6) .nil)))) (.cons (.lst (.cons (.con (.str "system")) (.cons (.con (.str "command")) (.cons (.con (.str "other")) .nil)))) .nil))))) .nil))) (EL sc (some (kS, false)) (some (.lst bS, false)) (some (.lst bT, false)) (some (.lst bQ, false)) (some (.lst bC, false)) (some (g, false)) (some (.lst [(rw0 g), (rw1 g), rw2, rw3, rw4, rw5, rw6, (rw7 g), (rw8 g), rw9, rw10, rw11], true)) none none none none none none none s) = .ok (.nx (EL sc (some (kS, false)) (some (.lst bS, false)) (some (.lst bT, false)) (some (.lst bQ, false)) (some (.lst bC, false)) (some (g, false)) (some (.lst [(rw0 g), (rw1 g), rw2, rw3, rw4, rw5, rw6, (rw7 g), (rw8 g), rw9, rw10, rw11, rw12], true)) none none none none none none none s)) := by kernel_rfl
theorem v14 {g : D} (hg : g ∈ gd) (s : Strm) : ∃ (wd fine bad nms : D) (k : Option Int) (wr al : Option (List D)) (s2 : Strm), evS E_law (.fr (.tup (.cons (.name 9) (.cons (.name 10) (.cons (.name 11) (.cons (.name 12) .nil))))) .val (.cons (.var 8) .nil) (.cons (.ite (.cmp .ne (.call "_law_told" (.cons (.var 9) (.cons (.var 10) .nil))) (.con (.str ""))) (.cons (.ret (.con (.bl false))) .nil) .nil) (.cons (.fr (.name 13) .rng1 (.cons (.bfn .len (.var 10)) .nil) (.cons (.set 14 (.lc [16] (.name 16) .val (.cons (.var 11) .nil) .none (.call "_law_pick" (.cons (.var 1) (.cons (.var 16) .nil))))) (.cons (.set 15 (.op .add (.op .add (.slc (.var 10) .none (.some (.var 13))) (.lst (.cons (.ix (.var 14) (.var 13)) .nil))) (.slc (.var 10) (.some (.op .add (.var 13) (.con (.int 1)))) .none))) (.cons (.ite (.bop false (.cmp .ne (.call "_law_told" (.cons (.var 9) (.cons (.var 15) .nil))) (.ix (.var 12) (.var 13))) (.cons (.cmp .ne (.call "_law_told" (.cons (.var 9) (.cons (.op .add (.slc (.var 10) .none (.some (.var 13))) (.slc (.var 14) (.some (.var 13)) .none)) .nil))) (.ix (.var 12) (.var 13))) .nil)) (.cons (.ret (.con (.bl false))) .nil) .nil) .nil)))) .nil))) (EL sc (some (kS, false)) (some (.lst bS, false)) (some (.lst bT, false)) (some (.lst bQ, false)) (some (.lst bC, false)) (some (g, false)) (some (.lst [(rw0 g), (rw1 g), rw2, rw3, rw4, rw5, rw6, (rw7 g), (rw8 g), rw9, rw10, rw11, rw12], true)) none none none none none none none s) = .ok (.nx (EK sc kS (.lst bS) (.lst bT) (.lst bQ) (.lst bC) g (.lst [(rw0 g), (rw1 g), rw2, rw3, rw4, rw5, rw6, (rw7 g), (rw8 g), rw9, rw10, rw11, rw12]) wd fine bad nms (oki k) (ol wr) (ol al) s2)) := by
  obtain ⟨k0, wr0, al0, s0, q0⟩ := row_3 (sc := sc) (a2 := kS) (a3 := .lst bS) (a4 := .lst bT) (a5 := .lst bQ) (a6 := .lst bC) (a7 := g) (a8 := .lst [(rw0 g), (rw1 g), rw2, rw3, rw4, rw5, rw6, (rw7 g), (rw8 g), rw9, rw10, rw11, rw12]) (r_0 hg) (by intro b h; simp only [List.mem_cons, List.not_mem_nil, or_false] at h; rcases h with rfl | rfl | rfl <;> exact ⟨by decide, by decide⟩) (by intro b h; simp only [List.mem_cons, List.not_mem_nil, or_false] at h; rcases h with rfl | rfl | rfl <;> first | exact n_system | exact n_state | exact n_sequence) n_empty none none none s
  obtain ⟨k1, wr1, al1, s1, q1⟩ := row_3 (sc := sc) (a2 := kS) (a3 := .lst bS) (a4 := .lst bT) (a5 := .lst bQ) (a6 := .lst bC) (a7 := g) (a8 := .lst [(rw0 g), (rw1 g), rw2, rw3, rw4, rw5, rw6, (rw7 g), (rw8 g), rw9, rw10, rw11, rw12]) (r_1 hg) (by intro b h; simp only [List.mem_cons, List.not_mem_nil, or_false] at h; rcases h with rfl | rfl | rfl <;> exact ⟨by decide, by decide⟩) (by intro b h; simp only [List.mem_cons, List.not_mem_nil, or_false] at h; rcases h with rfl | rfl | rfl <;> first | exact n_system | exact n_state | exact n_sequence) n_empty k0 wr0 al0 s0
  obtain ⟨k2, wr2, al2, s2, q2⟩ := row_3 (sc := sc) (a2 := kS) (a3 := .lst bS) (a4 := .lst bT) (a5 := .lst bQ) (a6 := .lst bC) (a7 := g) (a8 := .lst [(rw0 g), (rw1 g), rw2, rw3, rw4, rw5, rw6, (rw7 g), (rw8 g), rw9, rw10, rw11, rw12]) (r_2) (by intro b h; simp only [List.mem_cons, List.not_mem_nil, or_false] at h; rcases h with rfl | rfl | rfl <;> exact ⟨by decide, by decide⟩) (by intro b h; simp only [List.mem_cons, List.not_mem_nil, or_false] at h; rcases h with rfl | rfl | rfl <;> first | exact n_system | exact n_state | exact n_target) n_empty k1 wr1 al1 s1
  obtain ⟨k3, wr3, al3, s3, q3⟩ := row_3 (sc := sc) (a2 := kS) (a3 := .lst bS) (a4 := .lst bT) (a5 := .lst bQ) (a6 := .lst bC) (a7 := g) (a8 := .lst [(rw0 g), (rw1 g), rw2, rw3, rw4, rw5, rw6, (rw7 g), (rw8 g), rw9, rw10, rw11, rw12]) (r_3) (by intro b h; simp only [List.mem_cons, List.not_mem_nil, or_false] at h; rcases h with rfl | rfl | rfl <;> exact ⟨by decide, by decide⟩) (by intro b h; simp only [List.mem_cons, List.not_mem_nil, or_false] at h; rcases h with rfl | rfl | rfl <;> first | exact n_system | exact n_state | exact n_target) n_empty k2 wr2 al2 s2
  obtain ⟨k4, wr4, al4, s4, q4⟩ := row_3 (sc := sc) (a2 := kS) (a3 := .lst bS) (a4 := .lst bT) (a5 := .lst bQ) (a6 := .lst bC) (a7 := g) (a8 := .lst [(rw0 g), (rw1 g), rw2, rw3, rw4, rw5, rw6, (rw7 g), (rw8 g), rw9, rw10, rw11, rw12]) (r_4) (by intro b h; simp only [List.mem_cons, List.not_mem_nil, or_false] at h; rcases h with rfl | rfl | rfl <;> exact ⟨by decide, by decide⟩) (by intro b h; simp only [List.mem_cons, List.not_mem_nil, or_false] at h; rcases h with rfl | rfl | rfl <;> first | exact n_system | exact n_state | exact n_target) n_empty k3 wr3 al3 s3
  obtain ⟨k5, wr5, al5, s5, q5⟩ := row_1 (sc := sc) (a2 := kS) (a3 := .lst bS) (a4 := .lst bT) (a5 := .lst bQ) (a6 := .lst bC) (a7 := g) (a8 := .lst [(rw0 g), (rw1 g), rw2, rw3, rw4, rw5, rw6, (rw7 g), (rw8 g), rw9, rw10, rw11, rw12]) (r_5) (by intro b h; simp only [List.mem_cons, List.not_mem_nil, or_false] at h; rcases h with rfl <;> exact ⟨by decide, by decide⟩) (by intro b h; simp only [List.mem_cons, List.not_mem_nil, or_false] at h; rcases h with rfl <;> first | exact n_system) n_empty k4 wr4 al4 s4
  obtain ⟨k6, wr6, al6, s6, q6⟩ := row_1 (sc := sc) (a2 := kS) (a3 := .lst bS) (a4 := .lst bT) (a5 := .lst bQ) (a6 := .lst bC) (a7 := g) (a8 := .lst [(rw0 g), (rw1 g), rw2, rw3, rw4, rw5, rw6, (rw7 g), (rw8 g), rw9, rw10, rw11, rw12]) (r_6) (by intro b h; simp only [List.mem_cons, List.not_mem_nil, or_false] at h; rcases h with rfl <;> exact ⟨by decide, by decide⟩) (by intro b h; simp only [List.mem_cons, List.not_mem_nil, or_false] at h; rcases h with rfl <;> first | exact n_system) n_empty k5 wr5 al5 s5
  obtain ⟨k7, wr7, al7, s7, q7⟩ := row_4 (sc := sc) (a2 := kS) (a3 := .lst bS) (a4 := .lst bT) (a5 := .lst bQ) (a6 := .lst bC) (a7 := g) (a8 := .lst [(rw0 g), (rw1 g), rw2, rw3, rw4, rw5, rw6, (rw7 g), (rw8 g), rw9, rw10, rw11, rw12]) (r_7 hg) (by intro b h; simp only [List.mem_cons, List.not_mem_nil, or_false] at h; rcases h with rfl | rfl | rfl | rfl <;> exact ⟨by decide, by decide⟩) (by intro b h; simp only [List.mem_cons, List.not_mem_nil, or_false] at h; rcases h with rfl | rfl | rfl | rfl <;> first | exact n_system | exact n_first | exact n_second | exact n_state) n_empty k6 wr6 al6 s6
  obtain ⟨k8, wr8, al8, s8, q8⟩ := row_3 (sc := sc) (a2 := kS) (a3 := .lst bS) (a4 := .lst bT) (a5 := .lst bQ) (a6 := .lst bC) (a7 := g) (a8 := .lst [(rw0 g), (rw1 g), rw2, rw3, rw4, rw5, rw6, (rw7 g), (rw8 g), rw9, rw10, rw11, rw12]) (r_8 hg) (by intro b h; simp only [List.mem_cons, List.not_mem_nil, or_false] at h; rcases h with rfl | rfl | rfl <;> exact ⟨by decide, by decide⟩) (by intro b h; simp only [List.mem_cons, List.not_mem_nil, or_false] at h; rcases h with rfl | rfl | rfl <;> first | exact n_system | exact n_first | exact n_second) n_empty k7 wr7 al7 s7
  obtain ⟨k9, wr9, al9, s9, q9⟩ := row_2 (sc := sc) (a2 := kS) (a3 := .lst bS) (a4 := .lst bT) (a5 := .lst bQ) (a6 := .lst bC) (a7 := g) (a8 := .lst [(rw0 g), (rw1 g), rw2, rw3, rw4, rw5, rw6, (rw7 g), (rw8 g), rw9, rw10, rw11, rw12]) (r_9) (by intro b h; simp only [List.mem_cons, List.not_mem_nil, or_false] at h; rcases h with rfl | rfl <;> exact ⟨by decide, by decide⟩) (by intro b h; simp only [List.mem_cons, List.not_mem_nil, or_false] at h; rcases h with rfl | rfl <;> first | exact n_system | exact n_command) n_empty k8 wr8 al8 s8
  obtain ⟨k10, wr10, al10, s10, q10⟩ := row_2 (sc := sc) (a2 := kS) (a3 := .lst bS) (a4 := .lst bT) (a5 := .lst bQ) (a6 := .lst bC) (a7 := g) (a8 := .lst [(rw0 g), (rw1 g), rw2, rw3, rw4, rw5, rw6, (rw7 g), (rw8 g), rw9, rw10, rw11, rw12]) (r_10) (by intro b h; simp only [List.mem_cons, List.not_mem_nil, or_false] at h; rcases h with rfl | rfl <;> exact ⟨by decide, by decide⟩) (by intro b h; simp only [List.mem_cons, List.not_mem_nil, or_false] at h; rcases h with rfl | rfl <;> first | exact n_system | exact n_command) n_empty k9 wr9 al9 s9
  obtain ⟨k11, wr11, al11, s11, q11⟩ := row_2 (sc := sc) (a2 := kS) (a3 := .lst bS) (a4 := .lst bT) (a5 := .lst bQ) (a6 := .lst bC) (a7 := g) (a8 := .lst [(rw0 g), (rw1 g), rw2, rw3, rw4, rw5, rw6, (rw7 g), (rw8 g), rw9, rw10, rw11, rw12]) (r_11) (by intro b h; simp only [List.mem_cons, List.not_mem_nil, or_false] at h; rcases h with rfl | rfl <;> exact ⟨by decide, by decide⟩) (by intro b h; simp only [List.mem_cons, List.not_mem_nil, or_false] at h; rcases h with rfl | rfl <;> first | exact n_system | exact n_command) n_empty k10 wr10 al10 s10
  obtain ⟨k12, wr12, al12, s12, q12⟩ := row_3 (sc := sc) (a2 := kS) (a3 := .lst bS) (a4 := .lst bT) (a5 := .lst bQ) (a6 := .lst bC) (a7 := g) (a8 := .lst [(rw0 g), (rw1 g), rw2, rw3, rw4, rw5, rw6, (rw7 g), (rw8 g), rw9, rw10, rw11, rw12]) (r_12) (by intro b h; simp only [List.mem_cons, List.not_mem_nil, or_false] at h; rcases h with rfl | rfl | rfl <;> exact ⟨by decide, by decide⟩) (by intro b h; simp only [List.mem_cons, List.not_mem_nil, or_false] at h; rcases h with rfl | rfl | rfl <;> first | exact n_system | exact n_command | exact n_other) n_empty k11 wr11 al11 s11
  refine ⟨.str "exchanged", .lst [kS, .int 1, .int 0], .lst [.lst bS, .lst bC, .lst bC], .lst [.str "system", .str "command", .str "other"], k12, wr12, al12, s12, ev_for (Γ1 := (EL sc (some (kS, false)) (some (.lst bS, false)) (some (.lst bT, false)) (some (.lst bQ, false)) (some (.lst bC, false)) (some (g, false)) (some (.lst [(rw0 g), (rw1 g), rw2, rw3, rw4, rw5, rw6, (rw7 g), (rw8 g), rw9, rw10, rw11, rw12], true)) none none none none none none none s)) (ps := [.vr 8]) (ds := [.lst [(rw0 g), (rw1 g), rw2, rw3, rw4, rw5, rw6, (rw7 g), (rw8 g), rw9, rw10, rw11, rw12]]) (xs := [(rw0 g), (rw1 g), rw2, rw3, rw4, rw5, rw6, (rw7 g), (rw8 g), rw9, rw10, rw11, rw12]) (by kernel_rfl) (by kernel_rfl) (by kernel_rfl) ?_⟩
  show forN _ _ _ (EL sc (some (kS, false)) (some (.lst bS, false)) (some (.lst bT, false)) (some (.lst bQ, false)) (some (.lst bC, false)) (some (g, false)) (some (.lst [(rw0 g), (rw1 g), rw2, rw3, rw4, rw5, rw6, (rw7 g), (rw8 g), rw9, rw10, rw11, rw12], false)) none none none none none none none s) = _
  refine (forN_step asg_row q0).trans ?_
  refine (forN_step asg_row q1).trans ?_
  refine (forN_step asg_row q2).trans ?_
  refine (forN_step asg_row q3).trans ?_
  refine (forN_step asg_row q4).trans ?_
  refine (forN_step asg_row q5).trans ?_
  refine (forN_step asg_row q6).trans ?_
  refine (forN_step asg_row q7).trans ?_
  refine (forN_step asg_row q8).trans ?_
  refine (forN_step asg_row q9).trans ?_
  refine (forN_step asg_row q10).trans ?_
  refine (forN_step asg_row q11).trans ?_
  refine (forN_step asg_row q12).trans ?_
  rfl
theorem told_end (s : Strm) : m_law_told [.str "inverse", .lst [.tup [.int 2, .int 0, .tup [.tup [.int 1, .int 1]]], .int 1]] (some s) = .ok (.str "command", false, some s) := by kernel_rfl
theorem v15 {a2 a3 a4 a5 a6 a7 a8 wd fine bad nms : D} (k : Option Int) (wr al : Option (List D)) (s : Strm) : evS E_law (.ret (.cmp .eq (.call "_law_told" (.cons (.con (.str "inverse")) (.cons (.lst (.cons (.tup (.cons (.con (.int 2)) (.cons (.con (.int 0)) (.cons (.tup (.cons (.tup (.cons (.con (.int 1)) (.cons (.con (.int 1)) .nil))) .nil)) .nil)))) (.cons (.con (.int 1)) .nil))) .nil))) (.con (.str "command")))) (EK sc a2 a3 a4 a5 a6 a7 a8 wd fine bad nms (oki k) (ol wr) (ol al) s) = .ok (.ret (.bl true) false (some s)) := by
  have t := ev_told (es := (.cons (.con (.str "inverse")) (.cons (.lst (.cons (.tup (.cons (.con (.int 2)) (.cons (.con (.int 0)) (.cons (.tup (.cons (.tup (.cons (.con (.int 1)) (.cons (.con (.int 1)) .nil))) .nil)) .nil)))) (.cons (.con (.int 1)) .nil))) .nil))) (Γ := EK sc a2 a3 a4 a5 a6 a7 a8 wd fine bad nms (oki k) (ol wr) (ol al) s) (ps := [.old (.str "inverse"), .frs (.lst [.tup [.int 2, .int 0, .tup [.tup [.int 1, .int 1]]], .int 1])]) (ds := [.str "inverse", .lst [.tup [.int 2, .int 0, .tup [.tup [.int 1, .int 1]]], .int 1]]) (nm := "command") (s := s) (by kernel_rfl) (by kernel_rfl) rfl (by cases k <;> cases wr <;> cases al <;> kernel_rfl) (told_end s)
  have n1 : evE E_law (.con (.str "command")) (EK sc a2 a3 a4 a5 a6 a7 a8 wd fine bad nms (oki k) (ol wr) (ol al) s) = .ok (.old (.str "command"), EK sc a2 a3 a4 a5 a6 a7 a8 wd fine bad nms (oki k) (ol wr) (ol al) s) := by kernel_rfl
  have e := ev_eq n_command t n1
  rw [evS.eq_5, e]
  rfl
theorem law_go (ns : List Int) (h : mStream [sc] none = .ok (.strm, false, some ⟨ns, 0, 0⟩)) : ∃ w', m_law [sc] none = .ok (.bl true, false, w') := by
  have w1 : evS E_law (.set 1 (.call "_law_stream" (.cons (.var 0) .nil))) { sl := [some (sc, false), none, none, none, none, none, none, none, none, none, none, none, none, none, none, none, none], w := none } = .ok (.nx (EL sc none none none none none none none none none none none none none none ⟨ns, 0, 0⟩)) := by
    simp [E_law_law_stream, h, List.set, evSs, evS.eq_1, evS.eq_2, evS.eq_3, evS.eq_4, evS.eq_5, evS.eq_6, evS.eq_7, evS.eq_10, evS.eq_11, evS.eq_12, evS.eq_13, evS.eq_14, evE.eq_1, evE.eq_2, evE.eq_3, evE.eq_4, evE.eq_5, evE.eq_6, evE.eq_7, evE.eq_8, evE.eq_9, evE.eq_10, evE.eq_11, evE.eq_12, evE.eq_13, evE.eq_14, evE.eq_15, evE.eq_16, evE.eq_17, evE.eq_18, evE.eq_19, evE.eq_20, evE.eq_21, evE.eq_22, evB, evEs, evC, evCB, evI, evO, R.bd_ok, R.bd_err, R.st_ok, R.of_some, rd_old, rd_frs, rd_vr, mkP_f, mkP_l, fzps_nil, fzps_old, fzps_frs, fzp_old, fzp_frs, rds_nil, rds_old, rds_frs, Option.map_some, cm_lt, cm_le, cm_gt, cm_ge, cm_eq, cm_ne, eq_int, op_add, op_sub, ix_tup, ix_lst, bf_len, len_tup, len_lst, ofV, okV, ite_self, List.map_cons, List.map_nil, List.getElem?_cons_zero, List.getElem?_cons_succ, List.cons_append, List.nil_append, List.length_cons, List.length_nil, ne_eq, not_true, not_false_eq_true, if_true, if_false, Bool.false_eq_true, List.replicate_succ, List.replicate_zero]
  obtain ⟨g, hg, s1, w6⟩ := v6 sc ⟨ns, 0, 0⟩
  obtain ⟨wd, fine, bad, nms, k, wr, al, s2, w14⟩ := v14 sc hg s1
  unfold m_law runD
  rw [if_neg (by simp [d_law])]
  show ∃ w', (evSs E_law b_law { sl := [some (sc, false), none, none, none, none, none, none, none, none, none, none, none, none, none, none, none, none], w := none }).bd _ = _
  have key : evSs E_law b_law { sl := [some (sc, false), none, none, none, none, none, none, none, none, none, none, none, none, none, none, none, none], w := none } = .ok (.ret (.bl true) false (some s2)) := by
    unfold b_law
    rw [nxS w1, nxS (v1 sc _), nxS (v2 sc _), nxS (v3 sc _), nxS (v4 sc _), nxS (v5 sc _), nxS w6, nxS (v7 sc g _), nxS (v8 sc g _), nxS (v9 sc g _), nxS (v10 sc g _), nxS (v11 sc g _), nxS (v12 sc g _), nxS (v13 sc g _), nxS w14]
    simp only [evSs]
    rw [v15 sc]
    rfl
  rw [key]
  exact ⟨_, rfl⟩
end
theorem law_math (ns : List Int) : (∃ w', m_law [.scr ns] none = .ok (.bl true, false, w')) ∧ ∃ w', m_law [.lst (ns.map .int)] none = .ok (.bl true, false, w') := by
  refine ⟨law_go _ ns rfl, law_go _ ns ?_⟩
  have e : ∀ ns : List Int, intsD (ns.map D.int) = some ns := fun ns => by
    induction ns with
    | nil => rfl
    | cons x xs ih => simp [intsD, ih]
  simp only [mStream, e]
end Ux

namespace Ux
open PySem PySem.Spec PyProof.Rows L2 GxR

end Ux
namespace PySem
namespace Low_BadValue
open PySem.W PySem.Calls PyProof.Rows PySem.HandSPX
/-! ### the text of __init__ -/
def iA (p1 p2 : Pos) : Arguments := { posonlyargs := [], args := [{ arg := "self", annotation := none, pos := p1 }, { arg := "name", annotation := none, pos := p2 }], vararg := none, kwonlyargs := [], kw_defaults := [], kwarg := none, defaults := [] }
def iB (q1 q2 q3 q4 : Pos) : List Stmt := [.Assign [.Attribute (.Name "self" q1) "name" q2] (.Name "name" q3) q4]
def iS : Scope := { kind := .function, names := [(PySem.Str.ofString "self", .local), (PySem.Str.ofString "name", .local)], isGenerator := false, isCoroutine := false, more := [] }
/-- what the written part says of Low, at C, and of its __init__, at fI -/
structure LowTxt (K : Frag) (mg : Str → Option Value) (C fI : Addr) : Prop where
  gC : mg "BadValue" = some (.ref C)
  cls : ∃ nm q N bs bm sn sub ab col dd k0 k1 k2 k3 k5, K.lookup C = some (excClassObj nm q C N bs bm true sn sub ab col dd k0 k1 k2 k3 k5 "ValueError.__new__") ∧ refsVE bm = true
  sa : findIn K (.ref C) "__setattr__" = some (some (.builtin "object.__setattr__"))
  ga : findIn K (.ref C) "__getattribute__" = some (some (.builtin "BaseException.__getattribute__"))
  gg : findIn K (.ref C) "__getattr__" = some none
  noN : findIn K (.ref C) "name" = some none
  iC : findIn K (.ref C) "__init__" = some (some (.ref fI))
  tC : typeIn K (.ref fI) = some (.type "function")
  kC : keepIn K (.ref C) = true
  exC : subIn K (.ref C) (.type "BaseException") = some true
  tyC : typeIn K (.ref C) = some (.type "type")
  hdC : hasDictIn K C = true
  fn : ∃ (oc : Value) (od : Option Addr) (doc pm : Value) (an : Option Addr) (cdv ct : Value) (osl : Array (Option Value)) (p1 p2 q1 q2 q3 q4 : Pos),
    K.lookup fI = some ⟨oc, od, .func (fnOf "__init__" "BadValue.__init__" (iA p1 p2) (iB q1 q2 q3 q4) iS .none .none doc pm an cdv ct), osl⟩ ∧ codeIn K cdv "BadValue.__init__" = true
theorem one_size (v : Value) : [v].length ≤ sizeLine := by
  rw [sizeLine_eq]
  exact (by decide : 1 ≤ 16777216)
theorem kept_but {K : Frag} {h h' : Heap} {x : Addr} (X : K.In h) (hx : K.lookup x = none) (k : ∀ b o, b ≠ x → h.get? b = some o → h'.get? b = some o) : K.In h' := fun a o e =>
  k a o (fun z => by rw [z, hx] at e; cases e) (X a o e)
theorem ldC {M : Model} {s : Shared} {name : Str} {scope : Scope} {L a : Addr} {cd : Value} {m : Str → Option Value} {x : Str} {pos : Pos} {v : Value} {Q : Value → Shared → Prop} {A : Around} {E : Value → Shared → Prop} (hn : s.heap.Ns L m) (hv : m x = some v) (h : Q v s)
    (hk : scope.kind = .function := by rfl) (hl : (envOfC name scope L a cd).kindOf x = some .local := by rfl) (hd : (x == ("__debug__" : Str)) = false := by decide) :
    wpAny M A (eval (.Name x pos) (envOfC name scope L a cd)) Q E s := wpAny_Name (wpAny_loadName_local hk hl hn hv h) hd
/-- what __init__ leaves of a fresh exception at x -/
structure InitEnd (h h' : Heap) (x C dx t1 : Addr) (v : Value) : Prop where
  keep : ∀ b o, b ≠ x → h.get? b = some o → h'.get? b = some o
  obj : h'.get? x = some { cls := .ref C, dict := some dx, data := .fields #[.ref t1, .none, .none, .none, .bool false, .none] }
  dbig : h.objs.size ≤ dx
  dne : dx ≠ x
  ns : h'.Ns1 dx (fun y => if y = "name" then some v else none)
/-- a made Low -/
structure OwnMade (h h' : Heap) (e C d : Addr) (v : Value) : Prop where
  keep : ∀ b o, h.get? b = some o → h'.get? b = some o
  new : h.objs.size ≤ e
  obj : ∃ oe vs, h'.get? e = some oe ∧ oe.cls = .ref C ∧ oe.dict = some d ∧ oe.data = .fields vs ∧ vs[1]? = some .none
  dbig : h.objs.size ≤ d
  dne : d ≠ e
  ns : h'.Ns1 d (fun y => if y = "name" then some v else none)
section
variable {prog : Program} {w : World} {A : Around} {E : Value → Shared → Prop} {R : Result → Shared → Prop} {s : Shared} {K : Frag} {mg : Str → Option Value} {C fI : Addr}
theorem low_init (T : LowTxt K mg C fI) {x t0 : Addr} {v : Value} (X : K.In s.heap) (hlim : s.heap.NoLimit) (hx : s.heap.get? x = some (excO C t0)) (hnx : K.lookup x = none) (hroom : A.depth < recursionLimit)
    (hq : ∀ h' tk dx, InitEnd s.heap h' x C dx t0 v → R (.ok (.ret .none)) { s with heap := h', toks := tk }) :
    codeAny (model prog w) A (.call (.ref fI) ⟨[.ref x, v], []⟩) R s := by
  obtain ⟨oc, od, doc, pm, an, cdv, ct, osl, p1, p2, q1, q2, q3, q4, ho, hcd⟩ := T.fn
  obtain ⟨nm, q, N, bs, bm, sn, sub, ab, col, dd, k0, k1, k2, k3, k5, hC, hbm⟩ := T.cls
  have hcl : clsIn K C = some { name := nm, bases := bs, mro := .ref C :: bm, ns := N, qualname := q, hasDict := true, slotNames := sn, subclasses := sub, abstract := ab, collection := col, hasDel := false } := by unfold clsIn; rw [hC] <;> rfl
  refine Att.call_fn (binds := [("self", .ref x), ("name", v)]) X hlim ho hcd hroom (BindsTo.of_eq (by first | rfl | with_unfolding_all rfl)) (by first | rfl | decide | with_unfolding_all rfl) (fun s₁ IC => ?_) rfl rfl rfl
  obtain ⟨h₁, tk₁, rfl⟩ := IC.toInCall.same
  have k : ∀ b o, s.heap.get? b = some o → h₁.get? b = some o := IC.toInCall.keep
  have hn := IC.toInCall.ns
  have hxL : s.heap.objs.size ≠ x := Nat.ne_of_gt (Heap.lt_size hx)
  have X₁ : K.In h₁ := X.keeps k
  have hx₁ := k _ _ hx
  -- self.by = by
  show wpAny _ _ (execs _ _) _ _ _
  refine wpAny_execs_cons (plainObj_wpAny_Assign_Attribute ?_)
  refine ldC (v := v) hn (by first | rfl | with_unfolding_all rfl | kernel_rfl) (ldC (v := .ref x) hn (by first | rfl | with_unfolding_all rfl | kernel_rfl) ?_)
  refine set_plain X₁ (ox := excO C t0) (od := none) ⟨hx₁, rfl, rfl, trivial⟩ T.sa ?_
  refine exc_osa X₁ hx₁ hcl (show refsVE (.ref C :: bm) = true from hbm) rfl T.noN (fun h₃ tk₃ dx k₃ dn dne hx₃ hn₃ => ?_)
  show wpAny _ _ (execs _ _) _ _ _
  have z : s.heap.objs.size < h₁.objs.size := hn.lt
  exact wpAny_execs_nil (hq h₃ tk₃ dx ⟨fun b o hb e => k₃ b o hb (k b o e), hx₃, Nat.le_of_lt (Nat.lt_of_lt_of_le z dn), dne, hn₃⟩)
theorem low_made (T : LowTxt K mg C fI) {v : Value} (X : K.In s.heap) (hlim : s.heap.NoLimit) (hroom : A.depth + 1 < recursionLimit)
    (hq : ∀ h' tk e d, OwnMade s.heap h' e C d v → R (.ok (.ret (.ref e))) { s with heap := h', toks := tk }) :
    codeAny (model prog w) A (.call (.ref C) ⟨[v], []⟩) R s := by
  obtain ⟨nm, q, N, bs, bm, sn, sub, ab, col, dd, k0, k1, k2, k3, k5, hC, hbm⟩ := T.cls
  obtain ⟨hp, g, dr, tk, os⟩ := s
  have k : ∀ b o, hp.get? b = some o → ((hp.push (kdv_tup [v])).push (excO C hp.objs.size)).get? b = some o := fun b o e => Heap.get?_push_of_some _ (Heap.get?_push_of_some _ e)
  have hget : ((hp.push (kdv_tup [v])).push (excO C hp.objs.size)).get? (hp.objs.size + 1) = some (excO C hp.objs.size) := by heap_get
  have hnx : K.lookup (hp.objs.size + 1) = none := by
    cases e : K.lookup (hp.objs.size + 1) with
    | none => rfl
    | some o =>
      have z : hp.get? (hp.objs.size + 1) = some o := X _ _ e
      exact absurd (Nat.lt_of_succ_lt (Heap.lt_size z)) (Nat.lt_irrefl _)
  refine call_own F.excBase_ValueError (fun X => refsVE_contains X bm hbm) (X _ _ hC) (looks_findIn X T.iC) (fun self => bind_fn X self T.tC) (one_size v) ?_
  refine low_init (s := ⟨(hp.push (kdv_tup [v])).push (excO C hp.objs.size), g, dr, tk, os⟩) T (X.keeps k) (hlim.keeps k) hget hnx ?_ fun h' tk' dx ⟨k', hx, dn, dne, hns⟩ => ?_
  · show A.depth + 1 < recursionLimit
    exact hroom
  · have old : ∀ b o, hp.get? b = some o → h'.get? b = some o := fun b o e => k' b o (Nat.ne_of_lt (Nat.lt_succ_of_lt (Heap.lt_size e))) (k b o e)
    have z : hp.objs.size + 1 + 1 ≤ dx := by
      first
        | (simpa only [Heap.size_push] using dn)
        | exact dn
        | (have q := dn; rw [Heap.size_push, Heap.size_push] at q; exact q)
    exact ⟨rfl, hq h' tk' (hp.objs.size + 1) dx ⟨old, Nat.le_succ _, ⟨_, _, hx, rfl, rfl, rfl, rfl⟩, Nat.le_trans (Nat.le_trans (Nat.le_succ _) (Nat.le_succ _)) z, dne, hns⟩⟩
end
end Low_BadValue
end PySem
namespace L2
namespace Low_BadValue
open PySem PySem.Spec PyProof.Rows
theorem relO_low {v : V} {v' : Value} (r : RelV v v') (f : Str) : RelO (List.lookup f [(("name" : Str), v)]) (if f = "name" then some v' else none) := by
  by_cases hw : f = "name"
  · subst hw
    rw [if_pos rfl]
    have q : List.lookup ("name" : Str) [(("name" : Str), v)] = some v := by simp [List.lookup]
    rw [q]
    exact r
  · rw [if_neg hw]
    have qw : (f == ("name" : Str)) = false := by simpa using hw
    have q2 : List.lookup f [(("name" : Str), v)] = none := by simp [List.lookup, qw]
    rw [q2]
    trivial
section
variable {X : Cx} {C fI : Addr}
/-- Low(e) -/
def tMkLow (C : Addr) (ta : TA) : St → Hp → XK → Prop := fun σ H Q => ta σ H fun vs H1 => ∃ v, vs = [v] ∧ ∀ d, H1 d = none → Q (.ref C) (some d) (upd H1 d (.xd [(("name" : Str), v)]))
theorem pmk_low {a : Expr} {ta : TA} {p pos : Pos} {k : Nat} (T : PySem.Low_BadValue.LowTxt X.K X.mg C fI) (hr : Room k X.A) (ha : PA X [a] ta) (hg : Gl X "BadValue" := by rfl)
    (he : starEach (a :: []) X.env = (false, eval a X.env) :: starEach [] X.env := by rfl) (hpl : (backTo pos (starEach [] X.env)).any (·.1) = false := by rfl) :
    PMk X (.Call (.Name "BadValue" p) [a] [] pos) (tMkLow C ta) := by
  intro pins s σ H Q I h
  refine wpAny_Call_Name_kw (ld_glob I hg T.gC ?_)
  refine PySem.W.callWith_K (h₀ := X.base) I.ok.mod.kin T.kC (thn (ha.run pos pins s σ H _ I h) fun us s1 hh => ?_) he hpl
  obtain ⟨vs, H1, I1, r1, v, ev, q1⟩ := hh
  subst ev
  refine ⟨I1.kIn, ?_⟩
  cases r1 with
  | cons rv rn =>
    rename_i v' us'
    cases rn
    show wpAny _ _ (call (.ref C) [v']) _ _ _
    have hlim := I1.nolimit
    obtain ⟨hp, g, dr, tk, os⟩ := s1
    refine wpAny_call (PySem.Low_BadValue.low_made T I1.kIn hlim (by have := hr.dp; omega) fun h' tk' e d M => ?_)
    show MkP X pins σ Q (.ref e) ⟨h', g, dr, tk', os⟩
    obtain ⟨oe, fv, hoe, hc, hd, hdat, h1⟩ := M.obj
    have hns := M.ns
    obtain ⟨G', g1, g2⟩ := restrict h' fun b => decide (b ≠ e)
    have gk : ∀ b, b ≠ e → G'.get? b = h'.get? b := fun b hb => g1 b (decide_eq_true hb)
    have ge : G'.get? e = none := g2 e (by simp)
    have old : ∀ b o, hp.get? b = some o → G'.get? b = some o := fun b o q => (gk b (Nat.ne_of_lt (Nat.lt_of_lt_of_le (Heap.lt_size q) M.new))).trans (M.keep b o q)
    have ob : ObjOk X.prog X.w (upd H1 d (.xd [(("name" : Str), v)])) G' d (.xd [(("name" : Str), v)]) :=
      ⟨_, hns.at (fun o q => (gk d M.dne).trans q), fun f => relO_low rv f⟩
    have J : Inv X pins σ (upd H1 d (.xd [(("name" : Str), v)])) ⟨G', g, dr, tk', os⟩ := I1.laid (t' := tk') old M.dbig ob
    refine ⟨e, oe, fv, ⟨G', g, dr, tk', os⟩, _, .ref C, some d, rfl, J, fun b o q => ?_, ge, hoe, ⟨hc, hd⟩, hdat, h1, ?_, rfl, I1.bare, raises_own T.exC T.tyC, q1 d (I1.hok.fresh M.dbig)⟩
    · by_cases hb : b = e
      · have q' : G'.get? b = some o := q
        rw [hb, ge] at q'; cases q'
      · exact (gk b hb).symm.trans q
    · rw [upd_ne (Ne.symm M.dne)]
      exact I1.hok.fresh M.new
end
end Low_BadValue
end L2
namespace PySem
namespace Low_BadValue
theorem xc_ok {K : PySem.W.Frag} {mg : Str → Option Value} {C fI : Addr} (T : LowTxt K mg C fI) : Ux.XcOk K mg "BadValue" C "name" :=
  ⟨T.gC, ⟨T.ga, T.gg, T.exC, T.hdC⟩, T.noN, fun X a ta p pos hK hm hr ha hg he hpl => by
    subst hK hm
    exact L2.Low_BadValue.pmk_low T hr ha hg he hpl⟩
end Low_BadValue
end PySem
namespace Ux
open PySem PySem.Spec PyProof.Rows L2 GxR

end Ux
namespace PySem
namespace Low_NotPossible
open PySem.W PySem.Calls PyProof.Rows PySem.HandSPX
/-! ### the text of __init__ -/
def iA (p1 p2 : Pos) : Arguments := { posonlyargs := [], args := [{ arg := "self", annotation := none, pos := p1 }, { arg := "why", annotation := none, pos := p2 }], vararg := none, kwonlyargs := [], kw_defaults := [], kwarg := none, defaults := [] }
def iB (q1 q2 q3 q4 : Pos) : List Stmt := [.Assign [.Attribute (.Name "self" q1) "why" q2] (.Name "why" q3) q4]
def iS : Scope := { kind := .function, names := [(PySem.Str.ofString "self", .local), (PySem.Str.ofString "why", .local)], isGenerator := false, isCoroutine := false, more := [] }
/-- what the written part says of Low, at C, and of its __init__, at fI -/
structure LowTxt (K : Frag) (mg : Str → Option Value) (C fI : Addr) : Prop where
  gC : mg "NotPossible" = some (.ref C)
  cls : ∃ nm q N bs bm sn sub ab col dd k0 k1 k2 k3 k5, K.lookup C = some (excClassObj nm q C N bs bm true sn sub ab col dd k0 k1 k2 k3 k5 "ValueError.__new__") ∧ refsVE bm = true
  sa : findIn K (.ref C) "__setattr__" = some (some (.builtin "object.__setattr__"))
  ga : findIn K (.ref C) "__getattribute__" = some (some (.builtin "BaseException.__getattribute__"))
  gg : findIn K (.ref C) "__getattr__" = some none
  noN : findIn K (.ref C) "why" = some none
  iC : findIn K (.ref C) "__init__" = some (some (.ref fI))
  tC : typeIn K (.ref fI) = some (.type "function")
  kC : keepIn K (.ref C) = true
  exC : subIn K (.ref C) (.type "BaseException") = some true
  tyC : typeIn K (.ref C) = some (.type "type")
  hdC : hasDictIn K C = true
  fn : ∃ (oc : Value) (od : Option Addr) (doc pm : Value) (an : Option Addr) (cdv ct : Value) (osl : Array (Option Value)) (p1 p2 q1 q2 q3 q4 : Pos),
    K.lookup fI = some ⟨oc, od, .func (fnOf "__init__" "NotPossible.__init__" (iA p1 p2) (iB q1 q2 q3 q4) iS .none .none doc pm an cdv ct), osl⟩ ∧ codeIn K cdv "NotPossible.__init__" = true
theorem one_size (v : Value) : [v].length ≤ sizeLine := by
  rw [sizeLine_eq]
  exact (by decide : 1 ≤ 16777216)
theorem kept_but {K : Frag} {h h' : Heap} {x : Addr} (X : K.In h) (hx : K.lookup x = none) (k : ∀ b o, b ≠ x → h.get? b = some o → h'.get? b = some o) : K.In h' := fun a o e =>
  k a o (fun z => by rw [z, hx] at e; cases e) (X a o e)
theorem ldC {M : Model} {s : Shared} {name : Str} {scope : Scope} {L a : Addr} {cd : Value} {m : Str → Option Value} {x : Str} {pos : Pos} {v : Value} {Q : Value → Shared → Prop} {A : Around} {E : Value → Shared → Prop} (hn : s.heap.Ns L m) (hv : m x = some v) (h : Q v s)
    (hk : scope.kind = .function := by rfl) (hl : (envOfC name scope L a cd).kindOf x = some .local := by rfl) (hd : (x == ("__debug__" : Str)) = false := by decide) :
    wpAny M A (eval (.Name x pos) (envOfC name scope L a cd)) Q E s := wpAny_Name (wpAny_loadName_local hk hl hn hv h) hd
/-- what __init__ leaves of a fresh exception at x -/
structure InitEnd (h h' : Heap) (x C dx t1 : Addr) (v : Value) : Prop where
  keep : ∀ b o, b ≠ x → h.get? b = some o → h'.get? b = some o
  obj : h'.get? x = some { cls := .ref C, dict := some dx, data := .fields #[.ref t1, .none, .none, .none, .bool false, .none] }
  dbig : h.objs.size ≤ dx
  dne : dx ≠ x
  ns : h'.Ns1 dx (fun y => if y = "why" then some v else none)
/-- a made Low -/
structure OwnMade (h h' : Heap) (e C d : Addr) (v : Value) : Prop where
  keep : ∀ b o, h.get? b = some o → h'.get? b = some o
  new : h.objs.size ≤ e
  obj : ∃ oe vs, h'.get? e = some oe ∧ oe.cls = .ref C ∧ oe.dict = some d ∧ oe.data = .fields vs ∧ vs[1]? = some .none
  dbig : h.objs.size ≤ d
  dne : d ≠ e
  ns : h'.Ns1 d (fun y => if y = "why" then some v else none)
section
variable {prog : Program} {w : World} {A : Around} {E : Value → Shared → Prop} {R : Result → Shared → Prop} {s : Shared} {K : Frag} {mg : Str → Option Value} {C fI : Addr}
theorem low_init (T : LowTxt K mg C fI) {x t0 : Addr} {v : Value} (X : K.In s.heap) (hlim : s.heap.NoLimit) (hx : s.heap.get? x = some (excO C t0)) (hnx : K.lookup x = none) (hroom : A.depth < recursionLimit)
    (hq : ∀ h' tk dx, InitEnd s.heap h' x C dx t0 v → R (.ok (.ret .none)) { s with heap := h', toks := tk }) :
    codeAny (model prog w) A (.call (.ref fI) ⟨[.ref x, v], []⟩) R s := by
  obtain ⟨oc, od, doc, pm, an, cdv, ct, osl, p1, p2, q1, q2, q3, q4, ho, hcd⟩ := T.fn
  obtain ⟨nm, q, N, bs, bm, sn, sub, ab, col, dd, k0, k1, k2, k3, k5, hC, hbm⟩ := T.cls
  have hcl : clsIn K C = some { name := nm, bases := bs, mro := .ref C :: bm, ns := N, qualname := q, hasDict := true, slotNames := sn, subclasses := sub, abstract := ab, collection := col, hasDel := false } := by unfold clsIn; rw [hC] <;> rfl
  refine Att.call_fn (binds := [("self", .ref x), ("why", v)]) X hlim ho hcd hroom (BindsTo.of_eq (by first | rfl | with_unfolding_all rfl)) (by first | rfl | decide | with_unfolding_all rfl) (fun s₁ IC => ?_) rfl rfl rfl
  obtain ⟨h₁, tk₁, rfl⟩ := IC.toInCall.same
  have k : ∀ b o, s.heap.get? b = some o → h₁.get? b = some o := IC.toInCall.keep
  have hn := IC.toInCall.ns
  have hxL : s.heap.objs.size ≠ x := Nat.ne_of_gt (Heap.lt_size hx)
  have X₁ : K.In h₁ := X.keeps k
  have hx₁ := k _ _ hx
  -- self.by = by
  show wpAny _ _ (execs _ _) _ _ _
  refine wpAny_execs_cons (plainObj_wpAny_Assign_Attribute ?_)
  refine ldC (v := v) hn (by first | rfl | with_unfolding_all rfl | kernel_rfl) (ldC (v := .ref x) hn (by first | rfl | with_unfolding_all rfl | kernel_rfl) ?_)
  refine set_plain X₁ (ox := excO C t0) (od := none) ⟨hx₁, rfl, rfl, trivial⟩ T.sa ?_
  refine exc_osa X₁ hx₁ hcl (show refsVE (.ref C :: bm) = true from hbm) rfl T.noN (fun h₃ tk₃ dx k₃ dn dne hx₃ hn₃ => ?_)
  show wpAny _ _ (execs _ _) _ _ _
  have z : s.heap.objs.size < h₁.objs.size := hn.lt
  exact wpAny_execs_nil (hq h₃ tk₃ dx ⟨fun b o hb e => k₃ b o hb (k b o e), hx₃, Nat.le_of_lt (Nat.lt_of_lt_of_le z dn), dne, hn₃⟩)
theorem low_made (T : LowTxt K mg C fI) {v : Value} (X : K.In s.heap) (hlim : s.heap.NoLimit) (hroom : A.depth + 1 < recursionLimit)
    (hq : ∀ h' tk e d, OwnMade s.heap h' e C d v → R (.ok (.ret (.ref e))) { s with heap := h', toks := tk }) :
    codeAny (model prog w) A (.call (.ref C) ⟨[v], []⟩) R s := by
  obtain ⟨nm, q, N, bs, bm, sn, sub, ab, col, dd, k0, k1, k2, k3, k5, hC, hbm⟩ := T.cls
  obtain ⟨hp, g, dr, tk, os⟩ := s
  have k : ∀ b o, hp.get? b = some o → ((hp.push (kdv_tup [v])).push (excO C hp.objs.size)).get? b = some o := fun b o e => Heap.get?_push_of_some _ (Heap.get?_push_of_some _ e)
  have hget : ((hp.push (kdv_tup [v])).push (excO C hp.objs.size)).get? (hp.objs.size + 1) = some (excO C hp.objs.size) := by heap_get
  have hnx : K.lookup (hp.objs.size + 1) = none := by
    cases e : K.lookup (hp.objs.size + 1) with
    | none => rfl
    | some o =>
      have z : hp.get? (hp.objs.size + 1) = some o := X _ _ e
      exact absurd (Nat.lt_of_succ_lt (Heap.lt_size z)) (Nat.lt_irrefl _)
  refine call_own F.excBase_ValueError (fun X => refsVE_contains X bm hbm) (X _ _ hC) (looks_findIn X T.iC) (fun self => bind_fn X self T.tC) (one_size v) ?_
  refine low_init (s := ⟨(hp.push (kdv_tup [v])).push (excO C hp.objs.size), g, dr, tk, os⟩) T (X.keeps k) (hlim.keeps k) hget hnx ?_ fun h' tk' dx ⟨k', hx, dn, dne, hns⟩ => ?_
  · show A.depth + 1 < recursionLimit
    exact hroom
  · have old : ∀ b o, hp.get? b = some o → h'.get? b = some o := fun b o e => k' b o (Nat.ne_of_lt (Nat.lt_succ_of_lt (Heap.lt_size e))) (k b o e)
    have z : hp.objs.size + 1 + 1 ≤ dx := by
      first
        | (simpa only [Heap.size_push] using dn)
        | exact dn
        | (have q := dn; rw [Heap.size_push, Heap.size_push] at q; exact q)
    exact ⟨rfl, hq h' tk' (hp.objs.size + 1) dx ⟨old, Nat.le_succ _, ⟨_, _, hx, rfl, rfl, rfl, rfl⟩, Nat.le_trans (Nat.le_trans (Nat.le_succ _) (Nat.le_succ _)) z, dne, hns⟩⟩
end
end Low_NotPossible
end PySem
namespace L2
namespace Low_NotPossible
open PySem PySem.Spec PyProof.Rows
theorem relO_low {v : V} {v' : Value} (r : RelV v v') (f : Str) : RelO (List.lookup f [(("why" : Str), v)]) (if f = "why" then some v' else none) := by
  by_cases hw : f = "why"
  · subst hw
    rw [if_pos rfl]
    have q : List.lookup ("why" : Str) [(("why" : Str), v)] = some v := by simp [List.lookup]
    rw [q]
    exact r
  · rw [if_neg hw]
    have qw : (f == ("why" : Str)) = false := by simpa using hw
    have q2 : List.lookup f [(("why" : Str), v)] = none := by simp [List.lookup, qw]
    rw [q2]
    trivial
section
variable {X : Cx} {C fI : Addr}
/-- Low(e) -/
def tMkLow (C : Addr) (ta : TA) : St → Hp → XK → Prop := fun σ H Q => ta σ H fun vs H1 => ∃ v, vs = [v] ∧ ∀ d, H1 d = none → Q (.ref C) (some d) (upd H1 d (.xd [(("why" : Str), v)]))
theorem pmk_low {a : Expr} {ta : TA} {p pos : Pos} {k : Nat} (T : PySem.Low_NotPossible.LowTxt X.K X.mg C fI) (hr : Room k X.A) (ha : PA X [a] ta) (hg : Gl X "NotPossible" := by rfl)
    (he : starEach (a :: []) X.env = (false, eval a X.env) :: starEach [] X.env := by rfl) (hpl : (backTo pos (starEach [] X.env)).any (·.1) = false := by rfl) :
    PMk X (.Call (.Name "NotPossible" p) [a] [] pos) (tMkLow C ta) := by
  intro pins s σ H Q I h
  refine wpAny_Call_Name_kw (ld_glob I hg T.gC ?_)
  refine PySem.W.callWith_K (h₀ := X.base) I.ok.mod.kin T.kC (thn (ha.run pos pins s σ H _ I h) fun us s1 hh => ?_) he hpl
  obtain ⟨vs, H1, I1, r1, v, ev, q1⟩ := hh
  subst ev
  refine ⟨I1.kIn, ?_⟩
  cases r1 with
  | cons rv rn =>
    rename_i v' us'
    cases rn
    show wpAny _ _ (call (.ref C) [v']) _ _ _
    have hlim := I1.nolimit
    obtain ⟨hp, g, dr, tk, os⟩ := s1
    refine wpAny_call (PySem.Low_NotPossible.low_made T I1.kIn hlim (by have := hr.dp; omega) fun h' tk' e d M => ?_)
    show MkP X pins σ Q (.ref e) ⟨h', g, dr, tk', os⟩
    obtain ⟨oe, fv, hoe, hc, hd, hdat, h1⟩ := M.obj
    have hns := M.ns
    obtain ⟨G', g1, g2⟩ := restrict h' fun b => decide (b ≠ e)
    have gk : ∀ b, b ≠ e → G'.get? b = h'.get? b := fun b hb => g1 b (decide_eq_true hb)
    have ge : G'.get? e = none := g2 e (by simp)
    have old : ∀ b o, hp.get? b = some o → G'.get? b = some o := fun b o q => (gk b (Nat.ne_of_lt (Nat.lt_of_lt_of_le (Heap.lt_size q) M.new))).trans (M.keep b o q)
    have ob : ObjOk X.prog X.w (upd H1 d (.xd [(("why" : Str), v)])) G' d (.xd [(("why" : Str), v)]) :=
      ⟨_, hns.at (fun o q => (gk d M.dne).trans q), fun f => relO_low rv f⟩
    have J : Inv X pins σ (upd H1 d (.xd [(("why" : Str), v)])) ⟨G', g, dr, tk', os⟩ := I1.laid (t' := tk') old M.dbig ob
    refine ⟨e, oe, fv, ⟨G', g, dr, tk', os⟩, _, .ref C, some d, rfl, J, fun b o q => ?_, ge, hoe, ⟨hc, hd⟩, hdat, h1, ?_, rfl, I1.bare, raises_own T.exC T.tyC, q1 d (I1.hok.fresh M.dbig)⟩
    · by_cases hb : b = e
      · have q' : G'.get? b = some o := q
        rw [hb, ge] at q'; cases q'
      · exact (gk b hb).symm.trans q
    · rw [upd_ne (Ne.symm M.dne)]
      exact I1.hok.fresh M.new
end
end Low_NotPossible
end L2
namespace PySem
namespace Low_NotPossible
theorem xc_ok {K : PySem.W.Frag} {mg : Str → Option Value} {C fI : Addr} (T : LowTxt K mg C fI) : Ux.XcOk K mg "NotPossible" C "why" :=
  ⟨T.gC, ⟨T.ga, T.gg, T.exC, T.hdC⟩, T.noN, fun X a ta p pos hK hm hr ha hg he hpl => by
    subst hK hm
    exact L2.Low_NotPossible.pmk_low T hr ha hg he hpl⟩
end Low_NotPossible
end PySem
namespace Ux
open PySem PySem.Spec PyProof.Rows L2 GxR

def xs_ (C_BadValue C_NotPossible : Addr) : Xs := ⟨fun c => if c = "BadValue" then some (C_BadValue, "name") else if c = "NotPossible" then some (C_NotPossible, "why") else none, fun c => if c = "BadValue" then some C_BadValue else none, fun c t => if c = "BadValue" ∧ t = "BadValue" then true else false, fun K mg => IsT K mg C_BadValue "UndoError" "ValueError"⟩
theorem xm_BadValue_BadValue {C_BadValue C_NotPossible : Addr} : (xs_ C_BadValue C_NotPossible).xm "BadValue" "BadValue" = true := by dsimp only [xs_]; decide +kernel
theorem xm_NotPossible_BadValue {C_BadValue C_NotPossible : Addr} : (xs_ C_BadValue C_NotPossible).xm "NotPossible" "BadValue" = false := by dsimp only [xs_]; decide +kernel
theorem xs_ok {K : PySem.W.Frag} {mg : Str → Option Value} {C_BadValue C_NotPossible : Addr} (q_BadValue : XcOk K mg "BadValue" C_BadValue "name") (q_NotPossible : XcOk K mg "NotPossible" C_NotPossible "why") (g_BadValue : mg "BadValue" = some (.ref C_BadValue)) (e_BadValue_BadValue : PySem.W.exmOne K (.ref C_BadValue) (.ref C_BadValue) = some true) (e_NotPossible_BadValue : PySem.W.exmOne K (.ref C_NotPossible) (.ref C_BadValue) = some false) (i_px : IsT K mg C_BadValue "UndoError" "ValueError") : XsOk K mg (xs_ C_BadValue C_NotPossible) := by
  refine ⟨fun c C fld h => ?_, fun c C h => ?_, fun c C fld t D h h2 => ?_, i_px⟩
  · have h : (if c = "BadValue" then some (C_BadValue, "name") else if c = "NotPossible" then some (C_NotPossible, "why") else none : Option (Addr × Str)) = some (C, fld) := h
    split at h
    · rename_i hc; subst hc; cases h; exact q_BadValue
    split at h
    · rename_i hc; subst hc; cases h; exact q_NotPossible
    cases h
  · have h : (if c = "BadValue" then some C_BadValue else none : Option Addr) = some C := h
    split at h
    · rename_i hc; subst hc; cases h; exact g_BadValue
    cases h
  · have h : (if c = "BadValue" then some (C_BadValue, "name") else if c = "NotPossible" then some (C_NotPossible, "why") else none : Option (Addr × Str)) = some (C, fld) := h
    have h2 : (if t = "BadValue" then some C_BadValue else none : Option Addr) = some D := h2
    split at h
    · rename_i hc; subst hc; cases h
      split at h2
      · rename_i hc; subst hc; cases h2; rw [xm_BadValue_BadValue]; exact e_BadValue_BadValue
      cases h2
    split at h
    · rename_i hc; subst hc; cases h
      split at h2
      · rename_i hc; subst hc; cases h2; rw [xm_NotPossible_BadValue]; exact e_NotPossible_BadValue
      cases h2
    cases h
theorem xs_hi_BadValue_UndoError_ValueError {C_BadValue C_NotPossible : Addr} (K : PySem.W.Frag) (mg : Str → Option Value) (C : Addr) (fld : Str) (h : (xs_ C_BadValue C_NotPossible).px K mg) (e : (xs_ C_BadValue C_NotPossible).xt "BadValue" = some (C, fld)) : IsT K mg C "UndoError" "ValueError" := by
  have e : some (C_BadValue, ("name" : Str)) = some (C, fld) := e
  cases e
  exact h
theorem xs_hm1_BadValue {C_BadValue C_NotPossible : Addr} {x : Str} (h : mem x ["BadValue"] = true) : (xs_ C_BadValue C_NotPossible).xm x "BadValue" = true := by
  simp only [mem] at h
  split at h
  · rename_i e; subst e; exact xm_BadValue_BadValue
  cases h
theorem xs_hm2_BadValue {C_BadValue C_NotPossible : Addr} {x : Str} (h : mem x ["NotPossible"] = true) : (xs_ C_BadValue C_NotPossible).xm x "BadValue" = false := by
  simp only [mem] at h
  split at h
  · rename_i e; subst e; exact xm_NotPossible_BadValue
  cases h
theorem all_okL {l : PySem.W.OpenLaw} {w : World} {K : PySem.W.Frag} {mg : Str → Option Value} {base : Heap} {xs : Xs} (XS : XsOk K mg xs)
    {C_BadValue C_NotPossible : Addr}
    (hx_BadValue : xs.xt "BadValue" = some (C_BadValue, ("name" : Str)))
    (hx_NotPossible : xs.xt "NotPossible" = some (C_NotPossible, ("why" : Str)))
    (hm1_BadValue : ∀ x, mem x ["BadValue"] = true → xs.xm x "BadValue" = true) (hm2_BadValue : ∀ x, mem x ["NotPossible"] = true → xs.xm x "BadValue" = false) (hh_BadValue : xs.xh "BadValue" = some C_BadValue)
    (hi_BadValue_UndoError_ValueError : ∀ K mg C fld, xs.px K mg → xs.xt "BadValue" = some (C, fld) → IsT K mg C "UndoError" "ValueError")
    {f_law_stream f_law_next f_law_pick f_is_tuple_of f_is_integer f_is_index f_is_index_tuple f_is_command_row f_is_system f_check_system f_is_state f_check_state f_is_sequence_within f_is_sequence f_check_sequence f_after f_follow f_led_to f_run f_all_after f_tuples_from f_sequences_from f_reached_from f_reachable f_first_sequence f_reach_evidence f_has_word f_shows_reach f_is_ascending f_is_closed f_shows_no_reach f_accepts_reach f_law_first f_agree f_least_difference f_difference f_first_merged f_one_to_one f_is_command f_check_command f_merged f_is_reachable f_accepts_merged f_inverse f_can_be_exchanged f_exchanged f_law_second f_law_told f_law : Addr}
    {cd_law_stream cd_law_next cd_law_pick cd_is_tuple_of cd_is_integer cd_is_index cd_is_index_tuple cd_is_command_row cd_is_system cd_check_system cd_is_state cd_check_state cd_is_sequence_within cd_is_sequence cd_check_sequence cd_after cd_follow cd_led_to cd_run cd_all_after cd_tuples_from cd_sequences_from cd_reached_from cd_reachable cd_first_sequence cd_reach_evidence cd_has_word cd_shows_reach cd_is_ascending cd_is_closed cd_shows_no_reach cd_accepts_reach cd_law_first cd_agree cd_least_difference cd_difference cd_first_merged cd_one_to_one cd_is_command cd_check_command cd_merged cd_is_reachable cd_accepts_merged cd_inverse cd_can_be_exchanged cd_exchanged cd_law_second cd_law_told cd_law : Value}
    {c_is_index_tuple P_is_index_tuple c_is_system P_is_system c_is_ascending P_is_ascending c_accepts_merged P_accepts_merged : Addr}
    {od_law an_law : Option Addr} {sl_law : Array (Option Value)} {oc_law kV_law dc_law pm_law ct_law : Value} (l_law : K.lookup f_law = some ⟨oc_law, od_law, .func (PySem.W.fnOf "law" "law" (defArgs s_law) (defBody s_law) (defScope s_law) .none kV_law dc_law pm_law an_law cd_law ct_law), sl_law⟩)
    (D_law_stream : DefE K mg "_law_stream" s_law_stream f_law_stream cd_law_stream)
    (D_law_next : DefE K mg "_law_next" s_law_next f_law_next cd_law_next)
    (D_law_pick : DefE K mg "_law_pick" s_law_pick f_law_pick cd_law_pick)
    (D_is_tuple_of : DefE K mg "is_tuple_of" s_is_tuple_of f_is_tuple_of cd_is_tuple_of)
    (D_is_integer : DefE K mg "is_integer" s_is_integer f_is_integer cd_is_integer)
    (D_is_index : DefE K mg "is_index" s_is_index f_is_index cd_is_index)
    (D_is_index_tuple : DefE K mg "is_index_tuple" s_is_index_tuple f_is_index_tuple cd_is_index_tuple)
    (D_is_command_row : DefE K mg "is_command_row" s_is_command_row f_is_command_row cd_is_command_row)
    (D_is_system : DefE K mg "is_system" s_is_system f_is_system cd_is_system)
    (D_check_system : DefE K mg "check_system" s_check_system f_check_system cd_check_system)
    (D_is_state : DefE K mg "is_state" s_is_state f_is_state cd_is_state)
    (D_check_state : DefE K mg "check_state" s_check_state f_check_state cd_check_state)
    (D_is_sequence_within : DefE K mg "is_sequence_within" s_is_sequence_within f_is_sequence_within cd_is_sequence_within)
    (D_is_sequence : DefE K mg "is_sequence" s_is_sequence f_is_sequence cd_is_sequence)
    (D_check_sequence : DefE K mg "check_sequence" s_check_sequence f_check_sequence cd_check_sequence)
    (D_after : DefE K mg "after" s_after f_after cd_after)
    (D_follow : DefE K mg "follow" s_follow f_follow cd_follow)
    (D_led_to : DefE K mg "led_to" s_led_to f_led_to cd_led_to)
    (D_run : DefE K mg "run" s_run f_run cd_run)
    (D_all_after : DefE K mg "all_after" s_all_after f_all_after cd_all_after)
    (D_tuples_from : DefE K mg "tuples_from" s_tuples_from f_tuples_from cd_tuples_from)
    (D_sequences_from : DefE K mg "sequences_from" s_sequences_from f_sequences_from cd_sequences_from)
    (D_reached_from : DefE K mg "reached_from" s_reached_from f_reached_from cd_reached_from)
    (D_reachable : DefE K mg "reachable" s_reachable f_reachable cd_reachable)
    (D_first_sequence : DefE K mg "first_sequence" s_first_sequence f_first_sequence cd_first_sequence)
    (D_reach_evidence : DefE K mg "reach_evidence" s_reach_evidence f_reach_evidence cd_reach_evidence)
    (D_has_word : DefE K mg "has_word" s_has_word f_has_word cd_has_word)
    (D_shows_reach : DefE K mg "shows_reach" s_shows_reach f_shows_reach cd_shows_reach)
    (D_is_ascending : DefE K mg "is_ascending" s_is_ascending f_is_ascending cd_is_ascending)
    (D_is_closed : DefE K mg "is_closed" s_is_closed f_is_closed cd_is_closed)
    (D_shows_no_reach : DefE K mg "shows_no_reach" s_shows_no_reach f_shows_no_reach cd_shows_no_reach)
    (D_accepts_reach : DefE K mg "accepts_reach" s_accepts_reach f_accepts_reach cd_accepts_reach)
    (D_law_first : DefE K mg "_law_first" s_law_first f_law_first cd_law_first)
    (D_agree : DefE K mg "agree" s_agree f_agree cd_agree)
    (D_least_difference : DefE K mg "least_difference" s_least_difference f_least_difference cd_least_difference)
    (D_difference : DefE K mg "difference" s_difference f_difference cd_difference)
    (D_first_merged : DefE K mg "first_merged" s_first_merged f_first_merged cd_first_merged)
    (D_one_to_one : DefE K mg "one_to_one" s_one_to_one f_one_to_one cd_one_to_one)
    (D_is_command : DefE K mg "is_command" s_is_command f_is_command cd_is_command)
    (D_check_command : DefE K mg "check_command" s_check_command f_check_command cd_check_command)
    (D_merged : DefE K mg "merged" s_merged f_merged cd_merged)
    (D_is_reachable : DefE K mg "is_reachable" s_is_reachable f_is_reachable cd_is_reachable)
    (D_accepts_merged : DefE K mg "accepts_merged" s_accepts_merged f_accepts_merged cd_accepts_merged)
    (D_inverse : DefE K mg "inverse" s_inverse f_inverse cd_inverse)
    (D_can_be_exchanged : DefE K mg "can_be_exchanged" s_can_be_exchanged f_can_be_exchanged cd_can_be_exchanged)
    (D_exchanged : DefE K mg "exchanged" s_exchanged f_exchanged cd_exchanged)
    (D_law_second : DefE K mg "_law_second" s_law_second f_law_second cd_law_second)
    (D_law_told : DefE K mg "_law_told" s_law_told f_law_told cd_law_told)
    (D_law : DefE K mg "law" s_law f_law cd_law)
    (C_is_index_tuple : cd_is_index_tuple = .ref c_is_index_tuple) (B_is_index_tuple : TabB base mg c_is_index_tuple P_is_index_tuple)
    (C_is_system : cd_is_system = .ref c_is_system) (B_is_system : TabB base mg c_is_system P_is_system)
    (C_is_ascending : cd_is_ascending = .ref c_is_ascending) (B_is_ascending : TabB base mg c_is_ascending P_is_ascending)
    (C_accepts_merged : cd_accepts_merged = .ref c_accepts_merged) (B_accepts_merged : TabB base mg c_accepts_merged P_accepts_merged)
    (z_list : mg "list" = none)
    (z_len : mg "len" = none)
    (z_abs : mg "abs" = none)
    (z_int : mg "int" = none)
    (z_isinstance : mg "isinstance" = none)
    (z_tuple : mg "tuple" = none)
    (z_bool : mg "bool" = none)
    (z_all : mg "all" = none)
    (z_enumerate : mg "enumerate" = none)
    (z_sorted : mg "sorted" = none)
    (z_str : mg "str" = none)
    (z_range : mg "range" = none)
    (z_ValueError : mg "ValueError" = none)
    (g_MOST_STATES : ∃ u, mg "MOST_STATES" = some u ∧ RelV (.int (8)) u)
    (g_MOST_COMMANDS : ∃ u, mg "MOST_COMMANDS" = some u ∧ RelV (.int (4)) u)
    (g_MOST_IN_SEQUENCE : ∃ u, mg "MOST_IN_SEQUENCE" = some u ∧ RelV (.int (16)) u)
    (g_MOST_IN_PATH : ∃ u, mg "MOST_IN_PATH" = some u ∧ RelV (.int (100)) u) :
    FnOk l.prog w K mg base (L2.CX l.prog w) 13 f_law (PySem.W.fnOf "law" "law" (defArgs s_law) (defBody s_law) (defScope s_law) .none kV_law dc_law pm_law an_law cd_law ct_law) ["script"] (spOf K [P_is_index_tuple, P_is_system, P_is_ascending, P_accepts_merged] xs.xt m_law) := by
  obtain ⟨fd_law_stream, K_law_stream⟩ := knH (tabs := [P_is_index_tuple, P_is_system, P_is_ascending, P_accepts_merged]) (P := l.prog) (w := w) (base := base) D_law_stream sc_law_stream (er_law_stream (P := P_is_index_tuple) (k := 0)) (List.forall_mem_cons.mpr ⟨z_list, (fun _ h => nomatch h)⟩) XS mStream_ar (fun vs H Q E h => stream_rd rfl h) (fun _ _ _ _ _ _ us hl => match us, hl with | [_], _ => rfl)
  obtain ⟨fd_law_next, K_law_next⟩ := knH (tabs := [P_is_index_tuple, P_is_system, P_is_ascending, P_accepts_merged]) (P := l.prog) (w := w) (base := base) D_law_next sc_law_next (er_law_next (P := P_is_index_tuple) (k := 0)) (List.forall_mem_cons.mpr ⟨z_len, (List.forall_mem_cons.mpr ⟨z_abs, (List.forall_mem_cons.mpr ⟨z_int, (fun _ h => nomatch h)⟩)⟩)⟩) XS mNext_ar (fun vs H Q E h => next_rd rfl h) (fun _ _ _ _ _ _ us hl => match us, hl with | [_, _], _ => rfl)
  obtain ⟨fd_law_pick, K_law_pick⟩ := knE (tabs := [P_is_index_tuple, P_is_system, P_is_ascending, P_accepts_merged]) (P := l.prog) (w := w) (base := base) D_law_pick sc_law_pick (df := d_law_pick) (er_law_pick (P := P_is_index_tuple) (k := 1) (Nat.le_of_ble_eq_true rfl)) (List.forall_mem_cons.mpr ⟨z_len, (fun _ h => nomatch h)⟩) (fun _ h => nomatch h) XS (fun h => nomatch h) (.cons (K_law_next) .nil) (by simp) (m := m_law_pick) rfl (fun _ _ _ _ _ _ us hl => match us, hl with | [_, _], _ => rfl) rfl rfl
  obtain ⟨fd_is_tuple_of, K_is_tuple_of⟩ := knE (tabs := [P_is_index_tuple, P_is_system, P_is_ascending, P_accepts_merged]) (P := l.prog) (w := w) (base := base) D_is_tuple_of sc_is_tuple_of (df := d_is_tuple_of) (er_is_tuple_of (P := P_is_index_tuple) (k := 0) ) (List.forall_mem_cons.mpr ⟨z_isinstance, (List.forall_mem_cons.mpr ⟨z_tuple, (List.forall_mem_cons.mpr ⟨z_len, (fun _ h => nomatch h)⟩)⟩)⟩) (fun _ h => nomatch h) XS (fun h => nomatch h) .nil (by simp) (m := m_is_tuple_of) rfl (fun _ _ _ _ _ _ us hl => match us, hl with | [_, _], _ => rfl) rfl rfl
  obtain ⟨fd_is_integer, K_is_integer⟩ := knE (tabs := [P_is_index_tuple, P_is_system, P_is_ascending, P_accepts_merged]) (P := l.prog) (w := w) (base := base) D_is_integer sc_is_integer (df := d_is_integer) (er_is_integer (P := P_is_index_tuple) (k := 0) ) (List.forall_mem_cons.mpr ⟨z_isinstance, (List.forall_mem_cons.mpr ⟨z_int, (List.forall_mem_cons.mpr ⟨z_bool, (fun _ h => nomatch h)⟩)⟩)⟩) (fun _ h => nomatch h) XS (fun h => nomatch h) .nil (by simp) (m := m_is_integer) rfl (fun _ _ _ _ _ _ us hl => match us, hl with | [_], _ => rfl) rfl rfl
  obtain ⟨fd_is_index, K_is_index⟩ := knE (tabs := [P_is_index_tuple, P_is_system, P_is_ascending, P_accepts_merged]) (P := l.prog) (w := w) (base := base) D_is_index sc_is_index (df := d_is_index) (er_is_index (P := P_is_index_tuple) (k := 1) (Nat.le_of_ble_eq_true rfl)) (fun _ h => nomatch h) (fun _ h => nomatch h) XS (fun h => nomatch h) (.cons (K_is_integer) .nil) (by simp) (m := m_is_index) rfl (fun _ _ _ _ _ _ us hl => match us, hl with | [_, _], _ => rfl) rfl rfl
  obtain ⟨fd_is_index_tuple, K_is_index_tuple⟩ := knE (tabs := [P_is_index_tuple, P_is_system, P_is_ascending, P_accepts_merged]) (P := l.prog) (w := w) (base := base) D_is_index_tuple sc_is_index_tuple (df := d_is_index_tuple) (er_is_index_tuple (P := P_is_index_tuple) (k := 2) (Nat.le_of_ble_eq_true rfl)) (List.forall_mem_cons.mpr ⟨z_isinstance, (List.forall_mem_cons.mpr ⟨z_tuple, (List.forall_mem_cons.mpr ⟨z_all, (fun _ h => nomatch h)⟩)⟩)⟩) (fun _ h => nomatch h) XS (fun _ => ⟨c_is_index_tuple, C_is_index_tuple, B_is_index_tuple⟩) (.cons (K_is_index) .nil) (by simp) (m := m_is_index_tuple) rfl (fun _ _ _ _ _ _ us hl => match us, hl with | [_, _], _ => rfl) rfl rfl
  obtain ⟨fd_is_command_row, K_is_command_row⟩ := knE (tabs := [P_is_index_tuple, P_is_system, P_is_ascending, P_accepts_merged]) (P := l.prog) (w := w) (base := base) D_is_command_row sc_is_command_row (df := d_is_command_row) (er_is_command_row (P := P_is_index_tuple) (k := 4) (Nat.le_of_ble_eq_true rfl)) (List.forall_mem_cons.mpr ⟨z_len, (fun _ h => nomatch h)⟩) (fun _ h => nomatch h) XS (fun h => nomatch h) (.cons (K_is_index_tuple) .nil) (by simp) (m := m_is_command_row) rfl (fun _ _ _ _ _ _ us hl => match us, hl with | [_, _], _ => rfl) rfl rfl
  obtain ⟨fd_is_system, K_is_system⟩ := knE (tabs := [P_is_index_tuple, P_is_system, P_is_ascending, P_accepts_merged]) (P := l.prog) (w := w) (base := base) D_is_system sc_is_system (df := d_is_system) (er_is_system (P := P_is_system) (k := 5) (Nat.le_of_ble_eq_true rfl) (Nat.le_of_ble_eq_true rfl) (Nat.le_of_ble_eq_true rfl) (Nat.le_of_ble_eq_true rfl)) (List.forall_mem_cons.mpr ⟨z_isinstance, (List.forall_mem_cons.mpr ⟨z_tuple, (List.forall_mem_cons.mpr ⟨z_len, (List.forall_mem_cons.mpr ⟨z_all, (fun _ h => nomatch h)⟩)⟩)⟩)⟩) (List.forall_mem_cons.mpr ⟨g_MOST_STATES, (List.forall_mem_cons.mpr ⟨g_MOST_COMMANDS, (fun _ h => nomatch h)⟩)⟩) XS (fun _ => ⟨c_is_system, C_is_system, B_is_system⟩) (.cons (K_is_tuple_of) (.cons (K_is_integer) (.cons (K_is_index) (.cons (K_is_command_row) .nil)))) (by simp) (m := m_is_system) rfl (fun _ _ _ _ _ _ us hl => match us, hl with | [_], _ => rfl) rfl rfl
  obtain ⟨fd_check_system, K_check_system⟩ := knE (tabs := [P_is_index_tuple, P_is_system, P_is_ascending, P_accepts_merged]) (P := l.prog) (w := w) (base := base) D_check_system sc_check_system (df := d_check_system) (er_check_system (P := P_is_index_tuple) (k := 7) (Nat.le_of_ble_eq_true rfl) (Nat.le_of_ble_eq_true rfl) hx_BadValue) (fun _ h => nomatch h) (fun _ h => nomatch h) XS (fun h => nomatch h) (.cons (K_is_system) .nil) (by simp) (m := m_check_system) rfl (fun _ _ _ _ _ _ us hl => match us, hl with | [_], _ => rfl) rfl rfl
  obtain ⟨fd_is_state, K_is_state⟩ := knE (tabs := [P_is_index_tuple, P_is_system, P_is_ascending, P_accepts_merged]) (P := l.prog) (w := w) (base := base) D_is_state sc_is_state (df := d_is_state) (er_is_state (P := P_is_index_tuple) (k := 2) (Nat.le_of_ble_eq_true rfl)) (fun _ h => nomatch h) (fun _ h => nomatch h) XS (fun h => nomatch h) (.cons (K_is_index) .nil) (by simp) (m := m_is_state) rfl (fun _ _ _ _ _ _ us hl => match us, hl with | [_, _], _ => rfl) rfl rfl
  obtain ⟨fd_check_state, K_check_state⟩ := knE (tabs := [P_is_index_tuple, P_is_system, P_is_ascending, P_accepts_merged]) (P := l.prog) (w := w) (base := base) D_check_state sc_check_state (df := d_check_state) (er_check_state (P := P_is_index_tuple) (k := 3) (Nat.le_of_ble_eq_true rfl) (Nat.le_of_ble_eq_true rfl) hx_BadValue) (fun _ h => nomatch h) (fun _ h => nomatch h) XS (fun h => nomatch h) (.cons (K_is_state) .nil) (by simp) (m := m_check_state) rfl (fun _ _ _ _ _ _ us hl => match us, hl with | [_, _, _], _ => rfl) rfl rfl
  obtain ⟨fd_is_sequence_within, K_is_sequence_within⟩ := knE (tabs := [P_is_index_tuple, P_is_system, P_is_ascending, P_accepts_merged]) (P := l.prog) (w := w) (base := base) D_is_sequence_within sc_is_sequence_within (df := d_is_sequence_within) (er_is_sequence_within (P := P_is_index_tuple) (k := 4) (Nat.le_of_ble_eq_true rfl)) (List.forall_mem_cons.mpr ⟨z_len, (fun _ h => nomatch h)⟩) (fun _ h => nomatch h) XS (fun h => nomatch h) (.cons (K_is_index_tuple) .nil) (by simp) (m := m_is_sequence_within) rfl (fun _ _ _ _ _ _ us hl => match us, hl with | [_, _, _], _ => rfl) rfl rfl
  obtain ⟨fd_is_sequence, K_is_sequence⟩ := knE (tabs := [P_is_index_tuple, P_is_system, P_is_ascending, P_accepts_merged]) (P := l.prog) (w := w) (base := base) D_is_sequence sc_is_sequence (df := d_is_sequence) (er_is_sequence (P := P_is_index_tuple) (k := 5) (Nat.le_of_ble_eq_true rfl)) (fun _ h => nomatch h) (List.forall_mem_cons.mpr ⟨g_MOST_IN_SEQUENCE, (fun _ h => nomatch h)⟩) XS (fun h => nomatch h) (.cons (K_is_sequence_within) .nil) (by simp) (m := m_is_sequence) rfl (fun _ _ _ _ _ _ us hl => match us, hl with | [_, _], _ => rfl) rfl rfl
  obtain ⟨fd_check_sequence, K_check_sequence⟩ := knE (tabs := [P_is_index_tuple, P_is_system, P_is_ascending, P_accepts_merged]) (P := l.prog) (w := w) (base := base) D_check_sequence sc_check_sequence (df := d_check_sequence) (er_check_sequence (P := P_is_index_tuple) (k := 6) (Nat.le_of_ble_eq_true rfl) (Nat.le_of_ble_eq_true rfl) hx_BadValue) (fun _ h => nomatch h) (fun _ h => nomatch h) XS (fun h => nomatch h) (.cons (K_is_sequence) .nil) (by simp) (m := m_check_sequence) rfl (fun _ _ _ _ _ _ us hl => match us, hl with | [_, _, _], _ => rfl) rfl rfl
  obtain ⟨fd_after, K_after⟩ := knE (tabs := [P_is_index_tuple, P_is_system, P_is_ascending, P_accepts_merged]) (P := l.prog) (w := w) (base := base) D_after sc_after (df := d_after) (er_after (P := P_is_index_tuple) (k := 0) ) (fun _ h => nomatch h) (fun _ h => nomatch h) XS (fun h => nomatch h) .nil (by simp) (m := m_after) rfl (fun _ _ _ _ _ _ us hl => match us, hl with | [_, _, _], _ => rfl) rfl rfl
  obtain ⟨fd_follow, K_follow⟩ := knE (tabs := [P_is_index_tuple, P_is_system, P_is_ascending, P_accepts_merged]) (P := l.prog) (w := w) (base := base) D_follow sc_follow (df := d_follow) (er_follow (P := P_is_index_tuple) (k := 1) (Nat.le_of_ble_eq_true rfl)) (fun _ h => nomatch h) (fun _ h => nomatch h) XS (fun h => nomatch h) (.cons (K_after) .nil) (by simp) (m := m_follow) rfl (fun _ _ _ _ _ _ us hl => match us, hl with | [_, _, _], _ => rfl) rfl rfl
  obtain ⟨fd_led_to, K_led_to⟩ := knE (tabs := [P_is_index_tuple, P_is_system, P_is_ascending, P_accepts_merged]) (P := l.prog) (w := w) (base := base) D_led_to sc_led_to (df := d_led_to) (er_led_to (P := P_is_index_tuple) (k := 8) (Nat.le_of_ble_eq_true rfl) (Nat.le_of_ble_eq_true rfl) (Nat.le_of_ble_eq_true rfl) (Nat.le_of_ble_eq_true rfl)) (fun _ h => nomatch h) (fun _ h => nomatch h) XS (fun h => nomatch h) (.cons (K_check_system) (.cons (K_check_state) (.cons (K_check_sequence) (.cons (K_follow) .nil)))) (by simp) (m := m_led_to) rfl (fun _ _ _ _ _ _ us hl => match us, hl with | [_, _, _], _ => rfl) rfl rfl
  obtain ⟨fd_run, K_run⟩ := knE (tabs := [P_is_index_tuple, P_is_system, P_is_ascending, P_accepts_merged]) (P := l.prog) (w := w) (base := base) D_run sc_run (df := d_run) (er_run (P := P_is_index_tuple) (k := 8) (Nat.le_of_ble_eq_true rfl) (Nat.le_of_ble_eq_true rfl) (Nat.le_of_ble_eq_true rfl) (Nat.le_of_ble_eq_true rfl)) (List.forall_mem_cons.mpr ⟨z_tuple, (fun _ h => nomatch h)⟩) (fun _ h => nomatch h) XS (fun h => nomatch h) (.cons (K_check_system) (.cons (K_check_state) (.cons (K_check_sequence) (.cons (K_after) .nil)))) (by simp) (m := m_run) rfl (fun _ _ _ _ _ _ us hl => match us, hl with | [_, _, _], _ => rfl) rfl rfl
  obtain ⟨fd_all_after, K_all_after⟩ := knE (tabs := [P_is_index_tuple, P_is_system, P_is_ascending, P_accepts_merged]) (P := l.prog) (w := w) (base := base) D_all_after sc_all_after (df := d_all_after) (er_all_after (P := P_is_index_tuple) (k := 0) ) (List.forall_mem_cons.mpr ⟨z_tuple, (fun _ h => nomatch h)⟩) (fun _ h => nomatch h) XS (fun h => nomatch h) .nil (by simp) (m := m_all_after) rfl (fun _ _ _ _ _ _ us hl => match us, hl with | [_, _], _ => rfl) rfl rfl
  obtain ⟨fd_tuples_from, K_tuples_from⟩ := knE (tabs := [P_is_index_tuple, P_is_system, P_is_ascending, P_accepts_merged]) (P := l.prog) (w := w) (base := base) D_tuples_from sc_tuples_from (df := d_tuples_from) (er_tuples_from (P := P_is_index_tuple) (k := 1) (Nat.le_of_ble_eq_true rfl)) (List.forall_mem_cons.mpr ⟨z_len, (List.forall_mem_cons.mpr ⟨z_enumerate, (fun _ h => nomatch h)⟩)⟩) (fun _ h => nomatch h) XS (fun h => nomatch h) (.cons (K_all_after) .nil) (by simp) (m := m_tuples_from) rfl (fun _ _ _ _ _ _ us hl => match us, hl with | [_, _, _], _ => rfl) rfl rfl
  obtain ⟨fd_sequences_from, K_sequences_from⟩ := knE (tabs := [P_is_index_tuple, P_is_system, P_is_ascending, P_accepts_merged]) (P := l.prog) (w := w) (base := base) D_sequences_from sc_sequences_from (df := d_sequences_from) (er_sequences_from (P := P_is_index_tuple) (k := 2) (Nat.le_of_ble_eq_true rfl)) (fun _ h => nomatch h) (fun _ h => nomatch h) XS (fun h => nomatch h) (.cons (K_tuples_from) .nil) (by simp) (m := m_sequences_from) rfl (fun _ _ _ _ _ _ us hl => match us, hl with | [_, _], _ => rfl) rfl rfl
  obtain ⟨fd_reached_from, K_reached_from⟩ := knE (tabs := [P_is_index_tuple, P_is_system, P_is_ascending, P_accepts_merged]) (P := l.prog) (w := w) (base := base) D_reached_from sc_reached_from (df := d_reached_from) (er_reached_from (P := P_is_index_tuple) (k := 3) (Nat.le_of_ble_eq_true rfl)) (List.forall_mem_cons.mpr ⟨z_tuple, (List.forall_mem_cons.mpr ⟨z_sorted, (fun _ h => nomatch h)⟩)⟩) (fun _ h => nomatch h) XS (fun h => nomatch h) (.cons (K_sequences_from) .nil) (by simp) (m := m_reached_from) rfl (fun _ _ _ _ _ _ us hl => match us, hl with | [_, _], _ => rfl) rfl rfl
  obtain ⟨fd_reachable, K_reachable⟩ := knE (tabs := [P_is_index_tuple, P_is_system, P_is_ascending, P_accepts_merged]) (P := l.prog) (w := w) (base := base) D_reachable sc_reachable (df := d_reachable) (er_reachable (P := P_is_index_tuple) (k := 8) (Nat.le_of_ble_eq_true rfl) (Nat.le_of_ble_eq_true rfl)) (fun _ h => nomatch h) (fun _ h => nomatch h) XS (fun h => nomatch h) (.cons (K_check_system) (.cons (K_reached_from) .nil)) (by simp) (m := m_reachable) rfl (fun _ _ _ _ _ _ us hl => match us, hl with | [_], _ => rfl) rfl rfl
  obtain ⟨fd_first_sequence, K_first_sequence⟩ := knE (tabs := [P_is_index_tuple, P_is_system, P_is_ascending, P_accepts_merged]) (P := l.prog) (w := w) (base := base) D_first_sequence sc_first_sequence (df := d_first_sequence) (er_first_sequence (P := P_is_index_tuple) (k := 8) (Nat.le_of_ble_eq_true rfl) (Nat.le_of_ble_eq_true rfl) (Nat.le_of_ble_eq_true rfl)) (fun _ h => nomatch h) (fun _ h => nomatch h) XS (fun h => nomatch h) (.cons (K_check_system) (.cons (K_check_state) (.cons (K_sequences_from) .nil))) (by simp) (m := m_first_sequence) rfl (fun _ _ _ _ _ _ us hl => match us, hl with | [_, _, _], _ => rfl) rfl rfl
  obtain ⟨fd_reach_evidence, K_reach_evidence⟩ := knE (tabs := [P_is_index_tuple, P_is_system, P_is_ascending, P_accepts_merged]) (P := l.prog) (w := w) (base := base) D_reach_evidence sc_reach_evidence (df := d_reach_evidence) (er_reach_evidence (P := P_is_index_tuple) (k := 9) (Nat.le_of_ble_eq_true rfl) (Nat.le_of_ble_eq_true rfl)) (fun _ h => nomatch h) (fun _ h => nomatch h) XS (fun h => nomatch h) (.cons (K_first_sequence) (.cons (K_reached_from) .nil)) (by simp) (m := m_reach_evidence) rfl (fun _ _ _ _ _ _ us hl => match us, hl with | [_, _, _], _ => rfl) rfl rfl
  obtain ⟨fd_has_word, K_has_word⟩ := knE (tabs := [P_is_index_tuple, P_is_system, P_is_ascending, P_accepts_merged]) (P := l.prog) (w := w) (base := base) D_has_word sc_has_word (df := d_has_word) (er_has_word (P := P_is_index_tuple) (k := 1) (Nat.le_of_ble_eq_true rfl)) (List.forall_mem_cons.mpr ⟨z_isinstance, (List.forall_mem_cons.mpr ⟨z_str, (fun _ h => nomatch h)⟩)⟩) (fun _ h => nomatch h) XS (fun h => nomatch h) (.cons (K_is_tuple_of) .nil) (by simp) (m := m_has_word) rfl (fun _ _ _ _ _ _ us hl => match us, hl with | [_, _, _], _ => rfl) rfl rfl
  obtain ⟨fd_shows_reach, K_shows_reach⟩ := knE (tabs := [P_is_index_tuple, P_is_system, P_is_ascending, P_accepts_merged]) (P := l.prog) (w := w) (base := base) D_shows_reach sc_shows_reach (df := d_shows_reach) (er_shows_reach (P := P_is_index_tuple) (k := 5) (Nat.le_of_ble_eq_true rfl) (Nat.le_of_ble_eq_true rfl)) (fun _ h => nomatch h) (List.forall_mem_cons.mpr ⟨g_MOST_IN_PATH, (fun _ h => nomatch h)⟩) XS (fun h => nomatch h) (.cons (K_is_sequence_within) (.cons (K_follow) .nil)) (by simp) (m := m_shows_reach) rfl (fun _ _ _ _ _ _ us hl => match us, hl with | [_, _, _, _], _ => rfl) rfl rfl
  obtain ⟨fd_is_ascending, K_is_ascending⟩ := knE (tabs := [P_is_index_tuple, P_is_system, P_is_ascending, P_accepts_merged]) (P := l.prog) (w := w) (base := base) D_is_ascending sc_is_ascending (df := d_is_ascending) (er_is_ascending (P := P_is_ascending) (k := 0) ) (List.forall_mem_cons.mpr ⟨z_all, (fun _ h => nomatch h)⟩) (fun _ h => nomatch h) XS (fun _ => ⟨c_is_ascending, C_is_ascending, B_is_ascending⟩) .nil (by simp) (m := m_is_ascending) rfl (fun _ _ _ _ _ _ us hl => match us, hl with | [_], _ => rfl) rfl rfl
  obtain ⟨fd_is_closed, K_is_closed⟩ := knE (tabs := [P_is_index_tuple, P_is_system, P_is_ascending, P_accepts_merged]) (P := l.prog) (w := w) (base := base) D_is_closed sc_is_closed (df := d_is_closed) (er_is_closed (P := P_is_index_tuple) (k := 0) ) (fun _ h => nomatch h) (fun _ h => nomatch h) XS (fun h => nomatch h) .nil (by simp) (m := m_is_closed) rfl (fun _ _ _ _ _ _ us hl => match us, hl with | [_, _], _ => rfl) rfl rfl
  obtain ⟨fd_shows_no_reach, K_shows_no_reach⟩ := knE (tabs := [P_is_index_tuple, P_is_system, P_is_ascending, P_accepts_merged]) (P := l.prog) (w := w) (base := base) D_shows_no_reach sc_shows_no_reach (df := d_shows_no_reach) (er_shows_no_reach (P := P_is_index_tuple) (k := 4) (Nat.le_of_ble_eq_true rfl) (Nat.le_of_ble_eq_true rfl) (Nat.le_of_ble_eq_true rfl)) (fun _ h => nomatch h) (fun _ h => nomatch h) XS (fun h => nomatch h) (.cons (K_is_index_tuple) (.cons (K_is_ascending) (.cons (K_is_closed) .nil))) (by simp) (m := m_shows_no_reach) rfl (fun _ _ _ _ _ _ us hl => match us, hl with | [_, _, _, _], _ => rfl) rfl rfl
  obtain ⟨fd_accepts_reach, K_accepts_reach⟩ := knE (tabs := [P_is_index_tuple, P_is_system, P_is_ascending, P_accepts_merged]) (P := l.prog) (w := w) (base := base) D_accepts_reach sc_accepts_reach (df := d_accepts_reach) (er_accepts_reach (P := P_is_index_tuple) (k := 8) (Nat.le_of_ble_eq_true rfl) (Nat.le_of_ble_eq_true rfl) (Nat.le_of_ble_eq_true rfl) (Nat.le_of_ble_eq_true rfl) (Nat.le_of_ble_eq_true rfl)) (fun _ h => nomatch h) (fun _ h => nomatch h) XS (fun h => nomatch h) (.cons (K_check_system) (.cons (K_check_state) (.cons (K_has_word) (.cons (K_shows_reach) (.cons (K_shows_no_reach) .nil))))) (by simp) (m := m_accepts_reach) rfl (fun _ _ _ _ _ _ us hl => match us, hl with | [_, _, _, _], _ => rfl) rfl rfl
  obtain ⟨fd_law_first, K_law_first⟩ := knE (tabs := [P_is_index_tuple, P_is_system, P_is_ascending, P_accepts_merged]) (P := l.prog) (w := w) (base := base) D_law_first sc_law_first (df := d_law_first) (er_law_first (P := P_is_index_tuple) (k := 10) (Nat.le_of_ble_eq_true rfl) (Nat.le_of_ble_eq_true rfl) (Nat.le_of_ble_eq_true rfl) (Nat.le_of_ble_eq_true rfl) (Nat.le_of_ble_eq_true rfl) (Nat.le_of_ble_eq_true rfl)) (fun _ h => nomatch h) (fun _ h => nomatch h) XS (fun h => nomatch h) (.cons (K_led_to) (.cons (K_run) (.cons (K_reachable) (.cons (K_first_sequence) (.cons (K_reach_evidence) (.cons (K_accepts_reach) .nil)))))) (by simp) (m := m_law_first) rfl (fun _ _ _ _ _ _ us hl => match us, hl with | [_, _], _ => rfl) rfl rfl
  obtain ⟨fd_agree, K_agree⟩ := knE (tabs := [P_is_index_tuple, P_is_system, P_is_ascending, P_accepts_merged]) (P := l.prog) (w := w) (base := base) D_agree sc_agree (df := d_agree) (er_agree (P := P_is_index_tuple) (k := 8) (Nat.le_of_ble_eq_true rfl) (Nat.le_of_ble_eq_true rfl) (Nat.le_of_ble_eq_true rfl) (Nat.le_of_ble_eq_true rfl)) (fun _ h => nomatch h) (fun _ h => nomatch h) XS (fun h => nomatch h) (.cons (K_check_system) (.cons (K_check_sequence) (.cons (K_check_state) (.cons (K_follow) .nil)))) (by simp) (m := m_agree) rfl (fun _ _ _ _ _ _ us hl => match us, hl with | [_, _, _, _], _ => rfl) rfl rfl
  obtain ⟨fd_least_difference, K_least_difference⟩ := knE (tabs := [P_is_index_tuple, P_is_system, P_is_ascending, P_accepts_merged]) (P := l.prog) (w := w) (base := base) D_least_difference sc_least_difference (df := d_least_difference) (er_least_difference (P := P_is_index_tuple) (k := 4) (Nat.le_of_ble_eq_true rfl) (Nat.le_of_ble_eq_true rfl)) (fun _ h => nomatch h) (fun _ h => nomatch h) XS (fun h => nomatch h) (.cons (K_reached_from) (.cons (K_follow) .nil)) (by simp) (m := m_least_difference) rfl (fun _ _ _ _ _ _ us hl => match us, hl with | [_, _, _], _ => rfl) rfl rfl
  obtain ⟨fd_difference, K_difference⟩ := knE (tabs := [P_is_index_tuple, P_is_system, P_is_ascending, P_accepts_merged]) (P := l.prog) (w := w) (base := base) D_difference sc_difference (df := d_difference) (er_difference (P := P_is_index_tuple) (k := 8) (Nat.le_of_ble_eq_true rfl) (Nat.le_of_ble_eq_true rfl) (Nat.le_of_ble_eq_true rfl)) (fun _ h => nomatch h) (fun _ h => nomatch h) XS (fun h => nomatch h) (.cons (K_check_system) (.cons (K_check_sequence) (.cons (K_least_difference) .nil))) (by simp) (m := m_difference) rfl (fun _ _ _ _ _ _ us hl => match us, hl with | [_, _, _], _ => rfl) rfl rfl
  obtain ⟨fd_first_merged, K_first_merged⟩ := knE (tabs := [P_is_index_tuple, P_is_system, P_is_ascending, P_accepts_merged]) (P := l.prog) (w := w) (base := base) D_first_merged sc_first_merged (df := d_first_merged) (er_first_merged (P := P_is_index_tuple) (k := 4) (Nat.le_of_ble_eq_true rfl) (Nat.le_of_ble_eq_true rfl)) (fun _ h => nomatch h) (fun _ h => nomatch h) XS (fun h => nomatch h) (.cons (K_reached_from) (.cons (K_after) .nil)) (by simp) (m := m_first_merged) rfl (fun _ _ _ _ _ _ us hl => match us, hl with | [_, _], _ => rfl) rfl rfl
  obtain ⟨fd_one_to_one, K_one_to_one⟩ := knE (tabs := [P_is_index_tuple, P_is_system, P_is_ascending, P_accepts_merged]) (P := l.prog) (w := w) (base := base) D_one_to_one sc_one_to_one (df := d_one_to_one) (er_one_to_one (P := P_is_index_tuple) (k := 8) (Nat.le_of_ble_eq_true rfl) (Nat.le_of_ble_eq_true rfl)) (List.forall_mem_cons.mpr ⟨z_tuple, (List.forall_mem_cons.mpr ⟨z_range, (List.forall_mem_cons.mpr ⟨z_len, (fun _ h => nomatch h)⟩)⟩)⟩) (fun _ h => nomatch h) XS (fun h => nomatch h) (.cons (K_check_system) (.cons (K_first_merged) .nil)) (by simp) (m := m_one_to_one) rfl (fun _ _ _ _ _ _ us hl => match us, hl with | [_], _ => rfl) rfl rfl
  obtain ⟨fd_is_command, K_is_command⟩ := knE (tabs := [P_is_index_tuple, P_is_system, P_is_ascending, P_accepts_merged]) (P := l.prog) (w := w) (base := base) D_is_command sc_is_command (df := d_is_command) (er_is_command (P := P_is_index_tuple) (k := 2) (Nat.le_of_ble_eq_true rfl)) (List.forall_mem_cons.mpr ⟨z_len, (fun _ h => nomatch h)⟩) (fun _ h => nomatch h) XS (fun h => nomatch h) (.cons (K_is_index) .nil) (by simp) (m := m_is_command) rfl (fun _ _ _ _ _ _ us hl => match us, hl with | [_, _], _ => rfl) rfl rfl
  obtain ⟨fd_check_command, K_check_command⟩ := knE (tabs := [P_is_index_tuple, P_is_system, P_is_ascending, P_accepts_merged]) (P := l.prog) (w := w) (base := base) D_check_command sc_check_command (df := d_check_command) (er_check_command (P := P_is_index_tuple) (k := 3) (Nat.le_of_ble_eq_true rfl) (Nat.le_of_ble_eq_true rfl) hx_BadValue) (fun _ h => nomatch h) (fun _ h => nomatch h) XS (fun h => nomatch h) (.cons (K_is_command) .nil) (by simp) (m := m_check_command) rfl (fun _ _ _ _ _ _ us hl => match us, hl with | [_, _, _], _ => rfl) rfl rfl
  obtain ⟨fd_merged, K_merged⟩ := knE (tabs := [P_is_index_tuple, P_is_system, P_is_ascending, P_accepts_merged]) (P := l.prog) (w := w) (base := base) D_merged sc_merged (df := d_merged) (er_merged (P := P_is_index_tuple) (k := 8) (Nat.le_of_ble_eq_true rfl) (Nat.le_of_ble_eq_true rfl) (Nat.le_of_ble_eq_true rfl)) (fun _ h => nomatch h) (fun _ h => nomatch h) XS (fun h => nomatch h) (.cons (K_check_system) (.cons (K_check_command) (.cons (K_first_merged) .nil))) (by simp) (m := m_merged) rfl (fun _ _ _ _ _ _ us hl => match us, hl with | [_, _], _ => rfl) rfl rfl
  obtain ⟨fd_is_reachable, K_is_reachable⟩ := knE (tabs := [P_is_index_tuple, P_is_system, P_is_ascending, P_accepts_merged]) (P := l.prog) (w := w) (base := base) D_is_reachable sc_is_reachable (df := d_is_reachable) (er_is_reachable (P := P_is_index_tuple) (k := 4) (Nat.le_of_ble_eq_true rfl) (Nat.le_of_ble_eq_true rfl)) (fun _ h => nomatch h) (fun _ h => nomatch h) XS (fun h => nomatch h) (.cons (K_is_state) (.cons (K_reached_from) .nil)) (by simp) (m := m_is_reachable) rfl (fun _ _ _ _ _ _ us hl => match us, hl with | [_, _], _ => rfl) rfl rfl
  obtain ⟨fd_accepts_merged, K_accepts_merged⟩ := knE (tabs := [P_is_index_tuple, P_is_system, P_is_ascending, P_accepts_merged]) (P := l.prog) (w := w) (base := base) D_accepts_merged sc_accepts_merged (df := d_accepts_merged) (er_accepts_merged (P := P_accepts_merged) (k := 8) (Nat.le_of_ble_eq_true rfl) (Nat.le_of_ble_eq_true rfl) (Nat.le_of_ble_eq_true rfl) (Nat.le_of_ble_eq_true rfl) (Nat.le_of_ble_eq_true rfl)) (List.forall_mem_cons.mpr ⟨z_all, (fun _ h => nomatch h)⟩) (fun _ h => nomatch h) XS (fun _ => ⟨c_accepts_merged, C_accepts_merged, B_accepts_merged⟩) (.cons (K_check_system) (.cons (K_check_command) (.cons (K_is_tuple_of) (.cons (K_is_reachable) (.cons (K_after) .nil))))) (by simp) (m := m_accepts_merged) rfl (fun _ _ _ _ _ _ us hl => match us, hl with | [_, _, _], _ => rfl) rfl rfl
  obtain ⟨fd_inverse, K_inverse⟩ := knE (tabs := [P_is_index_tuple, P_is_system, P_is_ascending, P_accepts_merged]) (P := l.prog) (w := w) (base := base) D_inverse sc_inverse (df := d_inverse) (er_inverse (P := P_is_index_tuple) (k := 9) (Nat.le_of_ble_eq_true rfl) (Nat.le_of_ble_eq_true rfl) (Nat.le_of_ble_eq_true rfl) (Nat.le_of_ble_eq_true rfl) hx_NotPossible) (List.forall_mem_cons.mpr ⟨z_tuple, (fun _ h => nomatch h)⟩) (fun _ h => nomatch h) XS (fun h => nomatch h) (.cons (K_merged) (.cons (K_reachable) (.cons (K_after) .nil))) (by simp) (m := m_inverse) rfl (fun _ _ _ _ _ _ us hl => match us, hl with | [_, _], _ => rfl) rfl rfl
  obtain ⟨fd_can_be_exchanged, K_can_be_exchanged⟩ := knE (tabs := [P_is_index_tuple, P_is_system, P_is_ascending, P_accepts_merged]) (P := l.prog) (w := w) (base := base) D_can_be_exchanged sc_can_be_exchanged (df := d_can_be_exchanged) (er_can_be_exchanged (P := P_is_index_tuple) (k := 2) (Nat.le_of_ble_eq_true rfl)) (fun _ h => nomatch h) (fun _ h => nomatch h) XS (fun h => nomatch h) (.cons (K_follow) .nil) (by simp) (m := m_can_be_exchanged) rfl (fun _ _ _ _ _ _ us hl => match us, hl with | [_, _, _, _], _ => rfl) rfl rfl
  obtain ⟨fd_exchanged, K_exchanged⟩ := knE (tabs := [P_is_index_tuple, P_is_system, P_is_ascending, P_accepts_merged]) (P := l.prog) (w := w) (base := base) D_exchanged sc_exchanged (df := d_exchanged) (er_exchanged (P := P_is_index_tuple) (k := 9) (Nat.le_of_ble_eq_true rfl) (Nat.le_of_ble_eq_true rfl) (Nat.le_of_ble_eq_true rfl) (Nat.le_of_ble_eq_true rfl)) (List.forall_mem_cons.mpr ⟨z_tuple, (fun _ h => nomatch h)⟩) (fun _ h => nomatch h) XS (fun h => nomatch h) (.cons (K_check_system) (.cons (K_check_command) (.cons (K_reachable) (.cons (K_can_be_exchanged) .nil)))) (by simp) (m := m_exchanged) rfl (fun _ _ _ _ _ _ us hl => match us, hl with | [_, _, _], _ => rfl) rfl rfl
  obtain ⟨fd_law_second, K_law_second⟩ := knE (tabs := [P_is_index_tuple, P_is_system, P_is_ascending, P_accepts_merged]) (P := l.prog) (w := w) (base := base) D_law_second sc_law_second (df := d_law_second) (er_law_second (P := P_is_index_tuple) (k := 10) (Nat.le_of_ble_eq_true rfl) (Nat.le_of_ble_eq_true rfl) (Nat.le_of_ble_eq_true rfl) (Nat.le_of_ble_eq_true rfl) (Nat.le_of_ble_eq_true rfl) (Nat.le_of_ble_eq_true rfl) (Nat.le_of_ble_eq_true rfl)) (fun _ h => nomatch h) (fun _ h => nomatch h) XS (fun h => nomatch h) (.cons (K_agree) (.cons (K_difference) (.cons (K_one_to_one) (.cons (K_merged) (.cons (K_accepts_merged) (.cons (K_inverse) (.cons (K_exchanged) .nil))))))) (by simp) (m := m_law_second) rfl (fun _ _ _ _ _ _ us hl => match us, hl with | [_, _], _ => rfl) rfl rfl
  obtain ⟨fd_law_told, K_law_told⟩ := knE (tabs := [P_is_index_tuple, P_is_system, P_is_ascending, P_accepts_merged]) (P := l.prog) (w := w) (base := base) D_law_told sc_law_told (df := d_law_told) (er_law_told (P := P_is_index_tuple) (k := 11) (Nat.le_of_ble_eq_true rfl) (Nat.le_of_ble_eq_true rfl) hm1_BadValue hm2_BadValue hh_BadValue hi_BadValue_UndoError_ValueError) (List.forall_mem_cons.mpr ⟨z_isinstance, (List.forall_mem_cons.mpr ⟨z_ValueError, (fun _ h => nomatch h)⟩)⟩) (fun _ h => nomatch h) XS (fun h => nomatch h) (.cons (K_law_first) (.cons (K_law_second) .nil)) (by simp) (m := m_law_told) rfl (fun _ _ _ _ _ _ us hl => match us, hl with | [_, _], _ => rfl) rfl rfl
  exact (knL l_law (tabs := [P_is_index_tuple, P_is_system, P_is_ascending, P_accepts_merged]) (P := l.prog) (w := w) (base := base) D_law sc_law (df := d_law) (er_law (P := P_is_index_tuple) (k := 12) (Nat.le_of_ble_eq_true rfl) (Nat.le_of_ble_eq_true rfl) (Nat.le_of_ble_eq_true rfl)) (List.forall_mem_cons.mpr ⟨z_range, (List.forall_mem_cons.mpr ⟨z_len, (fun _ h => nomatch h)⟩)⟩) (fun _ h => nomatch h) XS (fun h => nomatch h) (.cons (K_law_stream) (.cons (K_law_pick) (.cons (K_law_told) .nil))) (by simp) (m := m_law) rfl (fun _ _ _ _ _ _ us hl => match us, hl with | [_], _ => rfl) rfl rfl)
theorem all_mk {l : PySem.W.OpenLaw} {w : World} {q : Program} {K : PySem.W.Frag} {h : Heap} {mg : Str → Option Value} {fa : Addr} {n : Nat} (X : K.In h) (G : h.Ns mainGlobals mg) (hfa : mg "law" = some (.ref fa))
    (tb : ∀ (y : Str) (c P : Addr) (d' : DefRec), (recsOf q).find? (fun e => e.name == y) = some d' → PySem.W.tabIn K y = some (c, P) → PySem.W.CodeHd h c P ∧ h.get? P = some { cls := .none, data := .fields #[] })
    (nt : PySem.W.noTabs K = true)
    {f_law_stream : Addr} {od_law_stream an_law_stream : Option Addr} {sl_law_stream : Array (Option Value)} {oc_law_stream kV_law_stream dc_law_stream pm_law_stream cd_law_stream ct_law_stream : Value}
    {f_law_next : Addr} {od_law_next an_law_next : Option Addr} {sl_law_next : Array (Option Value)} {oc_law_next kV_law_next dc_law_next pm_law_next cd_law_next ct_law_next : Value}
    {f_law_pick : Addr} {od_law_pick an_law_pick : Option Addr} {sl_law_pick : Array (Option Value)} {oc_law_pick kV_law_pick dc_law_pick pm_law_pick cd_law_pick ct_law_pick : Value}
    {f_is_tuple_of : Addr} {od_is_tuple_of an_is_tuple_of : Option Addr} {sl_is_tuple_of : Array (Option Value)} {oc_is_tuple_of kV_is_tuple_of dc_is_tuple_of pm_is_tuple_of cd_is_tuple_of ct_is_tuple_of : Value}
    {f_is_integer : Addr} {od_is_integer an_is_integer : Option Addr} {sl_is_integer : Array (Option Value)} {oc_is_integer kV_is_integer dc_is_integer pm_is_integer cd_is_integer ct_is_integer : Value}
    {f_is_index : Addr} {od_is_index an_is_index : Option Addr} {sl_is_index : Array (Option Value)} {oc_is_index kV_is_index dc_is_index pm_is_index cd_is_index ct_is_index : Value}
    {f_is_index_tuple : Addr} {od_is_index_tuple an_is_index_tuple : Option Addr} {sl_is_index_tuple : Array (Option Value)} {oc_is_index_tuple kV_is_index_tuple dc_is_index_tuple pm_is_index_tuple cd_is_index_tuple ct_is_index_tuple : Value}
    {f_is_command_row : Addr} {od_is_command_row an_is_command_row : Option Addr} {sl_is_command_row : Array (Option Value)} {oc_is_command_row kV_is_command_row dc_is_command_row pm_is_command_row cd_is_command_row ct_is_command_row : Value}
    {f_is_system : Addr} {od_is_system an_is_system : Option Addr} {sl_is_system : Array (Option Value)} {oc_is_system kV_is_system dc_is_system pm_is_system cd_is_system ct_is_system : Value}
    {f_check_system : Addr} {od_check_system an_check_system : Option Addr} {sl_check_system : Array (Option Value)} {oc_check_system kV_check_system dc_check_system pm_check_system cd_check_system ct_check_system : Value}
    {f_is_state : Addr} {od_is_state an_is_state : Option Addr} {sl_is_state : Array (Option Value)} {oc_is_state kV_is_state dc_is_state pm_is_state cd_is_state ct_is_state : Value}
    {f_check_state : Addr} {od_check_state an_check_state : Option Addr} {sl_check_state : Array (Option Value)} {oc_check_state kV_check_state dc_check_state pm_check_state cd_check_state ct_check_state : Value}
    {f_is_sequence_within : Addr} {od_is_sequence_within an_is_sequence_within : Option Addr} {sl_is_sequence_within : Array (Option Value)} {oc_is_sequence_within kV_is_sequence_within dc_is_sequence_within pm_is_sequence_within cd_is_sequence_within ct_is_sequence_within : Value}
    {f_is_sequence : Addr} {od_is_sequence an_is_sequence : Option Addr} {sl_is_sequence : Array (Option Value)} {oc_is_sequence kV_is_sequence dc_is_sequence pm_is_sequence cd_is_sequence ct_is_sequence : Value}
    {f_check_sequence : Addr} {od_check_sequence an_check_sequence : Option Addr} {sl_check_sequence : Array (Option Value)} {oc_check_sequence kV_check_sequence dc_check_sequence pm_check_sequence cd_check_sequence ct_check_sequence : Value}
    {f_after : Addr} {od_after an_after : Option Addr} {sl_after : Array (Option Value)} {oc_after kV_after dc_after pm_after cd_after ct_after : Value}
    {f_follow : Addr} {od_follow an_follow : Option Addr} {sl_follow : Array (Option Value)} {oc_follow kV_follow dc_follow pm_follow cd_follow ct_follow : Value}
    {f_led_to : Addr} {od_led_to an_led_to : Option Addr} {sl_led_to : Array (Option Value)} {oc_led_to kV_led_to dc_led_to pm_led_to cd_led_to ct_led_to : Value}
    {f_run : Addr} {od_run an_run : Option Addr} {sl_run : Array (Option Value)} {oc_run kV_run dc_run pm_run cd_run ct_run : Value}
    {f_all_after : Addr} {od_all_after an_all_after : Option Addr} {sl_all_after : Array (Option Value)} {oc_all_after kV_all_after dc_all_after pm_all_after cd_all_after ct_all_after : Value}
    {f_tuples_from : Addr} {od_tuples_from an_tuples_from : Option Addr} {sl_tuples_from : Array (Option Value)} {oc_tuples_from kV_tuples_from dc_tuples_from pm_tuples_from cd_tuples_from ct_tuples_from : Value}
    {f_sequences_from : Addr} {od_sequences_from an_sequences_from : Option Addr} {sl_sequences_from : Array (Option Value)} {oc_sequences_from kV_sequences_from dc_sequences_from pm_sequences_from cd_sequences_from ct_sequences_from : Value}
    {f_reached_from : Addr} {od_reached_from an_reached_from : Option Addr} {sl_reached_from : Array (Option Value)} {oc_reached_from kV_reached_from dc_reached_from pm_reached_from cd_reached_from ct_reached_from : Value}
    {f_reachable : Addr} {od_reachable an_reachable : Option Addr} {sl_reachable : Array (Option Value)} {oc_reachable kV_reachable dc_reachable pm_reachable cd_reachable ct_reachable : Value}
    {f_first_sequence : Addr} {od_first_sequence an_first_sequence : Option Addr} {sl_first_sequence : Array (Option Value)} {oc_first_sequence kV_first_sequence dc_first_sequence pm_first_sequence cd_first_sequence ct_first_sequence : Value}
    {f_reach_evidence : Addr} {od_reach_evidence an_reach_evidence : Option Addr} {sl_reach_evidence : Array (Option Value)} {oc_reach_evidence kV_reach_evidence dc_reach_evidence pm_reach_evidence cd_reach_evidence ct_reach_evidence : Value}
    {f_has_word : Addr} {od_has_word an_has_word : Option Addr} {sl_has_word : Array (Option Value)} {oc_has_word kV_has_word dc_has_word pm_has_word cd_has_word ct_has_word : Value}
    {f_shows_reach : Addr} {od_shows_reach an_shows_reach : Option Addr} {sl_shows_reach : Array (Option Value)} {oc_shows_reach kV_shows_reach dc_shows_reach pm_shows_reach cd_shows_reach ct_shows_reach : Value}
    {f_is_ascending : Addr} {od_is_ascending an_is_ascending : Option Addr} {sl_is_ascending : Array (Option Value)} {oc_is_ascending kV_is_ascending dc_is_ascending pm_is_ascending cd_is_ascending ct_is_ascending : Value}
    {f_is_closed : Addr} {od_is_closed an_is_closed : Option Addr} {sl_is_closed : Array (Option Value)} {oc_is_closed kV_is_closed dc_is_closed pm_is_closed cd_is_closed ct_is_closed : Value}
    {f_shows_no_reach : Addr} {od_shows_no_reach an_shows_no_reach : Option Addr} {sl_shows_no_reach : Array (Option Value)} {oc_shows_no_reach kV_shows_no_reach dc_shows_no_reach pm_shows_no_reach cd_shows_no_reach ct_shows_no_reach : Value}
    {f_accepts_reach : Addr} {od_accepts_reach an_accepts_reach : Option Addr} {sl_accepts_reach : Array (Option Value)} {oc_accepts_reach kV_accepts_reach dc_accepts_reach pm_accepts_reach cd_accepts_reach ct_accepts_reach : Value}
    {f_law_first : Addr} {od_law_first an_law_first : Option Addr} {sl_law_first : Array (Option Value)} {oc_law_first kV_law_first dc_law_first pm_law_first cd_law_first ct_law_first : Value}
    {f_agree : Addr} {od_agree an_agree : Option Addr} {sl_agree : Array (Option Value)} {oc_agree kV_agree dc_agree pm_agree cd_agree ct_agree : Value}
    {f_least_difference : Addr} {od_least_difference an_least_difference : Option Addr} {sl_least_difference : Array (Option Value)} {oc_least_difference kV_least_difference dc_least_difference pm_least_difference cd_least_difference ct_least_difference : Value}
    {f_difference : Addr} {od_difference an_difference : Option Addr} {sl_difference : Array (Option Value)} {oc_difference kV_difference dc_difference pm_difference cd_difference ct_difference : Value}
    {f_first_merged : Addr} {od_first_merged an_first_merged : Option Addr} {sl_first_merged : Array (Option Value)} {oc_first_merged kV_first_merged dc_first_merged pm_first_merged cd_first_merged ct_first_merged : Value}
    {f_one_to_one : Addr} {od_one_to_one an_one_to_one : Option Addr} {sl_one_to_one : Array (Option Value)} {oc_one_to_one kV_one_to_one dc_one_to_one pm_one_to_one cd_one_to_one ct_one_to_one : Value}
    {f_is_command : Addr} {od_is_command an_is_command : Option Addr} {sl_is_command : Array (Option Value)} {oc_is_command kV_is_command dc_is_command pm_is_command cd_is_command ct_is_command : Value}
    {f_check_command : Addr} {od_check_command an_check_command : Option Addr} {sl_check_command : Array (Option Value)} {oc_check_command kV_check_command dc_check_command pm_check_command cd_check_command ct_check_command : Value}
    {f_merged : Addr} {od_merged an_merged : Option Addr} {sl_merged : Array (Option Value)} {oc_merged kV_merged dc_merged pm_merged cd_merged ct_merged : Value}
    {f_is_reachable : Addr} {od_is_reachable an_is_reachable : Option Addr} {sl_is_reachable : Array (Option Value)} {oc_is_reachable kV_is_reachable dc_is_reachable pm_is_reachable cd_is_reachable ct_is_reachable : Value}
    {f_accepts_merged : Addr} {od_accepts_merged an_accepts_merged : Option Addr} {sl_accepts_merged : Array (Option Value)} {oc_accepts_merged kV_accepts_merged dc_accepts_merged pm_accepts_merged cd_accepts_merged ct_accepts_merged : Value}
    {f_inverse : Addr} {od_inverse an_inverse : Option Addr} {sl_inverse : Array (Option Value)} {oc_inverse kV_inverse dc_inverse pm_inverse cd_inverse ct_inverse : Value}
    {f_can_be_exchanged : Addr} {od_can_be_exchanged an_can_be_exchanged : Option Addr} {sl_can_be_exchanged : Array (Option Value)} {oc_can_be_exchanged kV_can_be_exchanged dc_can_be_exchanged pm_can_be_exchanged cd_can_be_exchanged ct_can_be_exchanged : Value}
    {f_exchanged : Addr} {od_exchanged an_exchanged : Option Addr} {sl_exchanged : Array (Option Value)} {oc_exchanged kV_exchanged dc_exchanged pm_exchanged cd_exchanged ct_exchanged : Value}
    {f_law_second : Addr} {od_law_second an_law_second : Option Addr} {sl_law_second : Array (Option Value)} {oc_law_second kV_law_second dc_law_second pm_law_second cd_law_second ct_law_second : Value}
    {f_law_told : Addr} {od_law_told an_law_told : Option Addr} {sl_law_told : Array (Option Value)} {oc_law_told kV_law_told dc_law_told pm_law_told cd_law_told ct_law_told : Value}
    {f_law : Addr} {od_law an_law : Option Addr} {sl_law : Array (Option Value)} {oc_law kV_law dc_law pm_law cd_law ct_law : Value}
    (a_law_stream : PySem.W.nsIn K mainGlobals "_law_stream" = some (some (.ref f_law_stream))) (l_law_stream : K.lookup f_law_stream = some ⟨oc_law_stream, od_law_stream, .func (PySem.W.fnOf "_law_stream" "_law_stream" (defArgs s_law_stream) (defBody s_law_stream) (defScope s_law_stream) .none kV_law_stream dc_law_stream pm_law_stream an_law_stream cd_law_stream ct_law_stream), sl_law_stream⟩) (o_law_stream : PySem.W.codeIn K cd_law_stream "_law_stream" = true) (k_law_stream : PySem.W.keepIn K (.ref f_law_stream) = true)
    (a_law_next : PySem.W.nsIn K mainGlobals "_law_next" = some (some (.ref f_law_next))) (l_law_next : K.lookup f_law_next = some ⟨oc_law_next, od_law_next, .func (PySem.W.fnOf "_law_next" "_law_next" (defArgs s_law_next) (defBody s_law_next) (defScope s_law_next) .none kV_law_next dc_law_next pm_law_next an_law_next cd_law_next ct_law_next), sl_law_next⟩) (o_law_next : PySem.W.codeIn K cd_law_next "_law_next" = true) (k_law_next : PySem.W.keepIn K (.ref f_law_next) = true)
    (a_law_pick : PySem.W.nsIn K mainGlobals "_law_pick" = some (some (.ref f_law_pick))) (l_law_pick : K.lookup f_law_pick = some ⟨oc_law_pick, od_law_pick, .func (PySem.W.fnOf "_law_pick" "_law_pick" (defArgs s_law_pick) (defBody s_law_pick) (defScope s_law_pick) .none kV_law_pick dc_law_pick pm_law_pick an_law_pick cd_law_pick ct_law_pick), sl_law_pick⟩) (o_law_pick : PySem.W.codeIn K cd_law_pick "_law_pick" = true) (k_law_pick : PySem.W.keepIn K (.ref f_law_pick) = true)
    (a_is_tuple_of : PySem.W.nsIn K mainGlobals "is_tuple_of" = some (some (.ref f_is_tuple_of))) (l_is_tuple_of : K.lookup f_is_tuple_of = some ⟨oc_is_tuple_of, od_is_tuple_of, .func (PySem.W.fnOf "is_tuple_of" "is_tuple_of" (defArgs s_is_tuple_of) (defBody s_is_tuple_of) (defScope s_is_tuple_of) .none kV_is_tuple_of dc_is_tuple_of pm_is_tuple_of an_is_tuple_of cd_is_tuple_of ct_is_tuple_of), sl_is_tuple_of⟩) (o_is_tuple_of : PySem.W.codeIn K cd_is_tuple_of "is_tuple_of" = true) (k_is_tuple_of : PySem.W.keepIn K (.ref f_is_tuple_of) = true)
    (a_is_integer : PySem.W.nsIn K mainGlobals "is_integer" = some (some (.ref f_is_integer))) (l_is_integer : K.lookup f_is_integer = some ⟨oc_is_integer, od_is_integer, .func (PySem.W.fnOf "is_integer" "is_integer" (defArgs s_is_integer) (defBody s_is_integer) (defScope s_is_integer) .none kV_is_integer dc_is_integer pm_is_integer an_is_integer cd_is_integer ct_is_integer), sl_is_integer⟩) (o_is_integer : PySem.W.codeIn K cd_is_integer "is_integer" = true) (k_is_integer : PySem.W.keepIn K (.ref f_is_integer) = true)
    (a_is_index : PySem.W.nsIn K mainGlobals "is_index" = some (some (.ref f_is_index))) (l_is_index : K.lookup f_is_index = some ⟨oc_is_index, od_is_index, .func (PySem.W.fnOf "is_index" "is_index" (defArgs s_is_index) (defBody s_is_index) (defScope s_is_index) .none kV_is_index dc_is_index pm_is_index an_is_index cd_is_index ct_is_index), sl_is_index⟩) (o_is_index : PySem.W.codeIn K cd_is_index "is_index" = true) (k_is_index : PySem.W.keepIn K (.ref f_is_index) = true)
    (a_is_index_tuple : PySem.W.nsIn K mainGlobals "is_index_tuple" = some (some (.ref f_is_index_tuple))) (l_is_index_tuple : K.lookup f_is_index_tuple = some ⟨oc_is_index_tuple, od_is_index_tuple, .func (PySem.W.fnOf "is_index_tuple" "is_index_tuple" (defArgs s_is_index_tuple) (defBody s_is_index_tuple) (defScope s_is_index_tuple) .none kV_is_index_tuple dc_is_index_tuple pm_is_index_tuple an_is_index_tuple cd_is_index_tuple ct_is_index_tuple), sl_is_index_tuple⟩) (o_is_index_tuple : PySem.W.codeIn K cd_is_index_tuple "is_index_tuple" = true) (k_is_index_tuple : PySem.W.keepIn K (.ref f_is_index_tuple) = true)
    (a_is_command_row : PySem.W.nsIn K mainGlobals "is_command_row" = some (some (.ref f_is_command_row))) (l_is_command_row : K.lookup f_is_command_row = some ⟨oc_is_command_row, od_is_command_row, .func (PySem.W.fnOf "is_command_row" "is_command_row" (defArgs s_is_command_row) (defBody s_is_command_row) (defScope s_is_command_row) .none kV_is_command_row dc_is_command_row pm_is_command_row an_is_command_row cd_is_command_row ct_is_command_row), sl_is_command_row⟩) (o_is_command_row : PySem.W.codeIn K cd_is_command_row "is_command_row" = true) (k_is_command_row : PySem.W.keepIn K (.ref f_is_command_row) = true)
    (a_is_system : PySem.W.nsIn K mainGlobals "is_system" = some (some (.ref f_is_system))) (l_is_system : K.lookup f_is_system = some ⟨oc_is_system, od_is_system, .func (PySem.W.fnOf "is_system" "is_system" (defArgs s_is_system) (defBody s_is_system) (defScope s_is_system) .none kV_is_system dc_is_system pm_is_system an_is_system cd_is_system ct_is_system), sl_is_system⟩) (o_is_system : PySem.W.codeIn K cd_is_system "is_system" = true) (k_is_system : PySem.W.keepIn K (.ref f_is_system) = true)
    (a_check_system : PySem.W.nsIn K mainGlobals "check_system" = some (some (.ref f_check_system))) (l_check_system : K.lookup f_check_system = some ⟨oc_check_system, od_check_system, .func (PySem.W.fnOf "check_system" "check_system" (defArgs s_check_system) (defBody s_check_system) (defScope s_check_system) .none kV_check_system dc_check_system pm_check_system an_check_system cd_check_system ct_check_system), sl_check_system⟩) (o_check_system : PySem.W.codeIn K cd_check_system "check_system" = true) (k_check_system : PySem.W.keepIn K (.ref f_check_system) = true)
    (a_is_state : PySem.W.nsIn K mainGlobals "is_state" = some (some (.ref f_is_state))) (l_is_state : K.lookup f_is_state = some ⟨oc_is_state, od_is_state, .func (PySem.W.fnOf "is_state" "is_state" (defArgs s_is_state) (defBody s_is_state) (defScope s_is_state) .none kV_is_state dc_is_state pm_is_state an_is_state cd_is_state ct_is_state), sl_is_state⟩) (o_is_state : PySem.W.codeIn K cd_is_state "is_state" = true) (k_is_state : PySem.W.keepIn K (.ref f_is_state) = true)
    (a_check_state : PySem.W.nsIn K mainGlobals "check_state" = some (some (.ref f_check_state))) (l_check_state : K.lookup f_check_state = some ⟨oc_check_state, od_check_state, .func (PySem.W.fnOf "check_state" "check_state" (defArgs s_check_state) (defBody s_check_state) (defScope s_check_state) .none kV_check_state dc_check_state pm_check_state an_check_state cd_check_state ct_check_state), sl_check_state⟩) (o_check_state : PySem.W.codeIn K cd_check_state "check_state" = true) (k_check_state : PySem.W.keepIn K (.ref f_check_state) = true)
    (a_is_sequence_within : PySem.W.nsIn K mainGlobals "is_sequence_within" = some (some (.ref f_is_sequence_within))) (l_is_sequence_within : K.lookup f_is_sequence_within = some ⟨oc_is_sequence_within, od_is_sequence_within, .func (PySem.W.fnOf "is_sequence_within" "is_sequence_within" (defArgs s_is_sequence_within) (defBody s_is_sequence_within) (defScope s_is_sequence_within) .none kV_is_sequence_within dc_is_sequence_within pm_is_sequence_within an_is_sequence_within cd_is_sequence_within ct_is_sequence_within), sl_is_sequence_within⟩) (o_is_sequence_within : PySem.W.codeIn K cd_is_sequence_within "is_sequence_within" = true) (k_is_sequence_within : PySem.W.keepIn K (.ref f_is_sequence_within) = true)
    (a_is_sequence : PySem.W.nsIn K mainGlobals "is_sequence" = some (some (.ref f_is_sequence))) (l_is_sequence : K.lookup f_is_sequence = some ⟨oc_is_sequence, od_is_sequence, .func (PySem.W.fnOf "is_sequence" "is_sequence" (defArgs s_is_sequence) (defBody s_is_sequence) (defScope s_is_sequence) .none kV_is_sequence dc_is_sequence pm_is_sequence an_is_sequence cd_is_sequence ct_is_sequence), sl_is_sequence⟩) (o_is_sequence : PySem.W.codeIn K cd_is_sequence "is_sequence" = true) (k_is_sequence : PySem.W.keepIn K (.ref f_is_sequence) = true)
    (a_check_sequence : PySem.W.nsIn K mainGlobals "check_sequence" = some (some (.ref f_check_sequence))) (l_check_sequence : K.lookup f_check_sequence = some ⟨oc_check_sequence, od_check_sequence, .func (PySem.W.fnOf "check_sequence" "check_sequence" (defArgs s_check_sequence) (defBody s_check_sequence) (defScope s_check_sequence) .none kV_check_sequence dc_check_sequence pm_check_sequence an_check_sequence cd_check_sequence ct_check_sequence), sl_check_sequence⟩) (o_check_sequence : PySem.W.codeIn K cd_check_sequence "check_sequence" = true) (k_check_sequence : PySem.W.keepIn K (.ref f_check_sequence) = true)
    (a_after : PySem.W.nsIn K mainGlobals "after" = some (some (.ref f_after))) (l_after : K.lookup f_after = some ⟨oc_after, od_after, .func (PySem.W.fnOf "after" "after" (defArgs s_after) (defBody s_after) (defScope s_after) .none kV_after dc_after pm_after an_after cd_after ct_after), sl_after⟩) (o_after : PySem.W.codeIn K cd_after "after" = true) (k_after : PySem.W.keepIn K (.ref f_after) = true)
    (a_follow : PySem.W.nsIn K mainGlobals "follow" = some (some (.ref f_follow))) (l_follow : K.lookup f_follow = some ⟨oc_follow, od_follow, .func (PySem.W.fnOf "follow" "follow" (defArgs s_follow) (defBody s_follow) (defScope s_follow) .none kV_follow dc_follow pm_follow an_follow cd_follow ct_follow), sl_follow⟩) (o_follow : PySem.W.codeIn K cd_follow "follow" = true) (k_follow : PySem.W.keepIn K (.ref f_follow) = true)
    (a_led_to : PySem.W.nsIn K mainGlobals "led_to" = some (some (.ref f_led_to))) (l_led_to : K.lookup f_led_to = some ⟨oc_led_to, od_led_to, .func (PySem.W.fnOf "led_to" "led_to" (defArgs s_led_to) (defBody s_led_to) (defScope s_led_to) .none kV_led_to dc_led_to pm_led_to an_led_to cd_led_to ct_led_to), sl_led_to⟩) (o_led_to : PySem.W.codeIn K cd_led_to "led_to" = true) (k_led_to : PySem.W.keepIn K (.ref f_led_to) = true)
    (a_run : PySem.W.nsIn K mainGlobals "run" = some (some (.ref f_run))) (l_run : K.lookup f_run = some ⟨oc_run, od_run, .func (PySem.W.fnOf "run" "run" (defArgs s_run) (defBody s_run) (defScope s_run) .none kV_run dc_run pm_run an_run cd_run ct_run), sl_run⟩) (o_run : PySem.W.codeIn K cd_run "run" = true) (k_run : PySem.W.keepIn K (.ref f_run) = true)
    (a_all_after : PySem.W.nsIn K mainGlobals "all_after" = some (some (.ref f_all_after))) (l_all_after : K.lookup f_all_after = some ⟨oc_all_after, od_all_after, .func (PySem.W.fnOf "all_after" "all_after" (defArgs s_all_after) (defBody s_all_after) (defScope s_all_after) .none kV_all_after dc_all_after pm_all_after an_all_after cd_all_after ct_all_after), sl_all_after⟩) (o_all_after : PySem.W.codeIn K cd_all_after "all_after" = true) (k_all_after : PySem.W.keepIn K (.ref f_all_after) = true)
    (a_tuples_from : PySem.W.nsIn K mainGlobals "tuples_from" = some (some (.ref f_tuples_from))) (l_tuples_from : K.lookup f_tuples_from = some ⟨oc_tuples_from, od_tuples_from, .func (PySem.W.fnOf "tuples_from" "tuples_from" (defArgs s_tuples_from) (defBody s_tuples_from) (defScope s_tuples_from) .none kV_tuples_from dc_tuples_from pm_tuples_from an_tuples_from cd_tuples_from ct_tuples_from), sl_tuples_from⟩) (o_tuples_from : PySem.W.codeIn K cd_tuples_from "tuples_from" = true) (k_tuples_from : PySem.W.keepIn K (.ref f_tuples_from) = true)
    (a_sequences_from : PySem.W.nsIn K mainGlobals "sequences_from" = some (some (.ref f_sequences_from))) (l_sequences_from : K.lookup f_sequences_from = some ⟨oc_sequences_from, od_sequences_from, .func (PySem.W.fnOf "sequences_from" "sequences_from" (defArgs s_sequences_from) (defBody s_sequences_from) (defScope s_sequences_from) .none kV_sequences_from dc_sequences_from pm_sequences_from an_sequences_from cd_sequences_from ct_sequences_from), sl_sequences_from⟩) (o_sequences_from : PySem.W.codeIn K cd_sequences_from "sequences_from" = true) (k_sequences_from : PySem.W.keepIn K (.ref f_sequences_from) = true)
    (a_reached_from : PySem.W.nsIn K mainGlobals "reached_from" = some (some (.ref f_reached_from))) (l_reached_from : K.lookup f_reached_from = some ⟨oc_reached_from, od_reached_from, .func (PySem.W.fnOf "reached_from" "reached_from" (defArgs s_reached_from) (defBody s_reached_from) (defScope s_reached_from) .none kV_reached_from dc_reached_from pm_reached_from an_reached_from cd_reached_from ct_reached_from), sl_reached_from⟩) (o_reached_from : PySem.W.codeIn K cd_reached_from "reached_from" = true) (k_reached_from : PySem.W.keepIn K (.ref f_reached_from) = true)
    (a_reachable : PySem.W.nsIn K mainGlobals "reachable" = some (some (.ref f_reachable))) (l_reachable : K.lookup f_reachable = some ⟨oc_reachable, od_reachable, .func (PySem.W.fnOf "reachable" "reachable" (defArgs s_reachable) (defBody s_reachable) (defScope s_reachable) .none kV_reachable dc_reachable pm_reachable an_reachable cd_reachable ct_reachable), sl_reachable⟩) (o_reachable : PySem.W.codeIn K cd_reachable "reachable" = true) (k_reachable : PySem.W.keepIn K (.ref f_reachable) = true)
    (a_first_sequence : PySem.W.nsIn K mainGlobals "first_sequence" = some (some (.ref f_first_sequence))) (l_first_sequence : K.lookup f_first_sequence = some ⟨oc_first_sequence, od_first_sequence, .func (PySem.W.fnOf "first_sequence" "first_sequence" (defArgs s_first_sequence) (defBody s_first_sequence) (defScope s_first_sequence) .none kV_first_sequence dc_first_sequence pm_first_sequence an_first_sequence cd_first_sequence ct_first_sequence), sl_first_sequence⟩) (o_first_sequence : PySem.W.codeIn K cd_first_sequence "first_sequence" = true) (k_first_sequence : PySem.W.keepIn K (.ref f_first_sequence) = true)
    (a_reach_evidence : PySem.W.nsIn K mainGlobals "reach_evidence" = some (some (.ref f_reach_evidence))) (l_reach_evidence : K.lookup f_reach_evidence = some ⟨oc_reach_evidence, od_reach_evidence, .func (PySem.W.fnOf "reach_evidence" "reach_evidence" (defArgs s_reach_evidence) (defBody s_reach_evidence) (defScope s_reach_evidence) .none kV_reach_evidence dc_reach_evidence pm_reach_evidence an_reach_evidence cd_reach_evidence ct_reach_evidence), sl_reach_evidence⟩) (o_reach_evidence : PySem.W.codeIn K cd_reach_evidence "reach_evidence" = true) (k_reach_evidence : PySem.W.keepIn K (.ref f_reach_evidence) = true)
    (a_has_word : PySem.W.nsIn K mainGlobals "has_word" = some (some (.ref f_has_word))) (l_has_word : K.lookup f_has_word = some ⟨oc_has_word, od_has_word, .func (PySem.W.fnOf "has_word" "has_word" (defArgs s_has_word) (defBody s_has_word) (defScope s_has_word) .none kV_has_word dc_has_word pm_has_word an_has_word cd_has_word ct_has_word), sl_has_word⟩) (o_has_word : PySem.W.codeIn K cd_has_word "has_word" = true) (k_has_word : PySem.W.keepIn K (.ref f_has_word) = true)
    (a_shows_reach : PySem.W.nsIn K mainGlobals "shows_reach" = some (some (.ref f_shows_reach))) (l_shows_reach : K.lookup f_shows_reach = some ⟨oc_shows_reach, od_shows_reach, .func (PySem.W.fnOf "shows_reach" "shows_reach" (defArgs s_shows_reach) (defBody s_shows_reach) (defScope s_shows_reach) .none kV_shows_reach dc_shows_reach pm_shows_reach an_shows_reach cd_shows_reach ct_shows_reach), sl_shows_reach⟩) (o_shows_reach : PySem.W.codeIn K cd_shows_reach "shows_reach" = true) (k_shows_reach : PySem.W.keepIn K (.ref f_shows_reach) = true)
    (a_is_ascending : PySem.W.nsIn K mainGlobals "is_ascending" = some (some (.ref f_is_ascending))) (l_is_ascending : K.lookup f_is_ascending = some ⟨oc_is_ascending, od_is_ascending, .func (PySem.W.fnOf "is_ascending" "is_ascending" (defArgs s_is_ascending) (defBody s_is_ascending) (defScope s_is_ascending) .none kV_is_ascending dc_is_ascending pm_is_ascending an_is_ascending cd_is_ascending ct_is_ascending), sl_is_ascending⟩) (o_is_ascending : PySem.W.codeIn K cd_is_ascending "is_ascending" = true) (k_is_ascending : PySem.W.keepIn K (.ref f_is_ascending) = true)
    (a_is_closed : PySem.W.nsIn K mainGlobals "is_closed" = some (some (.ref f_is_closed))) (l_is_closed : K.lookup f_is_closed = some ⟨oc_is_closed, od_is_closed, .func (PySem.W.fnOf "is_closed" "is_closed" (defArgs s_is_closed) (defBody s_is_closed) (defScope s_is_closed) .none kV_is_closed dc_is_closed pm_is_closed an_is_closed cd_is_closed ct_is_closed), sl_is_closed⟩) (o_is_closed : PySem.W.codeIn K cd_is_closed "is_closed" = true) (k_is_closed : PySem.W.keepIn K (.ref f_is_closed) = true)
    (a_shows_no_reach : PySem.W.nsIn K mainGlobals "shows_no_reach" = some (some (.ref f_shows_no_reach))) (l_shows_no_reach : K.lookup f_shows_no_reach = some ⟨oc_shows_no_reach, od_shows_no_reach, .func (PySem.W.fnOf "shows_no_reach" "shows_no_reach" (defArgs s_shows_no_reach) (defBody s_shows_no_reach) (defScope s_shows_no_reach) .none kV_shows_no_reach dc_shows_no_reach pm_shows_no_reach an_shows_no_reach cd_shows_no_reach ct_shows_no_reach), sl_shows_no_reach⟩) (o_shows_no_reach : PySem.W.codeIn K cd_shows_no_reach "shows_no_reach" = true) (k_shows_no_reach : PySem.W.keepIn K (.ref f_shows_no_reach) = true)
    (a_accepts_reach : PySem.W.nsIn K mainGlobals "accepts_reach" = some (some (.ref f_accepts_reach))) (l_accepts_reach : K.lookup f_accepts_reach = some ⟨oc_accepts_reach, od_accepts_reach, .func (PySem.W.fnOf "accepts_reach" "accepts_reach" (defArgs s_accepts_reach) (defBody s_accepts_reach) (defScope s_accepts_reach) .none kV_accepts_reach dc_accepts_reach pm_accepts_reach an_accepts_reach cd_accepts_reach ct_accepts_reach), sl_accepts_reach⟩) (o_accepts_reach : PySem.W.codeIn K cd_accepts_reach "accepts_reach" = true) (k_accepts_reach : PySem.W.keepIn K (.ref f_accepts_reach) = true)
    (a_law_first : PySem.W.nsIn K mainGlobals "_law_first" = some (some (.ref f_law_first))) (l_law_first : K.lookup f_law_first = some ⟨oc_law_first, od_law_first, .func (PySem.W.fnOf "_law_first" "_law_first" (defArgs s_law_first) (defBody s_law_first) (defScope s_law_first) .none kV_law_first dc_law_first pm_law_first an_law_first cd_law_first ct_law_first), sl_law_first⟩) (o_law_first : PySem.W.codeIn K cd_law_first "_law_first" = true) (k_law_first : PySem.W.keepIn K (.ref f_law_first) = true)
    (a_agree : PySem.W.nsIn K mainGlobals "agree" = some (some (.ref f_agree))) (l_agree : K.lookup f_agree = some ⟨oc_agree, od_agree, .func (PySem.W.fnOf "agree" "agree" (defArgs s_agree) (defBody s_agree) (defScope s_agree) .none kV_agree dc_agree pm_agree an_agree cd_agree ct_agree), sl_agree⟩) (o_agree : PySem.W.codeIn K cd_agree "agree" = true) (k_agree : PySem.W.keepIn K (.ref f_agree) = true)
    (a_least_difference : PySem.W.nsIn K mainGlobals "least_difference" = some (some (.ref f_least_difference))) (l_least_difference : K.lookup f_least_difference = some ⟨oc_least_difference, od_least_difference, .func (PySem.W.fnOf "least_difference" "least_difference" (defArgs s_least_difference) (defBody s_least_difference) (defScope s_least_difference) .none kV_least_difference dc_least_difference pm_least_difference an_least_difference cd_least_difference ct_least_difference), sl_least_difference⟩) (o_least_difference : PySem.W.codeIn K cd_least_difference "least_difference" = true) (k_least_difference : PySem.W.keepIn K (.ref f_least_difference) = true)
    (a_difference : PySem.W.nsIn K mainGlobals "difference" = some (some (.ref f_difference))) (l_difference : K.lookup f_difference = some ⟨oc_difference, od_difference, .func (PySem.W.fnOf "difference" "difference" (defArgs s_difference) (defBody s_difference) (defScope s_difference) .none kV_difference dc_difference pm_difference an_difference cd_difference ct_difference), sl_difference⟩) (o_difference : PySem.W.codeIn K cd_difference "difference" = true) (k_difference : PySem.W.keepIn K (.ref f_difference) = true)
    (a_first_merged : PySem.W.nsIn K mainGlobals "first_merged" = some (some (.ref f_first_merged))) (l_first_merged : K.lookup f_first_merged = some ⟨oc_first_merged, od_first_merged, .func (PySem.W.fnOf "first_merged" "first_merged" (defArgs s_first_merged) (defBody s_first_merged) (defScope s_first_merged) .none kV_first_merged dc_first_merged pm_first_merged an_first_merged cd_first_merged ct_first_merged), sl_first_merged⟩) (o_first_merged : PySem.W.codeIn K cd_first_merged "first_merged" = true) (k_first_merged : PySem.W.keepIn K (.ref f_first_merged) = true)
    (a_one_to_one : PySem.W.nsIn K mainGlobals "one_to_one" = some (some (.ref f_one_to_one))) (l_one_to_one : K.lookup f_one_to_one = some ⟨oc_one_to_one, od_one_to_one, .func (PySem.W.fnOf "one_to_one" "one_to_one" (defArgs s_one_to_one) (defBody s_one_to_one) (defScope s_one_to_one) .none kV_one_to_one dc_one_to_one pm_one_to_one an_one_to_one cd_one_to_one ct_one_to_one), sl_one_to_one⟩) (o_one_to_one : PySem.W.codeIn K cd_one_to_one "one_to_one" = true) (k_one_to_one : PySem.W.keepIn K (.ref f_one_to_one) = true)
    (a_is_command : PySem.W.nsIn K mainGlobals "is_command" = some (some (.ref f_is_command))) (l_is_command : K.lookup f_is_command = some ⟨oc_is_command, od_is_command, .func (PySem.W.fnOf "is_command" "is_command" (defArgs s_is_command) (defBody s_is_command) (defScope s_is_command) .none kV_is_command dc_is_command pm_is_command an_is_command cd_is_command ct_is_command), sl_is_command⟩) (o_is_command : PySem.W.codeIn K cd_is_command "is_command" = true) (k_is_command : PySem.W.keepIn K (.ref f_is_command) = true)
    (a_check_command : PySem.W.nsIn K mainGlobals "check_command" = some (some (.ref f_check_command))) (l_check_command : K.lookup f_check_command = some ⟨oc_check_command, od_check_command, .func (PySem.W.fnOf "check_command" "check_command" (defArgs s_check_command) (defBody s_check_command) (defScope s_check_command) .none kV_check_command dc_check_command pm_check_command an_check_command cd_check_command ct_check_command), sl_check_command⟩) (o_check_command : PySem.W.codeIn K cd_check_command "check_command" = true) (k_check_command : PySem.W.keepIn K (.ref f_check_command) = true)
    (a_merged : PySem.W.nsIn K mainGlobals "merged" = some (some (.ref f_merged))) (l_merged : K.lookup f_merged = some ⟨oc_merged, od_merged, .func (PySem.W.fnOf "merged" "merged" (defArgs s_merged) (defBody s_merged) (defScope s_merged) .none kV_merged dc_merged pm_merged an_merged cd_merged ct_merged), sl_merged⟩) (o_merged : PySem.W.codeIn K cd_merged "merged" = true) (k_merged : PySem.W.keepIn K (.ref f_merged) = true)
    (a_is_reachable : PySem.W.nsIn K mainGlobals "is_reachable" = some (some (.ref f_is_reachable))) (l_is_reachable : K.lookup f_is_reachable = some ⟨oc_is_reachable, od_is_reachable, .func (PySem.W.fnOf "is_reachable" "is_reachable" (defArgs s_is_reachable) (defBody s_is_reachable) (defScope s_is_reachable) .none kV_is_reachable dc_is_reachable pm_is_reachable an_is_reachable cd_is_reachable ct_is_reachable), sl_is_reachable⟩) (o_is_reachable : PySem.W.codeIn K cd_is_reachable "is_reachable" = true) (k_is_reachable : PySem.W.keepIn K (.ref f_is_reachable) = true)
    (a_accepts_merged : PySem.W.nsIn K mainGlobals "accepts_merged" = some (some (.ref f_accepts_merged))) (l_accepts_merged : K.lookup f_accepts_merged = some ⟨oc_accepts_merged, od_accepts_merged, .func (PySem.W.fnOf "accepts_merged" "accepts_merged" (defArgs s_accepts_merged) (defBody s_accepts_merged) (defScope s_accepts_merged) .none kV_accepts_merged dc_accepts_merged pm_accepts_merged an_accepts_merged cd_accepts_merged ct_accepts_merged), sl_accepts_merged⟩) (o_accepts_merged : PySem.W.codeIn K cd_accepts_merged "accepts_merged" = true) (k_accepts_merged : PySem.W.keepIn K (.ref f_accepts_merged) = true)
    (a_inverse : PySem.W.nsIn K mainGlobals "inverse" = some (some (.ref f_inverse))) (l_inverse : K.lookup f_inverse = some ⟨oc_inverse, od_inverse, .func (PySem.W.fnOf "inverse" "inverse" (defArgs s_inverse) (defBody s_inverse) (defScope s_inverse) .none kV_inverse dc_inverse pm_inverse an_inverse cd_inverse ct_inverse), sl_inverse⟩) (o_inverse : PySem.W.codeIn K cd_inverse "inverse" = true) (k_inverse : PySem.W.keepIn K (.ref f_inverse) = true)
    (a_can_be_exchanged : PySem.W.nsIn K mainGlobals "can_be_exchanged" = some (some (.ref f_can_be_exchanged))) (l_can_be_exchanged : K.lookup f_can_be_exchanged = some ⟨oc_can_be_exchanged, od_can_be_exchanged, .func (PySem.W.fnOf "can_be_exchanged" "can_be_exchanged" (defArgs s_can_be_exchanged) (defBody s_can_be_exchanged) (defScope s_can_be_exchanged) .none kV_can_be_exchanged dc_can_be_exchanged pm_can_be_exchanged an_can_be_exchanged cd_can_be_exchanged ct_can_be_exchanged), sl_can_be_exchanged⟩) (o_can_be_exchanged : PySem.W.codeIn K cd_can_be_exchanged "can_be_exchanged" = true) (k_can_be_exchanged : PySem.W.keepIn K (.ref f_can_be_exchanged) = true)
    (a_exchanged : PySem.W.nsIn K mainGlobals "exchanged" = some (some (.ref f_exchanged))) (l_exchanged : K.lookup f_exchanged = some ⟨oc_exchanged, od_exchanged, .func (PySem.W.fnOf "exchanged" "exchanged" (defArgs s_exchanged) (defBody s_exchanged) (defScope s_exchanged) .none kV_exchanged dc_exchanged pm_exchanged an_exchanged cd_exchanged ct_exchanged), sl_exchanged⟩) (o_exchanged : PySem.W.codeIn K cd_exchanged "exchanged" = true) (k_exchanged : PySem.W.keepIn K (.ref f_exchanged) = true)
    (a_law_second : PySem.W.nsIn K mainGlobals "_law_second" = some (some (.ref f_law_second))) (l_law_second : K.lookup f_law_second = some ⟨oc_law_second, od_law_second, .func (PySem.W.fnOf "_law_second" "_law_second" (defArgs s_law_second) (defBody s_law_second) (defScope s_law_second) .none kV_law_second dc_law_second pm_law_second an_law_second cd_law_second ct_law_second), sl_law_second⟩) (o_law_second : PySem.W.codeIn K cd_law_second "_law_second" = true) (k_law_second : PySem.W.keepIn K (.ref f_law_second) = true)
    (a_law_told : PySem.W.nsIn K mainGlobals "_law_told" = some (some (.ref f_law_told))) (l_law_told : K.lookup f_law_told = some ⟨oc_law_told, od_law_told, .func (PySem.W.fnOf "_law_told" "_law_told" (defArgs s_law_told) (defBody s_law_told) (defScope s_law_told) .none kV_law_told dc_law_told pm_law_told an_law_told cd_law_told ct_law_told), sl_law_told⟩) (o_law_told : PySem.W.codeIn K cd_law_told "_law_told" = true) (k_law_told : PySem.W.keepIn K (.ref f_law_told) = true)
    (a_law : PySem.W.nsIn K mainGlobals "law" = some (some (.ref f_law))) (l_law : K.lookup f_law = some ⟨oc_law, od_law, .func (PySem.W.fnOf "law" "law" (defArgs s_law) (defBody s_law) (defScope s_law) .none kV_law dc_law pm_law an_law cd_law ct_law), sl_law⟩) (o_law : PySem.W.codeIn K cd_law "law" = true) (k_law : PySem.W.keepIn K (.ref f_law) = true)
    (t_is_index_tuple : (PySem.W.tabIn K "is_index_tuple").isSome = true) (r1_is_index_tuple : ((recsOf q).find? (fun e => e.name == ("is_index_tuple" : Str))).isSome = true)
    (t_is_system : (PySem.W.tabIn K "is_system").isSome = true) (r1_is_system : ((recsOf q).find? (fun e => e.name == ("is_system" : Str))).isSome = true)
    (t_is_ascending : (PySem.W.tabIn K "is_ascending").isSome = true) (r1_is_ascending : ((recsOf q).find? (fun e => e.name == ("is_ascending" : Str))).isSome = true)
    (t_accepts_merged : (PySem.W.tabIn K "accepts_merged").isSome = true) (r1_accepts_merged : ((recsOf q).find? (fun e => e.name == ("accepts_merged" : Str))).isSome = true)
    (z_list : PySem.W.nsIn K mainGlobals "list" = some none)
    (z_len : PySem.W.nsIn K mainGlobals "len" = some none)
    (z_abs : PySem.W.nsIn K mainGlobals "abs" = some none)
    (z_int : PySem.W.nsIn K mainGlobals "int" = some none)
    (z_isinstance : PySem.W.nsIn K mainGlobals "isinstance" = some none)
    (z_tuple : PySem.W.nsIn K mainGlobals "tuple" = some none)
    (z_bool : PySem.W.nsIn K mainGlobals "bool" = some none)
    (z_all : PySem.W.nsIn K mainGlobals "all" = some none)
    (z_enumerate : PySem.W.nsIn K mainGlobals "enumerate" = some none)
    (z_sorted : PySem.W.nsIn K mainGlobals "sorted" = some none)
    (z_str : PySem.W.nsIn K mainGlobals "str" = some none)
    (z_range : PySem.W.nsIn K mainGlobals "range" = some none)
    (z_ValueError : PySem.W.nsIn K mainGlobals "ValueError" = some none)
    {U_UndoError : Addr}
    {C_BadValue : Addr}
    (kaC_BadValue : PySem.W.nsIn K mainGlobals "BadValue" = some (some (.ref C_BadValue)))
    {nm_BadValue qn_BadValue : Str} {Nn_BadValue f1_BadValue : Addr} {bs_BadValue : List Value} {sn_BadValue : List Str} {sub_BadValue : List Value} {ab_BadValue : Bool} {col_BadValue : Option Bool} {dd_BadValue : Option Addr} {m0_BadValue m1_BadValue m2_BadValue m3_BadValue m5_BadValue : Option Value} {odi_BadValue ani_BadValue : Option Addr} {sli_BadValue : Array (Option Value)} {oci_BadValue dci_BadValue pmi_BadValue cdi_BadValue cti_BadValue : Value}
    (kxL_BadValue : K.lookup C_BadValue = some (excClassObj nm_BadValue qn_BadValue C_BadValue Nn_BadValue bs_BadValue (.ref U_UndoError :: [.type "ValueError", .type "Exception", .type "BaseException", .type "object"]) true sn_BadValue sub_BadValue ab_BadValue col_BadValue dd_BadValue m0_BadValue m1_BadValue m2_BadValue m3_BadValue m5_BadValue "ValueError.__new__"))
    (ksa_BadValue : PySem.W.findIn K (.ref C_BadValue) "__setattr__" = some (some (.builtin "object.__setattr__")))
    (kga_BadValue : PySem.W.findIn K (.ref C_BadValue) "__getattribute__" = some (some (.builtin "BaseException.__getattribute__")))
    (kgg_BadValue : PySem.W.findIn K (.ref C_BadValue) "__getattr__" = some none)
    (knb_BadValue : PySem.W.findIn K (.ref C_BadValue) "name" = some none)
    (kiC_BadValue : PySem.W.findIn K (.ref C_BadValue) "__init__" = some (some (.ref f1_BadValue)))
    (ktf_BadValue : PySem.W.typeIn K (.ref f1_BadValue) = some (.type "function"))
    (klf_BadValue : K.lookup f1_BadValue = some ⟨oci_BadValue, odi_BadValue, .func (PySem.W.fnOf "__init__" "BadValue.__init__" (Low_BadValue.iA ⟨6, 17, 6, 21⟩ ⟨6, 23, 6, 27⟩) (Low_BadValue.iB ⟨7, 8, 7, 12⟩ ⟨7, 8, 7, 17⟩ ⟨7, 20, 7, 24⟩ ⟨7, 8, 7, 24⟩) Low_BadValue.iS .none .none dci_BadValue pmi_BadValue ani_BadValue cdi_BadValue cti_BadValue), sli_BadValue⟩)
    (kcf_BadValue : PySem.W.codeIn K cdi_BadValue "BadValue.__init__" = true)
    (kkC_BadValue : PySem.W.keepIn K (.ref C_BadValue) = true)
    (keC_BadValue : PySem.W.subIn K (.ref C_BadValue) (.type "BaseException") = some true)
    (ktC_BadValue : PySem.W.typeIn K (.ref C_BadValue) = some (.type "type"))
    (khd_BadValue : PySem.W.hasDictIn K C_BadValue = true)
    {C_NotPossible : Addr}
    (kaC_NotPossible : PySem.W.nsIn K mainGlobals "NotPossible" = some (some (.ref C_NotPossible)))
    {nm_NotPossible qn_NotPossible : Str} {Nn_NotPossible f1_NotPossible : Addr} {bs_NotPossible : List Value} {sn_NotPossible : List Str} {sub_NotPossible : List Value} {ab_NotPossible : Bool} {col_NotPossible : Option Bool} {dd_NotPossible : Option Addr} {m0_NotPossible m1_NotPossible m2_NotPossible m3_NotPossible m5_NotPossible : Option Value} {odi_NotPossible ani_NotPossible : Option Addr} {sli_NotPossible : Array (Option Value)} {oci_NotPossible dci_NotPossible pmi_NotPossible cdi_NotPossible cti_NotPossible : Value}
    (kxL_NotPossible : K.lookup C_NotPossible = some (excClassObj nm_NotPossible qn_NotPossible C_NotPossible Nn_NotPossible bs_NotPossible (.ref U_UndoError :: [.type "ValueError", .type "Exception", .type "BaseException", .type "object"]) true sn_NotPossible sub_NotPossible ab_NotPossible col_NotPossible dd_NotPossible m0_NotPossible m1_NotPossible m2_NotPossible m3_NotPossible m5_NotPossible "ValueError.__new__"))
    (ksa_NotPossible : PySem.W.findIn K (.ref C_NotPossible) "__setattr__" = some (some (.builtin "object.__setattr__")))
    (kga_NotPossible : PySem.W.findIn K (.ref C_NotPossible) "__getattribute__" = some (some (.builtin "BaseException.__getattribute__")))
    (kgg_NotPossible : PySem.W.findIn K (.ref C_NotPossible) "__getattr__" = some none)
    (knb_NotPossible : PySem.W.findIn K (.ref C_NotPossible) "why" = some none)
    (kiC_NotPossible : PySem.W.findIn K (.ref C_NotPossible) "__init__" = some (some (.ref f1_NotPossible)))
    (ktf_NotPossible : PySem.W.typeIn K (.ref f1_NotPossible) = some (.type "function"))
    (klf_NotPossible : K.lookup f1_NotPossible = some ⟨oci_NotPossible, odi_NotPossible, .func (PySem.W.fnOf "__init__" "NotPossible.__init__" (Low_NotPossible.iA ⟨10, 17, 10, 21⟩ ⟨10, 23, 10, 26⟩) (Low_NotPossible.iB ⟨11, 8, 11, 12⟩ ⟨11, 8, 11, 16⟩ ⟨11, 19, 11, 22⟩ ⟨11, 8, 11, 22⟩) Low_NotPossible.iS .none .none dci_NotPossible pmi_NotPossible ani_NotPossible cdi_NotPossible cti_NotPossible), sli_NotPossible⟩)
    (kcf_NotPossible : PySem.W.codeIn K cdi_NotPossible "NotPossible.__init__" = true)
    (kkC_NotPossible : PySem.W.keepIn K (.ref C_NotPossible) = true)
    (keC_NotPossible : PySem.W.subIn K (.ref C_NotPossible) (.type "BaseException") = some true)
    (ktC_NotPossible : PySem.W.typeIn K (.ref C_NotPossible) = some (.type "type"))
    (khd_NotPossible : PySem.W.hasDictIn K C_NotPossible = true)
    (ksub_BadValue_BadValue : PySem.W.subIn K (.ref C_BadValue) (.ref C_BadValue) = some true)
    (ksub_NotPossible_BadValue : PySem.W.subIn K (.ref C_NotPossible) (.ref C_BadValue) = some false)
    (kaU_UndoError : PySem.W.nsIn K mainGlobals "UndoError" = some (some (.ref U_UndoError)))
    (kud_UndoError : PySem.W.hasDictIn K U_UndoError = true)
    (kut_UndoError : PySem.W.typeIn K (.ref U_UndoError) = some (.type "type"))
    (kus_BadValue_UndoError : PySem.W.subIn K (.ref C_BadValue) (.ref U_UndoError) = some true)
    (kus_BadValue_ValueError : PySem.W.subIn K (.ref C_BadValue) (.type "ValueError") = some true)
    (kf5_BadValue : PySem.W.findIn K (.ref C_BadValue) "__class__" = some (some (.builtin "object.__class__")))
    (kf6 : PySem.W.specialIn K (.builtin "object.__class__") "__get__" = some (some (.builtin "getset_descriptor.__get__")))
    (kf7 : PySem.W.takesIn K (.builtin "object.__class__") = some true)
    (kf8_BadValue : PySem.W.mroIn K C_BadValue (.type "object") = some true)
    {t_MOST_STATES : Tok} (g_MOST_STATES : PySem.W.nsIn K mainGlobals "MOST_STATES" = some (some (.int 8 t_MOST_STATES)))
    {t_MOST_COMMANDS : Tok} (g_MOST_COMMANDS : PySem.W.nsIn K mainGlobals "MOST_COMMANDS" = some (some (.int 4 t_MOST_COMMANDS)))
    {t_MOST_IN_SEQUENCE : Tok} (g_MOST_IN_SEQUENCE : PySem.W.nsIn K mainGlobals "MOST_IN_SEQUENCE" = some (some (.int 16 t_MOST_IN_SEQUENCE)))
    {t_MOST_IN_PATH : Tok} (g_MOST_IN_PATH : PySem.W.nsIn K mainGlobals "MOST_IN_PATH" = some (some (.int 100 t_MOST_IN_PATH)))
    (math : ∀ ns : List Int, ns.length ≤ n → (∃ w', m_law [.scr ns] none = .ok (.bl true, false, w')) ∧ ∃ w', m_law [.lst (ns.map .int)] none = .ok (.bl true, false, w')) :
    LamX.LawAtS l w K (L2.CX l.prog w) 13 n "script" mg fa h := by
  have e := hfa.symm.trans (PySem.W.mg_of X G a_law)
  cases e
  obtain ⟨⟨c_is_index_tuple, P_is_index_tuple⟩, t_is_index_tuple⟩ := Option.isSome_iff_exists.mp t_is_index_tuple
  obtain ⟨r_is_index_tuple, r1_is_index_tuple⟩ := Option.isSome_iff_exists.mp r1_is_index_tuple
  obtain ⟨hd_is_index_tuple, ht_is_index_tuple⟩ := tb "is_index_tuple" c_is_index_tuple P_is_index_tuple r_is_index_tuple r1_is_index_tuple t_is_index_tuple
  have C_is_index_tuple := tab_cd a_is_index_tuple l_is_index_tuple t_is_index_tuple
  obtain ⟨⟨c_is_system, P_is_system⟩, t_is_system⟩ := Option.isSome_iff_exists.mp t_is_system
  obtain ⟨r_is_system, r1_is_system⟩ := Option.isSome_iff_exists.mp r1_is_system
  obtain ⟨hd_is_system, ht_is_system⟩ := tb "is_system" c_is_system P_is_system r_is_system r1_is_system t_is_system
  have C_is_system := tab_cd a_is_system l_is_system t_is_system
  obtain ⟨⟨c_is_ascending, P_is_ascending⟩, t_is_ascending⟩ := Option.isSome_iff_exists.mp t_is_ascending
  obtain ⟨r_is_ascending, r1_is_ascending⟩ := Option.isSome_iff_exists.mp r1_is_ascending
  obtain ⟨hd_is_ascending, ht_is_ascending⟩ := tb "is_ascending" c_is_ascending P_is_ascending r_is_ascending r1_is_ascending t_is_ascending
  have C_is_ascending := tab_cd a_is_ascending l_is_ascending t_is_ascending
  obtain ⟨⟨c_accepts_merged, P_accepts_merged⟩, t_accepts_merged⟩ := Option.isSome_iff_exists.mp t_accepts_merged
  obtain ⟨r_accepts_merged, r1_accepts_merged⟩ := Option.isSome_iff_exists.mp r1_accepts_merged
  obtain ⟨hd_accepts_merged, ht_accepts_merged⟩ := tb "accepts_merged" c_accepts_merged P_accepts_merged r_accepts_merged r1_accepts_merged t_accepts_merged
  have C_accepts_merged := tab_cd a_accepts_merged l_accepts_merged t_accepts_merged
  have no : ∀ P : Addr, h.get? P = some { cls := .none, data := .fields #[] } → K.lookup P = none := fun P e => by
    cases hk : K.lookup P with
    | none => rfl
    | some o =>
      have e2 := X P o hk
      rw [e] at e2
      cases e2
      have h2 := List.all_eq_true.mp nt _ (PySem.W.mem_of_lookupK hk)
      exact absurd (show false = true from h2) Bool.false_ne_true
  refine ⟨PySem.W.fnOf "law" "law" (defArgs s_law) (defBody s_law) (defScope s_law) .none kV_law dc_law pm_law an_law cd_law ct_law, [(c_is_index_tuple, P_is_index_tuple), (c_is_system, P_is_system), (c_is_ascending, P_is_ascending), (c_accepts_merged, P_accepts_merged)], spOf K ([(c_is_index_tuple, P_is_index_tuple), (c_is_system, P_is_system), (c_is_ascending, P_is_ascending), (c_accepts_merged, P_accepts_merged)].map (·.2)) (xs_ C_BadValue C_NotPossible).xt m_law, ?_, ?_, ?_, fun s v => .of_eq rfl, ?_, ?_⟩
  · exact (List.forall_mem_cons.mpr ⟨ht_is_index_tuple, (List.forall_mem_cons.mpr ⟨ht_is_system, (List.forall_mem_cons.mpr ⟨ht_is_ascending, (List.forall_mem_cons.mpr ⟨ht_accepts_merged, (fun _ h => nomatch h)⟩)⟩)⟩)⟩)
  · exact (List.forall_mem_cons.mpr ⟨no _ ht_is_index_tuple, (List.forall_mem_cons.mpr ⟨no _ ht_is_system, (List.forall_mem_cons.mpr ⟨no _ ht_is_ascending, (List.forall_mem_cons.mpr ⟨no _ ht_accepts_merged, (fun _ h => nomatch h)⟩)⟩)⟩)⟩)
  · exact (List.forall_mem_cons.mpr ⟨hd_is_index_tuple, (List.forall_mem_cons.mpr ⟨hd_is_system, (List.forall_mem_cons.mpr ⟨hd_is_ascending, (List.forall_mem_cons.mpr ⟨hd_accepts_merged, (fun _ h => nomatch h)⟩)⟩)⟩)⟩)
  · intro H a ns hl _ hT hS
    obtain ⟨h1, h2⟩ := math ns hl
    refine law_sp h1 h2 (fun P hP => ?_) hS
    obtain ⟨p, hp, rfl⟩ := List.mem_map.mp hP
    exact hT p hp
  · intro base hKb hns hTB
    exact all_okL (l := l) (w := w) (base := base) (xs := (xs_ C_BadValue C_NotPossible)) (xs_ok (Low_BadValue.xc_ok (fI := f1_BadValue) { gC := PySem.W.mg_of X G kaC_BadValue, cls := ⟨nm_BadValue, qn_BadValue, Nn_BadValue, bs_BadValue, _, sn_BadValue, sub_BadValue, ab_BadValue, col_BadValue, dd_BadValue, m0_BadValue, m1_BadValue, m2_BadValue, m3_BadValue, m5_BadValue, kxL_BadValue, by rfl⟩, sa := ksa_BadValue, ga := kga_BadValue, gg := kgg_BadValue, noN := knb_BadValue, iC := kiC_BadValue, tC := ktf_BadValue, kC := kkC_BadValue, exC := keC_BadValue, tyC := ktC_BadValue, hdC := khd_BadValue, fn := ⟨_, _, _, _, _, _, _, _, _, _, _, _, _, _, klf_BadValue, kcf_BadValue⟩ }) (Low_NotPossible.xc_ok (fI := f1_NotPossible) { gC := PySem.W.mg_of X G kaC_NotPossible, cls := ⟨nm_NotPossible, qn_NotPossible, Nn_NotPossible, bs_NotPossible, _, sn_NotPossible, sub_NotPossible, ab_NotPossible, col_NotPossible, dd_NotPossible, m0_NotPossible, m1_NotPossible, m2_NotPossible, m3_NotPossible, m5_NotPossible, kxL_NotPossible, by rfl⟩, sa := ksa_NotPossible, ga := kga_NotPossible, gg := kgg_NotPossible, noN := knb_NotPossible, iC := kiC_NotPossible, tC := ktf_NotPossible, kC := kkC_NotPossible, exC := keC_NotPossible, tyC := ktC_NotPossible, hdC := khd_NotPossible, fn := ⟨_, _, _, _, _, _, _, _, _, _, _, _, _, _, klf_NotPossible, kcf_NotPossible⟩ }) (PySem.W.mg_of X G kaC_BadValue) (PySem.W.exm_ref keC_BadValue khd_BadValue ktC_BadValue ksub_BadValue_BadValue) (PySem.W.exm_ref keC_BadValue khd_BadValue ktC_BadValue ksub_NotPossible_BadValue) (⟨_, "ValueError", PySem.W.mg_of X G kaU_UndoError, by kernel_rfl, kit_refT kud_UndoError kut_UndoError kus_BadValue_UndoError, kit_tyT (by kernel_rfl) kus_BadValue_ValueError, ⟨cls_some khd_BadValue, kga_BadValue, kgg_BadValue, keC_BadValue, kf5_BadValue, kf6, kf7, kf8_BadValue⟩⟩)) (by rfl) (by rfl) (fun x h => xs_hm1_BadValue h) (fun x h => xs_hm2_BadValue h) (by rfl) xs_hi_BadValue_UndoError_ValueError l_law (DefE.of X G a_law_stream l_law_stream o_law_stream k_law_stream) (DefE.of X G a_law_next l_law_next o_law_next k_law_next) (DefE.of X G a_law_pick l_law_pick o_law_pick k_law_pick) (DefE.of X G a_is_tuple_of l_is_tuple_of o_is_tuple_of k_is_tuple_of) (DefE.of X G a_is_integer l_is_integer o_is_integer k_is_integer) (DefE.of X G a_is_index l_is_index o_is_index k_is_index) (DefE.of X G a_is_index_tuple l_is_index_tuple o_is_index_tuple k_is_index_tuple) (DefE.of X G a_is_command_row l_is_command_row o_is_command_row k_is_command_row) (DefE.of X G a_is_system l_is_system o_is_system k_is_system) (DefE.of X G a_check_system l_check_system o_check_system k_check_system) (DefE.of X G a_is_state l_is_state o_is_state k_is_state) (DefE.of X G a_check_state l_check_state o_check_state k_check_state) (DefE.of X G a_is_sequence_within l_is_sequence_within o_is_sequence_within k_is_sequence_within) (DefE.of X G a_is_sequence l_is_sequence o_is_sequence k_is_sequence) (DefE.of X G a_check_sequence l_check_sequence o_check_sequence k_check_sequence) (DefE.of X G a_after l_after o_after k_after) (DefE.of X G a_follow l_follow o_follow k_follow) (DefE.of X G a_led_to l_led_to o_led_to k_led_to) (DefE.of X G a_run l_run o_run k_run) (DefE.of X G a_all_after l_all_after o_all_after k_all_after) (DefE.of X G a_tuples_from l_tuples_from o_tuples_from k_tuples_from) (DefE.of X G a_sequences_from l_sequences_from o_sequences_from k_sequences_from) (DefE.of X G a_reached_from l_reached_from o_reached_from k_reached_from) (DefE.of X G a_reachable l_reachable o_reachable k_reachable) (DefE.of X G a_first_sequence l_first_sequence o_first_sequence k_first_sequence) (DefE.of X G a_reach_evidence l_reach_evidence o_reach_evidence k_reach_evidence) (DefE.of X G a_has_word l_has_word o_has_word k_has_word) (DefE.of X G a_shows_reach l_shows_reach o_shows_reach k_shows_reach) (DefE.of X G a_is_ascending l_is_ascending o_is_ascending k_is_ascending) (DefE.of X G a_is_closed l_is_closed o_is_closed k_is_closed) (DefE.of X G a_shows_no_reach l_shows_no_reach o_shows_no_reach k_shows_no_reach) (DefE.of X G a_accepts_reach l_accepts_reach o_accepts_reach k_accepts_reach) (DefE.of X G a_law_first l_law_first o_law_first k_law_first) (DefE.of X G a_agree l_agree o_agree k_agree) (DefE.of X G a_least_difference l_least_difference o_least_difference k_least_difference) (DefE.of X G a_difference l_difference o_difference k_difference) (DefE.of X G a_first_merged l_first_merged o_first_merged k_first_merged) (DefE.of X G a_one_to_one l_one_to_one o_one_to_one k_one_to_one) (DefE.of X G a_is_command l_is_command o_is_command k_is_command) (DefE.of X G a_check_command l_check_command o_check_command k_check_command) (DefE.of X G a_merged l_merged o_merged k_merged) (DefE.of X G a_is_reachable l_is_reachable o_is_reachable k_is_reachable) (DefE.of X G a_accepts_merged l_accepts_merged o_accepts_merged k_accepts_merged) (DefE.of X G a_inverse l_inverse o_inverse k_inverse) (DefE.of X G a_can_be_exchanged l_can_be_exchanged o_can_be_exchanged k_can_be_exchanged) (DefE.of X G a_exchanged l_exchanged o_exchanged k_exchanged) (DefE.of X G a_law_second l_law_second o_law_second k_law_second) (DefE.of X G a_law_told l_law_told o_law_told k_law_told) (DefE.of X G a_law l_law o_law k_law) C_is_index_tuple (tabC (hTB (c_is_index_tuple, P_is_index_tuple) (by simp))) C_is_system (tabC (hTB (c_is_system, P_is_system) (by simp))) C_is_ascending (tabC (hTB (c_is_ascending, P_is_ascending) (by simp))) C_accepts_merged (tabC (hTB (c_accepts_merged, P_accepts_merged) (by simp))) (PySem.W.mg_none_of X G z_list) (PySem.W.mg_none_of X G z_len) (PySem.W.mg_none_of X G z_abs) (PySem.W.mg_none_of X G z_int) (PySem.W.mg_none_of X G z_isinstance) (PySem.W.mg_none_of X G z_tuple) (PySem.W.mg_none_of X G z_bool) (PySem.W.mg_none_of X G z_all) (PySem.W.mg_none_of X G z_enumerate) (PySem.W.mg_none_of X G z_sorted) (PySem.W.mg_none_of X G z_str) (PySem.W.mg_none_of X G z_range) (PySem.W.mg_none_of X G z_ValueError) ⟨_, PySem.W.mg_of X G g_MOST_STATES, ⟨_, rfl⟩⟩ ⟨_, PySem.W.mg_of X G g_MOST_COMMANDS, ⟨_, rfl⟩⟩ ⟨_, PySem.W.mg_of X G g_MOST_IN_SEQUENCE, ⟨_, rfl⟩⟩ ⟨_, PySem.W.mg_of X G g_MOST_IN_PATH, ⟨_, rfl⟩⟩
end Ux
open PySem PySem.W PyProof.Rows
set_option maxHeartbeats 0 in
theorem PySem.Challenge.cw_undobystate_k07_refusals_of_systems_holds : PySem.Challenge.rw_undobystate_k07_refusals_of_systems.Holds := by
  w_on; o_law; k_head; (case hw => w_witness2)
  k_fill
  refine LamX.walk_top (l := PySem.Challenge.rw_undobystate_k07_refusals_of_systems) (n := 63) (k := 13) (x := "script") (CX := fun w => L2.CX PySem.Challenge.rw_undobystate_k07_refusals_of_systems.prog w) rfl (by decide) rfl ⟨rfl, by decide, by decide⟩ (fun w h Y => PySem.W.kIn_of Y) ?F (fun w H s e s' z => Ux.cx_none z)
  case F =>
    intro w mg fa h Y KX G hmg tb
    refine' Ux.all_mk KX G hmg tb ?nt ?a_law_stream ?l_law_stream ?o_law_stream ?k_law_stream ?a_law_next ?l_law_next ?o_law_next ?k_law_next ?a_law_pick ?l_law_pick ?o_law_pick ?k_law_pick ?a_is_tuple_of ?l_is_tuple_of ?o_is_tuple_of ?k_is_tuple_of ?a_is_integer ?l_is_integer ?o_is_integer ?k_is_integer ?a_is_index ?l_is_index ?o_is_index ?k_is_index ?a_is_index_tuple ?l_is_index_tuple ?o_is_index_tuple ?k_is_index_tuple ?a_is_command_row ?l_is_command_row ?o_is_command_row ?k_is_command_row ?a_is_system ?l_is_system ?o_is_system ?k_is_system ?a_check_system ?l_check_system ?o_check_system ?k_check_system ?a_is_state ?l_is_state ?o_is_state ?k_is_state ?a_check_state ?l_check_state ?o_check_state ?k_check_state ?a_is_sequence_within ?l_is_sequence_within ?o_is_sequence_within ?k_is_sequence_within ?a_is_sequence ?l_is_sequence ?o_is_sequence ?k_is_sequence ?a_check_sequence ?l_check_sequence ?o_check_sequence ?k_check_sequence ?a_after ?l_after ?o_after ?k_after ?a_follow ?l_follow ?o_follow ?k_follow ?a_led_to ?l_led_to ?o_led_to ?k_led_to ?a_run ?l_run ?o_run ?k_run ?a_all_after ?l_all_after ?o_all_after ?k_all_after ?a_tuples_from ?l_tuples_from ?o_tuples_from ?k_tuples_from ?a_sequences_from ?l_sequences_from ?o_sequences_from ?k_sequences_from ?a_reached_from ?l_reached_from ?o_reached_from ?k_reached_from ?a_reachable ?l_reachable ?o_reachable ?k_reachable ?a_first_sequence ?l_first_sequence ?o_first_sequence ?k_first_sequence ?a_reach_evidence ?l_reach_evidence ?o_reach_evidence ?k_reach_evidence ?a_has_word ?l_has_word ?o_has_word ?k_has_word ?a_shows_reach ?l_shows_reach ?o_shows_reach ?k_shows_reach ?a_is_ascending ?l_is_ascending ?o_is_ascending ?k_is_ascending ?a_is_closed ?l_is_closed ?o_is_closed ?k_is_closed ?a_shows_no_reach ?l_shows_no_reach ?o_shows_no_reach ?k_shows_no_reach ?a_accepts_reach ?l_accepts_reach ?o_accepts_reach ?k_accepts_reach ?a_law_first ?l_law_first ?o_law_first ?k_law_first ?a_agree ?l_agree ?o_agree ?k_agree ?a_least_difference ?l_least_difference ?o_least_difference ?k_least_difference ?a_difference ?l_difference ?o_difference ?k_difference ?a_first_merged ?l_first_merged ?o_first_merged ?k_first_merged ?a_one_to_one ?l_one_to_one ?o_one_to_one ?k_one_to_one ?a_is_command ?l_is_command ?o_is_command ?k_is_command ?a_check_command ?l_check_command ?o_check_command ?k_check_command ?a_merged ?l_merged ?o_merged ?k_merged ?a_is_reachable ?l_is_reachable ?o_is_reachable ?k_is_reachable ?a_accepts_merged ?l_accepts_merged ?o_accepts_merged ?k_accepts_merged ?a_inverse ?l_inverse ?o_inverse ?k_inverse ?a_can_be_exchanged ?l_can_be_exchanged ?o_can_be_exchanged ?k_can_be_exchanged ?a_exchanged ?l_exchanged ?o_exchanged ?k_exchanged ?a_law_second ?l_law_second ?o_law_second ?k_law_second ?a_law_told ?l_law_told ?o_law_told ?k_law_told ?a_law ?l_law ?o_law ?k_law ?t_is_index_tuple ?r1_is_index_tuple ?t_is_system ?r1_is_system ?t_is_ascending ?r1_is_ascending ?t_accepts_merged ?r1_accepts_merged ?z_list ?z_len ?z_abs ?z_int ?z_isinstance ?z_tuple ?z_bool ?z_all ?z_enumerate ?z_sorted ?z_str ?z_range ?z_ValueError ?kaC_BadValue ?kxL_BadValue ?ksa_BadValue ?kga_BadValue ?kgg_BadValue ?knb_BadValue ?kiC_BadValue ?ktf_BadValue ?klf_BadValue ?kcf_BadValue ?kkC_BadValue ?keC_BadValue ?ktC_BadValue ?khd_BadValue ?kaC_NotPossible ?kxL_NotPossible ?ksa_NotPossible ?kga_NotPossible ?kgg_NotPossible ?knb_NotPossible ?kiC_NotPossible ?ktf_NotPossible ?klf_NotPossible ?kcf_NotPossible ?kkC_NotPossible ?keC_NotPossible ?ktC_NotPossible ?khd_NotPossible ?ksub_BadValue_BadValue ?ksub_NotPossible_BadValue ?kaU_UndoError ?kud_UndoError ?kut_UndoError ?kus_BadValue_UndoError ?kus_BadValue_ValueError ?kf5_BadValue ?kf6 ?kf7 ?kf8_BadValue ?g_MOST_STATES ?g_MOST_COMMANDS ?g_MOST_IN_SEQUENCE ?g_MOST_IN_PATH (fun ns _ => Ux.law_math ns)
    (case a_law_stream => k_is); (case l_law_stream => k_is); (case o_law_stream => k_is); (case k_law_stream => k_is); (case a_law_next => k_is); (case l_law_next => k_is); (case o_law_next => k_is); (case k_law_next => k_is); (case a_law_pick => k_is); (case l_law_pick => k_is); (case o_law_pick => k_is); (case k_law_pick => k_is); (case a_is_tuple_of => k_is); (case l_is_tuple_of => k_is); (case o_is_tuple_of => k_is); (case k_is_tuple_of => k_is); (case a_is_integer => k_is); (case l_is_integer => k_is); (case o_is_integer => k_is); (case k_is_integer => k_is); (case a_is_index => k_is); (case l_is_index => k_is); (case o_is_index => k_is); (case k_is_index => k_is); (case a_is_index_tuple => k_is); (case l_is_index_tuple => k_is); (case o_is_index_tuple => k_is); (case k_is_index_tuple => k_is); (case a_is_command_row => k_is); (case l_is_command_row => k_is); (case o_is_command_row => k_is); (case k_is_command_row => k_is); (case a_is_system => k_is); (case l_is_system => k_is); (case o_is_system => k_is); (case k_is_system => k_is); (case a_check_system => k_is); (case l_check_system => k_is); (case o_check_system => k_is); (case k_check_system => k_is); (case a_is_state => k_is); (case l_is_state => k_is); (case o_is_state => k_is); (case k_is_state => k_is); (case a_check_state => k_is); (case l_check_state => k_is); (case o_check_state => k_is); (case k_check_state => k_is); (case a_is_sequence_within => k_is); (case l_is_sequence_within => k_is); (case o_is_sequence_within => k_is); (case k_is_sequence_within => k_is); (case a_is_sequence => k_is); (case l_is_sequence => k_is); (case o_is_sequence => k_is); (case k_is_sequence => k_is); (case a_check_sequence => k_is); (case l_check_sequence => k_is); (case o_check_sequence => k_is); (case k_check_sequence => k_is); (case a_after => k_is); (case l_after => k_is); (case o_after => k_is); (case k_after => k_is); (case a_follow => k_is); (case l_follow => k_is); (case o_follow => k_is); (case k_follow => k_is); (case a_led_to => k_is); (case l_led_to => k_is); (case o_led_to => k_is); (case k_led_to => k_is); (case a_run => k_is); (case l_run => k_is); (case o_run => k_is); (case k_run => k_is); (case a_all_after => k_is); (case l_all_after => k_is); (case o_all_after => k_is); (case k_all_after => k_is); (case a_tuples_from => k_is); (case l_tuples_from => k_is); (case o_tuples_from => k_is); (case k_tuples_from => k_is); (case a_sequences_from => k_is); (case l_sequences_from => k_is); (case o_sequences_from => k_is); (case k_sequences_from => k_is); (case a_reached_from => k_is); (case l_reached_from => k_is); (case o_reached_from => k_is); (case k_reached_from => k_is); (case a_reachable => k_is); (case l_reachable => k_is); (case o_reachable => k_is); (case k_reachable => k_is); (case a_first_sequence => k_is); (case l_first_sequence => k_is); (case o_first_sequence => k_is); (case k_first_sequence => k_is); (case a_reach_evidence => k_is); (case l_reach_evidence => k_is); (case o_reach_evidence => k_is); (case k_reach_evidence => k_is); (case a_has_word => k_is); (case l_has_word => k_is); (case o_has_word => k_is); (case k_has_word => k_is); (case a_shows_reach => k_is); (case l_shows_reach => k_is); (case o_shows_reach => k_is); (case k_shows_reach => k_is); (case a_is_ascending => k_is); (case l_is_ascending => k_is); (case o_is_ascending => k_is); (case k_is_ascending => k_is); (case a_is_closed => k_is); (case l_is_closed => k_is); (case o_is_closed => k_is); (case k_is_closed => k_is); (case a_shows_no_reach => k_is); (case l_shows_no_reach => k_is); (case o_shows_no_reach => k_is); (case k_shows_no_reach => k_is); (case a_accepts_reach => k_is); (case l_accepts_reach => k_is); (case o_accepts_reach => k_is); (case k_accepts_reach => k_is); (case a_law_first => k_is); (case l_law_first => k_is); (case o_law_first => k_is); (case k_law_first => k_is); (case a_agree => k_is); (case l_agree => k_is); (case o_agree => k_is); (case k_agree => k_is); (case a_least_difference => k_is); (case l_least_difference => k_is); (case o_least_difference => k_is); (case k_least_difference => k_is); (case a_difference => k_is); (case l_difference => k_is); (case o_difference => k_is); (case k_difference => k_is); (case a_first_merged => k_is); (case l_first_merged => k_is); (case o_first_merged => k_is); (case k_first_merged => k_is); (case a_one_to_one => k_is); (case l_one_to_one => k_is); (case o_one_to_one => k_is); (case k_one_to_one => k_is); (case a_is_command => k_is); (case l_is_command => k_is); (case o_is_command => k_is); (case k_is_command => k_is); (case a_check_command => k_is); (case l_check_command => k_is); (case o_check_command => k_is); (case k_check_command => k_is); (case a_merged => k_is); (case l_merged => k_is); (case o_merged => k_is); (case k_merged => k_is); (case a_is_reachable => k_is); (case l_is_reachable => k_is); (case o_is_reachable => k_is); (case k_is_reachable => k_is); (case a_accepts_merged => k_is); (case l_accepts_merged => k_is); (case o_accepts_merged => k_is); (case k_accepts_merged => k_is); (case a_inverse => k_is); (case l_inverse => k_is); (case o_inverse => k_is); (case k_inverse => k_is); (case a_can_be_exchanged => k_is); (case l_can_be_exchanged => k_is); (case o_can_be_exchanged => k_is); (case k_can_be_exchanged => k_is); (case a_exchanged => k_is); (case l_exchanged => k_is); (case o_exchanged => k_is); (case k_exchanged => k_is); (case a_law_second => k_is); (case l_law_second => k_is); (case o_law_second => k_is); (case k_law_second => k_is); (case a_law_told => k_is); (case l_law_told => k_is); (case o_law_told => k_is); (case k_law_told => k_is); (case a_law => k_is); (case l_law => k_is); (case o_law => k_is); (case k_law => k_is); (case z_list => k_is); (case z_len => k_is); (case z_abs => k_is); (case z_int => k_is); (case z_isinstance => k_is); (case z_tuple => k_is); (case z_bool => k_is); (case z_all => k_is); (case z_enumerate => k_is); (case z_sorted => k_is); (case z_str => k_is); (case z_range => k_is); (case z_ValueError => k_is); (case kaC_BadValue => k_is); (case kxL_BadValue => k_is); (case ksa_BadValue => k_is); (case kga_BadValue => k_is); (case kgg_BadValue => k_is); (case knb_BadValue => k_is); (case kiC_BadValue => k_is); (case ktf_BadValue => k_is); (case klf_BadValue => k_is); (case kcf_BadValue => k_is); (case kkC_BadValue => k_is); (case keC_BadValue => k_is); (case ktC_BadValue => k_is); (case khd_BadValue => k_is); (case kaC_NotPossible => k_is); (case kxL_NotPossible => k_is); (case ksa_NotPossible => k_is); (case kga_NotPossible => k_is); (case kgg_NotPossible => k_is); (case knb_NotPossible => k_is); (case kiC_NotPossible => k_is); (case ktf_NotPossible => k_is); (case klf_NotPossible => k_is); (case kcf_NotPossible => k_is); (case kkC_NotPossible => k_is); (case keC_NotPossible => k_is); (case ktC_NotPossible => k_is); (case khd_NotPossible => k_is); (case ksub_BadValue_BadValue => k_is); (case ksub_NotPossible_BadValue => k_is); (case kaU_UndoError => k_is); (case kud_UndoError => k_is); (case kut_UndoError => k_is); (case kus_BadValue_UndoError => k_is); (case kus_BadValue_ValueError => k_is); (case kf5_BadValue => k_is); (case kf6 => k_is); (case kf7 => k_is); (case kf8_BadValue => k_is); (case g_MOST_STATES => k_is); (case g_MOST_COMMANDS => k_is); (case g_MOST_IN_SEQUENCE => k_is); (case g_MOST_IN_PATH => k_is); (case nt => kernel_rfl); (case t_is_index_tuple => kernel_rfl); (case r1_is_index_tuple => kernel_rfl); (case t_is_system => kernel_rfl); (case r1_is_system => kernel_rfl); (case t_is_ascending => kernel_rfl); (case r1_is_ascending => kernel_rfl); (case t_accepts_merged => kernel_rfl); (case r1_accepts_merged => kernel_rfl)
