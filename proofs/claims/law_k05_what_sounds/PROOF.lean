import PyProof.Rows.All
import Wide.All
import OpenK.AllK
import Wide.FinOn
import PySem.Challenge.RW_voiceweave_k05_what_sounds
import HandS.ForMost
import HandS.ForExc
import HandS.AnyAll
import HandS.EndTab
import HandS.GenBody
import KE.GoesRaise
import HandS.IsInst
import HandS.Style
import HandS.More
import HandS.ExcIs
import HandS.Walk
set_option Elab.async false
set_option linter.all false
set_option maxRecDepth 100000
set_option maxHeartbeats 2000000
/-! The voices layer, part 1: any and all of a generator expression whose element may call defs. -/
namespace VW
open PySem PySem.Spec PyProof.Rows L2 GxR

/-! ### the frame of a generator expression -/
/-- where the generator's code runs when «all» or «any» wakes it -/
abbrev gArd (A : Around) (c : Code) : Around := A.in1.in1.over c []
abbrev genX (X : Cx) (s : Shared) (H : Hp) (cenv : Env) (c : Code) (fp : List Addr) : Cx :=
  { X with A := gArd X.A c, s_0 := s, H_0 := H, env := cenv, outer := X.stack, stack := cenv :: X.stack, ex := fp, fn := fun _ => false, pn := [], xe := fun _ _ => False }
/-- the code of a generator expression's turns -/
abbrev genCode (elt tg iter : Expr) (scope : Scope) (pos : Pos) (it : Value) (cenv : Env) : Code :=
  .compLoop (.GeneratorExp elt [⟨tg, iter, [], 0⟩] scope pos) 0 it .none cenv

theorem gArd_frames {A : Around} {fs : List Env} {elt tg iter : Expr} {scope : Scope} {pos : Pos} {it : Value} {cenv : Env} (h : A.frames = some fs) :
    (gArd A (genCode elt tg iter scope pos it cenv)).frames = some (cenv :: fs) := by
  have e1 : (genCode elt tg iter scope pos it cenv).envs = [cenv] := rfl
  show pushEnvs (genCode elt tg iter scope pos it cenv).envs (pushEnvs (envsOf []) A.frames) = _
  rw [e1, h]
  rfl
theorem gArd_room {A : Around} {k : Nat} {elt tg iter : Expr} {scope : Scope} {pos : Pos} {it : Value} {cenv : Env} (r : Room (k + 1) A) :
    Room k (gArd A (genCode elt tg iter scope pos it cenv)) := by
  have w1 : (genCode elt tg iter scope pos it cenv).weight = 1 := rfl
  have u1 : (genCode elt tg iter scope pos it cenv).cUnits = 3 := rfl
  refine ⟨r.hd, ?_, ?_⟩
  · have := r.dp
    show A.depth + frameCount [] + (genCode elt tg iter scope pos it cenv).weight + 3 * k + 5 < _
    rw [w1]
    show A.depth + 0 + 1 + 3 * k + 5 < _
    omega
  · have := r.un
    show A.units + 1 + 1 + unitsOf [] + (genCode elt tg iter scope pos it cenv).cUnits + 16 * k + 200 < _
    rw [u1]
    show A.units + 1 + 1 + 0 + 3 + 16 * k + 200 < _
    omega

section
variable {X : Cx} {pins : List (Addr × Obj)} {σ : L2.St} {H : Hp} {s : Shared}

/-- the generator's frame has been laid (at the next address): the state is one of its context -/
theorem gen_start {elt tg iter : Expr} {scope : Scope} {own : List (Str × Nat)} {fp : List Addr} {gpos : Pos} {it code : Value} {fr : Obj} {h' : Heap} {m : Str → Option Value}
    (I : Inv X pins σ H s) (ok : BlkOk X.N X.env.scope scope own) (hcell : ∀ y ∈ scope.names, y.2 ≠ .cell) (hN : X.N.Nodup) (hfp : ∀ b ∈ fp, FpOk X pins H b ∧ b < s.heap.objs.size)
    (hn : h'.Ns s.heap.objs.size m) (hs : Heap.SameBut s.heap.objs.size (s.heap.push fr) h') {cenv : Env} (hce : cenv = genEnv scope (cloFrom X.env.cells scope.names []) s.heap.objs.size code builtinsNs X.env) :
    Inv (genX X s H cenv (genCode elt tg iter scope gpos it cenv) fp) [] (wipe σ (own.map (·.2))) H { s with heap := h' } := by
  have hfree : ∀ y ∈ scope.names, y.2 = .free → ∃ c, X.env.cells.lookup y.1 = some c := fun y hy e =>
    (ok.free y hy e).elim (fun k => I.ok.has _ (.inl k)) fun k => I.ok.has _ (.inr k)
  have hL : cenv.locals = s.heap.objs.size := by rw [hce]; rfl
  have hcl : cenv.cells = cloFrom X.env.cells scope.names [] := by rw [hce]; rfl
  have hsc : cenv.scope = scope := by rw [hce]; rfl
  have kp : ∀ b o, s.heap.get? b = some o → h'.get? b = some o := fun b o e =>
    (hs.2 b (Nat.ne_of_lt (Heap.lt_size e))).trans (Heap.get?_push_of_some _ e)
  have caught : ∀ {y c}, cenv.cells.lookup y = some c → X.env.cells.lookup y = some c ∧ c < s.heap.objs.size := fun {y c} e => by
    rw [hcl] at e
    rcases cloFrom_mem (PySem.mem_of_lookup e) with hm | ⟨h1, rfl⟩
    · cases hm
    · obtain ⟨c, hc⟩ := hfree _ h1 rfl
      rw [hc]
      obtain ⟨w, z⟩ := I.cell _ _ hc
      exact ⟨rfl, z.lt⟩
  have look : ∀ {y}, scope.names.lookup y = some .free → ∃ c, cenv.cells.lookup y = some c ∧ X.env.cells.lookup y = some c := fun {y} hl => by
    have hm := cloFrom_has (cells := X.env.cells) (acc := []) (PySem.mem_of_lookup hl)
    obtain ⟨c, hc⟩ := mem_lookup hm
    rw [← hcl] at hc
    exact ⟨c, hc, (caught hc).1⟩
  have okB : (genX X s H cenv (genCode elt tg iter scope gpos it cenv) fp).Ok := by
    refine ⟨I.ok.mod, by show cenv.scope.kind = _; rw [hsc]; exact ok.kind, by show cenv.globals = _; rw [hce]; exact I.ok.glob, by show cenv.builtins = _; rw [hce]; rfl,
      by show s.heap.objs.size ≤ cenv.locals; rw [hL]; exact Nat.le_refl _, fun y z c e1 e2 => I.ok.inj y z c (caught e1).1 (caught e2).1, fun y hy => ?_, fun y c z _ => absurd (show false = true from z) Bool.false_ne_true,
      I.ok.hd, gArd_frames I.ok.frames, .inr ⟨rfl, by show cenv.frame = some cenv.locals; rw [hce]; rfl⟩, fun b hb => ⟨?_, fun y c e z => ?_⟩, I.bs, Nat.le_trans I.ok.bsz I.sz, fun b o e hb => ?_, fun b hb z => ?_, I.stack, I.stkFree⟩
    · have hy : scope.names.lookup y = some .cell ∨ scope.names.lookup y = some .free := by
        have hy' : cenv.scope.names.lookup y = some .cell ∨ cenv.scope.names.lookup y = some .free := hy
        rw [hsc] at hy'
        exact hy'
      rcases hy with hy | hy
      · exact absurd rfl (hcell _ (PySem.mem_of_lookup hy))
      · obtain ⟨c, h1, _⟩ := look hy
        exact ⟨c, h1⟩
    · show b ≠ cenv.locals
      rw [hL]; exact Nat.ne_of_lt (hfp b hb).2
    · exact (hfp b hb).1.2.2.2.2.1 y c (caught e).1 z
    · rcases (hfp b hb).1.2.2.2.1 with z | z
      · exact I.ok.noex b o e z
      · exact absurd (Nat.lt_of_lt_of_le (Heap.lt_size e) (Nat.le_trans I.ok.bsz z)) (Nat.lt_irrefl _)
    · rcases List.mem_cons.mp (I.stkSub b z) with z | z
      · exact (hfp b hb).1.2.1 z
      · exact (hfp b hb).1.2.2.1 z
  refine ⟨okB, rfl, I.bare, Un.kept kp, ⟨m, ?_, fun i y av e1 e2 e3 => ?_⟩, fun y c e => ?_, ?_, fun y c e => ?_, fun p hp => ?_, I.hok.kept kp, by rw [wipe_length]; exact I.len⟩
  · show Heap.Ns _ cenv.locals _
    rw [hL]; exact hn
  · obtain ⟨e2, hne⟩ := wipe_some e2
    have fr : scope.names.lookup y = some .free := by
      have e3' : Vis cenv.scope y := e3
      rw [hsc] at e3'
      have no : ∀ k, scope.names.lookup y = some k → k = .local ∨ k = .cell → False := fun k hk hh => by
        rcases ok.own _ (PySem.mem_of_lookup hk) hh with q | q
        · obtain ⟨p, hp, hpy⟩ := List.mem_map.mp q
          have e4 := ok.ix p hp
          have hp1 : p.1 = y := hpy
          rw [hp1] at e4
          exact hne (List.mem_map.mpr ⟨p, hp, nodup_ix hN e4 e1⟩)
        · exact q (List.mem_of_getElem? e1)
      rcases e3' with z | z | z
      · exact (no _ z (.inl rfl)).elim
      · exact (no _ z (.inr rfl)).elim
      · exact z
    obtain ⟨m0, hn0, hl⟩ := I.loc
    have hvis : Vis X.env.scope y := (ok.free _ (PySem.mem_of_lookup fr) rfl).elim (fun k => .inr (.inl k)) (fun k => .inr (.inr k))
    obtain ⟨w, r, q⟩ := hl i y av e1 e2 hvis
    obtain ⟨c, h1, h2⟩ := look fr
    refine ⟨w, r, .inr ⟨.inr (by show cenv.scope.names.lookup y = _; rw [hsc]; exact fr), c, h1, ?_⟩⟩
    rcases q with ⟨k, _⟩ | ⟨_, c', e', z⟩
    · have k : X.env.scope.names.lookup y = some .local := k
      rcases ok.free _ (PySem.mem_of_lookup fr) rfl with k' | k' <;> rw [show X.env.scope.names.lookup y = _ from k'] at k <;> cases k
    · rw [h2] at e'; cases e'
      exact z.keeps kp
  · obtain ⟨w, z⟩ := I.cell y c (caught e).1
    exact ⟨w, z.keeps kp⟩
  · show H cenv.locals = none
    rw [hL]; exact I.hok.fresh (Nat.le_refl _)
  · exact I.freeC y c (caught e).1
  · exact absurd (show p ∈ ([] : List (Addr × Obj)) ++ [] from hp) (by simp)
end
end VW
set_option Elab.async false
set_option linter.all false
set_option maxRecDepth 100000
set_option maxHeartbeats 2000000
namespace VW
open PySem PySem.Spec PyProof.Rows L2 GxR

/-- what the one that asks owes at a turn of the generator: st is the answer at which it stops -/
def GenStep (J : It) (g : TG) (te : TE) (vs : List Nat) (σ : L2.St) (st : Bool) (Q : VK) (W : Nat → Nat → Hp → Prop) : Prop :=
  ∀ i m H, W i m H → (J.stop i H ∧ Q (.bl (!st)) H) ∨ (J.go i H ∧ ∃ Nx : Hp → Prop, (∀ H', Nx H' → ∃ m', m' < m ∧ W (i + 1) m' H') ∧
    ∀ x H', J.yld i H x H' → g x (wipe σ vs) H' fun σ2 H2 => wipe σ2 vs = wipe σ vs ∧ te σ2 H2 fun y H3 => ∃ b, y = .bl b ∧ (b = st → Q (.bl st) H3) ∧ (b ≠ st → Nx H3))

section
variable {X : Cx} {pins : List (Addr × Obj)} {σ : L2.St} {elt tg iter : Expr} {scope : Scope} {gpos : Pos} {cenv : Env} {fp : List Addr} {it a : Addr} {tn : Nat → Heap → Prop} {J : It} {g : TG} {te : TE} {vs : List Nat} {st : Bool} {Q : VK} {W : Nat → Nat → Hp → Prop}
  {s3 : Shared} {H3 : Hp} {oa : Obj}

/-- the state between two turns, the generator's own frame known -/
def Betw (X : Cx) (s3 : Shared) (H3 : Hp) (cenv : Env) (c : Code) (fp : List Addr) (a : Addr) (oa : Obj) (tn : Nat → Heap → Prop) (τ : L2.St) (i : Nat) (H : Hp) (s : Shared) : Prop :=
  Inv (genX X s3 H3 cenv c fp) [(a, oa)] τ H s ∧ tn i s.heap ∧ ∀ b ∈ fp, H b = none
/-- its end, for the one that asks -/
def gEnd (X : Cx) (s3 : Shared) (H3 : Hp) (cenv : Env) (c : Code) (fp : List Addr) (a : Addr) (oa : Obj) (τ : L2.St) (st : Bool) (Q : VK) : Nat → Shared → Shared → Prop := fun _ _ s1 =>
  ∃ H, Inv (genX X s3 H3 cenv c fp) [(a, oa)] τ H s1 ∧ Q (.bl (!st)) H
/-- a turn's answer, and what comes when it is woken again -/
def gProto (X : Cx) (s3 : Shared) (H3 : Hp) (cenv : Env) (c : Code) (fp : List Addr) (a : Addr) (oa : Obj) (tn : Nat → Heap → Prop) (τ : L2.St) (st : Bool) (Q : VK) (W : Nat → Nat → Hp → Prop) : Protocol := fun n _ v s1 kap =>
  ∃ (b : Bool) (H : Hp), v = .bool b ∧ (∃ τ', Inv (genX X s3 H3 cenv c fp) [(a, oa)] τ' H s1) ∧ (b = st → Q (.bl st) H) ∧
    (b ≠ st → ∀ s2 : Shared, s2.heap = s1.heap → s2.os = s1.os → AllBare s2.gens → kap (.send .none) s2)

theorem Inv.regen {X' : Cx} {pins : List (Addr × Obj)} {σ : L2.St} {H : Hp} {s s2 : Shared} (I : Inv X' pins σ H s) (h1 : s2.heap = s.heap) (h2 : s2.os = s.os) (h3 : AllBare s2.gens) : Inv X' pins σ H s2 := by
  obtain ⟨hh, g, d, t, o⟩ := s2
  have e1 : hh = s.heap := h1
  have e2 : o = s.os := h2
  subst e1 e2
  exact I.call (h' := s.heap) (g' := g) (d' := d) (t' := t) (ch := []) (Un.kept fun _ _ q => q) (I.hok.kept fun _ _ q => q) h3 (fun _ z => nomatch z)

theorem gen_loop (hc : X.calm = true) (T : Turn X.prog X.w X.K tg J fp it tn)
    (hpg : PG (genX X s3 H3 cenv (genCode elt tg iter scope gpos (.ref it) cenv) fp) tg g) (hpe : PE (genX X s3 H3 cenv (genCode elt tg iter scope gpos (.ref it) cenv) fp) elt te)
    (hco : cenv.scope.isCoroutine = false) (hafp : a ∉ fp) (step : GenStep J g te vs σ st Q W) :
    ∀ (m i n : Nat) (s0 s : Shared) (H : Hp), m < n → W i m H → Betw X s3 H3 cenv (genCode elt tg iter scope gpos (.ref it) cenv) fp a oa tn (wipe σ vs) i H s →
      Seg (model X.prog X.w) X.A.in1.in1 (fun n s₀ r s₁ => r = .ok .next ∧ gEnd X s3 H3 cenv (genCode elt tg iter scope gpos (.ref it) cenv) fp a oa (wipe σ vs) st Q n s₀ s₁)
        (gProto X s3 H3 cenv (genCode elt tg iter scope gpos (.ref it) cenv) fp a oa tn (wipe σ vs) st Q W) n s0 (genCode elt tg iter scope gpos (.ref it) cenv)
        ((model X.prog X.w).den (genCode elt tg iter scope gpos (.ref it) cenv)) [] s := by
  intro m
  induction m using Nat.strongRecOn with
  | ind m ih =>
    intro i n s0 s H hmn hW hB
    obtain ⟨I, htn, hfr⟩ := hB
    have hc' : (genX X s3 H3 cenv (genCode elt tg iter scope gpos (.ref it) cenv) fp).calm = true := hc
    have stat : ∀ {pl : List (Addr × Obj)} {τ : L2.St} {H' : Hp} {s' : Shared}, (∀ p ∈ pl, p.1 ∉ fp) → Inv (genX X s3 H3 cenv (genCode elt tg iter scope gpos (.ref it) cenv) fp) pl τ H' s' → (∀ b ∈ fp, H' b = none) →
        ∀ b ∈ fp, FpOk (genX X s3 H3 cenv (genCode elt tg iter scope gpos (.ref it) cenv) fp) pl H' b := fun {pl τ H' s'} hpl I' hn b hb =>
      ⟨hn b hb, (I'.ok.exf b hb).1, I'.ok.exfs b hb, .inl hb, fun x c e => (I'.ok.exf b hb).2 x c e, fun p hp z => hpl p (by simpa using hp) (by rw [z]; exact hb)⟩
    have pa : ∀ p ∈ [(a, oa)], p.1 ∉ fp := fun p hp => by
      rw [List.mem_singleton.mp hp]; exact hafp
    show Seg _ X.A.in1.in1 _ _ n s0 _ ((compTurn (.GeneratorExp elt [⟨tg, iter, [], 0⟩] scope gpos) 0 (.ref it) .none cenv).onRaise (leaving cenv)) [] s
    rw [compTurn_gen, Sem.onRaise_eq_wrap]
    refine seg_bind_wrap (wpAny_standAt ?_)
    rcases step i m H hW with ⟨stop, q⟩ | ⟨go, Nx, hNx, turn⟩
    · have td := T.done (genX X s3 H3 cenv (genCode elt tg iter scope gpos (.ref it) cenv) fp) rfl rfl rfl hc' i [(a, oa)] s _ H (fun _ _ => False) I (stat pa I hfr) htn stop
      refine seg_bind_wrap (wpAny_mono td (fun r s4 hr => ?_) fun _ _ z => z.elim)
      obtain ⟨rfl, I4⟩ := hr
      exact seg_end (.ok .next) ⟨rfl, H, I4, q⟩
    · have ti := T.item (genX X s3 H3 cenv (genCode elt tg iter scope gpos (.ref it) cenv) fp) rfl rfl rfl hc' i [(a, oa)] s _ H (fun _ _ => False) I (stat pa I hfr) htn go
      refine seg_bind_wrap (wpAny_mono ti (fun r s4 hr => ?_) fun _ _ z => z.elim)
      obtain ⟨u, rfl, h4⟩ := hr
      refine seg_bind_wrap (wpAny_mono h4 (fun _ s5 h5 => ?_) fun _ _ z => z.elim)
      obtain ⟨x, H5, I5, r5, y5, tn5, fr5⟩ := h5
      have I5' := I5.pinned (stat pa I5 fr5) (T.obj _ _ tn5)
      refine seg_bind_wrap (wpAny_mono (hpg.run _ s5 _ H5 x u _ I5' r5 (turn x H5 y5)) (fun _ s6 h6 => ?_) fun _ _ z => False.elim z)
      obtain ⟨σ6, H6, I6, hw6, q6⟩ := h6
      simp only [List.forIn_nil]
      refine seg_bind_wrap (wpAny_pure ?_)
      simp only [if_true]
      have hy : ∀ v, yieldOut cenv v = yieldValue v := fun v => by simp only [yieldOut, hco, Bool.false_eq_true, if_false]
      simp only [hy]
      rw [Sem.bind_eq_wrap', Sem.bind_eq_wrap', Sem.wrap_wrap, Sem.wrap_wrap]
      refine seg_wrap (wpAny_mono (hpe.run _ s6 σ6 H6 _ I6 q6) (fun v s7 h7 => ?_) fun _ _ z => False.elim z)
      obtain ⟨y, H7, I7, r7, b, rfl, hst, hgo⟩ := h7
      obtain rfl : v = Value.bool b := r7
      obtain ⟨n, rfl⟩ : ∃ k, n = k + 1 := ⟨n - 1, by omega⟩
      -- the iterator stands as it was left
      have pin' : ∀ c ∈ fp, ∀ o, s5.heap.get? c = some o → s7.heap.get? c = some o ∧ H7 c = none := fun c hc o e =>
        let z := I7.pin (c, o) (List.mem_append_right _ (List.mem_append_right _ (mem_pinsAt hc e)))
        ⟨z.1, z.2.1⟩
      have tn7 : tn (i + 1) s7.heap := T.keep _ _ _ tn5 fun c hc o e => (pin' c hc o e).1
      have fr7 : ∀ c ∈ fp, H7 c = none := fun c hc => by
        obtain ⟨o, e, _⟩ := T.obj _ _ tn5 c hc
        exact (pin' c hc o e).2
      have hl : (wipe σ vs).length = σ6.length := by rw [← hw6, wipe_length]
      have I8 : Inv (genX X s3 H3 cenv (genCode elt tg iter scope gpos (.ref it) cenv) fp) [(a, oa)] (wipe σ vs) H7 s7 := I7.unpinned.weak hl fun j v e => by
        rw [← hw6] at e
        exact (wipe_some e).1
      refine seg_at (seg_yield rfl rfl rfl ⟨b, H7, rfl, ⟨_, I8⟩, hst, fun hb s9 e1 e2 e3 => ?_⟩)
      obtain ⟨m', hm', hW'⟩ := hNx H7 (hgo hb)
      refine seg_again rfl (ih m' hm' (i + 1) n s9 s9 H7 (by omega) hW' ⟨Inv.regen I8 e1 e2 e3, by rw [e1]; exact tn7, fr7⟩)

/-- from its first wakening -/
theorem gen_first (hc : X.calm = true) (T : Turn X.prog X.w X.K tg J fp it tn)
    (hpg : PG (genX X s3 H3 cenv (genCode elt tg iter scope gpos (.ref it) cenv) fp) tg g) (hpe : PE (genX X s3 H3 cenv (genCode elt tg iter scope gpos (.ref it) cenv) fp) elt te)
    (hco : cenv.scope.isCoroutine = false) (hafp : a ∉ fp) (step : GenStep J g te vs σ st Q W)
    (m n : Nat) (s0 s : Shared) (H : Hp) (hmn : m < n) (hW : W 0 m H) (hB : Betw X s3 H3 cenv (genCode elt tg iter scope gpos (.ref it) cenv) fp a oa tn (wipe σ vs) 0 H s) :
    Seg (model X.prog X.w) X.A.in1.in1 (fun n s₀ r s₁ => r = .ok .next ∧ gEnd X s3 H3 cenv (genCode elt tg iter scope gpos (.ref it) cenv) fp a oa (wipe σ vs) st Q n s₀ s₁)
      (gProto X s3 H3 cenv (genCode elt tg iter scope gpos (.ref it) cenv) fp a oa tn (wipe σ vs) st Q W) n s0 (.compStart (.GeneratorExp elt [⟨tg, iter, [], 0⟩] scope gpos) 0 (.ref it) .none cenv)
      ((model X.prog X.w).den (.compStart (.GeneratorExp elt [⟨tg, iter, [], 0⟩] scope gpos) 0 (.ref it) .none cenv)) [] s := by
  have loop := gen_loop hc T hpg hpe hco hafp step m 0 n s0 s H hmn hW hB
  show Seg _ X.A.in1.in1 _ _ n s0 _ ((compStart (.GeneratorExp elt [⟨tg, iter, [], 0⟩] scope gpos) 0 (.ref it) .none cenv).onRaise (leaving cenv)) [] s
  unfold compStart
  rw [Sem.onRaise_eq_wrap]
  show Seg _ X.A.in1.in1 _ _ n s0 _ ((ask >>= _).wrap _ _ _ _) [] s
  refine seg_bind_wrap (wpAny_askSetting ?_)
  have again := seg_again (n := n) (s₀ := s0) (c := .compStart (.GeneratorExp elt [⟨tg, iter, [], 0⟩] scope gpos) 0 (.ref it) .none cenv) (c' := genCode elt tg iter scope gpos (.ref it) cenv) rfl loop
  split
  · exact again
  · refine seg_bind_wrap (wpAny_rule ?_)
    show Seg _ X.A.in1.in1 _ _ n s0 _ ((standAt iter.pos >>= _).wrap _ _ _ _) [] s
    refine seg_bind_wrap (wpAny_standAt (seg_bind_wrap (T.self _ 0 s _ _ hB.2.1 ?_)))
    exact again
end
end VW
set_option Elab.async false
set_option linter.all false
set_option maxRecDepth 100000
set_option maxHeartbeats 2000000
namespace VW
open PySem PySem.Spec PyProof.Rows L2 GxR

theorem bare_set {s : Shared} {g : Nat} {gs x : GenState} (hgs : s.gens[g]? = some gs) (h : AllBare s.gens) (hx : x.bare = true) : AllBare (s.setGen g x).gens :=
  (GenOnlyQ.of (GenOnly.setGen s g x) (setGen_self hgs) hx).bare h
theorem gens_at {s : Shared} {g : Nat} {x : GenState} (h : g + 1 ≤ (s.setGen g x).gens.size) : ∃ gs, s.gens[g]? = some gs := by
  rw [GenW.setGen_size] at h
  exact ⟨s.gens[g], Array.getElem?_eq_getElem (by omega)⟩

section
variable {X : Cx} {pins : List (Addr × Obj)} {σ τ0 : L2.St} {cenv : Env} {c : Code} {fp : List Addr} {a : Addr} {tn : Nat → Heap → Prop} {st : Bool} {Q : VK} {W : Nat → Nat → Hp → Prop} {s3 : Shared} {H3 : Hp} {oa : Obj} {g : Nat}

/-- it sleeps, or has not yet begun: woken, it does as its protocol says -/
def Sleeps (X : Cx) (s3 : Shared) (H3 : Hp) (cenv : Env) (c : Code) (fp : List Addr) (a : Addr) (oa : Obj) (tn : Nat → Heap → Prop) (τ : L2.St) (st : Bool) (Q : VK) (W : Nat → Nat → Hp → Prop) (g n : Nat) (s : Shared) : Prop :=
  ∃ gs : GenState, s.gens[g]? = some gs ∧ ∀ s2 : Shared, s2.heap = s.heap → s2.os = s.os → AllBare s2.gens →
    gs.Goes (model X.prog X.w) X.A.in1.in1 (fun n s₀ r s₁ => r = .ok .next ∧ gEnd X s3 H3 cenv c fp a oa τ st Q n s₀ s₁) (gProto X s3 H3 cenv c fp a oa tn τ st Q W) n (.send .none) s2
/-- the answer of «all» or «any» -/
def Answered (X : Cx) (s3 : Shared) (H3 : Hp) (cenv : Env) (c : Code) (fp : List Addr) (a : Addr) (oa : Obj) (Q : VK) (r : Result) (s' : Shared) : Prop :=
  ∃ (b : Bool) (H' : Hp) (τ : L2.St), r = .ok (.ret (.bool b)) ∧ Inv (genX X s3 H3 cenv c fp) [(a, oa)] τ H' s' ∧ Q (.bl b) H'

theorem all_turns {k : Nat} (hr : Room (k + 1) X.A) (hga : ∀ h : Heap, h.get? a = some oa → h.IsGen a g) : ∀ (n : Nat) (s : Shared) (τ : L2.St) (H : Hp), Inv (genX X s3 H3 cenv c fp) [(a, oa)] τ H s →
    Sleeps X s3 H3 cenv c fp a oa tn τ0 false Q W g n s → codeAny (model X.prog X.w) X.A (.builtin "all.loop" ⟨[.ref a], []⟩) (Answered X s3 H3 cenv c fp a oa Q) s := by
  intro n
  induction n with
  | zero =>
    intro s τ H I hS
    obtain ⟨gs, hgs, hgo⟩ := hS
    have hgl : g + 1 ≤ s.gens.size := Nat.succ_le_of_lt (Array.getElem?_eq_some_iff.mp hgs).1
    have hoa : s.heap.get? a = some oa := (I.pin (a, oa) (List.mem_append_right _ List.mem_cons_self)).1
    refine codeAny_builtin PySem.F.entry_all_loop ?_
    rw [Around.under_plainId PySem.F.plain_all_loop _]
    show wpAny _ X.A.in1 (pyNext (.ref a) >>= _) _ _ s
    refine wpAny_bind (GenW.wpAny_gsz (n := g + 1) hgl (wpAny_pyNext_genexpQ (A := X.A.in1) hr.hd I.nolimit (by have := hr.dp; show X.A.depth < _; omega) (hga _ hoa) hgs (hgo _ rfl rfl (bare_set hgs I.bare rfl))
      (fun v s₁ gs' hb hv hsz => ?_) fun s₁ hp h' hk hsz => ?_))
    · obtain ⟨gs1, hg1⟩ := gens_at hsz
      obtain ⟨b, H1, rfl, ⟨τ1, I1⟩, hst, hgo1⟩ := hv
      refine wpAny_bind (wpAny_holding (wpAny_truthy_bool ?_))
      refine wpAny_bind (wpAny_letGo ?_)
      cases b with
      | true => exact (hgo1 (by decide) s₁ rfl rfl I1.bare).elim
      | false =>
        simp only [Bool.false_eq_true, if_false]
        exact wpAny_bind (wpAny_rule (wpAny_pure ⟨false, H1, τ1, rfl, Inv.regen I1 rfl rfl (bare_set hg1 I1.bare hb), hst rfl⟩))
    · obtain ⟨gs1, hg1⟩ := gens_at hsz
      obtain ⟨H1, I1, q⟩ := hp
      refine wpAny_bind (wpAny_rule (wpAny_pure ⟨true, H1, τ0, rfl, ?_, q⟩))
      exact Inv.regen (I1.kept (t' := s₁.toks) hk) rfl rfl (bare_set hg1 I1.bare rfl)
  | succ n ih =>
    intro s τ H I hS
    obtain ⟨gs, hgs, hgo⟩ := hS
    have hgl : g + 1 ≤ s.gens.size := Nat.succ_le_of_lt (Array.getElem?_eq_some_iff.mp hgs).1
    have hoa : s.heap.get? a = some oa := (I.pin (a, oa) (List.mem_append_right _ List.mem_cons_self)).1
    refine codeAny_builtin PySem.F.entry_all_loop ?_
    rw [Around.under_plainId PySem.F.plain_all_loop _]
    show wpAny _ X.A.in1 (pyNext (.ref a) >>= _) _ _ s
    refine wpAny_bind (GenW.wpAny_gsz (n := g + 1) hgl (wpAny_pyNext_genexpQ (A := X.A.in1) hr.hd I.nolimit (by have := hr.dp; show X.A.depth < _; omega) (hga _ hoa) hgs (hgo _ rfl rfl (bare_set hgs I.bare rfl))
      (fun v s₁ gs' hb hv hsz => ?_) fun s₁ hp h' hk hsz => ?_))
    · obtain ⟨gs1, hg1⟩ := gens_at hsz
      obtain ⟨b, H1, rfl, ⟨τ1, I1⟩, hst, hgo1⟩ := hv
      refine wpAny_bind (wpAny_holding (wpAny_truthy_bool ?_))
      refine wpAny_bind (wpAny_letGo ?_)
      have J1 := Inv.regen (s2 := s₁.setGen g gs') I1 rfl rfl (bare_set hg1 I1.bare hb)
      cases b with
      | true =>
        simp only [if_true]
        refine wpAny_pure ⟨plainId_quiet PySem.F.plain_all_loop _, ih _ τ1 H1 J1 ⟨gs', setGen_self hg1, fun s2 e1 e2 e3 => ?_⟩⟩
        exact hgo1 (by decide) s2 e1 e2 e3
      | false =>
        simp only [Bool.false_eq_true, if_false]
        exact wpAny_bind (wpAny_rule (wpAny_pure ⟨false, H1, τ1, rfl, J1, hst rfl⟩))
    · obtain ⟨gs1, hg1⟩ := gens_at hsz
      obtain ⟨H1, I1, q⟩ := hp
      refine wpAny_bind (wpAny_rule (wpAny_pure ⟨true, H1, τ0, rfl, ?_, q⟩))
      exact Inv.regen (I1.kept (t' := s₁.toks) hk) rfl rfl (bare_set hg1 I1.bare rfl)

theorem any_turns {k : Nat} (hr : Room (k + 1) X.A) (hga : ∀ h : Heap, h.get? a = some oa → h.IsGen a g) : ∀ (n : Nat) (s : Shared) (τ : L2.St) (H : Hp), Inv (genX X s3 H3 cenv c fp) [(a, oa)] τ H s →
    Sleeps X s3 H3 cenv c fp a oa tn τ0 true Q W g n s → codeAny (model X.prog X.w) X.A (.builtin "any.loop" ⟨[.ref a], []⟩) (Answered X s3 H3 cenv c fp a oa Q) s := by
  intro n
  induction n with
  | zero =>
    intro s τ H I hS
    obtain ⟨gs, hgs, hgo⟩ := hS
    have hgl : g + 1 ≤ s.gens.size := Nat.succ_le_of_lt (Array.getElem?_eq_some_iff.mp hgs).1
    have hoa : s.heap.get? a = some oa := (I.pin (a, oa) (List.mem_append_right _ List.mem_cons_self)).1
    refine codeAny_builtin PySem.F.entry_any_loop ?_
    rw [Around.under_plainId PySem.F.plain_any_loop _]
    show wpAny _ X.A.in1 (pyNext (.ref a) >>= _) _ _ s
    refine wpAny_bind (GenW.wpAny_gsz (n := g + 1) hgl (wpAny_pyNext_genexpQ (A := X.A.in1) hr.hd I.nolimit (by have := hr.dp; show X.A.depth < _; omega) (hga _ hoa) hgs (hgo _ rfl rfl (bare_set hgs I.bare rfl))
      (fun v s₁ gs' hb hv hsz => ?_) fun s₁ hp h' hk hsz => ?_))
    · obtain ⟨gs1, hg1⟩ := gens_at hsz
      obtain ⟨b, H1, rfl, ⟨τ1, I1⟩, hst, hgo1⟩ := hv
      refine wpAny_bind (wpAny_holding (wpAny_truthy_bool ?_))
      refine wpAny_bind (wpAny_letGo ?_)
      cases b with
      | false => exact (hgo1 (by decide) s₁ rfl rfl I1.bare).elim
      | true =>
        simp only [if_true]
        exact wpAny_bind (wpAny_rule (wpAny_pure ⟨true, H1, τ1, rfl, Inv.regen I1 rfl rfl (bare_set hg1 I1.bare hb), hst rfl⟩))
    · obtain ⟨gs1, hg1⟩ := gens_at hsz
      obtain ⟨H1, I1, q⟩ := hp
      refine wpAny_bind (wpAny_rule (wpAny_pure ⟨false, H1, τ0, rfl, ?_, q⟩))
      exact Inv.regen (I1.kept (t' := s₁.toks) hk) rfl rfl (bare_set hg1 I1.bare rfl)
  | succ n ih =>
    intro s τ H I hS
    obtain ⟨gs, hgs, hgo⟩ := hS
    have hgl : g + 1 ≤ s.gens.size := Nat.succ_le_of_lt (Array.getElem?_eq_some_iff.mp hgs).1
    have hoa : s.heap.get? a = some oa := (I.pin (a, oa) (List.mem_append_right _ List.mem_cons_self)).1
    refine codeAny_builtin PySem.F.entry_any_loop ?_
    rw [Around.under_plainId PySem.F.plain_any_loop _]
    show wpAny _ X.A.in1 (pyNext (.ref a) >>= _) _ _ s
    refine wpAny_bind (GenW.wpAny_gsz (n := g + 1) hgl (wpAny_pyNext_genexpQ (A := X.A.in1) hr.hd I.nolimit (by have := hr.dp; show X.A.depth < _; omega) (hga _ hoa) hgs (hgo _ rfl rfl (bare_set hgs I.bare rfl))
      (fun v s₁ gs' hb hv hsz => ?_) fun s₁ hp h' hk hsz => ?_))
    · obtain ⟨gs1, hg1⟩ := gens_at hsz
      obtain ⟨b, H1, rfl, ⟨τ1, I1⟩, hst, hgo1⟩ := hv
      refine wpAny_bind (wpAny_holding (wpAny_truthy_bool ?_))
      refine wpAny_bind (wpAny_letGo ?_)
      have J1 := Inv.regen (s2 := s₁.setGen g gs') I1 rfl rfl (bare_set hg1 I1.bare hb)
      cases b with
      | false =>
        simp only [Bool.false_eq_true, if_false]
        refine wpAny_pure ⟨plainId_quiet PySem.F.plain_any_loop _, ih _ τ1 H1 J1 ⟨gs', setGen_self hg1, fun s2 e1 e2 e3 => ?_⟩⟩
        exact hgo1 (by decide) s2 e1 e2 e3
      | true =>
        simp only [if_true]
        exact wpAny_bind (wpAny_rule (wpAny_pure ⟨true, H1, τ1, rfl, J1, hst rfl⟩))
    · obtain ⟨gs1, hg1⟩ := gens_at hsz
      obtain ⟨H1, I1, q⟩ := hp
      refine wpAny_bind (wpAny_rule (wpAny_pure ⟨false, H1, τ0, rfl, ?_, q⟩))
      exact Inv.regen (I1.kept (t' := s₁.toks) hk) rfl rfl (bare_set hg1 I1.bare rfl)
end
end VW
set_option Elab.async false
set_option linter.all false
set_option maxRecDepth 100000
set_option maxHeartbeats 2000000
namespace VW
open PySem PySem.Spec PyProof.Rows L2 GxR

/-- any | all of (elt for tg in iter): st the answer at which it stops; P the table of the def's code objects, which may grow -/
def tGenQ (st : Bool) (P : Addr) (wi : TI) (g : TG) (te : TE) (vs : List Nat) : TE := fun σ H Q => wi σ H fun J H1 => TabG H1 P ∧ ∀ H2, Tabbed P H1 H2 → ∃ W : Nat → Nat → Hp → Prop, (∃ m, W 0 m H2) ∧ GenStep J g te vs σ st Q W

/-- a generator expression's scope -/
structure GenOk (N : List Str) (sc scope : Scope) (own : List (Str × Nat)) : Prop where
  blk : BlkOk N sc scope own
  co : scope.isCoroutine = false
  cell : ∀ y ∈ scope.names, y.2 ≠ .cell
  dot : scope.names.lookup (".0" : Str) = some NameKind.local

section
variable {X : Cx} {pins : List (Addr × Obj)} {σ : L2.St} {H : Hp} {s : Shared} {elt tg iter : Expr} {scope : Scope} {own : List (Str × Nat)} {gpos : Pos} {wi : TI} {g : TG} {te : TE} {st : Bool} {Q : VK} {c P : Addr} {k : Nat}

/-- what stands when the generator has been made -/
def Made (X : Cx) (pins : List (Addr × Obj)) (σ : L2.St) (vs : List Nat) (st : Bool) (Q : VK) (v : Value) (s' : Shared) : Prop :=
  ∃ (s3 : Shared) (H3 : Hp) (cenv : Env) (cd : Code) (fp : List Addr) (a : Addr) (oa : Obj) (tn : Nat → Heap → Prop) (W : Nat → Nat → Hp → Prop) (g n : Nat),
    v = .ref a ∧ (∀ h : Heap, h.get? a = some oa → h.IsGen a g) ∧ Inv (genX X s3 H3 cenv cd fp) [(a, oa)] (wipe σ vs) H3 s' ∧ Sleeps X s3 H3 cenv cd fp a oa tn (wipe σ vs) st Q W g n s' ∧
      ∀ (τ : L2.St) (H' : Hp) (s'' : Shared), Inv (genX X s3 H3 cenv cd fp) [(a, oa)] τ H' s'' → Inv X pins σ H' s''

theorem gen_made (hr : Room k X.A) (hc : X.calm = true) (hN : X.N.Nodup) (TB : TabB X.base X.mg c P) (hcode : X.env.code = .ref c) (hi : PI X tg iter wi) (ok : GenOk X.N X.env.scope scope own)
    (hpg : ∀ (s3 : Shared) (H3 : Hp) (cl : List (Str × Addr)) (C : Addr) (code it : Value) (fp : List Addr), PG (genX X s3 H3 (genEnv scope cl C code builtinsNs X.env) (genCode elt tg iter scope gpos it (genEnv scope cl C code builtinsNs X.env)) fp) tg g)
    (hpe : ∀ (s3 : Shared) (H3 : Hp) (cl : List (Str × Addr)) (C : Addr) (code it : Value) (fp : List Addr), PE (genX X s3 H3 (genEnv scope cl C code builtinsNs X.env) (genCode elt tg iter scope gpos it (genEnv scope cl C code builtinsNs X.env)) fp) elt te)
    (hs : ∀ v, genFold iter X.env v = pure v) (I : Inv X pins σ H s) (h : tGenQ st P wi g te (own.map (·.2)) σ H Q) :
    wpAny (model X.prog X.w) X.A (eval (.GeneratorExp elt [⟨tg, iter, [], 0⟩] scope gpos) X.env) (Made X pins σ (own.map (·.2)) st Q) X.xe s := by
  have hfree : ∀ y ∈ scope.names, y.2 = .free → ∃ c, X.env.cells.lookup y.1 = some c := fun y hy e =>
    (ok.blk.free y hy e).elim (fun k => I.ok.has _ (.inl k)) fun k => I.ok.has _ (.inr k)
  refine wpAny_GeneratorExp_make ok.co (closure_ok hfree) ok.cell ok.dot ok.blk.kind hr.depth ?_ hs
  refine thn (hi.run pins s σ H _ I h) fun xv s1 hx => thn hx fun itv s2 h2 => ?_
  obtain ⟨it, fp, tn, J, H1, rfl, I2, T, tn2, f2, ⟨ps, hP, htr⟩, q⟩ := h2
  have hP2 : s2.heap.get? P = some { cls := .none, data := .fields ps } := I2.hok P _ hP
  have hPlt : P < s2.heap.objs.size := Heap.lt_size hP2
  have cd : PySem.W.CodeHd s2.heap c P := TB.code.keeps fun b u e => I2.bk b u e
  have nP : ∀ b, H1 b = none → b ≠ P := fun b e z => by rw [z, hP] at e; cases e
  have szfp : ∀ b ∈ fp, b < s2.heap.objs.size := fun b hb => by
    obtain ⟨o, e, _⟩ := T.obj _ _ tn2 b hb
    exact Heap.lt_size e
  -- whichever code object it has, from there on
  have cont : ∀ (code : Value) (h3 : Heap) (tk : Nat) (more : Array Value), Heap.ExtBut P s2.heap h3 → s2.heap.objs.size ≤ h3.objs.size → h3.get? P = some { cls := .none, data := .fields (ps ++ more) } → TriplesOk (ps ++ more).toList →
      wpAny (model X.prog X.w) X.A (builtinsFor X.env.globals X.env.builtins) (fun bi s₄ =>
        ∀ h', h'.Ns s₄.heap.objs.size (fun y => if y = ".0" then some (.ref it) else none) → Heap.SameBut s₄.heap.objs.size (s₄.heap.push { cls := .type "frame", data := .dict #[] }) h' →
          Made X pins σ (own.map (·.2)) st Q (.ref h'.objs.size) { s₄ with
            gens := s₄.gens.push (.fresh (.compStart (.GeneratorExp elt [⟨tg, iter, [], 0⟩] scope gpos) 0 (.ref it) .none (genEnv scope (cloFrom X.env.cells scope.names []) s₄.heap.objs.size code bi X.env))),
            toks := s₄.toks + 1 + 1 + 1,
            heap := h'.push { cls := .type "generator", data := .fields #[.int s₄.gens.size 0, .str "<genexpr>" (s₄.toks + 1), .str (X.env.qual ++ "<genexpr>") (s₄.toks + 1 + 1)] } }) X.xe { s2 with heap := h3, toks := tk } := by
    intro code h3 tk more hx hsz hP3 htr3
    have I3 : Inv X pins σ (upd H1 P (.tbl (ps ++ more))) { s2 with heap := h3, toks := tk } := inv_tab (g' := s2.gens) (d' := s2.drawn) I2 hP (fun b o hb e => hx b o hb e) hP3 I2.bare
    obtain ⟨bm, ob, e1, e2, e3, e4, e5, e6, e7, e8⟩ := TB.bm
    refine wpAny_builtinsFor (m := X.mg) (by rw [I3.ok.glob]; exact I3.mod.glob.keeps I3.bk) e1 e2 (I3.bk _ _ e5) e6 e7 e8 ?_
    intro h' hn' hs'
    have f3 : ∀ b ∈ fp, FpOk X pins (upd H1 P (.tbl (ps ++ more))) b ∧ b < h3.objs.size := fun b hb =>
      ⟨⟨by rw [upd_ne (nP b (f2 b hb).1)]; exact (f2 b hb).1, (f2 b hb).2⟩, Nat.lt_of_lt_of_le (szfp b hb) hsz⟩
    have kp : ∀ b o, h3.get? b = some o → h'.get? b = some o := fun b o e => (hs'.2 b (Nat.ne_of_lt (Heap.lt_size e))).trans (Heap.get?_push_of_some _ e)
    have I4 := gen_start (elt := elt) (tg := tg) (iter := iter) (gpos := gpos) (it := .ref it) (code := code) (m := fun y => if y = ".0" then some (.ref it) else none) I3 ok.blk ok.cell hN f3 hn' hs' rfl
    have hC : h'.objs.size = h3.objs.size + 1 := by rw [hs'.1, Heap.size_push]
    generalize hce : genEnv scope (cloFrom X.env.cells scope.names []) h3.objs.size code builtinsNs X.env = cenv at I4 ⊢
    have tn4 : tn 0 h' := T.keep _ _ _ tn2 fun b hb o e => kp b o (hx b o (nP b (f2 b hb).1) e)
    -- the generator's own object
    have I5 : Inv (genX X { s2 with heap := h3, toks := tk } (upd H1 P (.tbl (ps ++ more))) cenv (genCode elt tg iter scope gpos (.ref it) cenv) fp) [] (wipe σ (own.map (·.2))) (upd H1 P (.tbl (ps ++ more)))
        { s2 with
            gens := s2.gens.push (.fresh (.compStart (.GeneratorExp elt [⟨tg, iter, [], 0⟩] scope gpos) 0 (.ref it) .none cenv)), toks := tk + 1 + 1 + 1,
            heap := h'.push { cls := .type "generator", data := .fields #[.int s2.gens.size 0, .str "<genexpr>" (tk + 1), .str (X.env.qual ++ "<genexpr>") (tk + 1 + 1)] } } :=
      by
        have z := I4.call (h' := h'.push { cls := .type "generator", data := .fields #[.int s2.gens.size 0, .str "<genexpr>" (tk + 1), .str (X.env.qual ++ "<genexpr>") (tk + 1 + 1)] })
          (g' := s2.gens.push (.fresh (.compStart (.GeneratorExp elt [⟨tg, iter, [], 0⟩] scope gpos) 0 (.ref it) .none cenv))) (d' := s2.drawn) (t' := tk + 1 + 1 + 1) (ch := [])
          (Un.kept fun b o e => Heap.get?_push_of_some _ e) (I4.hok.kept fun b o e => Heap.get?_push_of_some _ e) (I4.bare.push rfl) fun _ z => nomatch z
        exact z
    obtain ⟨W, ⟨m0, w0⟩, step⟩ := q (upd H1 P (.tbl (ps ++ more))) ⟨⟨_, upd_same, htr3⟩, fun b hb => upd_ne hb⟩
    have hget : (h'.push { cls := .type "generator", data := .fields #[.int s2.gens.size 0, .str "<genexpr>" (tk + 1), .str (X.env.qual ++ "<genexpr>") (tk + 1 + 1)] }).get? h'.objs.size =
        some { cls := .type "generator", data := .fields #[.int s2.gens.size 0, .str "<genexpr>" (tk + 1), .str (X.env.qual ++ "<genexpr>") (tk + 1 + 1)] } := Heap.get?_push_size _ rfl
    have hHa : (upd H1 P (.tbl (ps ++ more))) h'.objs.size = none := I4.hok.fresh (Nat.le_refl _)
    have hcL : cenv.locals = h3.objs.size := by rw [← hce]; rfl
    have haL : h'.objs.size ≠ cenv.locals := by rw [hcL, hC]; exact Nat.succ_ne_self _
    have haf : h'.objs.size ∉ fp := fun z => by
      have z1 := (f3 _ z).2
      rw [hC] at z1
      exact absurd (Nat.lt_of_succ_lt z1) (Nat.lt_irrefl _)
    have haS : h'.objs.size ∉ frs X.stack := fun z => by
      obtain ⟨_, o, ho, _⟩ := I3.stack.mem z
      have z1 : h'.objs.size < h3.objs.size := Heap.lt_size ho
      rw [hC] at z1
      exact absurd (Nat.lt_of_succ_lt z1) (Nat.lt_irrefl _)
    have I6 := I5.pins_of (pins' := [(h'.objs.size, { cls := .type "generator", data := .fields #[.int s2.gens.size 0, .str "<genexpr>" (tk + 1), .str (X.env.qual ++ "<genexpr>") (tk + 1 + 1)] })]) fun p hp => by
      rw [List.mem_singleton.mp hp]
      exact ⟨hget, hHa, haL, haS, fun v z => by cases z⟩
    have fr6 : ∀ b ∈ fp, (upd H1 P (.tbl (ps ++ more))) b = none := fun b hb => (f3 b hb).1.1
    have tn6 : tn 0 (h'.push { cls := .type "generator", data := .fields #[.int s2.gens.size 0, .str "<genexpr>" (tk + 1), .str (X.env.qual ++ "<genexpr>") (tk + 1 + 1)] }) := T.keep _ _ _ tn4 fun b _ o e => Heap.get?_push_of_some _ e
    refine ⟨{ s2 with heap := h3, toks := tk }, upd H1 P (.tbl (ps ++ more)), cenv, genCode elt tg iter scope gpos (.ref it) cenv, fp, h'.objs.size, _, tn, W, s2.gens.size, m0 + 1, rfl, ?_, I6, ?_, ?_⟩
    · intro hh e
      exact ⟨_, _, _, e, rfl, rfl, rfl⟩
    · refine ⟨_, Array.getElem?_push_size .., fun s9 e1 e2 e3 => ⟨rfl, ?_⟩⟩
      subst hce
      exact gen_first hc T (hpg _ _ _ _ _ _ _) (hpe _ _ _ _ _ _ _) ok.co haf step m0 (m0 + 1) s9 s9 _ (Nat.lt_succ_self _) w0 ⟨Inv.regen I6 e1 e2 e3, by rw [e1]; exact tn6, fr6⟩
    · intro τ H' s'' J
      exact I3.call' (ch := fp) J.os J.base J.hok J.bare fun b hb => ⟨(f3 b hb).1.2.2.2.1, (f3 b hb).1.2.1, (f3 b hb).1.2.2.2.2.1, (f3 b hb).1.2.2.2.2.2⟩
  refine ⟨I2.nolimit, ?_⟩
  cases hf : codeAmong gpos ps.toList with
  | none =>
    refine wpAny_genexprCodeX hcode (cd.code hP2 htr) (cd.tab hP2) hf fun c' h' tk hx hge hlt hco' _ htab' _ => ?_
    obtain ⟨o1, vs, f1, tf, fl, tg', inF, tx, tt, op, _, _, _, _, _, _, _, _, _, htr', _⟩ := hco'
    exact cont _ h' tk _ hx (Nat.le_trans hge (Nat.le_of_lt hlt)) htab'.2 htr'
  | some cv =>
    refine wpAny_genexprCode_hit hcode (cd.code hP2 htr) hf ?_
    exact cont cv s2.heap s2.toks #[] (Heap.ExtBut.refl _ _) (Nat.le_refl _) (by rw [Array.append_empty]; exact hP2) (by rw [Array.append_empty]; exact htr)
end

section
variable {X : Cx} {elt tg iter : Expr} {scope : Scope} {own : List (Str × Nat)} {p pos gpos : Pos} {wi : TI} {g : TG} {te : TE} {c P : Addr} {k : Nat}
theorem pe_allG (hr : Room (k + 1) X.A) (hc : X.calm = true) (hN : X.N.Nodup) (hg : Gl X "all") (hm : X.mg "all" = none) (TB : TabB X.base X.mg c P) (hcode : X.env.code = .ref c) (hi : PI X tg iter wi) (ok : GenOk X.N X.env.scope scope own)
    (hpg : ∀ (s3 : Shared) (H3 : Hp) (cl : List (Str × Addr)) (C : Addr) (code it : Value) (fp : List Addr), PG (genX X s3 H3 (genEnv scope cl C code builtinsNs X.env) (genCode elt tg iter scope gpos it (genEnv scope cl C code builtinsNs X.env)) fp) tg g)
    (hpe : ∀ (s3 : Shared) (H3 : Hp) (cl : List (Str × Addr)) (C : Addr) (code it : Value) (fp : List Addr), PE (genX X s3 H3 (genEnv scope cl C code builtinsNs X.env) (genCode elt tg iter scope gpos it (genEnv scope cl C code builtinsNs X.env)) fp) elt te)
    (hs : ∀ v, genFold iter X.env v = pure v := by intro _; rfl)
    (he : starEach [.GeneratorExp elt [⟨tg, iter, [], 0⟩] scope gpos] X.env = (false, eval (.GeneratorExp elt [⟨tg, iter, [], 0⟩] scope gpos) X.env) :: starEach [] X.env := by rfl) :
    PE X (.Call (.Name "all" p) [.GeneratorExp elt [⟨tg, iter, [], 0⟩] scope gpos] [] pos) (tGenQ false P wi g te (own.map (·.2))) := by
  refine ⟨fun pins s σ H Q I h => ?_⟩
  refine wpAny_Call_Name_kw (ld_blt I hg hm boot_all ?_)
  refine PyProof.Rows.callWith_builtin1 ?_ he (by rfl)
  rw [he]
  show wpAny _ _ (spliced ((false, eval (.GeneratorExp elt [⟨tg, iter, [], 0⟩] scope gpos) X.env) :: backTo pos (starEach [] X.env))) _ _ s
  refine Calls.spliced_cons (thn (gen_made hr hc hN TB hcode hi ok hpg hpe hs I h) fun v s1 hv => Calls.spliced_nil ?_)
  obtain ⟨s3, H3, cenv, cd, fp, a, oa, tn, W, gn, n, rfl, hga, J, hS, back⟩ := hv
  have hoa : s1.heap.get? a = some oa := (J.pin (a, oa) (List.mem_append_right _ List.mem_cons_self)).1
  refine call_function_tree PySem.F.kind_all PySem.F.plain_all PySem.F.entry_all (PySem.F.args_all1 _) ?_
  unfold Builtin.«all»
  refine wpAny_bind (m := oneArg "all" _) (wpAny_pure ?_)
  refine wpAny_bind (wpAny_pyIter_gen (hga _ hoa) ?_)
  refine wpAny_pure ⟨plainId_quiet PySem.F.plain_all_loop _, codeAny_mono (all_turns hr hga n s1 _ _ J hS) fun r s' hr' => ?_⟩
  obtain ⟨b, H', τ, rfl, J', q⟩ := hr'
  exact ⟨.bl b, H', back _ _ _ J', rfl, q⟩
theorem pe_anyG (hr : Room (k + 1) X.A) (hc : X.calm = true) (hN : X.N.Nodup) (hg : Gl X "any") (hm : X.mg "any" = none) (TB : TabB X.base X.mg c P) (hcode : X.env.code = .ref c) (hi : PI X tg iter wi) (ok : GenOk X.N X.env.scope scope own)
    (hpg : ∀ (s3 : Shared) (H3 : Hp) (cl : List (Str × Addr)) (C : Addr) (code it : Value) (fp : List Addr), PG (genX X s3 H3 (genEnv scope cl C code builtinsNs X.env) (genCode elt tg iter scope gpos it (genEnv scope cl C code builtinsNs X.env)) fp) tg g)
    (hpe : ∀ (s3 : Shared) (H3 : Hp) (cl : List (Str × Addr)) (C : Addr) (code it : Value) (fp : List Addr), PE (genX X s3 H3 (genEnv scope cl C code builtinsNs X.env) (genCode elt tg iter scope gpos it (genEnv scope cl C code builtinsNs X.env)) fp) elt te)
    (hs : ∀ v, genFold iter X.env v = pure v := by intro _; rfl)
    (he : starEach [.GeneratorExp elt [⟨tg, iter, [], 0⟩] scope gpos] X.env = (false, eval (.GeneratorExp elt [⟨tg, iter, [], 0⟩] scope gpos) X.env) :: starEach [] X.env := by rfl) :
    PE X (.Call (.Name "any" p) [.GeneratorExp elt [⟨tg, iter, [], 0⟩] scope gpos] [] pos) (tGenQ true P wi g te (own.map (·.2))) := by
  refine ⟨fun pins s σ H Q I h => ?_⟩
  refine wpAny_Call_Name_kw (ld_blt I hg hm boot_any ?_)
  refine PyProof.Rows.callWith_builtin1 ?_ he (by rfl)
  rw [he]
  show wpAny _ _ (spliced ((false, eval (.GeneratorExp elt [⟨tg, iter, [], 0⟩] scope gpos) X.env) :: backTo pos (starEach [] X.env))) _ _ s
  refine Calls.spliced_cons (thn (gen_made hr hc hN TB hcode hi ok hpg hpe hs I h) fun v s1 hv => Calls.spliced_nil ?_)
  obtain ⟨s3, H3, cenv, cd, fp, a, oa, tn, W, gn, n, rfl, hga, J, hS, back⟩ := hv
  have hoa : s1.heap.get? a = some oa := (J.pin (a, oa) (List.mem_append_right _ List.mem_cons_self)).1
  refine call_function_tree PySem.F.kind_any PySem.F.plain_any PySem.F.entry_any (PySem.F.args_any1 _) ?_
  unfold Builtin.«any»
  refine wpAny_bind (m := oneArg "any" _) (wpAny_pure ?_)
  refine wpAny_bind (wpAny_pyIter_gen (hga _ hoa) ?_)
  refine wpAny_pure ⟨plainId_quiet PySem.F.plain_any_loop _, codeAny_mono (any_turns hr hga n s1 _ _ J hS) fun r s' hr' => ?_⟩
  obtain ⟨b, H', τ, rfl, J', q⟩ := hr'
  exact ⟨.bl b, H', back _ _ _ J', rfl, q⟩
end
end VW
set_option Elab.async false
set_option linter.all false
set_option maxRecDepth 100000
set_option maxHeartbeats 2000000
/-! The voices layer, part 2: an exception that leaves a list comprehension from its element. -/
namespace VW
open PySem PySem.Spec PyProof.Rows L2 GxR

/-- the frame that runs: a comprehension's block has none of its own -/
structure FrX (X : Cx) (fe : Env) (fo : List Env) (L : Addr) : Prop where
  stk : X.stack = fe :: fo
  f1 : fe.frame = some L
  f2 : X.env.frame = some L
/-- an exception in the air, seen from a block or from a def's body -/
def XF (X : Cx) (L : Addr) (E : XK) (u : Value) (s' : Shared) : Prop :=
  ∃ (a : Addr) (B : Heap) (sI : Shared) (pins : List (Addr × Obj)) (σ : L2.St) (H : Hp) (cls : Value) (d : Option Addr),
    u = .ref a ∧ Inv X pins σ H sI ∧ (∀ b o, sI.heap.get? b = some o → b ∉ frs X.stack → B.get? b = some o) ∧ sI.heap.UpToSlots s'.heap ∧
      Sky B X.stack a (Zc cls d) L s'.heap ∧ H a = none ∧ s'.os = sI.os ∧ AllBare s'.gens ∧ E cls d H
def TakesF (X : Cx) (L : Addr) (E : XK) : Prop := ∀ u s', XF X L E u s' → X.xe u s'
theorem TakesF.of {X : Cx} {E : XK} (t : Takes X (fun cls d _ H => E cls d H)) : TakesF X X.env.locals E := fun u s' x => t u s' x
/-- what a called def lets out is taken -/
theorem TakesF.passes {X : Cx} {L : Addr} {E : XK} (t : TakesF X L E) : Passes (CX X.prog X.w) X E := fun pins σ H s e s' I c => by
  obtain ⟨a, B, sI, pi, τ, H', cls, d, e1, I1, nb, up, sky, na, os, ag, w⟩ := XE.of_call (W := fun cls d _ H => E cls d H) I (fun _ _ _ z => z) c
  refine t e s' ⟨a, B, sI, pi, τ, H', cls, d, e1, I1, nb, up, ?_, na, os, ag, w⟩
  obtain ⟨a', B', H'', cls', d', e', fl, _⟩ := c
  rcases sky with z | z | z
  · exact .inl z
  · exact .inr (.inl z)
  · -- out of a call it flies
    exfalso
    rw [e1] at e'
    cases e'
    obtain ⟨_, _, _, oe, vs, T, oT, ts, h1, _, h2, h3, h4, h5, h6, h7, h8⟩ := z
    obtain ⟨_, _, _, oe', vs', T', oT', ts', g1, _, g2, g3, g4, g5, g6, g7, g8⟩ := fl
    rw [h1] at g1; cases g1
    rw [h2] at g2; cases g2
    rw [h3] at g3; cases g3
    rw [h6] at g6; cases g6
    rw [h7] at g7; cases g7
    rw [h8] at g8
    cases g8

/-- a block's context with a wish about exceptions -/
abbrev blkX (X : Cx) (s : Shared) (H : Hp) (scope : Scope) (cenv : Env) (fp : List Addr) (xe : Value → Shared → Prop) : Cx := { X.blk s H scope cenv fp with xe := xe }
theorem Inv.xe {X : Cx} {pins : List (Addr × Obj)} {σ : L2.St} {H : Hp} {s : Shared} {E : Value → Shared → Prop} (I : Inv X pins σ H s) : Inv { X with xe := E } pins σ H s := I.wish E
theorem Inv.unxe {X : Cx} {pins : List (Addr × Obj)} {σ : L2.St} {H : Hp} {s : Shared} {E : Value → Shared → Prop} (I : Inv { X with xe := E } pins σ H s) : Inv X pins σ H s := I.unwish

/-- noted by the frame that runs -/
theorem sky_note {M : Model} {A : Around} {E₁ : Value → Shared → Prop} {B : Heap} {fe : Env} {fo : List Env} {L a : Addr} {Z : Obj → Prop} {s : Shared} {Q : Unit → Shared → Prop} (hZ : HandSPX.Steady Z) (hfr : A.frames = some (fe :: fo)) (hf : fe.frame = some L)
    (x : Sky B (fe :: fo) a Z L s.heap) (hQ : ∀ h1, HandSPX.HeldZ B (fe :: fo) a Z L h1 → s.heap.UpToSlots h1 → Q () { s with heap := h1 }) : wpAny M A (noteFrame (.ref a) fe) Q E₁ s := by
  rcases x with ⟨hB, hn, hl, oe, vs, he, hz, hd, h1⟩ | fl | hh
  · exact HandSPX.look_newZ hZ hfr hl hf he hB hn hd h1 hz hQ
  · exact HandSPX.looks_onZ hZ hfr hf fl hQ
  · exact HandSPX.againZ hf hh.2.2.2 (hQ s.heap hh (Heap.UpToSlots.refl _))

section
variable {X : Cx} {pins : List (Addr × Obj)} {σ : L2.St} {H3 : Hp} {s3 : Shared} {scope : Scope} {ce : Env} {fp : List Addr} {L : Addr} {E : XK} {fe : Env} {fo : List Env}
/-- the wish inside of a block -/
def blkWish (X : Cx) (ce : Env) : Value → Shared → Prop := notedBy (model X.prog X.w) X.A ce fun e s' => CompFails (model X.prog X.w) X.A X.xe ce e s'
theorem takes_blk (I3 : Inv X pins σ H3 s3) (f : FrX X fe fo L) (hcf : ce.frame = X.env.frame) (hC : s3.heap.objs.size ≤ ce.locals) (hfp : ∀ b ∈ fp, FpOk X pins H3 b) (t : TakesF X L E) :
    TakesF (blkX X s3 H3 scope ce fp (blkWish X ce)) L E := by
  rintro u s' ⟨a, B, sI, pins', σ', H', cls, d, rfl, J, nb, up, sky, na, os, ag, hE⟩
  have hfr : X.A.frames = some (fe :: fo) := by rw [I3.ok.frames, f.stk]
  have sky' : Sky B (fe :: fo) a (Zc cls d) L s'.heap := by
    have z : Sky B X.stack a (Zc cls d) L s'.heap := sky
    rw [f.stk] at z
    exact z
  show wpAny (model X.prog X.w) X.A (noteFrame (.ref a) ce) _ _ s'
  rw [noteFrame_env _ (show ce.frame = fe.frame by rw [hcf, f.f2, f.f1])]
  refine sky_note Zc.steady hfr f.f1 sky' fun h1 held up1 => ?_
  obtain ⟨m, hn, _⟩ := J.loc
  have hn : sI.heap.Ns ce.locals m := hn
  have up01 : sI.heap.UpToSlots h1 := up.trans up1
  refine ⟨m, hn.upToSlots up01, fun h2 m2 hn2 hs2 => ?_⟩
  obtain ⟨b1, b0, f1, oe, vs, T, oT, ts, he, hz, hd, hv1, hnT, hTe, hT, hdT, hv3⟩ := held
  -- the block's names are not the exception's, nor its traceback's
  have hn1 : h1.Ns ce.locals m := hn.upToSlots up01
  have nC : ∀ {b : Addr} {o : Obj} {fs : Array Value}, h1.get? b = some o → o.data = .fields fs → b ≠ ce.locals := fun {b o fs} e q z => by
    obtain ⟨ob, es, ep, ho, hd', _⟩ := hn1
    rw [z, ho] at e
    cases e
    rw [hd'] at q
    cases q
  obtain ⟨B2, g1, g2⟩ := restrict B fun b => decide (b ≠ ce.locals)
  have gB : ∀ b, b ≠ ce.locals → B2.get? b = B.get? b := fun b hb => g1 b (decide_eq_true hb)
  have gC : B2.get? ce.locals = none := g2 _ (by simp)
  have B2n : ∀ b, B.get? b = none → B2.get? b = none := fun b e => by
    by_cases hb : b = ce.locals
    · rw [hb]; exact gC
    · rw [gB b hb]; exact e
  have held2 : HandSPX.HeldZ B2 (fe :: fo) a (Zc cls d) L h2 := by
    refine ⟨fun b o e => ?_, B2n a b0, ?_, ?_⟩
    · have hb : b ≠ ce.locals := fun z => by rw [z, gC] at e; cases e
      rw [gB b hb] at e
      exact (hs2.2 b hb).trans (b1 b o e)
    · refine funFrames_none (Heap.FunFrames.sameBut hs2 hn2 f1) fun b hb => ?_
      obtain ⟨z, _⟩ := f1.mem hb
      exact B2n b z
    · exact ⟨oe, vs, T, oT, ts, (hs2.2 a (nC he hd)).trans he, hz, hd, hv1, B2n T hnT, hTe, (hs2.2 T (nC hT hdT)).trans hT, hdT, hv3⟩
  unfold PySem.passOn
  refine wpAny_bind (wpAny_field ((hs2.2 a (nC he hd)).trans he) hd hv1 ?_)
  rw [if_neg (show ¬ ((Value.ref T == Value.none) = true) from by simp)]
  rw [show ce.frame = some L from hcf.trans f.f2]
  refine wpAny_bind (HandSPX.setFlight_onZ held2 fun h3 held3 up3 => wpAny_throw ?_)
  -- back in the context around
  obtain ⟨G, k1, k2⟩ := restrict sI.heap fun b => decide (b ≠ ce.locals)
  have kG : ∀ b, b ≠ ce.locals → G.get? b = sI.heap.get? b := fun b hb => k1 b (decide_eq_true hb)
  have kC : G.get? ce.locals = none := k2 _ (by simp)
  have old : ∀ {b : Addr} {o : Obj}, s3.heap.get? b = some o → b ≠ ce.locals := fun {b o} e => Nat.ne_of_lt (Nat.lt_of_lt_of_le (Heap.lt_size e) hC)
  have of_G : ∀ {b : Addr} {o : Obj}, G.get? b = some o → b ≠ ce.locals ∧ sI.heap.get? b = some o := fun {b o} e => by
    have hb : b ≠ ce.locals := fun z => by rw [z, kC] at e; cases e
    exact ⟨hb, by rw [← kG b hb]; exact e⟩
  have hHC : H' ce.locals = none := J.free
  have un : Un (frs X.stack) fp H3 H' s3.heap G := by
    have u0 : Un (frs X.stack) fp H3 H' s3.heap sI.heap := J.base
    refine ⟨fun b o e n hb hx => by rw [kG b (old e)]; exact u0.keep b o e n hb hx, fun b o e n hb hx => ?_, u0.free, fun b o e hx => ?_, u0.tups, u0.frzs, u0.tbls⟩
    · obtain ⟨sl, q⟩ := u0.slot b o e n hb hx
      exact ⟨sl, by rw [kG b (old e)]; exact q⟩
    · obtain ⟨o', q⟩ := u0.there b o e hx
      exact ⟨o', by rw [kG b (old e)]; exact q⟩
  have hokG : HOk X.prog X.w H' G := fun b o e => by
    have ne : ∀ c o', H' c = some o' → c ≠ ce.locals := fun c o' q z => by rw [z, hHC] at q; cases q
    refine (J.hok b o e).stay (fun c v hc q => ?_) (fun _ q => q) fun _ _ q => q
    rw [kG c (by rcases hc with z | z
                 · rw [z]; exact ne b _ e
                 · exact ne c _ z)]
    exact q
  have IG : Inv X pins σ H' { sI with heap := G } := I3.call' (s' := { sI with heap := G }) (ch := fp) J.os un hokG J.bare fun b hb => ⟨(hfp b hb).2.2.2.1, (hfp b hb).2.1, (hfp b hb).2.2.2.2.1, (hfp b hb).2.2.2.2.2⟩
  refine t (.ref a) _ ⟨a, B2, { sI with heap := G }, pins, σ, H', cls, d, rfl, IG, fun b o e hb => ?_, fun b o e hnf => ?_, ?_, na, os, ag, hE⟩
  · obtain ⟨hbC, e'⟩ := of_G e
    rw [gB b hbC]
    exact nb b o e' hb
  · obtain ⟨hbC, e'⟩ := of_G e
    obtain ⟨sl, q⟩ := up01 b o e' hnf
    obtain ⟨sl2, q2⟩ := up3 b _ ((hs2.2 b hbC).trans q) hnf
    exact ⟨sl2, q2⟩
  · rw [f.stk]
    exact .inr (.inr held3)
end
end VW
set_option Elab.async false
set_option linter.all false
set_option maxRecDepth 100000
set_option maxHeartbeats 2000000
namespace VW
open PySem PySem.Spec PyProof.Rows L2 GxR

section
variable {X : Cx} {L : Addr} {E : XK} {fe : Env} {fo : List Env}
theorem lcX_core {pins : List (Addr × Obj)} {s : Shared} {σ : L2.St} {H : Hp} {Q : VK} {elt tg iter : Expr} {ifs : List Expr} {scope : Scope} {own : List (Str × Nat)} {pos pos' : Pos} {wi : TI} {g : TG} {tt : TT} {te : TE} {use : Option (Value → Sem Unit)} {Qf : Value → Shared → Prop}
    (hc : X.calm = true) (hN : X.N.Nodup) (f : FrX X fe fo L) (tk : TakesF X L E) (I : Inv X pins σ H s) (hi : PI X tg iter wi) (ok : BlkOk X.N X.env.scope scope own)
    (hg : ∀ (s : Shared) (H : Hp) (C : Addr) (cl : List (Str × Addr)) (fp : List Addr) (xe : Value → Shared → Prop), PG (blkX X s H scope (compEnvC scope cl C X.env) fp xe) tg g)
    (ht : ∀ (s : Shared) (H : Hp) (C : Addr) (cl : List (Str × Addr)) (fp : List Addr) (xe : Value → Shared → Prop), TakesF (blkX X s H scope (compEnvC scope cl C X.env) fp xe) L E → PTs (blkX X s H scope (compEnvC scope cl C X.env) fp xe) ifs tt)
    (he : ∀ (s : Shared) (H : Hp) (C : Addr) (cl : List (Str × Addr)) (fp : List Addr) (xe : Value → Shared → Prop), TakesF (blkX X s H scope (compEnvC scope cl C X.env) fp xe) L E → PE (blkX X s H scope (compEnvC scope cl C X.env) fp xe) elt te)
    (hs : ∀ x, foldedSetIterable iter X.env x = pure x) (h : tLc wi g tt te (own.map (·.2)) σ H Q)
    (hRR : ∀ (D : Addr) (ce : Env) (s' : Shared) (m : Str → Option Value) (H' : Hp), Inv X pins σ H' s' → Q (.ref D) H' → s'.heap.Ns ce.locals m → FpOk X pins H' ce.locals → compEnds (model X.prog X.w) X.A X.xe use Qf (.ref D) ce (.ok .next) s') :
    wpAny (model X.prog X.w) X.A (comprehension (.ListComp elt [⟨tg, iter, ifs, 0⟩] scope pos) scope X.env pos' (newList []) false (eval iter X.env) use) Qf X.xe s := by
  have hfree : ∀ y ∈ scope.names, y.2 = .free → ∃ c, X.env.cells.lookup y.1 = some c := fun y hy e =>
    (ok.free y hy e).elim (fun k => I.ok.has _ (.inl k)) fun k => I.ok.has _ (.inr k)
  refine comprehension_at (use := use) rfl hs (closure_ok hfree) ok.kind (fun y hy e => by rw [ok.uniq y hy, e]) (wpAny_mono (hi.run pins s σ H _ I h) (fun xv s1 hx => wpAny_mono hx (fun itv s2 h2 => ?_) fun _ _ z => z) fun _ _ z => z)
  obtain ⟨it, fp, tn, J, H2, rfl, I2, T, tn2, f2, q⟩ := h2
  refine wpAny_newObj_type (newEnv_comp ?_) (by show 0 ≤ sizeLine; decide)
  generalize hD : s2.heap.objs.size = D
  obtain ⟨W, ⟨m0, w0⟩, turn⟩ := q D (I2.hok.fresh (Nat.le_of_eq hD))
  -- the new list is laid
  generalize hs3 : ({ s2 with heap := s2.heap.push { cls := .type "list", data := .seq ([] : List Value).toArray } } : Shared) = s3
  have h3 : s3.heap = s2.heap.push { cls := .type "list", data := .seq ([] : List Value).toArray } := by rw [← hs3]
  have I3 : Inv X pins σ (upd H2 D (.lst [])) s3 := by
    rw [← hs3]
    refine I2.laid (t' := s2.toks) (fun b o e => Heap.get?_push_of_some _ e) (Nat.le_of_eq hD) ⟨Nat.zero_le _, [], 0, .nil, ?_⟩
    rw [← hD]
    exact Heap.get?_push_size _ rfl
  have f3 : ∀ b ∈ fp, FpOk X pins (upd H2 D (.lst [])) b ∧ b < s3.heap.objs.size := fun b hb => by
    obtain ⟨o, e, _⟩ := T.obj _ _ tn2 b hb
    have hlt := Heap.lt_size e
    refine ⟨⟨?_, (f2 b hb).2⟩, by rw [h3, Heap.size_push]; exact Nat.lt_succ_of_lt hlt⟩
    rw [upd_ne (by rw [← hD]; exact Nat.ne_of_lt hlt)]
    exact (f2 b hb).1
  have tn3 : tn 0 s3.heap := T.keep _ _ _ tn2 fun b _ o e => by rw [h3]; exact Heap.get?_push_of_some _ e
  have I4 := block_start I3 ok hN f3
  show codeAny _ _ (.compStart (.ListComp elt [⟨tg, iter, ifs, 0⟩] scope pos) 0 (.ref it) (.ref D) (compEnvC scope (cellsFrom (s3.heap.objs.size + 1) scope.names (cloFrom X.env.cells scope.names [])) s3.heap.objs.size X.env))
    (compEnds (model X.prog X.w) X.A X.xe use Qf (.ref D) (compEnvC scope (cellsFrom (s3.heap.objs.size + 1) scope.names (cloFrom X.env.cells scope.names [])) s3.heap.objs.size X.env)) { s3 with heap := pushCells (s3.heap.push { cls := .type "dict", data := .dict #[] }) scope.names }
  have pg0 := fun xe => hg s3 (upd H2 D (.lst [])) s3.heap.objs.size (cellsFrom (s3.heap.objs.size + 1) scope.names (cloFrom X.env.cells scope.names [])) fp xe
  have pt0 := fun xe => ht s3 (upd H2 D (.lst [])) s3.heap.objs.size (cellsFrom (s3.heap.objs.size + 1) scope.names (cloFrom X.env.cells scope.names [])) fp xe
  have pe0 := fun xe => he s3 (upd H2 D (.lst [])) s3.heap.objs.size (cellsFrom (s3.heap.objs.size + 1) scope.names (cloFrom X.env.cells scope.names [])) fp xe
  have cL0 : (compEnvC scope (cellsFrom (s3.heap.objs.size + 1) scope.names (cloFrom X.env.cells scope.names [])) s3.heap.objs.size X.env).locals = s3.heap.objs.size := rfl
  have cF0 : (compEnvC scope (cellsFrom (s3.heap.objs.size + 1) scope.names (cloFrom X.env.cells scope.names [])) s3.heap.objs.size X.env).frame = X.env.frame := rfl
  generalize compEnvC scope (cellsFrom (s3.heap.objs.size + 1) scope.names (cloFrom X.env.cells scope.names [])) s3.heap.objs.size X.env = ce at I4 pg0 pt0 pe0 cL0 cF0 ⊢
  generalize hH3 : upd H2 D (.lst []) = H3 at I3 I4 pg0 pt0 pe0 w0 f3
  have tkB := takes_blk (scope := scope) (ce := ce) I3 f cF0 (Nat.le_of_eq cL0.symm) (fun b hb => (f3 b hb).1) tk
  have pg := pg0 (blkWish X ce)
  have pt := pt0 (blkWish X ce) tkB
  have pe := pe0 (blkWish X ce) tkB
  have I4 : Inv (blkX X s3 H3 scope ce fp (blkWish X ce)) [] (wipe σ (own.map (·.2))) H3 { s3 with heap := pushCells (s3.heap.push { cls := .type "dict", data := .dict #[] }) scope.names } := VW.Inv.xe I4
  generalize hs4 : ({ s3 with heap := pushCells (s3.heap.push { cls := .type "dict", data := .dict #[] }) scope.names } : Shared) = s4 at I4 ⊢
  have tn4 : tn 0 s4.heap := T.keep _ _ _ tn3 fun b _ o e => by rw [← hs4]; exact pushCells_keeps _ _ _ _ (Heap.get?_push_of_some _ e)
  have stat : ∀ {σ' : L2.St} {H' : Hp} {s' : Shared}, Inv (blkX X s3 H3 scope ce fp (blkWish X ce)) [] σ' H' s' → (∀ b ∈ fp, H' b = none) → ∀ b ∈ fp, FpOk (blkX X s3 H3 scope ce fp (blkWish X ce)) [] H' b := fun {σ' H' s'} I' hn b hb =>
    ⟨hn b hb, (I'.ok.exf b hb).1, I'.ok.exfs b hb, .inl hb, fun x c e => (I'.ok.exf b hb).2 x c e, fun p hp => absurd (show p ∈ ([] : List (Addr × Obj)) ++ [] from hp) (by simp)⟩
  -- what the loop's code owes where it raises
  have fails : ∀ e s', blkWish X ce e s' → notedBy (model X.prog X.w) X.A ce (fun e s' => compEnds (model X.prog X.w) X.A X.xe use Qf (.ref D) ce (.error e) s') e s' := fun e s' z => by
    cases use <;> exact z
  have loop : codeAny (model X.prog X.w) X.A (.compLoop (.ListComp elt [⟨tg, iter, ifs, 0⟩] scope pos) 0 (.ref it) (.ref D) ce) (compEnds (model X.prog X.w) X.A X.xe use Qf (.ref D) ce) s4 := by
    refine compLoop_any (fun n s' => ∃ i H', Inv (blkX X s3 H3 scope ce fp (blkWish X ce)) [] (wipe σ (own.map (·.2))) H' s' ∧ tn i s'.heap ∧ (∀ b ∈ fp, H' b = none) ∧ W i n H') ?_ m0 ⟨0, H3, I4, tn4, fun b hb => (f3 b hb).1.1, w0⟩
    rintro n s5 ⟨i, H5, I5, tn5, n5, w5⟩
    rcases turn i n H5 w5 with ⟨stop, qq⟩ | ⟨go, Nx, hNx, step⟩
    · have td := T.done (blkX X s3 H3 scope ce fp (blkWish X ce)) rfl rfl rfl hc i [] s5 _ H5 (fun _ _ => False) I5 (stat I5 n5) tn5 stop
      refine wpAny_mono td (fun r s6 hr => ?_) fun _ _ z => z.elim
      obtain ⟨rfl, I6⟩ := hr
      have I7 : Inv X pins σ H5 s6 := I3.call' (ch := fp) I6.os I6.base I6.hok I6.bare fun b hb => ⟨(f3 b hb).1.2.2.2.1, (f3 b hb).1.2.1, (f3 b hb).1.2.2.2.2.1, (f3 b hb).1.2.2.2.2.2⟩
      obtain ⟨m, hn, _⟩ := I6.loc
      have nC : H5 ce.locals = none := I6.free
      exact hRR D ce s6 m H5 I7 qq hn (by rw [cL0] at nC ⊢; exact I3.fpOk (Nat.le_refl _) nC)
    · have ti := T.item (blkX X s3 H3 scope ce fp (blkWish X ce)) rfl rfl rfl hc i [] s5 _ H5 (fun _ _ => False) I5 (stat I5 n5) tn5 go
      refine wpAny_mono ti (fun r s6 hr => ?_) fun _ _ z => z.elim
      obtain ⟨u, rfl, h6⟩ := hr
      refine wpAny_mono h6 (fun _ s7 h7 => ?_) fun _ _ z => z.elim
      obtain ⟨x, H7, I7, r7, y7, tn7, n7⟩ := h7
      have I7' := I7.pinned (stat I7 n7) (T.obj _ _ tn7)
      refine wpAny_mono (pg.run _ s7 _ H7 x u _ I7' r7 (step x H7 y7)) (fun _ s8 h8 => ?_) fails
      obtain ⟨σ8, H8, I8, hw8, q8⟩ := h8
      refine wpAny_mono (pt.run _ s8 σ8 H8 _ I8 q8) (fun b s9 h9 => ?_) fails
      obtain ⟨H9, I9, q9⟩ := h9
      have fin : ∀ {s' : Shared} {H' : Hp}, Inv (blkX X s3 H3 scope ce fp (blkWish X ce)) ([] ++ pinsAt fp s7.heap) σ8 H' s' → Nx H' → ∃ m, m < n ∧ ∃ i H', Inv (blkX X s3 H3 scope ce fp (blkWish X ce)) [] (wipe σ (own.map (·.2))) H' s' ∧ tn i s'.heap ∧ (∀ b ∈ fp, H' b = none) ∧ W i m H' := fun {s' H'} I' nx => by
        obtain ⟨m', hm, w'⟩ := hNx H' nx
        have pin' : ∀ c ∈ fp, ∀ o, s7.heap.get? c = some o → s'.heap.get? c = some o ∧ H' c = none := fun c hc o e =>
          let z := I'.pin (c, o) (List.mem_append_right _ (List.mem_append_right _ (mem_pinsAt hc e)))
          ⟨z.1, z.2.1⟩
        have hl : (wipe σ (own.map (·.2))).length = σ8.length := by rw [← hw8, wipe_length]
        refine ⟨m', hm, i + 1, H', (I'.unpinned (pins := [])).weak hl (fun j v e => by rw [← hw8] at e; exact (wipe_some e).1), T.keep _ _ _ tn7 fun c hc o e => (pin' c hc o e).1, fun c hc => ?_, w'⟩
        obtain ⟨o, e, _⟩ := T.obj _ _ tn7 c hc
        exact (pin' c hc o e).2
      cases b with
      | false =>
        simp only [Bool.false_eq_true, if_false] at q9 ⊢
        exact fin I9 q9
      | true =>
        simp only [if_true] at q9 ⊢
        refine wpAny_mono (pe.run _ s9 σ8 H9 _ I9 q9) (fun z s10 h10 => ?_) fails
        obtain ⟨yv, H10, I10, r10, acc, hD10, hz10, nx⟩ := h10
        exact app_ok (X := blkX X s3 H3 scope ce fp (blkWish X ce)) I10 hD10 hz10 r10 fun s11 I11 => fin I11 nx
  exact codeAny_compStart_list loop (T.self X.A 0 _ _ _ tn4 loop)

/-- [elt for tg in iter if ..] as a value; the element, or a test, may raise -/
theorem pe_lcX {elt tg iter : Expr} {ifs : List Expr} {scope : Scope} {own : List (Str × Nat)} {pos : Pos} {wi : TI} {g : TG} {tt : TT} {te : TE} (hc : X.calm = true) (hN : X.N.Nodup) (f : FrX X fe fo L) (tk : TakesF X L E) (hi : PI X tg iter wi) (ok : BlkOk X.N X.env.scope scope own)
    (hg : ∀ (s : Shared) (H : Hp) (C : Addr) (cl : List (Str × Addr)) (fp : List Addr) (xe : Value → Shared → Prop), PG (blkX X s H scope (compEnvC scope cl C X.env) fp xe) tg g)
    (ht : ∀ (s : Shared) (H : Hp) (C : Addr) (cl : List (Str × Addr)) (fp : List Addr) (xe : Value → Shared → Prop), TakesF (blkX X s H scope (compEnvC scope cl C X.env) fp xe) L E → PTs (blkX X s H scope (compEnvC scope cl C X.env) fp xe) ifs tt)
    (he : ∀ (s : Shared) (H : Hp) (C : Addr) (cl : List (Str × Addr)) (fp : List Addr) (xe : Value → Shared → Prop), TakesF (blkX X s H scope (compEnvC scope cl C X.env) fp xe) L E → PE (blkX X s H scope (compEnvC scope cl C X.env) fp xe) elt te)
    (hs : ∀ x, foldedSetIterable iter X.env x = pure x := by intro _; rfl) : PE X (.ListComp elt [⟨tg, iter, ifs, 0⟩] scope pos) (tLc wi g tt te (own.map (·.2))) := by
  refine ⟨fun pins s σ H Q I h => ?_⟩
  rw [eval_ListComp]
  refine lcX_core hc hN f tk I hi ok hg ht he hs h fun D ce s' m H' I' q hn fo => ⟨m, hn, fun h2 sb => ?_⟩
  obtain ⟨f0, f1, f2, f3, f4, f5⟩ := fo
  exact ⟨.ref D, H', I'.turned (t' := s'.toks) (fun b o hb e => (sb.2 b hb).trans e) f0 f1 f3 f4 f5, rfl, q⟩
/-- name = [..] on one line, the name a local -/
theorem ps_setLcX {i : Nat} {y : Str} {py : Pos} {elt tg iter : Expr} {ifs : List Expr} {scope : Scope} {own : List (Str × Nat)} {pos spos : Pos} {wi : TI} {g : TG} {tt : TT} {te : TE} (hc : X.calm = true) (hN : X.N.Nodup) (f : FrX X fe fo L) (tk : TakesF X L E)
    (hy : X.N[i]? = some y) (hyl : X.env.scope.names.lookup y = some .local)
    (hsw : swapsWith (.ListComp elt [⟨tg, iter, ifs, 0⟩] scope pos) (some (.Name y py)) spos.line X.env = pure true) (hi : PI X tg iter wi) (ok : BlkOk X.N X.env.scope scope own)
    (hg : ∀ (s : Shared) (H : Hp) (C : Addr) (cl : List (Str × Addr)) (fp : List Addr) (xe : Value → Shared → Prop), PG (blkX X s H scope (compEnvC scope cl C X.env) fp xe) tg g)
    (ht : ∀ (s : Shared) (H : Hp) (C : Addr) (cl : List (Str × Addr)) (fp : List Addr) (xe : Value → Shared → Prop), TakesF (blkX X s H scope (compEnvC scope cl C X.env) fp xe) L E → PTs (blkX X s H scope (compEnvC scope cl C X.env) fp xe) ifs tt)
    (he : ∀ (s : Shared) (H : Hp) (C : Addr) (cl : List (Str × Addr)) (fp : List Addr) (xe : Value → Shared → Prop), TakesF (blkX X s H scope (compEnvC scope cl C X.env) fp xe) L E → PE (blkX X s H scope (compEnvC scope cl C X.env) fp xe) elt te)
    (hs : ∀ x, foldedSetIterable iter X.env x = pure x := by intro _; rfl) : PS X (.Assign [.Name y py] (.ListComp elt [⟨tg, iter, ifs, 0⟩] scope pos) spos) (tAsg (tLc wi g tt te (own.map (·.2))) (gName i)) := by
  refine ⟨fun pins s σ H D I h => ?_⟩
  rw [exec_Assign_Name_used _ _ _ _ hsw]
  refine wpAny_bind (wpAny_standAt (wpAny_bind ?_))
  show wpAny _ X.A (do let _ ← comprehension (.ListComp elt [⟨tg, iter, ifs, 0⟩] scope pos) scope X.env (firstIterPos [⟨tg, iter, ifs, 0⟩] pos) (newList []) false (eval iter X.env) (some (assign (.Name y py) X.env))) _ _ s
  have h : tLc wi g tt te (own.map (·.2)) σ H (fun x H1 => gName i x σ H1 D.nx) := h
  refine wpAny_bind (wpAny_mono (lcX_core (Qf := fun _ s' => SP X pins D .next s') hc hN f tk I hi ok hg ht he hs h fun A ce s' m H' I' q hn fo => ?_) (fun _ s' hq => wpAny_pure (wpAny_pure hq)) fun _ _ z => z)
  show wpAny _ _ (assign (.Name y py) X.env (.ref A)) _ _ _
  refine wpAny_assign_Name (store_ok2 (v := V.ref A) I' hN hy (.inl hyl) rfl (fun s2 I2 ⟨a, sb, ha⟩ => ?_) (.inr hyl))
  obtain ⟨f0, f1, f2, f3, f4, f5⟩ := fo
  have haC : ce.locals ≠ a := by
    rcases ha with z | z
    · rw [z]; exact f1
    · exact fun e => f4 y a z e.symm
  refine ⟨m, hn.sameBut sb haC, fun h3 sb3 => ?_⟩
  exact ⟨_, H', I2.turned (t' := s2.toks) (fun b o hb e => (sb3.2 b hb).trans e) f0 f1 f3 f4 f5, q⟩
end
end VW
set_option Elab.async false
set_option linter.all false
set_option maxRecDepth 100000
set_option maxHeartbeats 2000000
/-! The voices layer, part 3: data in the heap, what only grows, defs with their code. -/
namespace VW
open PySem PySem.Spec PyProof.Rows L2 GxR

/-! ### the heap grows: objects are kept, tables of code stay tables of code -/
def Ext (H H' : Hp) : Prop := ∀ b o, H b = some o → H' b = some o ∨ ∃ ps ps', o = .tbl ps ∧ TriplesOk ps.toList ∧ H' b = some (.tbl ps') ∧ TriplesOk ps'.toList
section
variable {H H1 H2 : Hp} {a p : Addr} {o : HO} {xs : List V}
theorem Ext.refl (H : Hp) : Ext H H := fun _ _ e => .inl e
theorem Ext.trans (x : Ext H H1) (y : Ext H1 H2) : Ext H H2 := fun b o e => by
  rcases x b o e with e1 | ⟨ps, ps1, rfl, t0, e1, t1⟩
  · exact y b o e1
  · rcases y b _ e1 with e2 | ⟨q, q2, eq, _, e2, t2⟩
    · exact .inr ⟨ps, ps1, rfl, t0, e2, t1⟩
    · exact .inr ⟨ps, q2, rfl, t0, e2, t2⟩
theorem Ext.keep (x : Ext H H1) (e : H a = some o) (h : ∀ ps, o ≠ .tbl ps) : H1 a = some o := by
  rcases x a o e with e1 | ⟨ps, _, z, _⟩
  · exact e1
  · exact absurd z (h ps)
theorem Ext.lst (x : Ext H H1) (e : H a = some (.lst xs)) : H1 a = some (.lst xs) := x.keep e fun _ z => by cases z
theorem Ext.tup (x : Ext H H1) (e : H a = some (.tup xs)) : H1 a = some (.tup xs) := x.keep e fun _ z => by cases z
theorem Ext.new (e : H p = none) : Ext H (upd H p o) := fun b u q => .inl (by rw [upd_ne (ne_of_none q e)]; exact q)
theorem Ext.upd (x : Ext H H1) (e : H p = none) : Ext H (upd H1 p o) := fun b u q => by
  rw [upd_ne (ne_of_none q e)]
  exact x b u q
theorem Ext.free (x : Ext H H1) (e : H1 p = none) : H p = none := by
  cases q : H p with
  | none => rfl
  | some u =>
    rcases x p u q with z | ⟨_, _, _, _, z, _⟩ <;> rw [e] at z <;> cases z
theorem Ext.tab (x : Ext H H1) (t : TabG H a) : TabG H1 a := by
  obtain ⟨ps, e, tr⟩ := t
  rcases x a _ e with e1 | ⟨_, ps1, _, _, e1, t1⟩
  · exact ⟨ps, e1, tr⟩
  · exact ⟨ps1, e1, t1⟩
theorem Ext.tabbed (t : TabG H a) (y : Tabbed a H H1) : Ext H H1 := fun b o e => by
  by_cases hb : b = a
  · obtain ⟨ps, e1, tr⟩ := t
    obtain ⟨⟨ps', e2, tr'⟩, _⟩ := y
    rw [hb] at e ⊢
    rw [e1] at e
    cases e
    exact .inr ⟨ps, ps', rfl, tr, e2, tr'⟩
  · exact .inl (by rw [y.2 b hb]; exact e)
/-- the tables of the defs that hold generator expressions -/
def Tabs (Ps : List Addr) (H : Hp) : Prop := ∀ P ∈ Ps, TabG H P
theorem Ext.tabs {Ps : List Addr} (x : Ext H H1) (t : Tabs Ps H) : Tabs Ps H1 := fun P hP => x.tab (t P hP)
theorem Ext.rd (x : Ext H H1) (h : ∀ ps, o ≠ .tbl ps) (r : Rd H a o) : Rd H1 a o := by
  rcases r with e | ⟨ob, e⟩
  · exact .inl (x.keep e h)
  · exact .inr ⟨ob, x.keep e fun _ z => by cases z⟩
theorem Ext.sqL {K : PySem.W.Frag} (x : Ext H H1) (h : SqL K H a xs) : SqL K H1 a xs := by
  rcases h with r | r
  · exact .inl (x.rd (fun _ z => by cases z) r)
  · exact .inr r
theorem Ext.sqT {K : PySem.W.Frag} (x : Ext H H1) (h : SqT K H a xs) : SqT K H1 a xs := by
  rcases h with r | r
  · exact .inl (x.rd (fun _ z => by cases z) r)
  · exact .inr r
end

/-! ### data -/
inductive D where
  | non | bl (b : Bool) | int (i : Int) | str (x : Str) | tup (l : List D) | lst (l : List D) | dic
mutual
inductive At (K : PySem.W.Frag) (H : Hp) : V → D → Prop
  | non : At K H .non .non
  | bl (b : Bool) : At K H (.bl b) (.bl b)
  | int (i : Int) : At K H (.int i) (.int i)
  | str (x : Str) : At K H (.str x) (.str x)
  | lst {a : Addr} {xs : List V} {ds : List D} : SqL K H a xs → AtAll K H xs ds → At K H (.ref a) (.lst ds)
  | tup {a : Addr} {xs : List V} {ds : List D} : SqT K H a xs → AtAll K H xs ds → At K H (.ref a) (.tup ds)
  | dic {a : Addr} {kvs : List (Key × V)} : H a = some (.dK kvs) → At K H (.ref a) .dic
inductive AtAll (K : PySem.W.Frag) (H : Hp) : List V → List D → Prop
  | nil : AtAll K H [] []
  | cons {v : V} {vs : List V} {d : D} {ds : List D} : At K H v d → AtAll K H vs ds → AtAll K H (v :: vs) (d :: ds)
end
section
variable {K : PySem.W.Frag} {H H1 : Hp}
mutual
theorem At.ext (x : Ext H H1) : ∀ (d : D) (v : V), At K H v d → At K H1 v d
  | .non, _, h => by cases h; exact .non
  | .bl b, _, h => by cases h; exact .bl b
  | .int i, _, h => by cases h; exact .int i
  | .str y, _, h => by cases h; exact .str y
  | .lst ds, _, h => by
    cases h with
    | lst hs ha => exact .lst (x.sqL hs) (AtAll.ext x ds _ ha)
  | .tup ds, _, h => by
    cases h with
    | tup hs ha => exact .tup (x.sqT hs) (AtAll.ext x ds _ ha)
  | .dic, _, h => by
    cases h with
    | dic e => exact .dic (x.keep e fun _ z => by cases z)
theorem AtAll.ext (x : Ext H H1) : ∀ (ds : List D) (vs : List V), AtAll K H vs ds → AtAll K H1 vs ds
  | [], _, h => by cases h; exact .nil
  | d :: ds, _, h => by
    cases h with
    | cons h1 h2 => exact .cons (At.ext x d _ h1) (AtAll.ext x ds _ h2)
end
theorem AtAll.length : ∀ {vs : List V} {ds : List D}, AtAll K H vs ds → vs.length = ds.length
  | _, _, .nil => rfl
  | _, _, .cons _ t => congrArg (· + 1) t.length
theorem AtAll.get : ∀ {vs : List V} {ds : List D} {i : Nat} {v : V}, AtAll K H vs ds → vs[i]? = some v → ∃ d, ds[i]? = some d ∧ At K H v d
  | _, _, i, v, .nil, e => by simp at e
  | _, _, 0, v, .cons h _, e => by simp at e; subst e; exact ⟨_, rfl, h⟩
  | _, _, i + 1, v, .cons _ t, e => by
    obtain ⟨d, h1, h2⟩ := AtAll.get (i := i) t (by simpa using e)
    exact ⟨d, by simpa using h1, h2⟩
theorem AtAll.get' : ∀ {vs : List V} {ds : List D} {i : Nat} {d : D}, AtAll K H vs ds → ds[i]? = some d → ∃ v, vs[i]? = some v ∧ At K H v d
  | _, _, i, d, .nil, e => by simp at e
  | _, _, 0, d, .cons h _, e => by simp at e; subst e; exact ⟨_, rfl, h⟩
  | _, _, i + 1, d, .cons _ t, e => by
    obtain ⟨v, h1, h2⟩ := AtAll.get' (i := i) t (by simpa using e)
    exact ⟨v, by simpa using h1, h2⟩
theorem AtAll.append : ∀ {vs ws : List V} {ds es : List D}, AtAll K H vs ds → AtAll K H ws es → AtAll K H (vs ++ ws) (ds ++ es)
  | _, _, _, _, .nil, s => s
  | _, _, _, _, .cons h t, s => .cons h (AtAll.append t s)
theorem AtAll.ints : ∀ ns : List Int, AtAll K H (ns.map V.int) (ns.map D.int)
  | [] => .nil
  | n :: ns => .cons (.int n) (AtAll.ints ns)
/-- the name of its type -/
def D.ty : D → String
  | .non => "NoneType" | .bl _ => "bool" | .int _ => "int" | .str _ => "str" | .tup _ => "tuple" | .lst _ => "list" | .dic => "dict"
theorem SqL.tyX {a : Addr} {xs : List V} (h : SqL K H a xs) : TyX K H (.ref a) (.type "list") := by
  rcases h with (e | ⟨o, e⟩) | ⟨o, its, n, e, c, _⟩
  · exact .base (.lst e)
  · exact .base (.frz e)
  · exact .kList e c
theorem SqT.tyX {a : Addr} {xs : List V} (h : SqT K H a xs) : TyX K H (.ref a) (.type "tuple") := by
  rcases h with (e | ⟨o, e⟩) | ⟨o, its, n, e, c, _⟩
  · exact .base (.tup e)
  · exact .fTuple e
  · exact .kTuple e c
theorem At.tyX {v : V} {d : D} (h : At K H v d) : TyX K H v (.type d.ty) := by
  cases h with
  | non => exact .base .non
  | bl b => exact .base (.bl b)
  | int i => exact .base (.int i)
  | str x => exact .base (.str x)
  | lst hs _ => exact SqL.tyX hs
  | tup hs _ => exact SqT.tyX hs
  | dic e => exact .base (.dK e)
end
end VW
set_option Elab.async false
set_option linter.all false
set_option maxRecDepth 100000
set_option maxHeartbeats 2000000
namespace VW
open PySem PySem.Spec PyProof.Rows L2 GxR

/-! ### a def of the text with its code object -/
structure FunC (K : PySem.W.Frag) (x qual : Str) (st : Stmt) (f c : Addr) (fd : FuncData) : Prop where
  ex : ∃ (oc : Value) (od : Option Addr) (kV doc pm : Value) (an : Option Addr) (ct : Value) (osl : Array (Option Value)),
    fd = PySem.W.fnOf x qual (defArgs st) (defBody st) (defScope st) .none kV doc pm an (.ref c) ct ∧ K.lookup f = some ⟨oc, od, .func fd, osl⟩ ∧ PySem.W.codeIn K (.ref c) qual = true
  kp : PySem.W.keepIn K (.ref f) = true
theorem FunC.mk' {K : PySem.W.Frag} {x qual : Str} {st : Stmt} {f c : Addr} {oc : Value} {od an : Option Addr} {osl : Array (Option Value)} {kV doc pm ct : Value}
    (l : K.lookup f = some ⟨oc, od, .func (PySem.W.fnOf x qual (defArgs st) (defBody st) (defScope st) .none kV doc pm an (.ref c) ct), osl⟩)
    (h : PySem.W.codeIn K (.ref c) qual = true) (k : PySem.W.keepIn K (.ref f) = true) : FunC K x qual st f c (PySem.W.fnOf x qual (defArgs st) (defBody st) (defScope st) .none kV doc pm an (.ref c) ct) :=
  ⟨⟨oc, od, kV, doc, pm, an, ct, osl, rfl, l, h⟩, k⟩

/-- what a caller needs of a def: where it stands, what it keeps -/
structure Own (P : Program) (w : World) (K : PySem.W.Frag) (mg : Str → Option Value) (base : Heap) (CX : CXT) (k : Nat) (x : Str) (ps : List Str) (sp : Sp) : Prop where
  ex : ∃ (f : Addr) (fd : FuncData), mg x = some (.ref f) ∧ PySem.W.keepIn K (.ref f) = true ∧ FnOk P w K mg base CX k f fd ps sp ∧ Binds K fd ps []
theorem Own.up {P : Program} {w : World} {K : PySem.W.Frag} {mg : Str → Option Value} {base : Heap} {CX : CXT} {j k : Nat} {x : Str} {ps : List Str} {sp : Sp} (G : Own P w K mg base CX j x ps sp) (h : j ≤ k) : Own P w K mg base CX k x ps sp := by
  obtain ⟨f, fd, a, b, c, d⟩ := G.ex
  exact ⟨f, fd, a, b, c.mono h, d⟩
theorem Own.imp {P : Program} {w : World} {K : PySem.W.Frag} {mg : Str → Option Value} {base : Heap} {CX : CXT} {k : Nat} {x : Str} {ps : List Str} {sp sp' : Sp} (G : Own P w K mg base CX k x ps sp) (h : ∀ vs H Q E, sp' vs H Q E → sp vs H Q E) :
    Own P w K mg base CX k x ps sp' := by
  obtain ⟨f, fd, a, b, c, d⟩ := G.ex
  exact ⟨f, fd, a, b, c.imp h, d⟩

section
variable {X : Cx} {CX : CXT} {k : Nat} {ps : List Str} {sp : Sp} {E : XK} {x : Str} {p pos : Pos} {e : Expr} {es : List Expr} {t : TA}
/-- f(..), f a def of the text -/
theorem pe_own (G : Own X.prog X.w X.K X.mg X.base CX k x ps sp) (hr : Room k X.A) (hx : Passes CX X E) (ha : PA X (e :: es) t) (hg : Gl X x := by rfl)
    (hdb : (x == ("__debug__" : Str)) = false := by decide) (he : starEach (e :: es) X.env = (false, eval e X.env) :: starEach es X.env := by rfl) (hpl : (backTo pos (starEach es X.env)).any (·.1) = false := by rfl) :
    PE X (.Call (.Name x p) (e :: es) [] pos) (tCall sp [] E t) := by
  obtain ⟨f, fd, hm, hk, F, b⟩ := G.ex
  exact pe_call F hr hg hm hk b .nil hx ha hdb he hpl
/-- where nothing is raised -/
theorem pe_own0 (G : Own X.prog X.w X.K X.mg X.base CX0 k x ps sp) (hr : Room k X.A) (ha : PA X (e :: es) t) (hg : Gl X x := by rfl)
    (hdb : (x == ("__debug__" : Str)) = false := by decide) (he : starEach (e :: es) X.env = (false, eval e X.env) :: starEach es X.env := by rfl) (hpl : (backTo pos (starEach es X.env)).any (·.1) = false := by rfl) :
    PE X (.Call (.Name x p) (e :: es) [] pos) (tCall sp [] E0 t) := pe_own G hr pass0 ha hg hdb he hpl
/-- where what is raised is wished for by the slots (a try's body) -/
theorem pe_ownS {W : WX} (G : Own X.prog X.w X.K X.mg X.base (L2.CX X.prog X.w) k x ps sp) (hr : Room k X.A) (tk : Takes X W) (ha : PA X (e :: es) t) (hg : Gl X x := by rfl)
    (hdb : (x == ("__debug__" : Str)) = false := by decide) (he : starEach (e :: es) X.env = (false, eval e X.env) :: starEach es X.env := by rfl) (hpl : (backTo pos (starEach es X.env)).any (·.1) = false := by rfl) :
    PE X (.Call (.Name x p) (e :: es) [] pos) (tCallS sp (WE W) t) := by
  obtain ⟨f, fd, hm, hk, F, b⟩ := G.ex
  exact pe_callS F hr hg hm hk b (fun σ => passAt tk σ) ha hdb he hpl
/-- a constant of the module -/
theorem pe_num {i : Int} (hm : ∃ t, X.mg x = some (.int i t)) (hg : Gl X x := by rfl) (hd : (x == ("__debug__" : Str)) = false := by decide) : PE X (.Name x p) (tC (.int i)) := by
  obtain ⟨t, hm⟩ := hm
  exact pe_glob hg hm ⟨t, rfl⟩ hd
end

section
variable {P : Program} {w : World} {K : PySem.W.Frag} {mg : Str → Option Value} {base : Heap}
/-- a def that raises nothing: by its body's rules and their reading -/
theorem ok0 {x : Str} {st : Stmt} {f c : Addr} {fd : FuncData} {N ps : List Str} {k : Nat} {sp : Sp} (F : FunC K x x st f c fd) (S : FnScope N ps (defScope st))
    (hb : ∀ (kV doc pm : Value) (an : Option Addr) (cdv ct : Value) (us : List Value), us.length = ps.length → bindArgs (PySem.W.fnOf x x (defArgs st) (defBody st) (defScope st) .none kV doc pm an cdv ct) ⟨us, []⟩ = pure (ps.zip us))
    (len : ∀ vs H Q E, sp vs H Q E → vs.length = ps.length)
    (hbody : ∀ (A : Around) (outer : List Env) (s : Shared) (H : Hp) (vs : List V) (Q : VK) (E : XK), Room k (A.deeper (envOfC x (defScope st) s.heap.objs.size f (.ref c))) → sp vs H Q E →
      ∃ t, PSs (cxOf CX0 P w K mg base N x (defScope st) f (.ref c) A outer s H E).nox (defBody st) t ∧ t { nx := fun _ H' => Q .non H', rt := Q } (start N vs) H) :
    FnOk P w K mg base CX0 (k + 1) f fd ps sp := by
  obtain ⟨⟨oc, od, kV, doc, pm, an, ct, osl, rfl, lk, hcd⟩, kp⟩ := F
  refine fn_of lk hcd S len fun A outer s H vs Q E hr hsp => ?_
  obtain ⟨t, h, q⟩ := hbody A outer s H vs Q E hr hsp
  exact ⟨t, h.nox, q⟩
/-- a def that raises nothing: by its body's rules and their reading -/
theorem own0 {x : Str} {st : Stmt} {f c : Addr} {fd : FuncData} {N ps : List Str} {k : Nat} {sp : Sp} (F : FunC K x x st f c fd) (hm : mg x = some (.ref f)) (S : FnScope N ps (defScope st))
    (hb : ∀ (kV doc pm : Value) (an : Option Addr) (cdv ct : Value) (us : List Value), us.length = ps.length → bindArgs (PySem.W.fnOf x x (defArgs st) (defBody st) (defScope st) .none kV doc pm an cdv ct) ⟨us, []⟩ = pure (ps.zip us))
    (len : ∀ vs H Q E, sp vs H Q E → vs.length = ps.length)
    (hbody : ∀ (A : Around) (outer : List Env) (s : Shared) (H : Hp) (vs : List V) (Q : VK) (E : XK), Room k (A.deeper (envOfC x (defScope st) s.heap.objs.size f (.ref c))) → sp vs H Q E →
      ∃ t, PSs (cxOf CX0 P w K mg base N x (defScope st) f (.ref c) A outer s H E).nox (defBody st) t ∧ t { nx := fun _ H' => Q .non H', rt := Q } (start N vs) H) :
    Own P w K mg base CX0 (k + 1) x ps sp := by
  obtain ⟨⟨oc, od, kV, doc, pm, an, ct, osl, rfl, lk, hcd⟩, kp⟩ := F
  refine ⟨f, _, hm, kp, fn_of lk hcd S len fun A outer s H vs Q E hr hsp => ?_, .all (hb kV doc pm an (.ref c) ct)⟩
  obtain ⟨t, h, q⟩ := hbody A outer s H vs Q E hr hsp
  exact ⟨t, h.nox, q⟩
/-- a def that may raise -/
theorem ownX {x : Str} {st : Stmt} {f c : Addr} {fd : FuncData} {N ps : List Str} {k : Nat} {sp : Sp} (F : FunC K x x st f c fd) (hm : mg x = some (.ref f)) (S : FnScope N ps (defScope st))
    (hb : ∀ (kV doc pm : Value) (an : Option Addr) (cdv ct : Value) (us : List Value), us.length = ps.length → bindArgs (PySem.W.fnOf x x (defArgs st) (defBody st) (defScope st) .none kV doc pm an cdv ct) ⟨us, []⟩ = pure (ps.zip us))
    (len : ∀ vs H Q E, sp vs H Q E → vs.length = ps.length)
    (hbody : ∀ (A : Around) (outer : List Env) (s : Shared) (H : Hp) (vs : List V) (Q : VK) (E : XK), Room k (A.deeper (envOfC x (defScope st) s.heap.objs.size f (.ref c))) → sp vs H Q E →
      ∃ t, PSs (cxOf (L2.CX P w) P w K mg base N x (defScope st) f (.ref c) A outer s H E) (defBody st) t ∧ t { nx := fun _ H' => Q .non H', rt := Q } (start N vs) H) :
    Own P w K mg base (L2.CX P w) (k + 1) x ps sp := by
  obtain ⟨⟨oc, od, kV, doc, pm, an, ct, osl, rfl, lk, hcd⟩, kp⟩ := F
  exact ⟨f, _, hm, kp, fn_of lk hcd S len hbody, .all (hb kV doc pm an (.ref c) ct)⟩
end

/-- in a def's body: the frame that runs, and what leaves it -/
theorem frX_def {CX : CXT} {P : Program} {w : World} {K : PySem.W.Frag} {mg : Str → Option Value} {base : Heap} {N : List Str} {qual : Str} {scope : Scope} {f : Addr} {cd : Value} {A : Around} {outer : List Env} {s : Shared} {H : Hp} {E : XK} :
    FrX (cxOf CX P w K mg base N qual scope f cd A outer s H E) (envOfC qual scope s.heap.objs.size f cd) outer s.heap.objs.size := ⟨rfl, rfl, rfl⟩
theorem takes_def {P : Program} {w : World} {K : PySem.W.Frag} {mg : Str → Option Value} {base : Heap} {N : List Str} {qual : Str} {scope : Scope} {f : Addr} {cd : Value} {A : Around} {outer : List Env} {s : Shared} {H : Hp} {E : XK} :
    Takes (cxOf (L2.CX P w) P w K mg base N qual scope f cd A outer s H E) (fun cls d _ H' => E cls d H') := takes_of rfl rfl rfl rfl
theorem takesF_def {P : Program} {w : World} {K : PySem.W.Frag} {mg : Str → Option Value} {base : Heap} {N : List Str} {qual : Str} {scope : Scope} {f : Addr} {cd : Value} {A : Around} {outer : List Env} {s : Shared} {H : Hp} {E : XK} :
    TakesF (cxOf (L2.CX P w) P w K mg base N qual scope f cd A outer s H E) s.heap.objs.size E := TakesF.of takes_def
/-- raise X('..') in a def, X an own class without __init__ of its own -/
structure ExcC (K : PySem.W.Frag) (mg : Str → Option Value) (x : Str) (C : Addr) : Prop where
  g : mg x = some (.ref C)
  x : PySem.W.excIn K C [.type "ValueError", .type "Exception", .type "BaseException", .type "object"] "ValueError.__new__" = true
  k : PySem.W.keepIn K (.ref C) = true
  b : PySem.W.subIn K (.ref C) (.type "BaseException") = some true
  t : PySem.W.typeIn K (.ref C) = some (.type "type")
theorem ps_raiseC {X : Cx} {W : WX} {x m : Str} {C : Addr} {j : Nat} {p p2 pos pos2 : Pos} (hc : X.calm = true) (T : ExcC X.K X.mg x C) (tk : Takes X W) (hg : Gl X x := by rfl) (hdb : (x == ("__debug__" : Str)) = false := by decide) :
    PS X (.Raise (some (.Call (.Name x p) [.Constant (.str m) j p2] [] pos)) none pos2) (fun _ σ H => W (.ref C) none σ H) :=
  ps_raise hc tk (pmk_own PySem.F.excBase_ValueError T.x T.g T.k (raises_own T.b T.t) hg hdb)
end VW
set_option Elab.async false
set_option linter.all false
set_option maxRecDepth 100000
set_option maxHeartbeats 2000000
namespace VW
open PySem PySem.Spec PyProof.Rows L2 GxR

/-! ### readings by name -/
abbrev kAdd : R2 := rI0 fun i j => .int (i + j)
abbrev kSub : R2 := rI0 fun i j => .int (i - j)
abbrev kMul : R2 := rI CMul fun i j => .int (i * j)
abbrev kDiv : R2 := rI CDivN fun i j => .int (i.fdiv j)
abbrev kMod : R2 := rI (fun _ j => j ≠ 0) fun i j => .int (i.fmod j)
abbrev kPow : R2 := rI CPow fun i j => .int (i ^ j.toNat)
abbrev kLt : R2 := rI0 fun i j => .bl (decide (i < j))
abbrev kLe : R2 := rI0 fun i j => .bl (decide (i ≤ j))
abbrev kGt : R2 := rI0 fun i j => .bl (decide (j < i))
abbrev kGe : R2 := rI0 fun i j => .bl (decide (j ≤ i))
abbrev kAddS : R2 := fun x y H Q => ∃ i j, x = .str i ∧ y = .str j ∧ i.length + j.length ≤ sizeLine ∧ Q (.str (i ++ j)) H
abbrev kNeg : V → Hp → VK → Prop := rU fun i => .int (-i)
abbrev kIsN : R2 := fun x y H Q => y = .non ∧ Q (.bl (decide (x = .non))) H
abbrev kNotN : R2 := fun x y H Q => y = .non ∧ Q (.bl (!decide (x = .non))) H
abbrev kLen (K : PySem.W.Frag) : List V → Hp → VK → Prop := fun xs H Q => ∃ x n, xs = [x] ∧ LenV K x H n ∧ Q (.int n) H
abbrev kInt1 : List V → Hp → VK → Prop := fun xs H Q => (∃ i, xs = [.int i] ∧ Q (.int i) H) ∨ ∃ k, xs = [.bl k] ∧ Q (.int (if k then 1 else 0)) H
abbrev kMax2 : List V → Hp → VK → Prop := fun xs H Q => ∃ i j, xs = [.int i, .int j] ∧ Q (.int (if j > i then j else i)) H
abbrev kMin2 : List V → Hp → VK → Prop := fun xs H Q => ∃ i j, xs = [.int i, .int j] ∧ Q (.int (if j < i then j else i)) H
abbrev kList (K : PySem.W.Frag) : List V → Hp → VK → Prop := fun xs H Q => ∃ p ys, xs = [.ref p] ∧ (SqL K H p ys ∨ SqT K H p ys) ∧ ∀ l, H l = none → Q (.ref l) (upd H l (.lst ys))
abbrev kTru (K : PySem.W.Frag) (te : TE) : TT := fun σ H Q => te σ H fun x H' => ∃ k, TruV K x H' k ∧ Q k H'

/-! ### the built-in names -/
theorem bo_isinstance : bootBuiltins "isinstance" = some (.builtin "isinstance") := by decide +kernel
theorem bo_len : bootBuiltins "len" = some (.builtin "len") := by decide +kernel
theorem bo_max : bootBuiltins "max" = some (.builtin "max") := by decide +kernel
theorem bo_min : bootBuiltins "min" = some (.builtin "min") := by decide +kernel
theorem bo_sorted : bootBuiltins "sorted" = some (.builtin "sorted") := by decide +kernel
theorem bo_int : bootBuiltins "int" = some (.type "int") := by decide +kernel
theorem bo_bool : bootBuiltins "bool" = some (.type "bool") := by decide +kernel
theorem bo_str : bootBuiltins "str" = some (.type "str") := by decide +kernel
theorem bo_list : bootBuiltins "list" = some (.type "list") := by decide +kernel
theorem bo_tuple : bootBuiltins "tuple" = some (.type "tuple") := by decide +kernel
theorem bo_ValueError : bootBuiltins "ValueError" = some (.type "ValueError") := by decide +kernel
/-- none of the built-in names that are used is a name of the module -/
structure Bl (mg : Str → Option Value) : Prop where
  isinstance : mg "isinstance" = none
  len : mg "len" = none
  max : mg "max" = none
  min : mg "min" = none
  sorted : mg "sorted" = none
  all : mg "all" = none
  any : mg "any" = none
  int : mg "int" = none
  bool : mg "bool" = none
  str : mg "str" = none
  list : mg "list" = none
  tuple : mg "tuple" = none
  range : mg "range" = none
  zip : mg "zip" = none
  enumerate : mg "enumerate" = none
  ValueError : mg "ValueError" = none
section
variable {X : Cx} {p : Pos}
theorem pe_tyInt (B : Bl X.mg) (hg : Gl X "int" := by rfl) : PE X (.Name "int" p) (tC (.ty "int")) := pe_bltn hg B.int bo_int rfl
theorem pe_tyBool (B : Bl X.mg) (hg : Gl X "bool" := by rfl) : PE X (.Name "bool" p) (tC (.ty "bool")) := pe_bltn hg B.bool bo_bool rfl
theorem pe_tyStr (B : Bl X.mg) (hg : Gl X "str" := by rfl) : PE X (.Name "str" p) (tC (.ty "str")) := pe_bltn hg B.str bo_str rfl
theorem pe_tyList (B : Bl X.mg) (hg : Gl X "list" := by rfl) : PE X (.Name "list" p) (tC (.ty "list")) := pe_bltn hg B.list bo_list rfl
theorem pe_tyTuple (B : Bl X.mg) (hg : Gl X "tuple" := by rfl) : PE X (.Name "tuple" p) (tC (.ty "tuple")) := pe_bltn hg B.tuple bo_tuple rfl
theorem pe_tyVE (B : Bl X.mg) (hg : Gl X "ValueError" := by rfl) : PE X (.Name "ValueError" p) (tC (.ty "ValueError")) := pe_bltn hg B.ValueError bo_ValueError rfl
end

/-! ### what every law's text leaves: places of the classes, of the tables -/
structure Ev where
  K : PySem.W.Frag
  Ps : List Addr
  Pn : Addr
  Pp : Addr
  hPn : Pn ∈ Ps
  hPp : Pp ∈ Ps
  cWeave : Addr
  cPiece : Addr
  cNumber : Addr
  cTheme : Addr
  cEntry : Addr
  cRange : Addr
  cUneven : Addr
  cClash : Addr
  cText : Addr
def Ev.T (S : Ev) (H : Hp) : Prop := Tabs S.Ps H

/-! ### isinstance of data -/
def D.isInt : D → Bool | .int _ => true | .bl _ => true | _ => false
def D.isBl : D → Bool | .bl _ => true | _ => false
def D.isTup : D → Bool | .tup _ => true | _ => false
def D.isLst : D → Bool | .lst _ => true | _ => false
def D.isStr : D → Bool | .str _ => true | _ => false
/-- a whole number -/
def D.whole : D → Bool | .int _ => true | _ => false
section
variable {K : PySem.W.Frag} (d : D)
theorem isi_int : PySem.W.kitOne K (.type d.ty) (.type "int") = some d.isInt := by
  cases d with
  | non => exact kit_ty (show kitB "NoneType" "int" = some false by decide +kernel)
  | bl _ => exact kit_ty (show kitB "bool" "int" = some true by decide +kernel)
  | int _ => exact kit_ty (show kitB "int" "int" = some true by decide +kernel)
  | str _ => exact kit_ty (show kitB "str" "int" = some false by decide +kernel)
  | tup _ => exact kit_ty (show kitB "tuple" "int" = some false by decide +kernel)
  | lst _ => exact kit_ty (show kitB "list" "int" = some false by decide +kernel)
  | dic => exact kit_ty (show kitB "dict" "int" = some false by decide +kernel)
theorem isi_bool : PySem.W.kitOne K (.type d.ty) (.type "bool") = some d.isBl := by
  cases d with
  | non => exact kit_ty (show kitB "NoneType" "bool" = some false by decide +kernel)
  | bl _ => exact kit_ty (show kitB "bool" "bool" = some true by decide +kernel)
  | int _ => exact kit_ty (show kitB "int" "bool" = some false by decide +kernel)
  | str _ => exact kit_ty (show kitB "str" "bool" = some false by decide +kernel)
  | tup _ => exact kit_ty (show kitB "tuple" "bool" = some false by decide +kernel)
  | lst _ => exact kit_ty (show kitB "list" "bool" = some false by decide +kernel)
  | dic => exact kit_ty (show kitB "dict" "bool" = some false by decide +kernel)
theorem isi_tuple : PySem.W.kitOne K (.type d.ty) (.type "tuple") = some d.isTup := by
  cases d with
  | non => exact kit_ty (show kitB "NoneType" "tuple" = some false by decide +kernel)
  | bl _ => exact kit_ty (show kitB "bool" "tuple" = some false by decide +kernel)
  | int _ => exact kit_ty (show kitB "int" "tuple" = some false by decide +kernel)
  | str _ => exact kit_ty (show kitB "str" "tuple" = some false by decide +kernel)
  | tup _ => exact kit_ty (show kitB "tuple" "tuple" = some true by decide +kernel)
  | lst _ => exact kit_ty (show kitB "list" "tuple" = some false by decide +kernel)
  | dic => exact kit_ty (show kitB "dict" "tuple" = some false by decide +kernel)
theorem isi_list : PySem.W.kitOne K (.type d.ty) (.type "list") = some d.isLst := by
  cases d with
  | non => exact kit_ty (show kitB "NoneType" "list" = some false by decide +kernel)
  | bl _ => exact kit_ty (show kitB "bool" "list" = some false by decide +kernel)
  | int _ => exact kit_ty (show kitB "int" "list" = some false by decide +kernel)
  | str _ => exact kit_ty (show kitB "str" "list" = some false by decide +kernel)
  | tup _ => exact kit_ty (show kitB "tuple" "list" = some false by decide +kernel)
  | lst _ => exact kit_ty (show kitB "list" "list" = some true by decide +kernel)
  | dic => exact kit_ty (show kitB "dict" "list" = some false by decide +kernel)
theorem isi_str : PySem.W.kitOne K (.type d.ty) (.type "str") = some d.isStr := by
  cases d with
  | non => exact kit_ty (show kitB "NoneType" "str" = some false by decide +kernel)
  | bl _ => exact kit_ty (show kitB "bool" "str" = some false by decide +kernel)
  | int _ => exact kit_ty (show kitB "int" "str" = some false by decide +kernel)
  | str _ => exact kit_ty (show kitB "str" "str" = some true by decide +kernel)
  | tup _ => exact kit_ty (show kitB "tuple" "str" = some false by decide +kernel)
  | lst _ => exact kit_ty (show kitB "list" "str" = some false by decide +kernel)
  | dic => exact kit_ty (show kitB "dict" "str" = some false by decide +kernel)
end
end VW
set_option Elab.async false
set_option linter.all false
set_option maxRecDepth 100000
set_option maxHeartbeats 4000000
namespace VW
open PySem PySem.Spec PyProof.Rows L2 GxR

/-- nothing is wished of what the clause does not catch -/
theorem takesNo {X : Cx} : Takes X (fun _ _ _ _ => False) := fun u s' x => by
  obtain ⟨a, B, sI, pins', σ', H', cls, d, _, _, _, _, _, _, _, _, h⟩ := x
  exact h.elim
/-- isinstance(e, c), e what the clause has caught: of an own class, without arguments of its own -/
def rIsX (K : PySem.W.Frag) (a : Addr) (cls : Value) (d : Option Addr) : List V → Hp → VK → Prop := fun xs H Q => ∃ D, cls = .ref D ∧ d = none ∧ L2.ExcC K D ∧ rIsE K D a xs H Q
theorem call_isX {X : Cx} {a : Addr} {oe : Obj} {cls : Value} {d : Option Addr} {pn : List (Addr × Obj)} (hz : Zc cls d oe) (hf : ∃ vs, oe.data = .fields vs) : CallR (X.suite a ((a, oe) :: pn)) (.builtin "isinstance") (rIsX X.K a cls d) := by
  intro pins s σ H xs us Q I r h
  obtain ⟨D, rfl, rfl, C, h⟩ := h
  exact call_isE (X := X) C hz hf pins s σ H xs us Q I r h
end VW
set_option Elab.async false
set_option linter.all false
set_option maxRecDepth 100000
set_option maxHeartbeats 4000000
namespace VW
open PySem PySem.Spec PyProof.Rows L2 GxR

/-! ### what is compared whole -/
mutual
def D.py : D → PyData
  | .non => .none
  | .bl b => .bool b
  | .int i => .int i
  | .str x => .str x
  | .tup ds => .tuple (D.pys ds)
  | .lst ds => .list (D.pys ds)
  | .dic => .dict []
def D.pys : List D → List PyData
  | [] => []
  | d :: r => d.py :: D.pys r
end
mutual
/-- no dict, at most so deep -/
def D.flat : D → Nat → Bool
  | .non, _ => true
  | .bl _, _ => true
  | .int _, _ => true
  | .str x, _ => (PyData.str x).canLay0
  | .tup ds, n => match n with | 0 => false | n + 1 => D.flats ds n
  | .lst ds, n => match n with | 0 => false | n + 1 => D.flats ds n
  | .dic, _ => false
def D.flats : List D → Nat → Bool
  | [], _ => true
  | d :: r, n => d.flat n && D.flats r n
end
section
variable {K : PySem.W.Frag} {H : Hp}
mutual
theorem At.dp : ∀ (d : D) (n : Nat) (v : V), d.flat n = true → At K H v d → Dp K H v d.py
  | .non, _, _, _, h => by cases h; exact .non
  | .bl b, _, _, _, h => by cases h; exact .bl b
  | .int i, _, _, _, h => by cases h; exact .int i
  | .str x, _, _, _, h => by cases h; exact .str x
  | .dic, _, _, f, _ => by cases f
  | .tup ds, 0, _, f, _ => by cases f
  | .lst ds, 0, _, f, _ => by cases f
  | .tup ds, n + 1, _, f, h => by
    cases h with
    | tup hs ha => exact .tup hs (AtAll.dp ds n _ f ha)
  | .lst ds, n + 1, _, f, h => by
    cases h with
    | lst hs ha => exact .lst hs (AtAll.dp ds n _ f ha)
theorem AtAll.dp : ∀ (ds : List D) (n : Nat) (vs : List V), D.flats ds n = true → AtAll K H vs ds → DpAll K H vs (D.pys ds)
  | [], _, _, _, h => by cases h; exact .nil
  | d :: r, n, _, f, h => by
    have f' : d.flat n = true ∧ D.flats r n = true := by unfold D.flats at f; simpa using f
    cases h with
    | cons h1 h2 => exact .cons (At.dp d n _ f'.1 h1) (AtAll.dp r n _ f'.2 h2)
end
end
mutual
theorem D.flat_lay : ∀ (d : D) (n : Nat), d.flat n = true → d.py.canLay0 = true ∧ d.py.depth ≤ n
  | .non, _, _ => ⟨by simp only [D.py, PyData.canLay0], by simp only [D.py, PyData.depth]; exact Nat.zero_le _⟩
  | .bl b, _, _ => ⟨by simp only [D.py, PyData.canLay0], by simp only [D.py, PyData.depth]; exact Nat.zero_le _⟩
  | .int i, _, _ => ⟨by simp only [D.py, PyData.canLay0], by simp only [D.py, PyData.depth]; exact Nat.zero_le _⟩
  | .str x, _, f => ⟨by simpa only [D.py, D.flat] using f, by simp only [D.py, PyData.depth]; exact Nat.zero_le _⟩
  | .dic, _, f => by cases f
  | .tup ds, 0, f => by cases f
  | .lst ds, 0, f => by cases f
  | .tup ds, n + 1, f => by
    have := D.flats_lay ds n f
    exact ⟨by simp only [D.py, PyData.canLay0]; exact this.1, by simp only [D.py, PyData.depth]; exact Nat.succ_le_succ this.2⟩
  | .lst ds, n + 1, f => by
    have := D.flats_lay ds n f
    exact ⟨by simp only [D.py, PyData.canLay0]; exact this.1, by simp only [D.py, PyData.depth]; exact Nat.succ_le_succ this.2⟩
theorem D.flats_lay : ∀ (ds : List D) (n : Nat), D.flats ds n = true → PyData.canLayAll0 (D.pys ds) = true ∧ PyData.depthAll (D.pys ds) ≤ n
  | [], _, _ => ⟨by simp only [D.pys, PyData.canLayAll0], by simp only [D.pys, PyData.depthAll]; exact Nat.zero_le _⟩
  | d :: r, n, f => by
    have f' : d.flat n = true ∧ D.flats r n = true := by unfold D.flats at f; simpa using f
    have h1 := D.flat_lay d n f'.1
    have h2 := D.flats_lay r n f'.2
    exact ⟨by simp only [D.pys, PyData.canLayAll0, h1.1, h2.1, Bool.and_self], by simp only [D.pys, PyData.depthAll]; exact Nat.max_le.mpr ⟨h1.2, h2.2⟩⟩
end
theorem D.flat_shaped {d : D} {n : Nat} (h : d.flat n = true) (hn : n ≤ 64) : SeqAt.shaped d.py = true := by
  have := D.flat_lay d n h
  unfold SeqAt.shaped
  rw [this.1, Bool.true_and, decide_eq_true (Nat.le_trans this.2 hn)]
theorem D.flat_refl {d : D} {n : Nat} (h : d.flat n = true) : PyData.eqv d.py d.py = true := SeqAt.eqv_refl d.py (D.flat_lay d n h).1
theorem D.flats_all {ds : List D} {n : Nat} (h : ∀ d ∈ ds, d.flat n = true) : D.flats ds n = true := by
  induction ds with
  | nil => rfl
  | cons d r ih =>
    unfold D.flats
    rw [h d List.mem_cons_self, ih fun e he => h e (List.mem_cons_of_mem _ he)]
    rfl
/-- the same data compared -/
theorem eqD_same {K : PySem.W.Frag} {H : Hp} {x y : V} {d : D} {n : Nat} {Q : VK} (hf : d.flat n = true) (hn : n ≤ 64) (hx : At K H x d) (hy : At K H y d) (q : Q (.bl true) H) : rEqD K x y H Q :=
  ⟨d.py, d.py, At.dp d n x hf hx, At.dp d n y hf hy, D.flat_shaped hf hn, D.flat_shaped hf hn, by rw [D.flat_refl hf]; exact q⟩
/-- a list against the empty one -/
theorem eqD_nil {K : PySem.W.Frag} {H : Hp} {x y : V} {ds : List D} {n : Nat} {Q : VK} (hf : D.flats ds n = true) (hn : n < 64) (hx : At K H x (.lst ds)) (hy : At K H y (.lst [])) (q : Q (.bl ds.isEmpty) H) : rEqD K x y H Q := by
  have f1 : (D.lst ds).flat (n + 1) = true := hf
  refine ⟨(D.lst ds).py, (D.lst []).py, At.dp _ (n + 1) x f1 hx, At.dp _ 1 y rfl hy, D.flat_shaped f1 hn, D.flat_shaped (n := 1) rfl (by decide), ?_⟩
  have e : PyData.eqv (D.lst ds).py (D.lst []).py = ds.isEmpty := by
    cases ds with
    | nil => simp only [D.py, D.pys, PyData.eqv, PyData.eqvAll]; rfl
    | cons d r => simp only [D.py, D.pys, PyData.eqv, PyData.eqvAll]; rfl
  rw [e]
  exact q
end VW
set_option Elab.async false
set_option linter.all false
set_option maxRecDepth 100000
set_option maxHeartbeats 4000000
namespace VW
open PySem PySem.Spec PyProof.Rows L2 GxR

/-- the end of a law whose defs hold tables of code objects -/
theorem walk_tabs {l : PySem.W.OpenLaw} {n k : Nat} {q : Program} {loose : List Str} {XP : (Str → Option Value) → Heap → Prop} {YP : World → Heap → Prop} {d : DefRec} {K : Params → PySem.W.Frag} {CX : World → CXT} {x : Str} (xs : List Str)
    (hn : l.most = some n) (hn2 : n ≤ sizeLine) (hdf : d.params.defaults = []) (hr : Room k callerA) (hrec : xs.all (fun y => (recsOf q).any fun e => e.name == y) = true) (hY : ∀ (w : World) (h : Heap), YP w h → (K w.params).In h)
    (F : ∀ (w : World) (mg : Str → Option Value) (fa : Addr) (h : Heap), (K w.params).In h → h.Ns mainGlobals mg → mg d.name = some (.ref fa) →
      (∀ y, y ∈ xs → ∀ c P, PySem.W.tabIn (K w.params) y = some (c, P) → PySem.W.CodeHd h c P ∧ h.get? P = some { cls := .none, data := .fields #[] }) → LamX.LawAtS l w (K w.params) (CX w) k n x mg fa h)
    (hCX : ∀ (w : World) (H : Hp) (s : Shared) (e : Value) (s' : Shared), CX w [] H s (fun _ _ _ => False) e s' → False) :
    PySem.W.WalkO q loose XP YP l.row.toRowW d [] (fun f vs => PySem.call f vs) := by
  refine Att.attach_callB hn hdf fun w s₀ s₁ mg mb fa o pm cd doc a vs ns G Y ho hd hcd hmg hobj hints hlen hbits hg => ?_
  have KX := hY w _ Y
  obtain ⟨fd, cs, sp, hT, nT, C, hb, hsp, hF⟩ := F w mg fa _ KX G.T.g hmg fun y hy c P e => by
    have h1 := List.all_eq_true.mp hrec y hy
    cases hf : (recsOf q).find? (fun e => e.name == y) with
    | none =>
      obtain ⟨dL, hm, hn1⟩ := List.any_eq_true.mp h1
      exact absurd hn1 (List.find?_eq_none.mp hf dL hm)
    | some dL => exact PySem.W.tab_of G.T KX hf e
  exact LamX.law_callTs KX G.T.g G.T.b G.T.builtins G.T.nolimit hg hT nT C G.T.bmain hobj hints (Nat.le_trans hlen hn2) hr hF hb (fun H hH hS => hsp H a ns hlen hbits hH hS) fun H e s' => hCX w H s₁ e s'
theorem tab_ofL {base : Heap} {mg : Str → Option Value} {c P : Addr} (t : LamX.TabB base mg c P) : TabB base mg c P := ⟨t.code, t.bm, t.gP⟩
theorem tabIn_of {K : PySem.W.Frag} {x : Str} {f c P : Addr} {oc od osl fd e dd vs sl} (h1 : PySem.W.nsIn K mainGlobals x = some (some (.ref f))) (h2 : K.lookup f = some ⟨oc, od, .func fd, osl⟩) (h3 : fd.code = .ref c) (h4 : K.lookup c = some ⟨e, dd, .fields vs, sl⟩) (h5 : vs[11]? = some (.ref P)) :
    PySem.W.tabIn K x = some (c, P) := by
  unfold PySem.W.tabIn
  rw [h1]
  dsimp only
  rw [h2]
  dsimp only
  rw [h3]
  dsimp only
  rw [h4]
  dsimp only
  rw [h5]
abbrev mkEv (K : PySem.W.Frag) (Pn Pp cWeave cPiece cNumber cTheme cEntry cRange cUneven cClash cText : Addr) : Ev :=
  { K := K, Ps := [Pn, Pp], Pn := Pn, Pp := Pp, hPn := List.mem_cons_self, hPp := List.mem_cons_of_mem _ List.mem_cons_self, cWeave := cWeave, cPiece := cPiece, cNumber := cNumber, cTheme := cTheme, cEntry := cEntry, cRange := cRange, cUneven := cUneven, cClash := cClash, cText := cText }
theorem kit_self {K : PySem.W.Frag} {D : Addr} : PySem.W.kitOne K (.ref D) (.ref D) = some true := by
  unfold PySem.W.kitOne
  exact if_pos (by simp)
theorem kit_not {K : PySem.W.Frag} {D C : Addr} (hd : PySem.W.hasDictIn K C = true) (ht : PySem.W.typeIn K (.ref C) = some (.type "type")) (hs : PySem.W.subIn K (.ref D) (.ref C) = some false) (hn : D ≠ C) : PySem.W.kitOne K (.ref D) (.ref C) = some false := by
  obtain ⟨cd, hc, _⟩ := PySem.W.any_some hd
  unfold PySem.W.kitOne
  rw [if_neg (by simpa using hn)]
  unfold PySem.W.kitCls
  dsimp only
  rw [if_pos (by rw [hc, ht]; rfl)]
  exact hs
theorem kit_val {K : PySem.W.Frag} {D : Addr} (hs : PySem.W.subIn K (.ref D) (.type "ValueError") = some true) : PySem.W.kitOne K (.ref D) (.type "ValueError") = some true := by
  unfold PySem.W.kitOne
  split
  · rfl
  · unfold PySem.W.kitCls
    dsimp only
    rw [if_pos (by decide +kernel)]
    exact hs
end VW
set_option Elab.async false
set_option linter.all false
set_option maxRecDepth 100000
set_option maxHeartbeats 2000000
/-! The promises of the program's defs and of the laws' own helpers. -/
namespace VW
open PySem PySem.Spec PyProof.Rows L2 GxR

/-- the module's numbers -/
structure Nums (mg : Str → Option Value) : Prop where
  GREATEST_END : ∃ t, mg "GREATEST_END" = some (.int 100000 t)
  PITCH_REACH : ∃ t, mg "PITCH_REACH" = some (.int 200 t)
  MOST_VOICES : ∃ t, mg "MOST_VOICES" = some (.int 6 t)

/-! ### notes, voices, pieces -/
abbrev Nt := Int × Int × Int
def okNote (n : Nt) : Bool := decide (0 ≤ n.1) && decide (1 ≤ n.2.1) && decide (n.1 + n.2.1 ≤ 100000) && decide (-200 ≤ n.2.2) && decide (n.2.2 ≤ 200)
def okFrom : Int → List Nt → Bool
  | _, [] => true
  | e, n :: r => okNote n && decide (e ≤ n.1) && okFrom (n.1 + n.2.1) r
def okVoice (v : List Nt) : Bool := okFrom 0 v
def okPiece (p : List (List Nt)) : Bool := decide (1 ≤ p.length) && decide (p.length ≤ 6) && p.all okVoice
def noteD (n : Nt) : D := .tup [.int n.1, .int n.2.1, .int n.2.2]
def voiceD (v : List Nt) : D := .lst (v.map noteD)
def pieceD (p : List (List Nt)) : D := .lst (p.map voiceD)
/-- .. of anything -/
def asNote : D → Option Nt
  | .tup [.int s, .int l, .int p] => some (s, l, p)
  | _ => none
def isNote (d : D) : Bool := match asNote d with | some n => okNote n | none => false
def voiceFrom : Int → List D → Bool
  | _, [] => true
  | e, d :: r => match asNote d with
    | some n => okNote n && decide (e ≤ n.1) && voiceFrom (n.1 + n.2.1) r
    | none => false
def isVoice : D → Bool
  | .lst ds => voiceFrom 0 ds
  | _ => false
def isPiece : D → Bool
  | .lst ds => decide (1 ≤ ds.length) && decide (ds.length ≤ 6) && ds.all isVoice
  | _ => false
theorem asNote_some {d : D} {n : Nt} (h : asNote d = some n) : d = noteD n := by
  unfold asNote at h
  split at h
  · injection h with h; subst h; rfl
  · cases h
theorem asNote_noteD (n : Nt) : asNote (noteD n) = some n := rfl
theorem voiceFrom_some : ∀ {ds : List D} {e : Int}, voiceFrom e ds = true → ∃ v : List Nt, ds = v.map noteD ∧ okFrom e v = true
  | [], _, _ => ⟨[], rfl, rfl⟩
  | d :: r, e, h => by
    unfold voiceFrom at h
    cases q : asNote d with
    | none => rw [q] at h; cases h
    | some n =>
      rw [q] at h
      have h' : (okNote n && decide (e ≤ n.1) && voiceFrom (n.1 + n.2.1) r) = true := h
      rw [Bool.and_eq_true] at h'
      obtain ⟨v, e1, e2⟩ := voiceFrom_some h'.2
      refine ⟨n :: v, by rw [asNote_some q, e1]; rfl, ?_⟩
      show (okNote n && decide (e ≤ n.1) && okFrom (n.1 + n.2.1) v) = true
      rw [Bool.and_eq_true]
      exact ⟨h'.1, e2⟩
theorem voiceFrom_map : ∀ (v : List Nt) (e : Int), voiceFrom e (v.map noteD) = okFrom e v
  | [], _ => rfl
  | n :: v, e => by
    show (okNote n && decide (e ≤ n.1) && voiceFrom (n.1 + n.2.1) (v.map noteD)) = (okNote n && decide (e ≤ n.1) && okFrom (n.1 + n.2.1) v)
    rw [voiceFrom_map v]
theorem isVoice_some {d : D} (h : isVoice d = true) : ∃ v, d = voiceD v ∧ okVoice v = true := by
  cases d with
  | lst ds =>
    obtain ⟨v, e1, e2⟩ := voiceFrom_some (e := 0) h
    exact ⟨v, by rw [e1]; rfl, e2⟩
  | _ => cases h
theorem isVoice_D (v : List Nt) : isVoice (voiceD v) = okVoice v := voiceFrom_map v 0
theorem all_voices : ∀ {ds : List D}, ds.all isVoice = true → ∃ p : List (List Nt), ds = p.map voiceD ∧ p.all okVoice = true
  | [], _ => ⟨[], rfl, rfl⟩
  | d :: ds, h => by
    rw [List.all_cons, Bool.and_eq_true] at h
    obtain ⟨v, e1, e2⟩ := isVoice_some h.1
    obtain ⟨p, e3, e4⟩ := all_voices h.2
    exact ⟨v :: p, by rw [e1, e3]; rfl, by rw [List.all_cons, e2, e4]; rfl⟩
theorem isPiece_some {d : D} (h : isPiece d = true) : ∃ p, d = pieceD p ∧ okPiece p = true := by
  cases d with
  | lst ds =>
    have h' : (decide (1 ≤ ds.length) && decide (ds.length ≤ 6) && ds.all isVoice) = true := h
    rw [Bool.and_eq_true] at h'
    obtain ⟨p, e1, e2⟩ := all_voices h'.2
    refine ⟨p, by rw [e1]; rfl, ?_⟩
    unfold okPiece
    rw [Bool.and_eq_true]
    refine ⟨?_, e2⟩
    rw [e1, List.length_map] at h'
    exact h'.1
  | _ => cases h
theorem all_voiceD (p : List (List Nt)) : (p.map voiceD).all isVoice = p.all okVoice := by
  rw [List.all_map]
  congr 1
  funext v
  exact isVoice_D v
theorem isPiece_D (p : List (List Nt)) : isPiece (pieceD p) = okPiece p := by
  show (decide (1 ≤ (p.map voiceD).length) && decide ((p.map voiceD).length ≤ 6) && (p.map voiceD).all isVoice) = _
  rw [all_voiceD, List.length_map]
  rfl
/-- the pitch that sounds at a time -/
def pitchAt (t : Int) : List Nt → Option Int
  | [] => none
  | n :: r => if n.1 ≤ t ∧ t < n.1 + n.2.1 then some n.2.2 else pitchAt t r
def optV : Option Int → V
  | some i => .int i
  | none => .non

/-! ### new lists of new lists -/
def Rows (K : PySem.W.Frag) (H : Hp) : List Addr → List (List D) → Prop
  | [], [] => True
  | a :: as, ds :: dss => (∃ xs, H a = some (.lst xs) ∧ AtAll K H xs ds) ∧ Rows K H as dss
  | _, _ => False
/-- at p a list of lists, none of which stood in H0 -/
structure New2 (K : PySem.W.Frag) (H0 H : Hp) (p : Addr) (dss : List (List D)) : Prop where
  ex : ∃ as : List Addr, H p = some (.lst (as.map V.ref)) ∧ H0 p = none ∧ (p :: as).Nodup ∧ (∀ a ∈ as, H0 a = none) ∧ Rows K H as dss

/-! ### the promises -/
def sp_is_whole (S : Ev) : Sp := fun vs H Q _ => match vs with
  | [x] => ∃ d, At S.K H x d ∧ Q (.bl d.whole) H
  | _ => False
def sp_require_whole (S : Ev) : Sp := fun vs H Q E => match vs with
  | [x] => ∃ d, At S.K H x d ∧ (d.whole = true → Q .non H) ∧ (d.whole = false → E (.ref S.cNumber) none H)
  | _ => False
def sp_end_of (S : Ev) : Sp := fun vs H Q _ => match vs with
  | [x] => ∃ a s l p, x = .ref a ∧ SqT S.K H a [.int s, .int l, p] ∧ Q (.int (s + l)) H
  | _ => False
def sp_is_note (S : Ev) : Sp := fun vs H Q _ => match vs with
  | [x] => S.T H ∧ ∃ d, At S.K H x d ∧ ∀ H', Ext H H' → Q (.bl (isNote d)) H'
  | _ => False
def sp_is_voice (S : Ev) : Sp := fun vs H Q _ => match vs with
  | [x] => S.T H ∧ ∃ d, At S.K H x d ∧ ∀ H', Ext H H' → Q (.bl (isVoice d)) H'
  | _ => False
def sp_is_piece (S : Ev) : Sp := fun vs H Q _ => match vs with
  | [x] => S.T H ∧ ∃ d, At S.K H x d ∧ ∀ H', Ext H H' → Q (.bl (isPiece d)) H'
  | _ => False
def sp_good (S : Ev) : Sp := fun vs H Q E => match vs with
  | [x] => S.T H ∧ ∃ d, At S.K H x d ∧ (∀ pc, d = pieceD pc → okPiece pc = true → ∀ H' p, Ext H H' → New2 S.K H H' p (pc.map fun v => v.map noteD) → Q (.ref p) H') ∧
      (isPiece d = false → ∀ H', Ext H H' → E (.ref S.cPiece) none H')
  | _ => False
def sp_pitch_at (S : Ev) : Sp := fun vs H Q _ => match vs with
  | [x, t] => ∃ v i, At S.K H x (voiceD v) ∧ t = .int i ∧ Q (optV (pitchAt i v)) H
  | _ => False
def sp_sounding (S : Ev) : Sp := fun vs H Q E => match vs with
  | [x, t] => S.T H ∧ ∃ d dt, At S.K H x d ∧ At S.K H t dt ∧
      (∀ pc i, d = pieceD pc → okPiece pc = true → dt = .int i → ∀ H' p, Ext H H' → H p = none → H' p = some (.lst (pc.map fun v => optV (pitchAt i v))) → Q (.ref p) H') ∧
      (isPiece d = true → dt.whole = false → ∀ H', Ext H H' → E (.ref S.cNumber) none H') ∧ (isPiece d = false → ∀ H', Ext H H' → E (.ref S.cPiece) none H')
  | _ => False

/-! ### the laws' own helpers -/
def sp_law_at (S : Ev) : Sp := fun vs H Q _ => match vs with
  | [x, k] => ∃ (a : Addr) (ns : List Int) (i : Int), x = .ref a ∧ SqL S.K H a (ns.map V.int) ∧ ns.length ≤ 63 ∧ k = .int i ∧ 0 ≤ i ∧ Q (.int (ns.getD i.toNat 0)) H
  | _ => False
def sp_law_whole (S : Ev) : Sp := fun vs H Q _ => match vs with
  | [x] => ∃ d, At S.K H x d ∧ Q (.bl d.whole) H
  | _ => False
/-- the notes that the law makes of numbers, from a time, a pitch, a scale -/
def rest6 : Int → Int := fun z => if z = 4 then 1 else if z = 5 then 3 else 0
def jump4 (m : Int) : Int := if m.fmod 4 = 2 then (m.fdiv 4).fmod 15 - 7 else if m.fmod 4 = 3 then (m.fdiv 4).fmod 41 - 20 else (m.fdiv 4).fmod 5 - 2
def lawStep (sc : Int) (st : Int × Int) (n : Int) : Int × Int :=
  (st.1 + rest6 (n.fmod 6) * sc + (1 + (n.fdiv 6).fmod 4) * sc, (st.2 + jump4 (n.fdiv 24) + 200).fmod 401 - 200)
def lawNote (sc : Int) (st : Int × Int) (n : Int) : Nt :=
  (st.1 + rest6 (n.fmod 6) * sc, (1 + (n.fdiv 6).fmod 4) * sc, (st.2 + jump4 (n.fdiv 24) + 200).fmod 401 - 200)
def lawNotes (sc : Int) : Int × Int → List Int → List Nt
  | _, [] => []
  | st, n :: r => lawNote sc st n :: lawNotes sc (lawStep sc st n) r
def sp_law_notes (S : Ev) : Sp := fun vs H Q _ => match vs with
  | [x, t, p, k] => ∃ (a : Addr) (ns : List Int) (ti pi sc : Int), x = .ref a ∧ SqL S.K H a (ns.map V.int) ∧ ns.length ≤ 63 ∧ t = .int ti ∧ p = .int pi ∧ k = .int sc ∧
      ∀ H' q xs, Ext H H' → H q = none → H' q = some (.lst xs) → AtAll S.K H' xs ((lawNotes sc (ti, pi) ns).map noteD) → Q (.ref q) H'
  | _ => False
/-- the law's piece of a script -/
def cell (ns : List Int) (k : Nat) : Int := ns.getD k 0
def lawMany (ns : List Int) : Int := if ((cell ns 0).fdiv 4).fmod 8 = 1 then 5 + ((cell ns 0).fdiv 32).fmod 2 else 1 + (cell ns 0).fmod 4
def lawScale (ns : List Int) : Int := if (cell ns 1).fmod 8 = 1 then 1 + ((cell ns 1).fdiv 8).fmod 200 else 1
/-- every m-th cell from the k-th on -/
def every (m : Nat) : Nat → List Int → List Int
  | _, [] => []
  | 0, n :: r => n :: every m (m - 1) r
  | k + 1, _ :: r => every m k r
def lawVoice (ns : List Int) (pl : Nat) : List Nt :=
  lawNotes (lawScale ns) (((cell ns 1).fdiv 1600 + pl * (cell ns 2).fdiv 401).fmod 5 * lawScale ns, (cell ns 2 - 5 * pl).fmod 401 - 200) (every (lawMany ns).toNat (3 + pl) ns)
def lawPiece (ns : List Int) : List (List Nt) := (List.range (lawMany ns).toNat).map (lawVoice ns)
def sp_law_piece (S : Ev) : Sp := fun vs H Q _ => match vs with
  | [x] => ∃ (a : Addr) (ns : List Int), x = .ref a ∧ SqL S.K H a (ns.map V.int) ∧ ns.length ≤ 63 ∧ ∀ H' p, Ext H H' → New2 S.K H H' p ((lawPiece ns).map fun v => v.map noteD) → Q (.ref p) H'
  | _ => False

/-! ### how many arguments -/
section
variable (S : Ev) (vs : List V) (H : Hp) (Q : VK) (E : XK)
theorem len_is_whole (h : sp_is_whole S vs H Q E) : vs.length = ["number"].length := by rcases vs with _ | ⟨a, _ | ⟨b, r⟩⟩ <;> first | rfl | exact h.elim
theorem len_require_whole (h : sp_require_whole S vs H Q E) : vs.length = ["number"].length := by rcases vs with _ | ⟨a, _ | ⟨b, r⟩⟩ <;> first | rfl | exact h.elim
theorem len_end_of (h : sp_end_of S vs H Q E) : vs.length = ["note"].length := by rcases vs with _ | ⟨a, _ | ⟨b, r⟩⟩ <;> first | rfl | exact h.elim
theorem len_is_note (h : sp_is_note S vs H Q E) : vs.length = ["note"].length := by rcases vs with _ | ⟨a, _ | ⟨b, r⟩⟩ <;> first | rfl | exact h.elim
theorem len_is_voice (h : sp_is_voice S vs H Q E) : vs.length = ["voice"].length := by rcases vs with _ | ⟨a, _ | ⟨b, r⟩⟩ <;> first | rfl | exact h.elim
theorem len_is_piece (h : sp_is_piece S vs H Q E) : vs.length = ["piece"].length := by rcases vs with _ | ⟨a, _ | ⟨b, r⟩⟩ <;> first | rfl | exact h.elim
theorem len_good (h : sp_good S vs H Q E) : vs.length = ["piece"].length := by rcases vs with _ | ⟨a, _ | ⟨b, r⟩⟩ <;> first | rfl | exact h.elim
theorem len_pitch_at (h : sp_pitch_at S vs H Q E) : vs.length = ["voice", "time"].length := by rcases vs with _ | ⟨a, _ | ⟨b, _ | ⟨c, r⟩⟩⟩ <;> first | rfl | exact h.elim
theorem len_sounding (h : sp_sounding S vs H Q E) : vs.length = ["piece", "time"].length := by rcases vs with _ | ⟨a, _ | ⟨b, _ | ⟨c, r⟩⟩⟩ <;> first | rfl | exact h.elim
theorem len_law_at (h : sp_law_at S vs H Q E) : vs.length = ["s", "k"].length := by rcases vs with _ | ⟨a, _ | ⟨b, _ | ⟨c, r⟩⟩⟩ <;> first | rfl | exact h.elim
theorem len_law_whole (h : sp_law_whole S vs H Q E) : vs.length = ["x"].length := by rcases vs with _ | ⟨a, _ | ⟨b, r⟩⟩ <;> first | rfl | exact h.elim
theorem len_law_notes (h : sp_law_notes S vs H Q E) : vs.length = ["a", "b", "c", "d"].length := by rcases vs with _ | ⟨a, _ | ⟨b, _ | ⟨c, _ | ⟨d, _ | ⟨e, r⟩⟩⟩⟩⟩ <;> first | rfl | exact h.elim
theorem len_law_piece (h : sp_law_piece S vs H Q E) : vs.length = ["s"].length := by rcases vs with _ | ⟨a, _ | ⟨b, r⟩⟩ <;> first | rfl | exact h.elim
end
end VW
set_option Elab.async false
set_option linter.all false
set_option maxRecDepth 100000
set_option maxHeartbeats 4000000
namespace VW
open PySem PySem.Spec PyProof.Rows L2 GxR
abbrev N_is_whole : List Str := ["number"]
def t_is_whole (S : Ev) (E : XK) : TS :=
  (tRet (tAndV (tCB (rIsi S.K) (tCons (tVar 0) (tCons (tC (.ty "int")) tNil))) (tNotV (tCB (rIsi S.K) (tCons (tVar 0) (tCons (tC (.ty "bool")) tNil))))))

abbrev N_require_whole : List Str := ["number"]
def t_require_whole (S : Ev) (E : XK) : TS :=
  (tIfS (tNot (tB (tCall (sp_is_whole S) [] E0 (tCons (tVar 0) tNil)))) (fun _ _ H => E (.ref S.cNumber) none H) tNext)

abbrev N_end_of : List Str := ["note", "start", "long", "_"]
def t_end_of (S : Ev) (E : XK) : TS :=
  (tSeq (tAsg (tVar 0) (gTup S.K 3 (gCons (gName 1) (gCons (gName 2) (gCons (gName 3) gNil)))))
      (tRet (tOp kAdd (tVar 1) (tVar 2))))

abbrev N_is_note : List Str := ["note", "start", "long", "pitch", "in_time", "part"]
def t_is_note (S : Ev) (E : XK) : TS :=
  (tSeq (tIfS (tOr (tNot (tB (tCB (rIsi S.K) (tCons (tVar 0) (tCons (tC (.ty "tuple")) tNil))))) (tTest (tOp rNe (tCB (kLen S.K) (tCons (tVar 0) tNil)) (tC (.int 3))))) (tRet (tC (.bl false))) tNext)
      (tSeq (tIfS (tNot (tB (tGenQ false S.Pn (iTup S.K (tVar 0)) (gName 5) (tCall (sp_is_whole S) [] E0 (tCons (tVar 5) tNil)) [5]))) (tRet (tC (.bl false))) tNext)
      (tSeq (tAsg (tVar 0) (gTup S.K 3 (gCons (gName 1) (gCons (gName 2) (gCons (gName 3) gNil)))))
      (tSeq (tAsg (tAndV (tOp kGe (tVar 1) (tC (.int 0))) (tAndV (tOp kGe (tVar 2) (tC (.int 1))) (tOp kLe (tOp kAdd (tVar 1) (tVar 2)) (tC (.int 100000))))) (gName 4))
      (tRet (tAndV (tVar 4) (tChain kLe kLe (tUn kNeg (tC (.int 200))) (tVar 3) (tC (.int 200)))))))))

abbrev N_is_voice : List Str := ["voice", "last_end", "note"]
def t_is_voice (S : Ev) (E : XK) : TS :=
  (tSeq (tIfS (tNot (tB (tCB (rIsi S.K) (tCons (tVar 0) (tCons (tC (.ty "list")) tNil))))) (tRet (tC (.bl false))) tNext)
      (tSeq (tAsg (tC (.int 0)) (gName 1))
      (tSeq (tFor (iList S.K (tVar 0)) (gName 2) (tSeq (tIfS (tOr (tNot (tB (tCall (sp_is_note S) [] E0 (tCons (tVar 2) tNil)))) (tTest (tOp kLt (tOp (rIxT S.K) (tVar 2) (tC (.int 0))) (tVar 1)))) (tRet (tC (.bl false))) tNext)
      (tAsg (tCall (sp_end_of S) [] E0 (tCons (tVar 2) tNil)) (gName 1))))
      (tRet (tC (.bl true))))))

abbrev N_is_piece : List Str := ["piece", "voice"]
def t_is_piece (S : Ev) (E : XK) : TS :=
  (tSeq (tIfS (tOr (tNot (tB (tCB (rIsi S.K) (tCons (tVar 0) (tCons (tC (.ty "list")) tNil))))) (tNot (tTest (tChain kLe kLe (tC (.int 1)) (tCB (kLen S.K) (tCons (tVar 0) tNil)) (tC (.int 6)))))) (tRet (tC (.bl false))) tNext)
      (tRet (tGenQ false S.Pp (iList S.K (tVar 0)) (gName 1) (tCall (sp_is_voice S) [] E0 (tCons (tVar 1) tNil)) [1])))

abbrev N_good : List Str := ["piece", "voice"]
def t_good (S : Ev) (E : XK) : TS :=
  (tSeq (tIfS (tNot (tB (tCall (sp_is_piece S) [] E0 (tCons (tVar 0) tNil)))) (fun _ _ H => E (.ref S.cPiece) none H) tNext)
      (tRet (tLc (iList S.K (tVar 0)) (gName 1) tYes (tCB (kList S.K) (tCons (tVar 1) tNil)) [1])))

abbrev N_sounding : List Str := ["piece", "time", "voices", "voice"]
def t_sounding (S : Ev) (E : XK) : TS :=
  (tSeq (tAsg (tCall (sp_good S) [] E (tCons (tVar 0) tNil)) (gName 2))
      (tSeq (tDrop (tCall (sp_require_whole S) [] E (tCons (tVar 1) tNil)))
      (tRet (tLc (iList S.K (tVar 2)) (gName 3) tYes (tCall (sp_pitch_at S) [] E0 (tCons (tVar 3) (tCons (tVar 1) tNil))) [3]))))

abbrev N_pitch_at : List Str := ["voice", "time", "note"]
def t_pitch_at (S : Ev) (E : XK) : TS :=
  (tSeq (tFor (iList S.K (tVar 0)) (gName 2) (tIfS (tTest (tChain kLe kLt (tOp (rIxT S.K) (tVar 2) (tC (.int 0))) (tVar 1) (tCall (sp_end_of S) [] E0 (tCons (tVar 2) tNil)))) (tRet (tOp (rIxT S.K) (tVar 2) (tC (.int 2)))) tNext))
      (tRet (tC .non)))

abbrev N_law_at : List Str := ["_law_script", "_law_k"]
def t_law_at (S : Ev) (E : XK) : TS :=
  (tSeq (tIfS (tTest (tOp kLt (tVar 1) (tCB (kLen S.K) (tCons (tVar 0) tNil)))) (tRet (tOp (rIxL S.K) (tVar 0) (tVar 1))) tNext)
      (tRet (tC (.int 0))))

abbrev N_law_whole : List Str := ["_law_thing"]
def t_law_whole (S : Ev) (E : XK) : TS :=
  (tRet (tAndV (tCB (rIsi S.K) (tCons (tVar 0) (tCons (tC (.ty "int")) tNil))) (tNotV (tCB (rIsi S.K) (tCons (tVar 0) (tCons (tC (.ty "bool")) tNil))))))

abbrev N_law_notes : List Str := ["_law_numbers", "_law_time", "_law_pitch", "_law_scale", "_law_notes_here", "_law_number", "_law_more", "_law_jump"]
def t_law_notes (S : Ev) (E : XK) : TS :=
  (tSeq (tAsg (tLst tNil) (gName 4))
      (tSeq (tFor (iList S.K (tVar 0)) (gName 5) (tSeq (tAsg (tOp kDiv (tVar 5) (tC (.int 24))) (gName 6))
      (tSeq (tAsg (tOp kAdd (tVar 1) (tOp kMul (tOp (rIxL S.K) (tLst (tCons (tC (.int 0)) (tCons (tC (.int 0)) (tCons (tC (.int 0)) (tCons (tC (.int 0)) (tCons (tC (.int 1)) (tCons (tC (.int 3)) tNil))))))) (tOp kMod (tVar 5) (tC (.int 6)))) (tVar 3))) (gName 1))
      (tSeq (tAsg (tOp (rIxL S.K) (tLst (tCons (tOp kSub (tOp kMod (tOp kDiv (tVar 6) (tC (.int 4))) (tC (.int 5))) (tC (.int 2))) (tCons (tOp kSub (tOp kMod (tOp kDiv (tVar 6) (tC (.int 4))) (tC (.int 5))) (tC (.int 2))) (tCons (tOp kSub (tOp kMod (tOp kDiv (tVar 6) (tC (.int 4))) (tC (.int 15))) (tC (.int 7))) (tCons (tOp kSub (tOp kMod (tOp kDiv (tVar 6) (tC (.int 4))) (tC (.int 41))) (tC (.int 20))) tNil))))) (tOp kMod (tVar 6) (tC (.int 4)))) (gName 7))
      (tSeq (tAsg (tOp kSub (tOp kMod (tOp kAdd (tOp kAdd (tVar 2) (tVar 7)) (tC (.int 200))) (tC (.int 401))) (tC (.int 200))) (gName 2))
      (tSeq (tDrop (tBM S.K "list" rAppend (tVar 4) (tCons (tTup (tCons (tVar 1) (tCons (tOp kMul (tOp kAdd (tC (.int 1)) (tOp kMod (tOp kDiv (tVar 5) (tC (.int 6))) (tC (.int 4)))) (tVar 3)) (tCons (tVar 2) tNil)))) tNil)))
      (tAsg (tOp kAdd (tVar 1) (tOp kMul (tOp kAdd (tC (.int 1)) (tOp kMod (tOp kDiv (tVar 5) (tC (.int 6))) (tC (.int 4)))) (tVar 3))) (gName 1))))))))
      (tRet (tVar 4))))

abbrev N_law_piece : List Str := ["_law_script", "_law_many", "_law_scale", "_law_piece_here", "_law_place", "_law_numbers", "_law_base", "_law_begun", "_law_k"]
def t_law_piece (S : Ev) (E : XK) : TS :=
  (tSeq (tAsg (tOp kAdd (tC (.int 1)) (tOp kMod (tCall (sp_law_at S) [] E0 (tCons (tVar 0) (tCons (tC (.int 0)) tNil))) (tC (.int 4)))) (gName 1))
      (tSeq (tIfS (tTest (tOp rEq (tOp kMod (tOp kDiv (tCall (sp_law_at S) [] E0 (tCons (tVar 0) (tCons (tC (.int 0)) tNil))) (tC (.int 4))) (tC (.int 8))) (tC (.int 1)))) (tAsg (tOp kAdd (tC (.int 5)) (tOp kMod (tOp kDiv (tCall (sp_law_at S) [] E0 (tCons (tVar 0) (tCons (tC (.int 0)) tNil))) (tC (.int 32))) (tC (.int 2)))) (gName 1)) tNext)
      (tSeq (tAsg (tC (.int 1)) (gName 2))
      (tSeq (tIfS (tTest (tOp rEq (tOp kMod (tCall (sp_law_at S) [] E0 (tCons (tVar 0) (tCons (tC (.int 1)) tNil))) (tC (.int 8))) (tC (.int 1)))) (tAsg (tOp kAdd (tC (.int 1)) (tOp kMod (tOp kDiv (tCall (sp_law_at S) [] E0 (tCons (tVar 0) (tCons (tC (.int 1)) tNil))) (tC (.int 8))) (tC (.int 200)))) (gName 2)) tNext)
      (tSeq (tAsg (tLst tNil) (gName 3))
      (tSeq (tFor (iRng1 (tCons (tVar 1) tNil)) (gName 4) (tSeq (tAsg (tLc (iRng3 (tCons (tOp kAdd (tC (.int 3)) (tVar 4)) (tCons (tCB kMin2 (tCons (tCB (kLen S.K) (tCons (tVar 0) tNil)) (tCons (tC (.int 63)) tNil))) (tCons (tVar 1) tNil)))) (gName 8) tYes (tOp (rIxL S.K) (tVar 0) (tVar 8)) [8]) (gName 5))
      (tSeq (tAsg (tOp kSub (tCall (sp_law_at S) [] E0 (tCons (tVar 0) (tCons (tC (.int 2)) tNil))) (tOp kMul (tC (.int 5)) (tVar 4))) (gName 6))
      (tSeq (tAsg (tOp kMul (tOp kMod (tOp kAdd (tOp kDiv (tCall (sp_law_at S) [] E0 (tCons (tVar 0) (tCons (tC (.int 1)) tNil))) (tC (.int 1600))) (tOp kMul (tVar 4) (tOp kDiv (tCall (sp_law_at S) [] E0 (tCons (tVar 0) (tCons (tC (.int 2)) tNil))) (tC (.int 401))))) (tC (.int 5))) (tVar 2)) (gName 7))
      (tDrop (tBM S.K "list" rAppend (tVar 3) (tCons (tCall (sp_law_notes S) [] E0 (tCons (tVar 5) (tCons (tVar 7) (tCons (tOp kSub (tOp kMod (tVar 6) (tC (.int 401))) (tC (.int 200))) (tCons (tVar 2) tNil))))) tNil)))))))
      (tRet (tVar 3))))))))
end VW
set_option Elab.async false
set_option linter.all false
set_option maxRecDepth 100000
set_option maxHeartbeats 4000000
namespace VW
open PySem PySem.Spec PyProof.Rows L2 GxR

theorem args1 {vs : List V} (h : vs.length = 1) : ∃ x, vs = [x] := match vs, h with | [x], _ => ⟨x, rfl⟩
theorem args2 {vs : List V} (h : vs.length = 2) : ∃ x y, vs = [x, y] := match vs, h with | [x, y], _ => ⟨x, y, rfl⟩
theorem args3 {vs : List V} (h : vs.length = 3) : ∃ x y z, vs = [x, y, z] := match vs, h with | [x, y, z], _ => ⟨x, y, z, rfl⟩
theorem args4 {vs : List V} (h : vs.length = 4) : ∃ x y z w, vs = [x, y, z, w] := match vs, h with | [x, y, z, w], _ => ⟨x, y, z, w, rfl⟩

/-- the same two lines serve is_whole and the laws' own _law_whole -/
theorem whole_read {K : PySem.W.Frag} {x : V} {d : D} {H : Hp} {Q : VK} (hx : At K H x d) (q : Q (.bl d.whole) H) :
    rIsi K [x, .ty "int"] H fun y H1 => ∃ c, y = .bl c ∧ if c = true then rIsi K [x, .ty "bool"] H1 fun y H2 => ∃ c, y = .bl c ∧ Q (.bl !c) H2 else Q (.bl false) H1 := by
  refine ⟨x, .ty "int", .type d.ty, .type "int", d.isInt, rfl, .ty _, hx.tyX, isi_int d, d.isInt, rfl, ?_⟩
  by_cases e : d.isInt = true
  · rw [if_pos e]
    refine ⟨x, .ty "bool", .type d.ty, .type "bool", d.isBl, rfl, .ty _, hx.tyX, isi_bool d, d.isBl, rfl, ?_⟩
    have : (!d.isBl) = d.whole := by cases d <;> first | rfl | cases e
    rw [this]
    exact q
  · rw [if_neg e]
    have : false = d.whole := by cases d <;> first | rfl | exact absurd rfl e
    rw [this]
    exact q
theorem pure_is_whole (S : Ev) (vs : List V) (H : Hp) (Q : VK) (E : XK) (h : sp_is_whole S vs H Q E) : t_is_whole S E { nx := fun _ H' => Q .non H', rt := Q } (start N_is_whole vs) H := by
  obtain ⟨x, rfl⟩ := args1 (len_is_whole S vs H Q E h)
  obtain ⟨d, hx, q⟩ := h
  exact ⟨x, rfl, whole_read hx q |> fun ⟨a, b, c, d, e, h1, h2, h3, h4, c', h5, h6⟩ => ⟨a, b, c, d, e, h1, h2, h3, h4, c', h5, by
    by_cases z : c' = true
    · rw [if_pos z] at h6 ⊢; exact ⟨x, rfl, h6⟩
    · rw [if_neg z] at h6 ⊢; exact h6⟩⟩
theorem pure_law_whole (S : Ev) (vs : List V) (H : Hp) (Q : VK) (E : XK) (h : sp_law_whole S vs H Q E) : t_law_whole S E { nx := fun _ H' => Q .non H', rt := Q } (start N_law_whole vs) H := by
  obtain ⟨x, rfl⟩ := args1 (len_law_whole S vs H Q E h)
  obtain ⟨d, hx, q⟩ := h
  exact ⟨x, rfl, whole_read hx q |> fun ⟨a, b, c, d, e, h1, h2, h3, h4, c', h5, h6⟩ => ⟨a, b, c, d, e, h1, h2, h3, h4, c', h5, by
    by_cases z : c' = true
    · rw [if_pos z] at h6 ⊢; exact ⟨x, rfl, h6⟩
    · rw [if_neg z] at h6 ⊢; exact h6⟩⟩
theorem pure_require_whole (S : Ev) (vs : List V) (H : Hp) (Q : VK) (E : XK) (h : sp_require_whole S vs H Q E) : t_require_whole S E { nx := fun _ H' => Q .non H', rt := Q } (start N_require_whole vs) H := by
  obtain ⟨x, rfl⟩ := args1 (len_require_whole S vs H Q E h)
  obtain ⟨d, hx, q1, q2⟩ := h
  refine ⟨x, rfl, d, hx, _, rfl, ?_⟩
  cases e : d.whole with
  | true => exact iteF (q1 e)
  | false => exact iteT (q2 e)
theorem pure_end_of (S : Ev) (vs : List V) (H : Hp) (Q : VK) (E : XK) (h : sp_end_of S vs H Q E) : t_end_of S E { nx := fun _ H' => Q .non H', rt := Q } (start N_end_of vs) H := by
  obtain ⟨x, rfl⟩ := args1 (len_end_of S vs H Q E h)
  obtain ⟨a, s, l, p, rfl, ht, q⟩ := h
  exact ⟨_, rfl, a, _, rfl, ht, rfl, .int s, _, rfl, .int l, _, rfl, p, _, rfl, rfl, _, rfl, _, rfl, s, l, rfl, rfl, q⟩
end VW
set_option Elab.async false
set_option linter.all false
set_option maxRecDepth 100000
set_option maxHeartbeats 4000000
namespace VW
open PySem PySem.Spec PyProof.Rows L2 GxR

/-! ### any, all over a list or a tuple that stands -/
section
variable {K : PySem.W.Frag} {P a : Addr} {xs : List V} {g : TG} {te : TE} {vs : List Nat} {σ : L2.St} {H : Hp} {Q : VK} {st : Bool} {k : Nat}
theorem genQ_list (ha : σ[k]? = some (some (.ref a))) (hS : SqL K H a xs) (hT : TabG H P) (Pv : Nat → Hp → Prop) (h0 : ∀ H2, Ext H H2 → Pv 0 H2) (hl : ∀ i H, Pv i H → SqL K H a xs)
    (hs : ∀ i x H, xs[i]? = some x → Pv i H → g x (wipe σ vs) H fun σ2 H2 => wipe σ2 vs = wipe σ vs ∧ te σ2 H2 fun y H3 => ∃ b, y = .bl b ∧ (b = st → Q (.bl st) H3) ∧ (b ≠ st → Pv (i + 1) H3))
    (hd : ∀ H, Pv xs.length H → Q (.bl (!st)) H) : tGenQ st P (iList K (tVar k)) g te vs σ H Q := by
  refine ⟨_, ha, a, rfl, ⟨_, hS⟩, hT, fun H2 t2 => ⟨fun i m H => m = xs.length - i ∧ i ≤ xs.length ∧ Pv i H, ⟨xs.length, by simp, Nat.zero_le _, h0 H2 (Ext.tabbed hT t2)⟩, ?_⟩⟩
  rintro i m H3 ⟨rfl, hi, p⟩
  have q := hl i H3 p
  by_cases hlt : i < xs.length
  · refine .inr ⟨⟨xs, xs[i], q, by simp [hlt]⟩, Pv (i + 1), fun H' p' => ⟨xs.length - (i + 1), by omega, rfl, hlt, p'⟩, fun x H' y => ?_⟩
    obtain ⟨e, y⟩ := y
    subst e
    exact hs i x _ (y xs q) p
  · have e : i = xs.length := by omega
    subst e
    exact .inl ⟨⟨xs, q, Nat.le_refl _⟩, hd H3 p⟩
theorem genQ_tup (ha : σ[k]? = some (some (.ref a))) (hS : SqT K H a xs) (hT : TabG H P) (Pv : Nat → Hp → Prop) (h0 : ∀ H2, Ext H H2 → Pv 0 H2) (hl : ∀ i H, Pv i H → SqT K H a xs)
    (hs : ∀ i x H, xs[i]? = some x → Pv i H → g x (wipe σ vs) H fun σ2 H2 => wipe σ2 vs = wipe σ vs ∧ te σ2 H2 fun y H3 => ∃ b, y = .bl b ∧ (b = st → Q (.bl st) H3) ∧ (b ≠ st → Pv (i + 1) H3))
    (hd : ∀ H, Pv xs.length H → Q (.bl (!st)) H) : tGenQ st P (iTup K (tVar k)) g te vs σ H Q := by
  refine ⟨_, ha, a, rfl, ⟨_, hS⟩, hT, fun H2 t2 => ⟨fun i m H => m = xs.length - i ∧ i ≤ xs.length ∧ Pv i H, ⟨xs.length, by simp, Nat.zero_le _, h0 H2 (Ext.tabbed hT t2)⟩, ?_⟩⟩
  rintro i m H3 ⟨rfl, hi, p⟩
  have q := hl i H3 p
  by_cases hlt : i < xs.length
  · refine .inr ⟨⟨xs, xs[i], q, by simp [hlt]⟩, Pv (i + 1), fun H' p' => ⟨xs.length - (i + 1), by omega, rfl, hlt, p'⟩, fun x H' y => ?_⟩
    obtain ⟨e, y⟩ := y
    subst e
    exact hs i x _ (y xs q) p
  · have e : i = xs.length := by omega
    subst e
    exact .inl ⟨⟨xs, q, Nat.le_refl _⟩, hd H3 p⟩
end
/-- what holds of the first i holds of one more -/
theorem take_all {ds : List D} {p : D → Bool} {i : Nat} {d : D} (h : (ds.take i).all p = true) (e : ds[i]? = some d) (hd : p d = true) : (ds.take (i + 1)).all p = true := by
  rw [List.take_succ, e, List.all_append, h]
  simp [hd]
theorem not_all {ds : List D} {p : D → Bool} {i : Nat} {d : D} (e : ds[i]? = some d) (hd : p d = false) : ds.all p = false := by
  rw [List.all_eq_false]
  exact ⟨d, List.mem_of_getElem? e, by simp [hd]⟩

/-! ### is_note -/
theorem isNote_of {d : D} (h : ∀ a b c, d ≠ .tup [.int a, .int b, .int c]) : isNote d = false := by
  unfold isNote asNote
  split
  · rename_i n hn
    split at hn
    · rename_i a b c
      exact absurd rfl (h a b c)
    · cases hn
  · rfl
theorem whole_int : ∀ {d : D}, d.whole = true → ∃ i, d = .int i
  | .int i, _ => ⟨i, rfl⟩
  | .non, h => by cases h
  | .bl _, h => by cases h
  | .str _, h => by cases h
  | .tup _, h => by cases h
  | .lst _, h => by cases h
  | .dic, h => by cases h
theorem all_whole3 {ds : List D} (hl : ds.length = 3) (h : ds.all D.whole = true) : ∃ a b c : Int, ds = [.int a, .int b, .int c] := by
  match ds, hl with
  | [x, y, z], _ =>
    simp only [List.all_cons, List.all_nil, Bool.and_true, Bool.and_eq_true] at h
    obtain ⟨h1, h2, h3⟩ := h
    obtain ⟨a, rfl⟩ := whole_int h1
    obtain ⟨b, rfl⟩ := whole_int h2
    obtain ⟨c, rfl⟩ := whole_int h3
    exact ⟨_, _, _, rfl⟩
theorem pure_is_note (S : Ev) (vs : List V) (H : Hp) (Q : VK) (E : XK) (h : sp_is_note S vs H Q E) : t_is_note S E { nx := fun _ H' => Q .non H', rt := Q } (start N_is_note vs) H := by
  obtain ⟨x, rfl⟩ := args1 (len_is_note S vs H Q E h)
  obtain ⟨hT, d, hx, q⟩ := h
  -- if not isinstance(note, tuple) or len(note) != 3
  refine ⟨x, rfl, x, .ty "tuple", .type d.ty, .type "tuple", d.isTup, rfl, .ty _, hx.tyX, isi_tuple d, _, rfl, ?_⟩
  by_cases ht : d.isTup = true
  · rw [ht]
    refine iteF ?_
    obtain ⟨a, ts, ds, rfl, rfl, hS, hA⟩ : ∃ a ts ds, x = .ref a ∧ d = .tup ds ∧ SqT S.K H a ts ∧ AtAll S.K H ts ds := by
      cases hx with
      | tup hs ha => exact ⟨_, _, _, rfl, rfl, hs, ha⟩
      | non => cases ht
      | bl b => cases ht
      | int i => cases ht
      | str y => cases ht
      | lst _ _ => cases ht
      | dic _ => cases ht
    have hlen := hA.length
    refine ⟨_, rfl, .ref a, ts.length, rfl, .inr ⟨ts, hS, rfl⟩, rfl, _, rfl, ?_⟩
    by_cases h3 : ts.length = 3
    · rw [show (!decide ((V.int (ts.length : Int)) = V.int 3)) = false by rw [h3]; rfl]
      refine iteF ?_
      -- if not all(is_whole(part) for part in note)
      have hPn : TabG H S.Pn := hT _ S.hPn
      refine genQ_tup (xs := ts) rfl hS hPn (fun i H' => Ext H H' ∧ (ds.take i).all D.whole = true) (fun H2 e2 => ⟨e2, by simp⟩) (fun i H' p => p.1.sqT hS) (fun i y H' hy p => ?_) (fun H' p => ?_)
      · obtain ⟨dy, hdy, hAy⟩ := hA.get hy
        refine ⟨rfl, y, rfl, dy, At.ext p.1 _ _ hAy, dy.whole, rfl, fun hb => ?_, fun hb => ⟨p.1, take_all p.2 hdy (by simpa using hb)⟩⟩
        refine ⟨_, rfl, ?_⟩
        refine iteT ?_
        have e : isNote (.tup ds) = false := isNote_of fun a b c z => by
          injection z with z
          have := not_all hdy hb
          rw [z] at this
          cases this
        have := q H' p.1
        rw [e] at this
        exact this
      · refine ⟨_, rfl, iteF ?_⟩
        have hall : ds.all D.whole = true := by
          have := p.2
          rw [hlen, List.take_length] at this
          exact this
        obtain ⟨s, l, pt, rfl⟩ := all_whole3 (by omega) hall
        have ets : ts = [.int s, .int l, .int pt] := by
          cases hA with
          | cons k1 hr =>
            cases hr with
            | cons k2 hr =>
              cases hr with
              | cons k3 hr =>
                cases hr
                cases k1; cases k2; cases k3
                rfl
        subst ets
        have hS' := p.1.sqT hS
        have q' := q H' p.1
        have eN : isNote (.tup [.int s, .int l, .int pt]) = (decide (0 ≤ s) && decide (1 ≤ l) && decide (s + l ≤ 100000) && decide (-200 ≤ pt) && decide (pt ≤ 200)) := rfl
        rw [eN] at q'
        -- start, long, pitch = note
        refine ⟨_, rfl, a, _, rfl, hS', rfl, .int s, _, rfl, .int l, _, rfl, .int pt, _, rfl, rfl, ?_⟩
        -- in_time = ..; return in_time and -PITCH_REACH <= pitch <= PITCH_REACH
        refine ⟨.int s, rfl, s, 0, rfl, rfl, _, rfl, ?_⟩
        have fin : ∀ b : Bool, (b = true → (decide (-200 ≤ pt) && decide (pt ≤ 200)) = (decide (0 ≤ s) && decide (1 ≤ l) && decide (s + l ≤ 100000) && decide (-200 ≤ pt) && decide (pt ≤ 200))) → (b = false → (decide (0 ≤ s) && decide (1 ≤ l) && decide (s + l ≤ 100000) && decide (-200 ≤ pt) && decide (pt ≤ 200)) = false) →
            tRet (tAndV (tVar 4) (tChain kLe kLe (tUn kNeg (tC (.int 200))) (tVar 3) (tC (.int 200)))) { nx := fun _ H' => Q .non H', rt := Q } [some (.ref a), some (.int s), some (.int l), some (.int pt), some (.bl b), none] H' := by
          intro b hb1 hb0
          refine ⟨.bl b, rfl, b, rfl, ?_⟩
          cases b with
          | false =>
            refine iteF ?_
            rw [← hb0 rfl]; exact q'
          | true =>
            refine iteT ?_
            refine ⟨200, rfl, .int pt, rfl, -200, pt, rfl, rfl, _, rfl, ?_⟩
            rw [← hb1 rfl] at q'
            by_cases e : -200 ≤ pt
            · rw [decide_eq_true e] at q' ⊢
              exact iteT ⟨pt, 200, rfl, rfl, q'⟩
            · rw [decide_eq_false e] at q' ⊢
              exact iteF q'
        by_cases e1 : 0 ≤ s
        · rw [decide_eq_true e1]
          refine iteT ⟨.int l, rfl, l, 1, rfl, rfl, _, rfl, ?_⟩
          by_cases e2 : 1 ≤ l
          · rw [decide_eq_true e2]
            refine iteT ⟨.int s, rfl, .int l, rfl, s, l, rfl, rfl, s + l, 100000, rfl, rfl, ?_⟩
            exact fin _ (fun hb => by rw [hb, decide_eq_true e1, decide_eq_true e2]; simp) fun hb => by rw [hb]; simp
          · rw [decide_eq_false e2]
            exact iteF (fin _ (fun hb => by cases hb) fun _ => by simp [decide_eq_false e2])
        · rw [decide_eq_false e1]
          exact iteF (fin _ (fun hb => by cases hb) fun _ => by simp [decide_eq_false e1])
    · have hne : ¬ (V.int (ts.length : Int)) = V.int 3 := fun z => h3 (by injection z with z; omega)
      rw [show (!decide ((V.int (ts.length : Int)) = V.int 3)) = true by rw [decide_eq_false hne]; rfl]
      refine iteT ?_
      have e : isNote (.tup ds) = false := isNote_of fun a b c z => by
        injection z with z
        rw [z] at hlen
        exact h3 (by rw [hlen]; rfl)
      have := q H (Ext.refl H)
      rw [e] at this
      exact this
  · have ht' : d.isTup = false := by simpa using ht
    rw [ht']
    refine iteT ?_
    have e : isNote d = false := isNote_of fun a b c z => by rw [z] at ht'; cases ht'
    have := q H (Ext.refl H)
    rw [e] at this
    exact this
end VW
set_option Elab.async false
set_option linter.all false
set_option maxRecDepth 100000
set_option maxHeartbeats 4000000
namespace VW
open PySem PySem.Spec PyProof.Rows L2 GxR

theorem At.note {K : PySem.W.Frag} {H : Hp} {x : V} {n : Nt} (h : At K H x (noteD n)) : ∃ a, x = .ref a ∧ SqT K H a [.int n.1, .int n.2.1, .int n.2.2] := by
  cases h with
  | tup hs ha =>
    cases ha with
    | cons k1 hr =>
      cases hr with
      | cons k2 hr =>
        cases hr with
        | cons k3 hr =>
          cases hr
          cases k1; cases k2; cases k3
          exact ⟨_, rfl, hs⟩
theorem At.list {K : PySem.W.Frag} {H : Hp} {x : V} {ds : List D} (h : At K H x (.lst ds)) : ∃ a xs, x = .ref a ∧ SqL K H a xs ∧ AtAll K H xs ds := by
  cases h with
  | lst hs ha => exact ⟨_, _, rfl, hs, ha⟩
theorem At.isLst {K : PySem.W.Frag} {H : Hp} {x : V} {d : D} (h : At K H x d) (e : d.isLst = true) : ∃ a xs ds, d = .lst ds ∧ x = .ref a ∧ SqL K H a xs ∧ AtAll K H xs ds := by
  cases h with
  | lst hs ha => exact ⟨_, _, _, rfl, rfl, hs, ha⟩
  | non => cases e
  | bl b => cases e
  | int i => cases e
  | str y => cases e
  | tup _ _ => cases e
  | dic _ => cases e
theorem drop_at {α : Type} {l : List α} {i : Nat} {x : α} (h : l[i]? = some x) : l.drop i = x :: l.drop (i + 1) := by
  obtain ⟨hi, e⟩ := List.getElem?_eq_some_iff.mp h
  rw [List.drop_eq_getElem_cons hi, e]
theorem isNote_some {d : D} (h : isNote d = true) : ∃ n, asNote d = some n ∧ okNote n = true := by
  unfold isNote at h
  split at h
  · rename_i n hn; exact ⟨n, hn, h⟩
  · cases h
theorem voiceFrom_bad {d : D} {r : List D} {e : Int} (h : isNote d = false) : voiceFrom e (d :: r) = false := by
  unfold isNote at h
  unfold voiceFrom
  split
  · rename_i n hn
    rw [hn] at h
    have h' : okNote n = false := h
    rw [h']
    rfl
  · rfl
theorem voiceFrom_cons {d : D} {r : List D} {e : Int} {n : Nt} (h : asNote d = some n) : voiceFrom e (d :: r) = (okNote n && decide (e ≤ n.1) && voiceFrom (n.1 + n.2.1) r) := by
  show (match asNote d with | some n => _ | none => _) = _
  rw [h]

theorem pure_is_voice (S : Ev) (vs : List V) (H : Hp) (Q : VK) (E : XK) (h : sp_is_voice S vs H Q E) : t_is_voice S E { nx := fun _ H' => Q .non H', rt := Q } (start N_is_voice vs) H := by
  obtain ⟨x, rfl⟩ := args1 (len_is_voice S vs H Q E h)
  obtain ⟨hT, d, hx, q⟩ := h
  refine ⟨x, rfl, x, .ty "list", .type d.ty, .type "list", d.isLst, rfl, .ty _, hx.tyX, isi_list d, _, rfl, ?_⟩
  cases ht : d.isLst with
  | false =>
    refine iteT ?_
    have e : isVoice d = false := by cases d <;> first | rfl | cases ht
    have := q H (Ext.refl H)
    rw [e] at this
    exact this
  | true =>
    refine iteF ?_
    obtain ⟨a, xs, ds, rfl, rfl, hS, hA⟩ := hx.isLst ht
    have hlen := hA.length
    refine ⟨_, rfl, a, rfl, ⟨_, hS⟩, for_list (K := S.K) (a := a) (xs := xs) (fun i σ H' => ∃ e y2, σ = [some (.ref a), some (.int e), y2] ∧ Ext H H' ∧ voiceFrom 0 ds = voiceFrom e (ds.drop i))
      ⟨0, none, rfl, Ext.refl H, rfl⟩ (fun i σ H' _ ⟨_, _, _, x2, _⟩ => x2.sqL hS) ?_ ?_⟩
    · rintro i y σ H' hy ⟨e, y2, rfl, x2, eq⟩
      obtain ⟨dy, hdy, hAy⟩ := hA.get hy
      rw [drop_at hdy] at eq
      have hAy' := At.ext x2 _ _ hAy
      refine ⟨_, rfl, x2.tabs hT, dy, hAy', fun H2 x3 => ⟨_, rfl, ?_⟩⟩
      cases hn : isNote dy with
      | false =>
        refine iteT (iteT ?_)
        rw [voiceFrom_bad hn] at eq
        have := q H2 (x2.trans x3)
        rw [show isVoice (.lst ds) = voiceFrom 0 ds from rfl, eq] at this
        exact this
      | true =>
        refine iteF ?_
        obtain ⟨n, e1, ok⟩ := isNote_some hn
        have ed := asNote_some e1
        subst ed
        obtain ⟨b, rfl, hb⟩ := (At.ext x3 _ _ hAy').note
        rw [voiceFrom_cons e1, ok, Bool.true_and] at eq
        refine ⟨_, rfl, b, _, 0, .int n.1, rfl, rfl, hb, rfl, .int e, rfl, n.1, e, rfl, rfl, _, rfl, ?_⟩
        by_cases c : n.1 < e
        · rw [decide_eq_true c]
          refine iteT ?_
          rw [decide_eq_false (by omega), Bool.false_and] at eq
          have := q H2 (x2.trans x3)
          rw [show isVoice (.lst ds) = voiceFrom 0 ds from rfl, eq] at this
          exact this
        · rw [decide_eq_false c]
          refine iteF ?_
          rw [decide_eq_true (by omega), Bool.true_and] at eq
          exact ⟨_, rfl, b, n.1, n.2.1, .int n.2.2, rfl, hb, n.1 + n.2.1, _, rfl, x2.trans x3, eq⟩
    · rintro σ H' ⟨e, y2, rfl, x2, eq⟩
      rw [hlen, List.drop_length] at eq
      have := q H' x2
      rw [show isVoice (.lst ds) = voiceFrom 0 ds from rfl, eq] at this
      exact this

theorem pure_is_piece (S : Ev) (vs : List V) (H : Hp) (Q : VK) (E : XK) (h : sp_is_piece S vs H Q E) : t_is_piece S E { nx := fun _ H' => Q .non H', rt := Q } (start N_is_piece vs) H := by
  obtain ⟨x, rfl⟩ := args1 (len_is_piece S vs H Q E h)
  obtain ⟨hT, d, hx, q⟩ := h
  refine ⟨x, rfl, x, .ty "list", .type d.ty, .type "list", d.isLst, rfl, .ty _, hx.tyX, isi_list d, _, rfl, ?_⟩
  cases ht : d.isLst with
  | false =>
    refine iteT (iteT ?_)
    have e : isPiece d = false := by cases d <;> first | rfl | cases ht
    have := q H (Ext.refl H)
    rw [e] at this
    exact this
  | true =>
    refine iteF ?_
    obtain ⟨a, xs, ds, rfl, rfl, hS, hA⟩ := hx.isLst ht
    have hlen := hA.length
    have eP : isPiece (.lst ds) = (decide (1 ≤ ds.length) && decide (ds.length ≤ 6) && ds.all isVoice) := rfl
    refine ⟨_, rfl, .ref a, xs.length, rfl, .inl ⟨xs, hS, rfl⟩, 1, xs.length, rfl, rfl, _, rfl, ?_⟩
    by_cases h1 : 1 ≤ xs.length
    · rw [decide_eq_true (show (1 : Int) ≤ (xs.length : Int) by omega)]
      refine iteT ⟨xs.length, 6, rfl, rfl, _, rfl, ?_⟩
      by_cases h6 : xs.length ≤ 6
      · rw [decide_eq_true (show (xs.length : Int) ≤ 6 by omega)]
        refine iteF ?_
        have hPp : TabG H S.Pp := hT _ S.hPp
        refine genQ_list (xs := xs) rfl hS hPp (fun i H' => Ext H H' ∧ (ds.take i).all isVoice = true) (fun H2 e2 => ⟨e2, by simp⟩) (fun i H' p => p.1.sqL hS) (fun i y H' hy p => ?_) (fun H' p => ?_)
        · obtain ⟨dy, hdy, hAy⟩ := hA.get hy
          refine ⟨rfl, y, rfl, p.1.tabs hT, dy, At.ext p.1 _ _ hAy, fun H2 x3 => ⟨_, rfl, fun hb => ?_, fun hb => ⟨p.1.trans x3, take_all p.2 hdy (by simpa using hb)⟩⟩⟩
          have := q H2 (p.1.trans x3)
          rw [eP, not_all hdy hb, Bool.and_false] at this
          exact this
        · have hall : ds.all isVoice = true := by
            have := p.2
            rw [hlen, List.take_length] at this
            exact this
          have := q H' p.1
          rw [eP, hall, decide_eq_true (by omega), decide_eq_true (by omega)] at this
          exact this
      · rw [decide_eq_false (show ¬ (xs.length : Int) ≤ 6 by omega)]
        refine iteT ?_
        have := q H (Ext.refl H)
        rw [eP, decide_eq_false (show ¬ ds.length ≤ 6 by omega), Bool.and_false, Bool.false_and] at this
        exact this
    · rw [decide_eq_false (show ¬ (1 : Int) ≤ (xs.length : Int) by omega)]
      refine iteF ⟨_, rfl, ?_⟩
      refine iteT ?_
      have := q H (Ext.refl H)
      rw [eP, decide_eq_false (show ¬ 1 ≤ ds.length by omega), Bool.false_and, Bool.false_and] at this
      exact this
end VW
set_option Elab.async false
set_option linter.all false
set_option maxRecDepth 100000
set_option maxHeartbeats 4000000
namespace VW
open PySem PySem.Spec PyProof.Rows L2 GxR

/-! ### notes while a list changes -/
section
variable {K : PySem.W.Frag} {H H1 : Hp} {D a : Addr} {o : HO} {zs : List V}
theorem sqT_upd {xs : List V} (hD : H D = some (.lst zs)) (h : SqT K H a xs) : SqT K (upd H D o) a xs := by
  rcases h with (e | ⟨ob, e⟩) | h
  · exact .inl (.inl (by rw [upd_ne (ne_of e hD (by intro z; cases z))]; exact e))
  · exact .inl (.inr ⟨ob, by rw [upd_ne (ne_of e hD (by intro z; cases z))]; exact e⟩)
  · exact .inr h
theorem At.note_upd {x : V} {n : Nt} (hD : H D = some (.lst zs)) (h : At K H x (noteD n)) : At K (upd H D o) x (noteD n) := by
  cases h with
  | tup hs ha =>
    refine .tup (sqT_upd hD hs) ?_
    cases ha with
    | cons k1 hr =>
      cases hr with
      | cons k2 hr =>
        cases hr with
        | cons k3 hr =>
          cases hr
          cases k1; cases k2; cases k3
          exact .cons (.int _) (.cons (.int _) (.cons (.int _) .nil))
theorem AtAll.notes_upd (hD : H D = some (.lst zs)) : ∀ {xs : List V} {v : List Nt}, AtAll K H xs (v.map noteD) → AtAll K (upd H D o) xs (v.map noteD)
  | _, [], h => by cases h; exact .nil
  | _, n :: v, h => by
    cases h with
    | cons k r => exact .cons (k.note_upd hD) (AtAll.notes_upd hD r)
end
theorem Rows.ext {K : PySem.W.Frag} {H H1 : Hp} (x : Ext H H1) : ∀ {as : List Addr} {dss : List (List D)}, Rows K H as dss → Rows K H1 as dss
  | [], [], _ => trivial
  | a :: as, ds :: dss, ⟨⟨xs, e, h⟩, r⟩ => ⟨⟨xs, x.lst e, AtAll.ext x _ _ h⟩, Rows.ext x r⟩
  | [], _ :: _, h => h.elim
  | _ :: _, [], h => h.elim
theorem Rows.upd {K : PySem.W.Frag} {H : Hp} {p : Addr} {o : HO} {zs : List V} (hD : H p = some (.lst zs)) : ∀ {as : List Addr} {rows : List (List Nt)}, p ∉ as → Rows K H as (rows.map fun v => v.map noteD) → Rows K (L2.upd H p o) as (rows.map fun v => v.map noteD)
  | [], [], _, _ => trivial
  | a :: as, v :: rows, hn, ⟨⟨xs, e, h⟩, r⟩ => ⟨⟨xs, by rw [upd_ne (fun z => hn (by rw [← z]; exact List.mem_cons_self))]; exact e, h.notes_upd hD⟩, Rows.upd hD (fun z => hn (List.mem_cons_of_mem _ z)) r⟩
  | [], _ :: _, _, h => h.elim
  | _ :: _, [], _, h => h.elim
theorem Rows.snoc {K : PySem.W.Frag} {H : Hp} {b : Addr} {xs : List V} {ds : List D} (e : H b = some (.lst xs)) (h : AtAll K H xs ds) : ∀ {as : List Addr} {dss : List (List D)}, Rows K H as dss → Rows K H (as ++ [b]) (dss ++ [ds])
  | [], [], _ => ⟨⟨xs, e, h⟩, trivial⟩
  | _ :: _, _ :: _, ⟨h1, r⟩ => ⟨h1, Rows.snoc e h r⟩
  | [], _ :: _, h => h.elim
  | _ :: _, [], h => h.elim
theorem Rows.length {K : PySem.W.Frag} {H : Hp} : ∀ {as : List Addr} {dss : List (List D)}, Rows K H as dss → as.length = dss.length
  | [], [], _ => rfl
  | _ :: _, _ :: _, ⟨_, r⟩ => congrArg (· + 1) r.length
  | [], _ :: _, h => h.elim
  | _ :: _, [], h => h.elim
theorem Rows.there {K : PySem.W.Frag} {H : Hp} : ∀ {as : List Addr} {dss : List (List D)} {a : Addr}, Rows K H as dss → a ∈ as → ∃ xs, H a = some (.lst xs)
  | a :: as, ds :: dss, b, ⟨⟨xs, e, _⟩, r⟩, hb => by
    rcases List.mem_cons.mp hb with z | z
    · rw [z]; exact ⟨xs, e⟩
    · exact Rows.there r z
  | [], _, _, _, hb => by cases hb
  | _ :: _, [], _, h, _ => h.elim
theorem Rows.at {K : PySem.W.Frag} {H : Hp} : ∀ {as : List Addr} {dss : List (List D)}, Rows K H as dss → AtAll K H (as.map V.ref) (dss.map D.lst)
  | [], [], _ => .nil
  | _ :: _, _ :: _, ⟨⟨xs, e, h⟩, r⟩ => .cons (.lst (.of e) h) r.at
  | [], _ :: _, h => h.elim
  | _ :: _, [], h => h.elim
theorem New2.at {K : PySem.W.Frag} {H0 H : Hp} {p : Addr} {dss : List (List D)} (h : New2 K H0 H p dss) : At K H (.ref p) (.lst (dss.map D.lst)) := by
  obtain ⟨as, e, _, _, _, r⟩ := h.ex
  exact .lst (.of e) r.at
theorem pieceD_rows (pc : List (List Nt)) : pieceD pc = .lst ((pc.map fun v => v.map noteD).map D.lst) := by
  unfold pieceD
  rw [List.map_map]
  rfl
theorem New2.piece {K : PySem.W.Frag} {H0 H : Hp} {p : Addr} {pc : List (List Nt)} (h : New2 K H0 H p (pc.map fun v => v.map noteD)) : At K H (.ref p) (pieceD pc) := by
  rw [pieceD_rows]
  exact h.at

/-- a comprehension whose elements are new lists of notes -/
theorem lc_rowsD {K : PySem.W.Frag} {a : Addr} {xs : List V} {g : TG} {te : TE} {vs : List Nat} {σ : L2.St} {H1 : Hp} {D : Addr} {Qd : Hp → Prop} (hD : H1 D = none) (rows : List (List Nt)) (hlen : rows.length = xs.length) (hz : xs.length ≤ 1000) (hS : SqL K H1 a xs)
    (hs : ∀ (i : Nat) (x : V) (r : List Nt) (H' : Hp) (R : VK), xs[i]? = some x → rows[i]? = some r → Ext H1 H' → (∀ b ys H4, H4 b = some (.lst ys) → H' b = none → Ext H' H4 → AtAll K H4 ys (r.map noteD) → R (.ref b) H4) →
      g x (wipe σ vs) H' fun σ2 H2 => wipe σ2 vs = wipe σ vs ∧ te σ2 H2 R)
    (hd : ∀ H', Ext H1 H' → New2 K H1 H' D (rows.map fun v => v.map noteD) → Qd H') :
    ∃ W : Nat → Nat → Hp → Prop, (∃ m, W 0 m (upd H1 D (.lst []))) ∧ ∀ i m H, W i m H →
      ((Itl K a).stop i H ∧ Qd H) ∨ ((Itl K a).go i H ∧ ∃ Nx : Hp → Prop, (∀ H', Nx H' → ∃ m', m' < m ∧ W (i + 1) m' H') ∧ ∀ x H', (Itl K a).yld i H x H' → g x (wipe σ vs) H' fun σ2 H2 => wipe σ2 vs = wipe σ vs ∧ tYes σ2 H2 fun b H3 =>
        if b = true then te σ2 H3 fun y H4 => ∃ acc, H4 D = some (.lst acc) ∧ acc.length < sizeLine ∧ Nx (upd H4 D (.lst (acc ++ [y]))) else Nx H3) := by
  have E0 : Ext H1 (upd H1 D (.lst [])) := Ext.new hD
  refine lc_list (Pv := fun i H => Ext H1 H ∧ ∃ as : List Addr, H D = some (.lst (as.map V.ref)) ∧ as.length = i ∧ (D :: as).Nodup ∧ (∀ a ∈ as, H1 a = none) ∧ Rows K H as ((rows.take i).map fun v => v.map noteD))
    ⟨E0, [], upd_same, rfl, by simp, by simp, trivial⟩ (fun i H _ h => h.1.sqL hS) ?_ ?_
  · rintro i x H hx ⟨hE, as, eD, hL, hN, h0, hR⟩
    have hi : i < xs.length := by
      have := hx
      rw [List.getElem?_eq_some_iff] at this
      exact this.1
    have hr : rows[i]? = some rows[i] := List.getElem?_eq_getElem (by omega)
    refine hs i x _ H _ hx hr hE fun b ys H4 eb nb hE4 hA => ⟨as.map V.ref, hE4.lst eD, by rw [List.length_map]; exact Nat.lt_of_lt_of_le (by omega) (by decide : 1001 ≤ sizeLine), ?_⟩
    have bD : b ≠ D := fun z => by rw [z, eD] at nb; cases nb
    have bas : b ∉ as := fun z => by obtain ⟨ws, ew⟩ := hR.there z; rw [ew] at nb; cases nb
    have Das : D ∉ as := (List.nodup_cons.mp hN).1
    have eD4 := hE4.lst eD
    refine ⟨(hE.trans hE4).upd hD, as ++ [b], by rw [upd_same, List.map_append]; rfl, by rw [List.length_append, hL]; rfl, ?_, ?_, ?_⟩
    · rw [← List.cons_append]
      refine List.nodup_append.mpr ⟨hN, by simp, ?_⟩
      intro c hc d hd'
      rw [List.mem_singleton.mp hd']
      intro z
      rw [z] at hc
      rcases List.mem_cons.mp hc with q | q
      · exact bD q
      · exact bas q
    · intro c hc
      rcases List.mem_append.mp hc with q | q
      · exact h0 c q
      · rw [List.mem_singleton.mp q]
        exact hE.free nb
    · have e1 : (rows.take (i + 1)).map (fun v => v.map noteD) = ((rows.take i).map fun v => v.map noteD) ++ [rows[i].map noteD] := by
        rw [List.take_succ, hr, List.map_append]
        rfl
      rw [e1]
      refine Rows.snoc (xs := ys) (by rw [upd_ne bD]; exact eb) (hA.notes_upd eD4) ?_
      exact Rows.upd eD4 Das (Rows.ext hE4 hR)
  · rintro H ⟨hE, as, eD, hL, hN, h0, hR⟩
    refine hd H hE ⟨as, eD, hD, hN, h0, ?_⟩
    rw [← hlen, List.take_length] at hR
    exact hR
end VW
set_option Elab.async false
set_option linter.all false
set_option maxRecDepth 100000
set_option maxHeartbeats 4000000
namespace VW
open PySem PySem.Spec PyProof.Rows L2 GxR

/-- what a piece holds, voice by voice -/
theorem At.piece {K : PySem.W.Frag} {H : Hp} {x : V} {pc : List (List Nt)} (h : At K H x (pieceD pc)) : ∃ a xs, x = .ref a ∧ SqL K H a xs ∧ AtAll K H xs (pc.map voiceD) := by
  unfold pieceD at h
  cases h with
  | lst hs ha => exact ⟨_, _, rfl, hs, ha⟩
theorem okPiece_len {pc : List (List Nt)} (h : okPiece pc = true) : 1 ≤ pc.length ∧ pc.length ≤ 6 := by
  unfold okPiece at h
  simp only [Bool.and_eq_true, decide_eq_true_eq] at h
  exact h.1

theorem pure_good (S : Ev) (vs : List V) (H : Hp) (Q : VK) (E : XK) (h : sp_good S vs H Q E) : t_good S E { nx := fun _ H' => Q .non H', rt := Q } (start N_good vs) H := by
  obtain ⟨x, rfl⟩ := args1 (len_good S vs H Q E h)
  obtain ⟨hT, d, hx, q1, q2⟩ := h
  refine ⟨x, rfl, hT, d, hx, fun H2 x2 => ⟨_, rfl, ?_⟩⟩
  cases hd : isPiece d with
  | false => exact iteT (q2 hd H2 x2)
  | true =>
    refine iteF ?_
    obtain ⟨pc, ed, ok⟩ := isPiece_some hd
    subst ed
    obtain ⟨a, xs, rfl, hS, hA⟩ := At.piece (At.ext x2 _ _ hx)
    have hl := hA.length
    rw [List.length_map] at hl
    have hp := okPiece_len ok
    refine ⟨_, rfl, a, rfl, ⟨xs, hS⟩, fun p hp => lc_rowsD (xs := xs) hp pc hl.symm (by omega) hS ?_ fun H' x3 n2 => q1 pc rfl ok H' p (x2.trans x3) ⟨?_⟩⟩
    · intro i y r H' R hy hr x3 k
      obtain ⟨dy, hdy, hAy⟩ := hA.get hy
      rw [List.getElem?_map, hr] at hdy
      cases hdy
      obtain ⟨b, ys, rfl, hb, hB⟩ := At.list (At.ext x3 _ _ hAy)
      refine ⟨rfl, _, rfl, b, ys, rfl, .inl hb, fun l hl' => ?_⟩
      exact k l ys _ upd_same hl' (Ext.new hl') (AtAll.ext (Ext.new hl') _ _ hB)
    · obtain ⟨as, e1, e2, e3, e4, e5⟩ := n2.ex
      exact ⟨as, e1, x2.free e2, e3, fun a ha => x2.free (e4 a ha), e5⟩

theorem atI_of {xs : List V} {i : Int} {v : V} (h : 0 ≤ i) (e : xs[i.toNat]? = some v) : atI xs i = some v := by
  have hl : i.toNat < xs.length := (List.getElem?_eq_some_iff.mp e).1
  unfold atI ixN
  rw [if_pos h, if_pos (by omega)]
  exact e
theorem atI3 (a b c : V) : atI [a, b, c] 0 = some a ∧ atI [a, b, c] 1 = some b ∧ atI [a, b, c] 2 = some c := ⟨rfl, rfl, rfl⟩
theorem pure_pitch_at (S : Ev) (vs : List V) (H : Hp) (Q : VK) (E : XK) (h : sp_pitch_at S vs H Q E) : t_pitch_at S E { nx := fun _ H' => Q .non H', rt := Q } (start N_pitch_at vs) H := by
  obtain ⟨x, t, rfl⟩ := args2 (len_pitch_at S vs H Q E h)
  obtain ⟨v, i, hx, rfl, q⟩ := h
  obtain ⟨a, xs, rfl, hS, hA⟩ := At.list hx
  have hlen := hA.length
  rw [List.length_map] at hlen
  refine ⟨_, rfl, a, rfl, ⟨_, hS⟩, for_list (K := S.K) (a := a) (xs := xs) (fun k σ H' => ∃ y2, σ = [some (.ref a), some (.int i), y2] ∧ H' = H ∧ pitchAt i v = pitchAt i (v.drop k))
      ⟨none, rfl, rfl, rfl⟩ (fun i σ H' _ ⟨_, _, e, _⟩ => by rw [e]; exact hS) ?_ ?_⟩
  · rintro k y σ H' hy ⟨y2, rfl, rfl, eq⟩
    obtain ⟨dy, hdy, hAy⟩ := hA.get hy
    rw [List.getElem?_map] at hdy
    cases hv : v[k]? with
    | none => rw [hv] at hdy; cases hdy
    | some n =>
      rw [hv] at hdy
      cases hdy
      obtain ⟨b, rfl, hb⟩ := hAy.note
      rw [drop_at hv] at eq
      have eq' : pitchAt i v = if n.1 ≤ i ∧ i < n.1 + n.2.1 then some n.2.2 else pitchAt i (v.drop (k + 1)) := eq
      refine ⟨_, rfl, b, _, 0, .int n.1, rfl, rfl, hb, rfl, .int i, rfl, n.1, i, rfl, rfl, _, rfl, ?_⟩
      by_cases c : n.1 ≤ i
      · rw [decide_eq_true c]
        refine iteT ⟨_, rfl, b, n.1, n.2.1, .int n.2.2, rfl, hb, i, n.1 + n.2.1, rfl, rfl, _, rfl, ?_⟩
        by_cases c2 : i < n.1 + n.2.1
        · rw [decide_eq_true c2]
          rw [if_pos ⟨c, c2⟩] at eq'
          refine iteT ⟨_, rfl, b, _, 2, .int n.2.2, rfl, rfl, hb, rfl, ?_⟩
          rw [eq'] at q
          exact q
        · rw [decide_eq_false c2]
          rw [if_neg (fun z => c2 z.2)] at eq'
          exact iteF ⟨_, rfl, rfl, eq'⟩
      · rw [decide_eq_false c]
        rw [if_neg (fun z => c z.1)] at eq'
        exact iteF ⟨_, rfl, iteF ⟨_, rfl, rfl, eq'⟩⟩
  · rintro σ H' ⟨y2, rfl, rfl, eq⟩
    rw [hlen, List.drop_length] at eq
    rw [eq] at q
    exact q

theorem pure_law_at (S : Ev) (vs : List V) (H : Hp) (Q : VK) (E : XK) (h : sp_law_at S vs H Q E) : t_law_at S E { nx := fun _ H' => Q .non H', rt := Q } (start N_law_at vs) H := by
  obtain ⟨x, k, rfl⟩ := args2 (len_law_at S vs H Q E h)
  obtain ⟨a, ns, i, rfl, hS, h63, rfl, hi, q⟩ := h
  refine ⟨.int i, rfl, _, rfl, _, (ns.map V.int).length, rfl, .inl ⟨_, hS, rfl⟩, i, _, rfl, rfl, _, rfl, ?_⟩
  rw [List.length_map]
  by_cases c : i < (ns.length : Int)
  · rw [decide_eq_true c]
    have hn : i.toNat < ns.length := by omega
    refine iteT ⟨_, rfl, .int i, rfl, a, _, i, .int (ns.getD i.toNat 0), rfl, rfl, hS, ?_, q⟩
    refine atI_of hi ?_
    rw [List.getElem?_map, List.getElem?_eq_getElem hn, List.getD_eq_getElem?_getD, List.getElem?_eq_getElem hn]
    rfl
  · rw [decide_eq_false c]
    refine iteF ?_
    rw [List.getD_eq_getElem?_getD, List.getElem?_eq_none (by omega)] at q
    exact q
end VW
set_option Elab.async false
set_option linter.all false
set_option maxRecDepth 100000
set_option maxHeartbeats 4000000
namespace VW
open PySem PySem.Spec PyProof.Rows L2 GxR

theorem D.whole_int {d : D} (h : d.whole = true) : ∃ i, d = .int i := by cases d <;> first | exact ⟨_, rfl⟩ | cases h
theorem At.isInt {K : PySem.W.Frag} {H : Hp} {x : V} {i : Int} (h : At K H x (.int i)) : x = .int i := by cases h; rfl
theorem take_snoc {α β : Type} {l : List α} {i : Nat} {x : α} (f : α → β) (h : l[i]? = some x) : (l.take (i + 1)).map f = (l.take i).map f ++ [f x] := by
  rw [List.take_succ, h, List.map_append]
  rfl

theorem pure_sounding (S : Ev) (vs : List V) (H : Hp) (Q : VK) (E : XK) (h : sp_sounding S vs H Q E) : t_sounding S E { nx := fun _ H' => Q .non H', rt := Q } (start N_sounding vs) H := by
  obtain ⟨x, t, rfl⟩ := args2 (len_sounding S vs H Q E h)
  obtain ⟨hT, d, dt, hx, ht, q1, q2, q3⟩ := h
  refine ⟨x, rfl, hT, d, hx, fun pc ed ok H2 p x2 n2 => ?_, fun hd H' x2 => q3 hd H' x2⟩
  refine ⟨t, rfl, dt, At.ext x2 _ _ ht, fun hw => ?_, fun hw => q2 (by rw [ed, isPiece_D]; exact ok) hw H2 x2⟩
  obtain ⟨i, ei⟩ := D.whole_int hw
  subst ei
  have et := ht.isInt
  subst et
  have hp := okPiece_len ok
  have hP := n2.piece
  obtain ⟨a, xs, e, hS, hA⟩ := At.piece hP
  cases e
  have hl := hA.length
  rw [List.length_map] at hl
  refine ⟨_, rfl, p, rfl, ⟨xs, hS⟩, fun D hD => ?_⟩
  refine lc_list (Pv := fun k H' => Ext H2 H' ∧ H' D = some (.lst ((pc.take k).map fun v => optV (pitchAt i v)))) ⟨Ext.new hD, upd_same⟩ (fun k H' _ p => p.1.sqL hS) ?_ ?_
  · rintro k y H' hy ⟨x3, eD⟩
    obtain ⟨dy, hdy, hAy⟩ := hA.get hy
    rw [List.getElem?_map] at hdy
    cases hv : pc[k]? with
    | none => rw [hv] at hdy; cases hdy
    | some v =>
      rw [hv] at hdy
      cases hdy
      have hk : k < pc.length := (List.getElem?_eq_some_iff.mp hv).1
      refine ⟨rfl, y, rfl, .int i, rfl, v, i, At.ext x3 _ _ hAy, rfl, _, eD, ?_, x3.upd hD, ?_⟩
      · rw [List.length_map, List.length_take]
        exact Nat.lt_of_lt_of_le (by omega : _ < 1001) (by decide : 1001 ≤ sizeLine)
      · rw [upd_same, take_snoc _ hv]
  · rintro H' ⟨x3, eD⟩
    rw [hl, List.take_length] at eD
    exact q1 pc i ed ok rfl H' D (x2.trans x3) (x2.free hD) eD
end VW
set_option Elab.async false
set_option linter.all false
set_option maxRecDepth 100000
set_option maxHeartbeats 4000000
namespace VW
open PySem PySem.Spec PyProof.Rows L2 GxR

theorem md (n : Int) {m : Int} (h : 0 < m) : 0 ≤ n.fmod m ∧ n.fmod m < m := ⟨Int.fmod_nonneg_of_pos n h, Int.fmod_lt_of_pos n h⟩
theorem cdv (n m : Int) (h : m ≠ 0) (h1 : m.natAbs < 1073741824) : CDivN n m := ⟨h, h1⟩
theorem rest6_at (n : Int) : atI ([.int 0, .int 0, .int 0, .int 0, .int 1, .int 3] : List V) (n.fmod 6) = some (V.int (rest6 (n.fmod 6))) := by
  have h := md n (m := 6) (by decide)
  generalize n.fmod 6 = z at h
  have : z = 0 ∨ z = 1 ∨ z = 2 ∨ z = 3 ∨ z = 4 ∨ z = 5 := by omega
  rcases this with e | e | e | e | e | e <;> subst e <;> rfl
theorem rest6_b (n : Int) : 0 ≤ rest6 n ∧ rest6 n ≤ 3 := by
  unfold rest6
  split
  · exact ⟨by decide, by decide⟩
  · split <;> exact ⟨by decide, by decide⟩
theorem jump4_at (m : Int) : atI ([.int ((m.fdiv 4).fmod 5 - 2), .int ((m.fdiv 4).fmod 5 - 2), .int ((m.fdiv 4).fmod 15 - 7), .int ((m.fdiv 4).fmod 41 - 20)] : List V) (m.fmod 4) = some (V.int (jump4 m)) := by
  have h := md m (m := 4) (by decide)
  unfold jump4
  generalize m.fmod 4 = z at h
  have : z = 0 ∨ z = 1 ∨ z = 2 ∨ z = 3 := by omega
  rcases this with e | e | e | e <;> subst e <;> rfl
theorem cmulL (i j : Int) (h : 0 ≤ i ∧ i ≤ 1000000) : CMul i j := .inl ⟨by omega, by omega⟩
theorem cmulR (i j : Int) (h : 0 ≤ j ∧ j ≤ 1000000) : CMul i j := .inr ⟨by omega, by omega⟩

theorem lawNotes_cons (sc : Int) (st : Int × Int) (n : Int) (r : List Int) : lawNotes sc st (n :: r) = lawNote sc st n :: lawNotes sc (lawStep sc st n) r := by rw [lawNotes]
/-- where the loop of the law's notes stands -/
structure NotesAt (S : Ev) (H0 : Hp) (a q : Addr) (ns : List Int) (sc : Int) (goal : List Nt) (k : Nat) (σ : L2.St) (H : Hp) : Prop where
  ex : ∃ (t p : Int) (y5 y6 y7 : Option V) (xs : List V) (done : List Nt), σ = [some (.ref a), some (.int t), some (.int p), some (.int sc), some (.ref q), y5, y6, y7] ∧ Ext H0 H ∧ H q = some (.lst xs) ∧ AtAll S.K H xs (done.map noteD) ∧ done.length = k ∧ done ++ lawNotes sc (t, p) (ns.drop k) = goal

theorem pure_law_notes (S : Ev) (vs : List V) (H : Hp) (Q : VK) (E : XK) (h : sp_law_notes S vs H Q E) : t_law_notes S E { nx := fun _ H' => Q .non H', rt := Q } (start N_law_notes vs) H := by
  obtain ⟨x, y, z, w, rfl⟩ := args4 (len_law_notes S vs H Q E h)
  obtain ⟨a, ns, ti, pi, sc, rfl, hS, h63, rfl, rfl, rfl, qq⟩ := h
  refine ⟨Nat.zero_le _, fun q hq => ⟨_, rfl, a, rfl, ⟨_, (Ext.new hq).sqL hS⟩, for_list (K := S.K) (a := a) (xs := ns.map V.int) (NotesAt S H a q ns sc (lawNotes sc (ti, pi) ns))
    ⟨ti, pi, none, none, none, [], [], rfl, Ext.new hq, upd_same, .nil, rfl, rfl⟩ (fun i σ H' _ ⟨_, _, _, _, _, _, _, _, e, _⟩ => e.sqL hS) ?_ ?_⟩⟩
  · rintro k y σ H' hy ⟨t, p, y5, y6, y7, xs, done, rfl, x2, eq, hA, hl, eg⟩
    rw [List.getElem?_map] at hy
    cases hv : ns[k]? with
    | none => rw [hv] at hy; cases hy
    | some n =>
      rw [hv] at hy
      cases hy
      have hk : k < ns.length := (List.getElem?_eq_some_iff.mp hv).1
      rw [drop_at hv] at eg
      refine ⟨.int n, rfl, n, 24, rfl, rfl, cdv n 24 (by decide) (by decide), ?_⟩
      refine ⟨.int t, rfl, (by decide : 6 ≤ sizeLine), fun b1 hb1 => ⟨.int n, rfl, n, 6, rfl, rfl, (by decide : (6 : Int) ≠ 0), b1, _, n.fmod 6, .int (rest6 (n.fmod 6)), rfl, rfl, SqL.of upd_same, rest6_at n, .int sc, rfl, rest6 (n.fmod 6), sc, rfl, rfl, ?_, t, _, rfl, rfl, ?_⟩⟩
      · have := rest6_b (n.fmod 6)
        exact cmulL _ _ ⟨this.1, by omega⟩
      have q1 : b1 ≠ q := fun z => by rw [z, eq] at hb1; cases hb1
      refine ⟨.int (n.fdiv 24), rfl, (n.fdiv 24), 4, rfl, rfl, cdv (n.fdiv 24) 4 (by decide) (by decide), _, 5, rfl, rfl, (by decide : (5 : Int) ≠ 0), _, 2, rfl, rfl,
        .int (n.fdiv 24), rfl, (n.fdiv 24), 4, rfl, rfl, cdv (n.fdiv 24) 4 (by decide) (by decide), _, 5, rfl, rfl, (by decide : (5 : Int) ≠ 0), _, 2, rfl, rfl,
        .int (n.fdiv 24), rfl, (n.fdiv 24), 4, rfl, rfl, cdv (n.fdiv 24) 4 (by decide) (by decide), _, 15, rfl, rfl, (by decide : (15 : Int) ≠ 0), _, 7, rfl, rfl,
        .int (n.fdiv 24), rfl, (n.fdiv 24), 4, rfl, rfl, cdv (n.fdiv 24) 4 (by decide) (by decide), _, 41, rfl, rfl, (by decide : (41 : Int) ≠ 0), _, 20, rfl, rfl, (by decide : 4 ≤ sizeLine), fun b2 hb2 => ?_⟩
      refine ⟨.int (n.fdiv 24), rfl, (n.fdiv 24), 4, rfl, rfl, (by decide : (4 : Int) ≠ 0), b2, _, (n.fdiv 24).fmod 4, .int (jump4 (n.fdiv 24)), rfl, rfl, SqL.of upd_same, jump4_at (n.fdiv 24), ?_⟩
      refine ⟨.int p, rfl, .int (jump4 (n.fdiv 24)), rfl, p, jump4 (n.fdiv 24), rfl, rfl, _, 200, rfl, rfl, _, 401, rfl, rfl, (by decide : (401 : Int) ≠ 0), _, 200, rfl, rfl, ?_⟩
      have e1 : Ext H' (upd H' b1 (.lst [.int 0, .int 0, .int 0, .int 0, .int 1, .int 3])) := Ext.new hb1
      generalize upd H' b1 (.lst [.int 0, .int 0, .int 0, .int 0, .int 1, .int 3]) = H1 at e1 hb2 ⊢
      have e2 : Ext H1 (upd H1 b2 (.lst [.int (((n.fdiv 24).fdiv 4).fmod 5 - 2), .int (((n.fdiv 24).fdiv 4).fmod 5 - 2), .int (((n.fdiv 24).fdiv 4).fmod 15 - 7), .int (((n.fdiv 24).fdiv 4).fmod 41 - 20)])) := Ext.new hb2
      generalize upd H1 b2 (.lst [.int (((n.fdiv 24).fdiv 4).fmod 5 - 2), .int (((n.fdiv 24).fdiv 4).fmod 5 - 2), .int (((n.fdiv 24).fdiv 4).fmod 15 - 7), .int (((n.fdiv 24).fdiv 4).fmod 41 - 20)]) = H2 at e2 ⊢
      have e3 := e1.trans e2
      have eq2 := e3.lst eq
      have m4 := md (n.fdiv 6) (m := 4) (by decide)
      have hm : CMul (1 + (n.fdiv 6).fmod 4) sc := cmulL _ _ ⟨by omega, by omega⟩
      refine ⟨.ref q, rfl, .inl ⟨rfl, xs, SqL.of eq2⟩, .int _, rfl, .int n, rfl, n, 6, rfl, rfl, cdv n 6 (by decide) (by decide), _, 4, rfl, rfl, (by decide : (4 : Int) ≠ 0), 1, _, rfl, rfl, .int sc, rfl, _, sc, rfl, rfl, hm, .int _, rfl, (by decide : 3 ≤ sizeLine), fun b3 hb3 => ?_⟩
      have eq3 := (Ext.new hb3 (o := .tup [.int (t + rest6 (n.fmod 6) * sc), .int ((1 + (n.fdiv 6).fmod 4) * sc), .int ((p + jump4 (n.fdiv 24) + 200).fmod 401 - 200)])).lst eq2
      refine ⟨q, xs, .ref b3, rfl, rfl, eq3, ?_, ?_⟩
      · rw [hA.length, List.length_map, hl]
        exact Nat.lt_of_lt_of_le (by omega : _ < 1001) (by decide : 1001 ≤ sizeLine)
      refine ⟨.int _, rfl, .int n, rfl, n, 6, rfl, rfl, cdv n 6 (by decide) (by decide), _, 4, rfl, rfl, (by decide : (4 : Int) ≠ 0), 1, _, rfl, rfl, .int sc, rfl, _, sc, rfl, rfl, hm, _, _, rfl, rfl, ?_⟩
      have e4 := e3.trans (Ext.new hb3 (o := .tup [.int (t + rest6 (n.fmod 6) * sc), .int ((1 + (n.fdiv 6).fmod 4) * sc), .int ((p + jump4 (n.fdiv 24) + 200).fmod 401 - 200)]))
      refine ⟨_, _, _, _, _, _, done ++ [lawNote sc (t, p) n], rfl, (x2.trans e4).upd hq, upd_same, ?_, by rw [List.length_append, hl]; rfl, ?_⟩
      · rw [List.map_append]
        refine AtAll.append ((AtAll.ext e4 _ _ hA).notes_upd eq3) (.cons ?_ .nil)
        refine At.note_upd eq3 ?_
        unfold lawNote
        exact .tup (.inl (.inl upd_same)) (.cons (.int _) (.cons (.int _) (.cons (.int _) .nil)))
      · rw [List.append_assoc, ← eg]
        show done ++ ([lawNote sc (t, p) n] ++ _) = done ++ lawNotes sc (t, p) (n :: _)
        rw [lawNotes_cons]
        rfl
  · rintro σ H' ⟨t, p, y5, y6, y7, xs, done, rfl, x2, eq, hA, hl, eg⟩
    rw [List.length_map, List.drop_length] at eg
    have e0 : lawNotes sc (t, p) [] = [] := by unfold lawNotes; rfl
    rw [e0, List.append_nil] at eg
    rw [eg] at hA
    exact ⟨_, rfl, qq H' q xs x2 hq eq hA⟩
end VW
set_option Elab.async false
set_option linter.all false
set_option maxRecDepth 100000
set_option maxHeartbeats 4000000
namespace VW
open PySem PySem.Spec PyProof.Rows L2 GxR

/-- one new list more -/
theorem New2.snoc {K : PySem.W.Frag} {H0 H H4 : Hp} {p b : Addr} {rows : List (List Nt)} {r : List Nt} {ys : List V} (hE : Ext H0 H) (h : New2 K H0 H p (rows.map fun v => v.map noteD)) (hE4 : Ext H H4) (nb : H b = none) (eb : H4 b = some (.lst ys)) (hA : AtAll K H4 ys (r.map noteD)) :
    ∃ acc, H4 p = some (.lst acc) ∧ acc.length = rows.length ∧ New2 K H0 (upd H4 p (.lst (acc ++ [.ref b]))) p ((rows ++ [r]).map fun v => v.map noteD) := by
  obtain ⟨as, eD, hD, hN, h0, hR⟩ := h.ex
  have hL := hR.length
  rw [List.length_map] at hL
  refine ⟨as.map V.ref, hE4.lst eD, by rw [List.length_map, hL], ?_⟩
  have bD : b ≠ p := fun z => by rw [z, eD] at nb; cases nb
  have bas : b ∉ as := fun z => by obtain ⟨ws, ew⟩ := hR.there z; rw [ew] at nb; cases nb
  have Das : p ∉ as := (List.nodup_cons.mp hN).1
  have eD4 := hE4.lst eD
  refine ⟨as ++ [b], by rw [upd_same, List.map_append]; rfl, hD, ?_, ?_, ?_⟩
  · rw [← List.cons_append]
    refine List.nodup_append.mpr ⟨hN, by simp, ?_⟩
    intro c hc d hd'
    rw [List.mem_singleton.mp hd']
    intro z
    rw [z] at hc
    rcases List.mem_cons.mp hc with q | q
    · exact bD q
    · exact bas q
  · intro c hc
    rcases List.mem_append.mp hc with q | q
    · exact h0 c q
    · rw [List.mem_singleton.mp q]
      exact hE.free nb
  · rw [List.map_append]
    refine Rows.snoc (xs := ys) (by rw [upd_ne bD]; exact eb) (hA.notes_upd eD4) ?_
    exact Rows.upd eD4 Das (Rows.ext hE4 hR)

/-! ### every m-th -/
theorem every_drop (m : Nat) : ∀ (k : Nat) (ns : List Int), every m k ns = every m 0 (ns.drop k)
  | 0, ns => rfl
  | k + 1, [] => by rw [List.drop_nil, every, every]
  | k + 1, n :: r => by rw [every, List.drop_succ_cons]; exact every_drop m k r
theorem every_out (m k : Nat) (ns : List Int) (h : ns.length ≤ k) : every m k ns = [] := by
  rw [every_drop, List.drop_of_length_le h]
  unfold every
  rfl
theorem every_in (m : Nat) (hm : 1 ≤ m) (k : Nat) (ns : List Int) (h : k < ns.length) : every m k ns = ns[k] :: every m (k + m) ns := by
  rw [every_drop m k, every_drop m (k + m), List.drop_eq_getElem_cons h, every, every_drop, List.drop_drop]
  have e : k + 1 + (m - 1) = k + m := by omega
  rw [e]
theorem every_len (m : Nat) : ∀ (k : Nat) (ns : List Int), (every m k ns).length ≤ ns.length
  | _, [] => by unfold every; exact Nat.le_refl _
  | 0, n :: r => by rw [every, List.length_cons, List.length_cons]; exact Nat.succ_le_succ (every_len m (m - 1) r)
  | k + 1, n :: r => by rw [every, List.length_cons]; exact Nat.le_succ_of_le (every_len m k r)

/-! ### a range by steps -/
theorem size_step {a b c : Int} (hc : 0 < c) : ∃ n : Nat, Builtin.Range.rangeSize a b c = n ∧ (∀ i : Nat, i < n → a + i * c < b) ∧ b ≤ a + n * c ∧ n ≤ (b - a).toNat := by
  unfold Builtin.Range.rangeSize
  rw [if_pos (show c > 0 from hc)]
  by_cases h : a < b
  · rw [if_pos h]
    have h0 : 0 ≤ (b - a - 1) / c := Int.ediv_nonneg (by omega) (by omega)
    refine ⟨((b - a - 1) / c + 1).toNat, by omega, fun i hi => ?_, ?_, ?_⟩
    · have : (i : Int) ≤ (b - a - 1) / c := by omega
      have := (Int.le_ediv_iff_mul_le hc).mp this
      omega
    · have := Int.lt_ediv_add_one_mul_self (b - a - 1) hc
      have e : ((((b - a - 1) / c + 1).toNat : Nat) : Int) = (b - a - 1) / c + 1 := by omega
      rw [e]
      omega
    · have : (b - a - 1) / c ≤ b - a - 1 := Int.ediv_le_self _ (by omega)
      omega
  · rw [if_neg h]
    exact ⟨0, rfl, fun i hi => absurd hi (by omega), by omega, by omega⟩
theorem rgC_step {a b c : Int} {n : Nat} (ha : 0 ≤ a ∧ a ≤ 1000000) (hb : 0 ≤ b ∧ b ≤ 1000000) (hc : 0 < c ∧ c ≤ 1000000) (hn : Builtin.Range.rangeSize a b c = n) (hle : n ≤ (b - a).toNat) : RgC a b c n := by
  refine ⟨by omega, by omega, ?_, hn⟩
  unfold Builtin.Range.small
  rw [hn]
  simp only [Builtin.Range.rangeFitsLong, Bool.and_eq_true, Bool.or_eq_true, decide_eq_true_eq, beq_iff_eq, show c > 0 from hc.1, if_true]
  omega
end VW
set_option Elab.async false
set_option linter.all false
set_option maxRecDepth 100000
set_option maxHeartbeats 4000000
namespace VW
open PySem PySem.Spec PyProof.Rows L2 GxR

theorem lawMany_b (ns : List Int) : 1 ≤ lawMany ns ∧ lawMany ns ≤ 6 := by
  unfold lawMany
  have h1 := md (cell ns 0) (m := 4) (by decide)
  have h2 := md ((cell ns 0).fdiv 32) (m := 2) (by decide)
  split <;> omega
theorem lawScale_b (ns : List Int) : 1 ≤ lawScale ns ∧ lawScale ns ≤ 200 := by
  unfold lawScale
  have h1 := md ((cell ns 1).fdiv 8) (m := 200) (by decide)
  split <;> omega

theorem iteT' {c : Bool} {A B : Prop} (h : c = true) (k : A) : if c = true then A else B := by rw [if_pos h]; exact k
theorem iteF' {c : Bool} {A B : Prop} (h : c = false) (k : B) : if c = true then A else B := by rw [h, if_neg (by decide)]; exact k
/-- the law's loop over the voices -/
def tp_loop (S : Ev) : TS :=
      (tSeq (tAsg (tLst tNil) (gName 3))
      (tSeq (tFor (iRng1 (tCons (tVar 1) tNil)) (gName 4) (tSeq (tAsg (tLc (iRng3 (tCons (tOp kAdd (tC (.int 3)) (tVar 4)) (tCons (tCB kMin2 (tCons (tCB (kLen S.K) (tCons (tVar 0) tNil)) (tCons (tC (.int 63)) tNil))) (tCons (tVar 1) tNil)))) (gName 8) tYes (tOp (rIxL S.K) (tVar 0) (tVar 8)) [8]) (gName 5))
      (tSeq (tAsg (tOp kSub (tCall (sp_law_at S) [] E0 (tCons (tVar 0) (tCons (tC (.int 2)) tNil))) (tOp kMul (tC (.int 5)) (tVar 4))) (gName 6))
      (tSeq (tAsg (tOp kMul (tOp kMod (tOp kAdd (tOp kDiv (tCall (sp_law_at S) [] E0 (tCons (tVar 0) (tCons (tC (.int 1)) tNil))) (tC (.int 1600))) (tOp kMul (tVar 4) (tOp kDiv (tCall (sp_law_at S) [] E0 (tCons (tVar 0) (tCons (tC (.int 2)) tNil))) (tC (.int 401))))) (tC (.int 5))) (tVar 2)) (gName 7))
      (tDrop (tBM S.K "list" rAppend (tVar 3) (tCons (tCall (sp_law_notes S) [] E0 (tCons (tVar 5) (tCons (tVar 7) (tCons (tOp kSub (tOp kMod (tVar 6) (tC (.int 401))) (tC (.int 200))) (tCons (tVar 2) tNil))))) tNil)))))))
      (tRet (tVar 3))))
def tp_scale (S : Ev) : TS :=
      (tSeq (tAsg (tC (.int 1)) (gName 2))
      (tSeq (tIfS (tTest (tOp rEq (tOp kMod (tCall (sp_law_at S) [] E0 (tCons (tVar 0) (tCons (tC (.int 1)) tNil))) (tC (.int 8))) (tC (.int 1)))) (tAsg (tOp kAdd (tC (.int 1)) (tOp kMod (tOp kDiv (tCall (sp_law_at S) [] E0 (tCons (tVar 0) (tCons (tC (.int 1)) tNil))) (tC (.int 8))) (tC (.int 200)))) (gName 2)) tNext)
      (tp_loop S)))

/-- the numbers of one voice -/
theorem lc_every {K : PySem.W.Frag} {a : Addr} {ns : List Int} {m pl n : Nat} {g : TG} {te : TE} {vs : List Nat} {σ : L2.St} {H1 : Hp} {D : Addr} {Qd : Hp → Prop} (hD : H1 D = none) (hS : SqL K H1 a (ns.map V.int)) (h63 : ns.length ≤ 63) (hm : 1 ≤ m)
    (hin : ∀ i : Nat, i < n → 3 + (pl : Int) + i * m < ns.length) (hout : (ns.length : Int) ≤ 3 + (pl : Int) + n * m) (hn : n ≤ 63)
    (hs : ∀ (i : Nat) (H' : Hp) (R : VK) (v : Int), atI (ns.map V.int) (3 + (pl : Int) + i * m) = some (.int v) → SqL K H' a (ns.map V.int) → R (.int v) H' → g (.int (3 + (pl : Int) + i * m)) (wipe σ vs) H' fun σ2 H2 => wipe σ2 vs = wipe σ vs ∧ te σ2 H2 R)
    (hd : ∀ H', Ext H1 H' → H' D = some (.lst ((every m (3 + pl) ns).map V.int)) → Qd H') :
    ∃ W : Nat → Nat → Hp → Prop, (∃ m, W 0 m (upd H1 D (.lst []))) ∧ ∀ i k H, W i k H →
      ((Itc (3 + (pl : Int)) m n).stop i H ∧ Qd H) ∨ ((Itc (3 + (pl : Int)) m n).go i H ∧ ∃ Nx : Hp → Prop, (∀ H', Nx H' → ∃ m', m' < k ∧ W (i + 1) m' H') ∧ ∀ x H', (Itc (3 + (pl : Int)) m n).yld i H x H' → g x (wipe σ vs) H' fun σ2 H2 => wipe σ2 vs = wipe σ vs ∧ tYes σ2 H2 fun b H3 =>
        if b = true then te σ2 H3 fun y H4 => ∃ acc, H4 D = some (.lst acc) ∧ acc.length < sizeLine ∧ Nx (upd H4 D (.lst (acc ++ [y]))) else Nx H3) := by
  refine lc_it walk_rangeC (Pv := fun j H => Ext H1 H ∧ ∃ done : List Int, H D = some (.lst (done.map V.int)) ∧ done.length = j ∧ done ++ every m (3 + pl + j * m) ns = every m (3 + pl) ns)
    ⟨Ext.new hD, [], upd_same, rfl, by rw [Nat.zero_mul]; rfl⟩ (fun _ _ _ _ => trivial) ?_ ?_
  · rintro j x H H' hj ⟨hE, done, eD, hl, eg⟩ ⟨rfl, rfl⟩
    have h1 := hin j hj
    have h2 : 3 + pl + j * m < ns.length := by omega
    have e : (3 + (pl : Int) + j * m).toNat = 3 + pl + j * m := by omega
    refine hs j _ _ ns[3 + pl + j * m] (atI_of (by omega) ?_) (hE.sqL hS) ⟨_, eD, ?_, hE.upd hD, done ++ [ns[3 + pl + j * m]], ?_, by rw [List.length_append, hl]; rfl, ?_⟩
    · rw [e, List.getElem?_map, List.getElem?_eq_getElem h2]
      rfl
    · rw [List.length_map, hl]
      exact Nat.lt_of_lt_of_le (by omega : _ < 1001) (by decide : 1001 ≤ sizeLine)
    · rw [upd_same, List.map_append]
      rfl
    · rw [← eg, every_in m hm _ ns h2, List.append_assoc]
      have e2 : 3 + pl + (j + 1) * m = 3 + pl + j * m + m := by rw [Nat.succ_mul]; omega
      rw [e2]
      rfl
  · rintro H ⟨hE, done, eD, hl, eg⟩
    rw [every_out m _ ns (by omega), List.append_nil] at eg
    rw [eg] at eD
    exact hd H hE eD

theorem read_loop (S : Ev) {a : Addr} {ns : List Int} {H : Hp} {Q : VK} {m s : Int} (hS : SqL S.K H a (ns.map V.int)) (h63 : ns.length ≤ 63) (em : m = lawMany ns) (es : s = lawScale ns)
    (q : ∀ H' p, Ext H H' → New2 S.K H H' p ((lawPiece ns).map fun v => v.map noteD) → Q (.ref p) H') :
    tp_loop S { nx := fun _ H' => Q .non H', rt := Q } [some (.ref a), some (.int m), some (.int s), none, none, none, none, none, none] H := by
  have hm := lawMany_b ns
  have hsc := lawScale_b ns
  rw [← em] at hm
  rw [← es] at hsc
  obtain ⟨k, rfl⟩ : ∃ k : Nat, m = k := ⟨m.toNat, by omega⟩
  have ek : (lawMany ns).toNat = k := by omega
  refine ⟨Nat.zero_le _, fun P hP => ⟨.int k, rfl, k, rfl, by omega, by omega, for_it (walk_range (lo := 0) (n := k)) (fun i σ H' => ∃ y4 y5 y6 y7 y8, σ = [some (.ref a), some (.int k), some (.int s), some (.ref P), y4, y5, y6, y7, y8] ∧ Ext H H' ∧ New2 S.K H H' P (((List.range i).map (lawVoice ns)).map fun v => v.map noteD))
    ⟨_, _, _, _, _, rfl, Ext.new hP, [], upd_same, hP, by simp, by simp, trivial⟩ (fun _ _ _ _ _ => trivial) ?_ ?_⟩⟩
  · rintro i x σ H1 H1' hi ⟨y4, y5, y6, y7, y8, rfl, x1, n1⟩ ⟨rfl, ex⟩
    have ex' : x = .int i := by rw [ex]; show V.int (0 + (i : Int)) = _; rw [Int.zero_add]
    subst ex'
    have hS1 := x1.sqL hS
    obtain ⟨n, e1, hin, hout, hle⟩ := size_step (a := 3 + (i : Int)) (b := ns.length) (c := k) (by omega)
    have hmin : (if (63 : Int) < (ns.length : Int) then (63 : Int) else (ns.length : Int)) = ns.length := if_neg (by omega)
    refine ⟨.int i, rfl, 3, i, rfl, rfl, .ref a, rfl, .ref a, (ns.map V.int).length, rfl, .inl ⟨_, hS1, rfl⟩, _, 63, rfl, .int k, rfl, 3 + (i : Int), ns.length, k, n, ?_, rgC_step (by omega) (by omega) (by omega) e1 hle, ?_⟩
    · show [V.int (3 + (i : Int)), V.int (if (63 : Int) < ((ns.map V.int).length : Int) then (63 : Int) else ((ns.map V.int).length : Int)), V.int k] = _
      rw [List.length_map, hmin]
    intro N hN
    refine lc_every (pl := i) (g := gName 8) (te := tOp (rIxL S.K) (tVar 0) (tVar 8)) (vs := [8]) (σ := [some (V.ref a), some (V.int k), some (V.int s), some (V.ref P), some (V.int i), y5, y6, y7, y8]) hN hS1 h63 (by omega) hin hout (by omega) (fun j H' R v ha hS' r => ⟨rfl, _, rfl, _, rfl, a, _, _, _, rfl, rfl, hS', ha, r⟩) fun H2 x2 eN => ?_
    have hS2 := x2.sqL hS1
    refine ⟨_, rfl, a, ns, 2, rfl, hS2, h63, rfl, by decide, .int i, rfl, 5, i, rfl, rfl, cmulL _ _ (by decide), _, _, rfl, rfl, ?_⟩
    refine ⟨_, rfl, a, ns, 1, rfl, hS2, h63, rfl, by decide, _, 1600, rfl, rfl, cdv _ _ (by decide) (by decide), .int i, rfl, _, rfl, a, ns, 2, rfl, hS2, h63, rfl, by decide, _, 401, rfl, rfl, cdv _ _ (by decide) (by decide), i, _, rfl, rfl, cmulL _ _ (by omega), _, _, rfl, rfl, _, 5, rfl, rfl, (by decide : (5 : Int) ≠ 0), .int s, rfl, _, s, rfl, rfl, cmulR _ _ (by omega), ?_⟩
    obtain ⟨as, eP, _⟩ := n1.ex
    have eP2 := x2.lst eP
    refine ⟨_, rfl, .inl ⟨rfl, _, SqL.of eP2⟩, _, rfl, _, rfl, _, rfl, _, 401, rfl, rfl, (by decide : (401 : Int) ≠ 0), _, 200, rfl, rfl, _, rfl, N, every k (3 + i) ns, _, _, s, rfl, SqL.of eN, Nat.le_trans (every_len _ _ _) h63, rfl, rfl, rfl, fun H3 b ys x3 nb eb hA => ?_⟩
    obtain ⟨acc, ea, hl, n3⟩ := New2.snoc x1 n1 (x2.trans x3) (x2.free nb) eb hA
    rw [List.length_map, List.length_range] at hl
    refine ⟨P, acc, .ref b, rfl, rfl, ea, by rw [hl]; exact Nat.lt_of_lt_of_le (by omega : _ < 1001) (by decide : 1001 ≤ sizeLine), ?_⟩
    refine ⟨_, _, _, _, _, rfl, (x1.trans (x2.trans x3)).upd hP, ?_⟩
    rw [List.range_succ, List.map_append]
    have ev : lawNotes s ((((ns.getD 1 0).fdiv 1600) + (i : Int) * (ns.getD 2 0).fdiv 401).fmod 5 * s, (ns.getD 2 0 - 5 * (i : Int)).fmod 401 - 200) (every k (3 + i) ns) = lawVoice ns i := by
      unfold lawVoice cell
      rw [ek, es]
    rw [show List.map (lawVoice ns) [i] = [lawVoice ns i] from rfl, ← ev]
    exact n3
  · rintro σ H1 ⟨y4, y5, y6, y7, y8, rfl, x1, n1⟩
    refine ⟨_, rfl, q H1 P x1 ?_⟩
    unfold lawPiece
    rw [ek]
    exact n1

theorem pure_law_piece (S : Ev) (vs : List V) (H : Hp) (Q : VK) (E : XK) (h : sp_law_piece S vs H Q E) : t_law_piece S E { nx := fun _ H' => Q .non H', rt := Q } (start N_law_piece vs) H := by
  obtain ⟨x, rfl⟩ := args1 (len_law_piece S vs H Q E h)
  obtain ⟨a, ns, rfl, hS, h63, q⟩ := h
  have two : ∀ m : Int, m = lawMany ns → tp_scale S { nx := fun _ H' => Q .non H', rt := Q } [some (.ref a), some (.int m), none, none, none, none, none, none, none] H := by
    intro m em
    refine ⟨_, rfl, a, ns, 1, rfl, hS, h63, rfl, by decide, _, 8, rfl, rfl, (by decide : (8 : Int) ≠ 0), rfl, _, rfl, ?_⟩
    by_cases c : (ns.getD 1 0).fmod 8 = 1
    · refine iteT' (decide_eq_true (congrArg V.int c)) ?_
      refine ⟨_, rfl, a, ns, 1, rfl, hS, h63, rfl, by decide, _, 8, rfl, rfl, cdv _ _ (by decide) (by decide), _, 200, rfl, rfl, (by decide : (200 : Int) ≠ 0), 1, _, rfl, rfl, ?_⟩
      exact read_loop S hS h63 em (by unfold lawScale cell; rw [if_pos c]; rfl) q
    · refine iteF' (decide_eq_false fun z => c (by injection z)) ?_
      exact read_loop S hS h63 em (by unfold lawScale cell; rw [if_neg c]) q
  refine ⟨_, rfl, a, ns, 0, rfl, hS, h63, rfl, by decide, _, 4, rfl, rfl, (by decide : (4 : Int) ≠ 0), 1, _, rfl, rfl, ?_⟩
  refine ⟨_, rfl, a, ns, 0, rfl, hS, h63, rfl, by decide, _, 4, rfl, rfl, cdv _ _ (by decide) (by decide), _, 8, rfl, rfl, (by decide : (8 : Int) ≠ 0), rfl, _, rfl, ?_⟩
  by_cases c : ((ns.getD 0 0).fdiv 4).fmod 8 = 1
  · refine iteT' (decide_eq_true (congrArg V.int c)) ?_
    refine ⟨_, rfl, a, ns, 0, rfl, hS, h63, rfl, by decide, _, 32, rfl, rfl, cdv _ _ (by decide) (by decide), _, 2, rfl, rfl, (by decide : (2 : Int) ≠ 0), 5, _, rfl, rfl, ?_⟩
    exact two _ (by unfold lawMany cell; rw [if_pos c]; rfl)
  · refine iteF' (decide_eq_false fun z => c (by injection z)) ?_
    exact two _ (by unfold lawMany cell; rw [if_neg c]; rfl)
end VW
set_option Elab.async false
set_option linter.all false
set_option maxRecDepth 100000
set_option maxHeartbeats 4000000
namespace VW
open PySem PySem.Spec PyProof.Rows L2 GxR

/-- what isinstance says of a refusal: of its own class, of ValueError, of WeaveError where it is caught; of no other -/
structure Kit (S : Ev) (D : Addr) (others : List Addr) : Prop where
  c : L2.ExcC S.K D
  own : PySem.W.kitOne S.K (.ref D) (.ref D) = some true
  val : PySem.W.kitOne S.K (.ref D) (.type "ValueError") = some true
  not : ∀ C, C ∈ others → PySem.W.kitOne S.K (.ref D) (.ref C) = some false
  exm : PySem.W.exmOne S.K (.ref D) (.ref S.cWeave) = some true

def sp_law_heard (S : Ev) : Sp := fun vs H Q _ => match vs with
  | [x, t] => ∃ v i, At S.K H x (voiceD v) ∧ v.length ≤ 63 ∧ t = .int i ∧ ∀ H', Ext H H' → Q (optV (pitchAt i v)) H'
  | _ => False
def sp_law_refused (S : Ev) : Sp := fun vs H Q _ => match vs with
  | [x, t] => S.T H ∧ Kit S S.cNumber [S.cEntry, S.cPiece, S.cTheme, S.cClash, S.cText, S.cRange, S.cUneven] ∧ ∃ pc dt, At S.K H x (pieceD pc) ∧ okPiece pc = true ∧ At S.K H t dt ∧ dt.whole = false ∧ ∀ H', Ext H H' → Q (.bl true) H'
  | _ => False
def sp_law (S : Ev) : Sp := fun vs H Q _ => match vs with
  | [x] => S.T H ∧ Kit S S.cNumber [S.cEntry, S.cPiece, S.cTheme, S.cClash, S.cText, S.cRange, S.cUneven] ∧ ∃ (a : Addr) (ns : List Int), x = .ref a ∧ SqL S.K H a (ns.map V.int) ∧ ns.length ≤ 63 ∧ ∀ H', Ext H H' → Q (.bl true) H'
  | _ => False
section
variable (S : Ev) (vs : List V) (H : Hp) (Q : VK) (E : XK)
theorem len_law_heard (h : sp_law_heard S vs H Q E) : vs.length = ["voice", "time"].length := by rcases vs with _ | ⟨a, _ | ⟨b, _ | ⟨c, r⟩⟩⟩ <;> first | rfl | exact h.elim
theorem len_law_refused (h : sp_law_refused S vs H Q E) : vs.length = ["voice", "time"].length := by rcases vs with _ | ⟨a, _ | ⟨b, _ | ⟨c, r⟩⟩⟩ <;> first | rfl | exact h.elim
theorem len_law (h : sp_law S vs H Q E) : vs.length = ["s"].length := by rcases vs with _ | ⟨a, _ | ⟨b, r⟩⟩ <;> first | rfl | exact h.elim
end
end VW
set_option Elab.async false
set_option linter.all false
set_option maxRecDepth 100000
set_option maxHeartbeats 4000000
namespace VW
open PySem PySem.Spec PyProof.Rows L2 GxR
abbrev N_law_heard : List Str := ["_law_voice", "_law_time", "_law_pitches", "_law_note"]
def t_law_heard (S : Ev) (E : XK) : TS :=
  (tSeq (tAsg (tLc (iList S.K (tVar 0)) (gName 3) (tAnd (tTest (tOp kLe (tOp (rIxT S.K) (tVar 3) (tC (.int 0))) (tVar 1))) (tTest (tOp kLt (tVar 1) (tOp kAdd (tOp (rIxT S.K) (tVar 3) (tC (.int 0))) (tOp (rIxT S.K) (tVar 3) (tC (.int 1))))))) (tOp (rIxT S.K) (tVar 3) (tC (.int 2))) [3]) (gName 2))
      (tSeq (tIfS (tTest (tOp (rEqD S.K) (tVar 2) (tLst tNil))) (tRet (tC .non)) tNext)
      (tRet (tOp (rIxL S.K) (tVar 2) (tC (.int 0))))))

abbrev N_law_refused : List Str := ["_law_piece_here", "_law_time", "e"]
def t_law_refused (S : Ev) (E : XK) : TS :=
  (tSeq (fun D σ H => (fun W => (tDrop (tCallS (sp_sounding S) (WE W) (tCons (tVar 0) (tCons (tVar 1) tNil))))) (wAs S.K (.ref S.cWeave) 2 (fun a cls d => (tSeq (tIfS (tOr (tB (tCB (rIsX S.K a cls d) (tCons (tVar 2) (tCons (tC (.ref S.cEntry)) tNil)))) (tOr (tB (tCB (rIsX S.K a cls d) (tCons (tVar 2) (tCons (tC (.ref S.cPiece)) tNil)))) (tOr (tB (tCB (rIsX S.K a cls d) (tCons (tVar 2) (tCons (tC (.ref S.cTheme)) tNil)))) (tB (tCB (rIsX S.K a cls d) (tCons (tVar 2) (tCons (tC (.ref S.cClash)) tNil))))))) (tRet (tC (.bl false))) tNext)
      (tSeq (tIfS (tOr (tB (tCB (rIsX S.K a cls d) (tCons (tVar 2) (tCons (tC (.ref S.cText)) tNil)))) (tOr (tB (tCB (rIsX S.K a cls d) (tCons (tVar 2) (tCons (tC (.ref S.cRange)) tNil)))) (tB (tCB (rIsX S.K a cls d) (tCons (tVar 2) (tCons (tC (.ref S.cUneven)) tNil)))))) (tRet (tC (.bl false))) tNext)
      (tRet (tAndV (tCB (rIsX S.K a cls d) (tCons (tVar 2) (tCons (tC (.ref S.cNumber)) tNil))) (tCB (rIsX S.K a cls d) (tCons (tVar 2) (tCons (tC (.ty "ValueError")) tNil)))))))) (fun _ _ _ _ => False) D) D σ H)
      (tRet (tC (.bl false))))

abbrev N_law : List Str := ["_law_script", "_law_piece_here", "_law_voice", "_law_handed", "_law_times", "_law_note", "_law_k", "_law_number", "_law_time", "_law_told", "_law_pitch", "_law_due", "_law_odd"]
def t_law (S : Ev) (E : XK) : TS :=
  (tSeq (tAsg (tCall (sp_law_piece S) [] E0 (tCons (tVar 0) tNil)) (gName 1))
      (tSeq (tAsg (tLc (iList S.K (tVar 1)) (gName 2) tYes (tCB (kList S.K) (tCons (tVar 2) tNil)) [2]) (gName 3))
      (tSeq (tAsg (tLst (tCons (tUn kNeg (tC (.int 1))) (tCons (tC (.int 0)) tNil))) (gName 4))
      (tSeq (tFor (iList S.K (tVar 1)) (gName 2) (tFor (iList S.K (tVar 2)) (gName 5) (tAsg (tOp rCat (tVar 4) (tLst (tCons (tOp (rIxT S.K) (tVar 5) (tC (.int 0))) (tCons (tOp kSub (tOp (rIxT S.K) (tVar 5) (tC (.int 0))) (tC (.int 1))) (tCons (tOp kAdd (tOp (rIxT S.K) (tVar 5) (tC (.int 0))) (tOp (rIxT S.K) (tVar 5) (tC (.int 1)))) (tCons (tOp kSub (tOp kAdd (tOp (rIxT S.K) (tVar 5) (tC (.int 0))) (tOp (rIxT S.K) (tVar 5) (tC (.int 1)))) (tC (.int 1))) tNil)))))) (gName 4))))
      (tSeq (tFor (iRng1 (tCons (tC (.int 3)) tNil)) (gName 6) (tSeq (tAsg (tOp kAdd (tOp kAdd (tOp kDiv (tCall (sp_law_at S) [] E0 (tCons (tVar 0) (tCons (tC (.int 0)) tNil))) (tC (.int 64))) (tOp kMul (tVar 6) (tOp kDiv (tCall (sp_law_at S) [] E0 (tCons (tVar 0) (tCons (tC (.int 1)) tNil))) (tC (.int 7))))) (tOp kMul (tVar 6) (tVar 6))) (gName 7))
      (tSeq (tAsg (tOp (rIxL S.K) (tLst (tCons (tOp (rIxL S.K) (tVar 4) (tOp kMod (tOp kDiv (tVar 7) (tC (.int 2))) (tCB (kLen S.K) (tCons (tVar 4) tNil)))) (tCons (tOp kSub (tOp kMod (tOp kDiv (tVar 7) (tC (.int 2))) (tOp kAdd (tCB (rMax S.K) (tCons (tVar 4) tNil)) (tC (.int 7)))) (tC (.int 3))) tNil))) (tOp kMod (tVar 7) (tC (.int 2)))) (gName 8))
      (tSeq (tAsg (tCall (sp_sounding S) [] E0 (tCons (tVar 3) (tCons (tVar 8) tNil))) (gName 9))
      (tSeq (tIfS (tOr (tNot (tB (tCB (rIsi S.K) (tCons (tVar 9) (tCons (tC (.ty "list")) tNil))))) (tTest (tOp rNe (tCB (kLen S.K) (tCons (tVar 9) tNil)) (tCB (kLen S.K) (tCons (tVar 1) tNil))))) (tRet (tC (.bl false))) tNext)
      (tSeq (tFor (iZip S.K (tCons (tVar 9) (tCons (tVar 1) tNil))) (gTup S.K 2 (gCons (gName 10) (gCons (gName 2) gNil))) (tSeq (tAsg (tCall (sp_law_heard S) [] E0 (tCons (tVar 2) (tCons (tVar 8) tNil))) (gName 11))
      (tIfS (tOr (tAnd (tTest (tOp kIsN (tVar 11) (tC .non))) (tTest (tOp kNotN (tVar 10) (tC .non)))) (tAnd (tTest (tOp kNotN (tVar 11) (tC .non))) (tOr (tNot (tB (tCall (sp_law_whole S) [] E0 (tCons (tVar 10) tNil)))) (tTest (tOp rNe (tVar 10) (tVar 11)))))) (tRet (tC (.bl false))) tNext)))
      (tDrop (tBM S.K "list" rAppend (tVar 9) (tCons (tC (.int 0)) tNil)))))))))
      (tSeq (tAsg (tOp (rIxL S.K) (tLst (tCons (tC (.bl true)) (tCons (tC .non) (tCons (tC (.str (PySem.Str.ofString "0"))) (tCons (tTup (tCons (tC (.int 0)) tNil)) (tCons (tC (.bl false)) (tCons (tLst (tCons (tC (.int 0)) tNil)) (tCons tDNewK tNil)))))))) (tOp kMod (tOp kAdd (tOp kMul (tCall (sp_law_at S) [] E0 (tCons (tVar 0) (tCons (tC (.int 0)) tNil))) (tC (.int 48271))) (tCall (sp_law_at S) [] E0 (tCons (tVar 0) (tCons (tC (.int 1)) tNil)))) (tC (.int 7)))) (gName 12))
      (tRet (tAndV (tCall (sp_law_refused S) [] E0 (tCons (tVar 3) (tCons (tVar 12) tNil))) (tOp (rEqD S.K) (tVar 3) (tVar 1))))))))))
end VW
set_option Elab.async false
set_option linter.all false
set_option maxRecDepth 100000
set_option maxHeartbeats 4000000
namespace VW
open PySem PySem.Spec PyProof.Rows L2 GxR

theorem noteD_flat (n : Nt) : (noteD n).flat 1 = true := rfl
theorem voiceD_flat (v : List Nt) : (voiceD v).flat 2 = true := D.flats_all (ds := v.map noteD) fun d hd => by
  obtain ⟨n, _, rfl⟩ := List.mem_map.mp hd
  exact noteD_flat n
theorem pieceD_flat (p : List (List Nt)) : (pieceD p).flat 3 = true := D.flats_all (ds := p.map voiceD) fun d hd => by
  obtain ⟨n, _, rfl⟩ := List.mem_map.mp hd
  exact voiceD_flat n
theorem ints_flat (ns : List Int) : D.flats (ns.map D.int) 0 = true := D.flats_all fun d hd => by
  obtain ⟨n, _, rfl⟩ := List.mem_map.mp hd
  rfl

/-- the pitches of the notes that sound -/
def heardL (i : Int) (v : List Nt) : List Int := (v.filter fun n => decide (n.1 ≤ i) && decide (i < n.1 + n.2.1)).map fun n => n.2.2
theorem heardL_head (i : Int) : ∀ v : List Nt, pitchAt i v = (heardL i v).head?
  | [] => rfl
  | n :: r => by
    have ih := heardL_head i r
    unfold heardL at ih ⊢
    unfold pitchAt
    by_cases c : n.1 ≤ i ∧ i < n.1 + n.2.1
    · rw [if_pos c, List.filter_cons_of_pos (by simp [c.1, c.2])]
      rfl
    · rw [if_neg c, List.filter_cons_of_neg (by simpa using c)]
      exact ih
theorem heardL_snoc (i : Int) (v : List Nt) (n : Nt) : heardL i (v ++ [n]) = heardL i v ++ if n.1 ≤ i ∧ i < n.1 + n.2.1 then [n.2.2] else [] := by
  unfold heardL
  rw [List.filter_append, List.map_append]
  by_cases c : n.1 ≤ i ∧ i < n.1 + n.2.1
  · rw [if_pos c, List.filter_cons_of_pos (by simp [c.1, c.2])]
    rfl
  · rw [if_neg c, List.filter_cons_of_neg (by simpa using c)]
    rfl
theorem heardL_len (i : Int) (v : List Nt) : (heardL i v).length ≤ v.length := by
  unfold heardL
  rw [List.length_map]
  exact List.length_filter_le _ _
theorem take_one {α : Type} {l : List α} {i : Nat} {x : α} (h : l[i]? = some x) : l.take (i + 1) = l.take i ++ [x] := by
  rw [List.take_succ, h]
  rfl

theorem pure_law_heard (S : Ev) (vs : List V) (H : Hp) (Q : VK) (E : XK) (h : sp_law_heard S vs H Q E) : t_law_heard S E { nx := fun _ H' => Q .non H', rt := Q } (start N_law_heard vs) H := by
  obtain ⟨x, t, rfl⟩ := args2 (len_law_heard S vs H Q E h)
  obtain ⟨v, i, hx, h63, rfl, q⟩ := h
  obtain ⟨a, xs, rfl, hS, hA⟩ := At.list hx
  have hlen := hA.length
  rw [List.length_map] at hlen
  have hSL : SqL S.K H a xs := hS
  refine ⟨_, rfl, a, rfl, ⟨_, hSL⟩, fun D hD => ?_⟩
  refine lc_list (Pv := fun k H' => Ext H H' ∧ H' D = some (.lst ((heardL i (v.take k)).map V.int))) ⟨Ext.new hD, upd_same⟩ (fun k H' _ p => p.1.sqL hSL) ?_ ?_
  · rintro k y H' hy ⟨x2, eD⟩
    obtain ⟨dy, hdy, hAy⟩ := hA.get hy
    rw [List.getElem?_map] at hdy
    cases hv : v[k]? with
    | none => rw [hv] at hdy; cases hdy
    | some n =>
      rw [hv] at hdy
      cases hdy
      have hk : k < v.length := (List.getElem?_eq_some_iff.mp hv).1
      obtain ⟨b, rfl, hb⟩ := (At.ext x2 _ _ hAy).note
      have e1 := heardL_snoc i (v.take k) n
      rw [← take_one hv] at e1
      refine ⟨rfl, _, rfl, b, _, 0, .int n.1, rfl, rfl, hb, rfl, .int i, rfl, n.1, i, rfl, rfl, _, rfl, ?_⟩
      by_cases c : n.1 ≤ i
      · rw [decide_eq_true c]
        refine iteT ⟨.int i, rfl, _, rfl, b, _, 0, .int n.1, rfl, rfl, hb, rfl, _, rfl, b, _, 1, .int n.2.1, rfl, rfl, hb, rfl, n.1, n.2.1, rfl, rfl, i, _, rfl, rfl, _, rfl, ?_⟩
        by_cases c2 : i < n.1 + n.2.1
        · rw [decide_eq_true c2]
          rw [if_pos ⟨c, c2⟩] at e1
          refine iteT ⟨_, rfl, b, _, 2, .int n.2.2, rfl, rfl, hb, rfl, _, eD, ?_, x2.upd hD, ?_⟩
          · rw [List.length_map]
            have := heardL_len i (v.take k)
            rw [List.length_take] at this
            exact Nat.lt_of_lt_of_le (by omega : _ < 1001) (by decide : 1001 ≤ sizeLine)
          · rw [upd_same, e1, List.map_append]
            rfl
        · rw [decide_eq_false c2]
          rw [if_neg (fun z => c2 z.2), List.append_nil] at e1
          exact iteF ⟨x2, by rw [e1]; exact eD⟩
      · rw [decide_eq_false c]
        rw [if_neg (fun z => c z.1), List.append_nil] at e1
        exact iteF (iteF ⟨x2, by rw [e1]; exact eD⟩)
  · rintro H' ⟨x2, eD⟩
    rw [hlen, List.take_length] at eD
    have eh := heardL_head i v
    generalize heardL i v = l at eD eh
    refine ⟨.ref D, rfl, Nat.zero_le _, fun p hp => ?_⟩
    have x3 : Ext H' (upd H' p (.lst [])) := Ext.new hp
    have hD3 : At S.K (upd H' p (.lst [])) (.ref D) (.lst (l.map VW.D.int)) := .lst (.of (x3.lst eD)) (AtAll.ints l)
    refine eqD_nil (n := 0) (ints_flat l) (by decide) hD3 (.lst (.of upd_same) .nil) ⟨_, rfl, ?_⟩
    cases l with
    | nil =>
      refine iteT ?_
      rw [eh] at q
      exact q _ (x2.trans x3)
    | cons z r =>
      refine iteF ?_
      refine ⟨.ref D, rfl, D, _, 0, .int z, rfl, rfl, .of (x3.lst eD), atI_of (by decide) rfl, ?_⟩
      rw [eh] at q
      exact q _ (x2.trans x3)

theorem relRef {C : Addr} : ∀ u, RelV (.ref C) u → u = .ref C := fun u r => by cases r; rfl
theorem relTy {n : String} : ∀ u, RelV (.ty n) u → u = .type n := fun u r => by cases r; rfl
theorem pure_law_refused (S : Ev) (vs : List V) (H : Hp) (Q : VK) (E : XK) (h : sp_law_refused S vs H Q E) : t_law_refused S E { nx := fun _ H' => Q .non H', rt := Q } (start N_law_refused vs) H := by
  obtain ⟨x, t, rfl⟩ := args2 (len_law_refused S vs H Q E h)
  obtain ⟨hT, k, pc, dt, hx, ok, ht, hw, q⟩ := h
  refine ⟨x, rfl, t, rfl, hT, pieceD pc, dt, hx, ht, fun pc' i e1 e2 e3 => ?_, fun _ _ H' x2 => ?_, fun e => ?_⟩
  · rw [e3] at hw; cases hw
  · refine ⟨true, k.exm, fun _ a ha => ?_, fun z => nomatch z⟩
    have no : ∀ {C : Addr} {Q : VK}, C ∈ [S.cEntry, S.cPiece, S.cTheme, S.cClash, S.cText, S.cRange, S.cUneven] → Q (.bl false) H' → rIsX S.K a (.ref S.cNumber) none [.ref a, .ref C] H' Q := fun {C Q} hC q =>
      ⟨S.cNumber, rfl, rfl, k.c, .ref C, .ref C, false, rfl, relRef, k.not C hC, q⟩
    refine ⟨_, rfl, no (by simp) ⟨_, rfl, iteF ?_⟩⟩
    refine ⟨_, rfl, no (by simp) ⟨_, rfl, iteF ?_⟩⟩
    refine ⟨_, rfl, no (by simp) ⟨_, rfl, iteF ?_⟩⟩
    refine ⟨_, rfl, no (by simp) ⟨_, rfl, iteF ?_⟩⟩
    refine ⟨_, rfl, no (by simp) ⟨_, rfl, iteF ?_⟩⟩
    refine ⟨_, rfl, no (by simp) ⟨_, rfl, iteF ?_⟩⟩
    refine ⟨_, rfl, no (by simp) ⟨_, rfl, iteF ?_⟩⟩
    refine ⟨_, rfl, S.cNumber, rfl, rfl, k.c, .ref S.cNumber, .ref S.cNumber, true, rfl, relRef, k.own, true, rfl, iteT ?_⟩
    exact ⟨_, rfl, S.cNumber, rfl, rfl, k.c, .ty "ValueError", .type "ValueError", true, rfl, relTy, k.val, q H' x2⟩
  · rw [isPiece_D, ok] at e; cases e
end VW
set_option Elab.async false
set_option linter.all false
set_option maxRecDepth 100000
set_option maxHeartbeats 4000000
namespace VW
open PySem PySem.Spec PyProof.Rows L2 GxR

theorem rest6_sc (z sc : Int) (h : 1 ≤ sc ∧ sc ≤ 200) : 0 ≤ rest6 z * sc ∧ rest6 z * sc ≤ 600 := by
  unfold rest6
  split
  · omega
  · split <;> omega
theorem long_sc (z sc : Int) (h : 1 ≤ sc ∧ sc ≤ 200) (hz : 0 ≤ z ∧ z < 4) : 1 ≤ (1 + z) * sc ∧ (1 + z) * sc ≤ 800 := by
  have : z = 0 ∨ z = 1 ∨ z = 2 ∨ z = 3 := by omega
  rcases this with e | e | e | e <;> subst e <;> omega
theorem okFrom_law (sc : Int) (hsc : 1 ≤ sc ∧ sc ≤ 200) : ∀ (ns : List Int) (e t p : Int), 0 ≤ e → e ≤ t → t + 1400 * ns.length ≤ 100000 → okFrom e (lawNotes sc (t, p) ns) = true
  | [], _, _, _, _, _, _ => by unfold lawNotes okFrom; rfl
  | n :: r, e, t, p, he, het, hb => by
    have h1 := rest6_sc (n.fmod 6) sc hsc
    have h2 := long_sc ((n.fdiv 6).fmod 4) sc hsc (md _ (by decide))
    have h3 := md (p + jump4 (n.fdiv 24) + 200) (m := 401) (by decide)
    rw [List.length_cons] at hb
    have hb' : t + 1400 * ((r.length : Int) + 1) ≤ 100000 := by omega
    rw [lawNotes_cons]
    have ih := okFrom_law sc hsc r (t + rest6 (n.fmod 6) * sc + (1 + (n.fdiv 6).fmod 4) * sc) (t + rest6 (n.fmod 6) * sc + (1 + (n.fdiv 6).fmod 4) * sc) ((p + jump4 (n.fdiv 24) + 200).fmod 401 - 200) (by omega) (by omega) (by omega)
    show (okNote (lawNote sc (t, p) n) && decide (e ≤ t + rest6 (n.fmod 6) * sc) && okFrom (t + rest6 (n.fmod 6) * sc + (1 + (n.fdiv 6).fmod 4) * sc) _) = true
    have ih' : okFrom (t + rest6 (n.fmod 6) * sc + (1 + (n.fdiv 6).fmod 4) * sc) (lawNotes sc (lawStep sc (t, p) n) r) = true := ih
    rw [ih', Bool.and_true, decide_eq_true (by omega), Bool.and_true]
    show (decide (0 ≤ t + rest6 (n.fmod 6) * sc) && decide (1 ≤ (1 + (n.fdiv 6).fmod 4) * sc) && decide (t + rest6 (n.fmod 6) * sc + (1 + (n.fdiv 6).fmod 4) * sc ≤ 100000) && decide (-200 ≤ (p + jump4 (n.fdiv 24) + 200).fmod 401 - 200) && decide ((p + jump4 (n.fdiv 24) + 200).fmod 401 - 200 ≤ 200)) = true
    rw [decide_eq_true (by omega), decide_eq_true (by omega), decide_eq_true (by omega), decide_eq_true (by omega), decide_eq_true (by omega)]
    rfl
theorem okVoice_law (ns : List Int) (h63 : ns.length ≤ 63) (pl : Nat) : okVoice (lawVoice ns pl) = true := by
  have hsc := lawScale_b ns
  unfold okVoice lawVoice
  have h5 := md ((cell ns 1).fdiv 1600 + pl * (cell ns 2).fdiv 401) (m := 5) (by decide)
  generalize ((cell ns 1).fdiv 1600 + pl * (cell ns 2).fdiv 401).fmod 5 = z at h5
  have hz : 0 ≤ z * lawScale ns ∧ z * lawScale ns ≤ 800 := by
    have : z = 0 ∨ z = 1 ∨ z = 2 ∨ z = 3 ∨ z = 4 := by omega
    rcases this with e | e | e | e | e <;> subst e <;> omega
  have hl := every_len (lawMany ns).toNat (3 + pl) ns
  exact okFrom_law _ hsc _ 0 _ _ (by omega) (by omega) (by omega)
theorem lawNotes_len (sc : Int) : ∀ (ns : List Int) (st : Int × Int), (lawNotes sc st ns).length = ns.length
  | [], _ => by unfold lawNotes; rfl
  | n :: r, st => by rw [lawNotes_cons, List.length_cons, List.length_cons, lawNotes_len sc r]
theorem lawVoice_len (ns : List Int) (h63 : ns.length ≤ 63) (pl : Nat) : (lawVoice ns pl).length ≤ 63 := by
  unfold lawVoice
  rw [lawNotes_len]
  exact Nat.le_trans (every_len _ _ _) h63
theorem lawPiece_len (ns : List Int) : 1 ≤ (lawPiece ns).length ∧ (lawPiece ns).length ≤ 6 := by
  have := lawMany_b ns
  unfold lawPiece
  rw [List.length_map, List.length_range]
  omega
theorem okPiece_law (ns : List Int) (h63 : ns.length ≤ 63) : okPiece (lawPiece ns) = true := by
  have h := lawPiece_len ns
  unfold okPiece
  rw [decide_eq_true h.1, decide_eq_true h.2, Bool.true_and, Bool.true_and]
  refine List.all_eq_true.mpr fun v hv => ?_
  unfold lawPiece at hv
  obtain ⟨pl, _, rfl⟩ := List.mem_map.mp hv
  exact okVoice_law ns h63 pl
theorem lawPiece_voice (ns : List Int) (h63 : ns.length ≤ 63) {v : List Nt} (hv : v ∈ lawPiece ns) : v.length ≤ 63 := by
  unfold lawPiece at hv
  obtain ⟨pl, _, rfl⟩ := List.mem_map.mp hv
  exact lawVoice_len ns h63 pl
end VW
set_option Elab.async false
set_option linter.all false
set_option maxRecDepth 100000
set_option maxHeartbeats 8000000
namespace VW
open PySem PySem.Spec PyProof.Rows L2 GxR

theorem noteD_inj (n m : Nt) (h : noteD n = noteD m) : n = m := by
  have : asNote (noteD n) = asNote (noteD m) := by rw [h]
  rw [asNote_noteD, asNote_noteD] at this
  injection this
theorem voiceD_inj (v w : List Nt) (h : voiceD v = voiceD w) : v = w := by
  unfold voiceD at h
  injection h with h
  exact (List.map_inj_right noteD_inj).mp h
theorem pieceD_inj {p q : List (List Nt)} (h : pieceD p = pieceD q) : p = q := by
  unfold pieceD at h
  injection h with h
  exact (List.map_inj_right voiceD_inj).mp h
theorem at2 (x y : V) (n : Int) : atI [x, y] (n.fmod 2) = some (if n.fmod 2 = 0 then x else y) := by
  have h := md n (m := 2) (by decide)
  generalize n.fmod 2 = z at h
  have : z = 0 ∨ z = 1 := by omega
  rcases this with e | e <;> subst e <;> rfl
theorem at_int2 (x y : Int) (n : Int) : ∃ t : Int, atI [V.int x, V.int y] (n.fmod 2) = some (V.int t) := by
  rw [at2]
  split
  · exact ⟨x, rfl⟩
  · exact ⟨y, rfl⟩
theorem at_mod {ts : List Int} (n : Int) (h : 0 < ts.length) : ∃ t : Int, atI (ts.map V.int) (n.fmod (ts.length : Int)) = some (V.int t) := by
  have hz := md n (m := (ts.length : Int)) (by omega)
  generalize n.fmod (ts.length : Int) = z at hz
  have hk : z.toNat < ts.length := by omega
  refine ⟨ts[z.toNat], atI_of hz.1 ?_⟩
  rw [List.getElem?_map, List.getElem?_eq_getElem hk]
  rfl

/-- the law's times: so many -/
structure TimesAt (S : Ev) (H0 : Hp) (a p h : Addr) (bd : Nat) (σ : L2.St) (H : Hp) : Prop where
  ex : ∃ (T : Addr) (ts : List Int) (y2 y5 : Option V), σ = [some (.ref a), some (.ref p), y2, some (.ref h), some (.ref T), y5, none, none, none, none, none, none, none] ∧ Ext H0 H ∧ H T = some (.lst (ts.map V.int)) ∧ ts.length ≤ bd ∧ 0 ∈ ts

/-- the law's times, gathered -/
def tl_times (S : Ev) : TS := (tFor (iList S.K (tVar 1)) (gName 2) (tFor (iList S.K (tVar 2)) (gName 5) (tAsg (tOp rCat (tVar 4) (tLst (tCons (tOp (rIxT S.K) (tVar 5) (tC (.int 0))) (tCons (tOp kSub (tOp (rIxT S.K) (tVar 5) (tC (.int 0))) (tC (.int 1))) (tCons (tOp kAdd (tOp (rIxT S.K) (tVar 5) (tC (.int 0))) (tOp (rIxT S.K) (tVar 5) (tC (.int 1)))) (tCons (tOp kSub (tOp kAdd (tOp (rIxT S.K) (tVar 5) (tC (.int 0))) (tOp (rIxT S.K) (tVar 5) (tC (.int 1)))) (tC (.int 1))) tNil)))))) (gName 4))))
theorem read_times (S : Ev) {a p h : Addr} {pc : List (List Nt)} {H0 H : Hp} {D : Ends} {σ : L2.St} (hP : At S.K H0 (.ref p) (pieceD pc)) (h6 : pc.length ≤ 6) (h63 : ∀ v ∈ pc, v.length ≤ 63) (h0 : TimesAt S H0 a p h 2 σ H)
    (k : ∀ σ' H', TimesAt S H0 a p h 2000 σ' H' → D.nx σ' H') : tl_times S D σ H := by
  obtain ⟨pa, xs, e, hS, hA⟩ := At.piece hP
  cases e
  have hl := hA.length
  rw [List.length_map] at hl
  obtain ⟨T, ts, y2, y5, rfl, x1, eT, hb, hm⟩ := h0
  refine ⟨_, rfl, p, rfl, ⟨_, x1.sqL hS⟩, for_list (K := S.K) (a := p) (xs := xs) (fun i σ H' => TimesAt S H0 a p h (2 + 252 * i) σ H') ⟨T, ts, y2, y5, rfl, x1, eT, hb, hm⟩
    (fun i σ H' _ ⟨_, _, _, _, _, x, _⟩ => x.sqL hS) ?_ (fun σ H' ⟨T', ts', y2', y5', e1, x', e2, hb', hm'⟩ => k σ H' ⟨T', ts', y2', y5', e1, x', e2, by omega, hm'⟩)⟩
  rintro i y σ H' hy ⟨T, ts, y2, y5, rfl, x1, eT, hb, hm⟩
  obtain ⟨dy, hdy, hAy⟩ := hA.get hy
  rw [List.getElem?_map] at hdy
  cases hv : pc[i]? with
  | none => rw [hv] at hdy; cases hdy
  | some v =>
    rw [hv] at hdy
    cases hdy
    have hv63 := h63 v (List.mem_of_getElem? hv)
    have hi : i < pc.length := (List.getElem?_eq_some_iff.mp hv).1
    obtain ⟨b, zs, rfl, hbS, hbA⟩ := At.list hAy
    have hzl := hbA.length
    rw [List.length_map] at hzl
    refine ⟨_, rfl, b, rfl, ⟨_, x1.sqL hbS⟩, for_list (K := S.K) (a := b) (xs := zs) (fun j σ H' => ∃ (T : Addr) (ts : List Int) (y5 : Option V), σ = [some (.ref a), some (.ref p), some (.ref b), some (.ref h), some (.ref T), y5, none, none, none, none, none, none, none] ∧ Ext H0 H' ∧ H' T = some (.lst (ts.map V.int)) ∧ ts.length ≤ 2 + 252 * i + 4 * j ∧ 0 ∈ ts) ⟨T, ts, y5, rfl, x1, eT, hb, hm⟩
      (fun i σ H' _ ⟨_, _, _, _, x, _⟩ => x.sqL hbS) ?_ (fun σ H' ⟨T', ts', y5', e1, x', e2, hb', hm'⟩ => ⟨T', ts', _, y5', e1, x', e2, by omega, hm'⟩)⟩
    rintro j y σ H' hy ⟨T, ts, y5, rfl, x1, eT, hb, hm⟩
    obtain ⟨dy, hdy, hAy⟩ := hbA.get hy
    rw [List.getElem?_map] at hdy
    cases hn : v[j]? with
    | none => rw [hn] at hdy; cases hdy
    | some n =>
      rw [hn] at hdy
      cases hdy
      have hj : j < v.length := (List.getElem?_eq_some_iff.mp hn).1
      obtain ⟨c, rfl, hc⟩ := (At.ext x1 _ _ hAy).note
      refine ⟨.ref T, rfl, _, rfl, c, _, 0, .int n.1, rfl, rfl, hc, rfl, _, rfl, c, _, 0, .int n.1, rfl, rfl, hc, rfl, n.1, 1, rfl, rfl,
        _, rfl, c, _, 0, .int n.1, rfl, rfl, hc, rfl, _, rfl, c, _, 1, .int n.2.1, rfl, rfl, hc, rfl, n.1, n.2.1, rfl, rfl,
        _, rfl, c, _, 0, .int n.1, rfl, rfl, hc, rfl, _, rfl, c, _, 1, .int n.2.1, rfl, rfl, hc, rfl, n.1, n.2.1, rfl, rfl, _, 1, rfl, rfl, (by decide : 4 ≤ sizeLine), fun b1 hb1 => ?_⟩
      have x2 : Ext H' (upd H' b1 (.lst [.int n.1, .int (n.1 - 1), .int (n.1 + n.2.1), .int (n.1 + n.2.1 - 1)])) := Ext.new hb1
      refine ⟨T, b1, _, _, rfl, rfl, x2.lst eT, upd_same, ?_, fun T2 hT2 => ?_⟩
      · rw [List.length_map]
        exact Nat.le_trans (by show ts.length + 4 ≤ 4000; omega) (by decide : 4000 ≤ sizeLine)
      refine ⟨T2, ts ++ [n.1, n.1 - 1, n.1 + n.2.1, n.1 + n.2.1 - 1], _, rfl, (x1.trans x2).trans (Ext.new hT2), ?_, ?_, List.mem_append_left _ hm⟩
      · rw [upd_same, List.map_append]
        rfl
      · rw [List.length_append]
        show ts.length + 4 ≤ _
        omega
end VW
set_option Elab.async false
set_option linter.all false
set_option maxRecDepth 100000
set_option maxHeartbeats 8000000
namespace VW
open PySem PySem.Spec PyProof.Rows L2 GxR

/-- one round of the law: a time, what is told, what is due -/
def tl_zip (S : Ev) : TS := (tFor (iZip S.K (tCons (tVar 9) (tCons (tVar 1) tNil))) (gTup S.K 2 (gCons (gName 10) (gCons (gName 2) gNil))) (tSeq (tAsg (tCall (sp_law_heard S) [] E0 (tCons (tVar 2) (tCons (tVar 8) tNil))) (gName 11))
      (tIfS (tOr (tAnd (tTest (tOp kIsN (tVar 11) (tC .non))) (tTest (tOp kNotN (tVar 10) (tC .non)))) (tAnd (tTest (tOp kNotN (tVar 11) (tC .non))) (tOr (tNot (tB (tCall (sp_law_whole S) [] E0 (tCons (tVar 10) tNil)))) (tTest (tOp rNe (tVar 10) (tVar 11)))))) (tRet (tC (.bl false))) tNext)))
/-- the slots between rounds -/
def Sl (a p h T : Addr) (y2 y5 y6 y7 y8 y9 y10 y11 : Option V) : L2.St := [some (.ref a), some (.ref p), y2, some (.ref h), some (.ref T), y5, y6, y7, y8, y9, y10, y11, none]
theorem read_zip (S : Ev) {a p h T q : Addr} {pc : List (List Nt)} {H0 H : Hp} {D : Ends} {y2 y5 y6 y7 y10 y11 : Option V} {t : Int} (hP : At S.K H0 (.ref p) (pieceD pc)) (h6 : pc.length ≤ 6) (h63 : ∀ v ∈ pc, v.length ≤ 63) (x0 : Ext H0 H)
    (eq : H q = some (.lst (pc.map fun v => optV (pitchAt t v))))
    (k : ∀ y2 y10 y11 H', Ext H H' → D.nx (Sl a p h T y2 y5 y6 y7 (some (.int t)) (some (.ref q)) y10 y11) H') : tl_zip S D (Sl a p h T y2 y5 y6 y7 (some (.int t)) (some (.ref q)) y10 y11) H := by
  obtain ⟨pa, xs, e, hS, hA⟩ := At.piece (At.ext x0 _ _ hP)
  cases e
  have hl := hA.length
  rw [List.length_map] at hl
  refine ⟨.ref q, rfl, .ref p, rfl, q, p, _, xs, rfl, .of eq, hS, for_it (walk_zip (n := pc.length) (xs := pc.map fun v => optV (pitchAt t v)) (ys := xs) (by rw [List.length_map, hl, Nat.min_self])) (fun i σ H' => ∃ y2 y10 y11, σ = Sl a p h T y2 y5 y6 y7 (some (.int t)) (some (.ref q)) y10 y11 ∧ Ext H H') ⟨_, _, _, rfl, Ext.refl H⟩
    (fun i σ H' _ ⟨_, _, _, _, x⟩ => ⟨.of (x.lst eq), x.sqL hS⟩) ?_ (fun σ H' ⟨y2', y10', y11', e, x⟩ => by rw [e]; exact k _ _ _ H' x)⟩
  rintro i x σ H1 H2 hi ⟨y2', y10', y11', rfl, x1⟩ ⟨U, u, y, rfl, hU, rfl, eu, ey⟩
  have eu' : (pc.map fun v => optV (pitchAt t v))[i]? = some u := eu
  have ey' : xs[i]? = some y := ey
  obtain ⟨dy, hdy, hAy⟩ := hA.get ey'
  rw [List.getElem?_map] at hdy eu'
  cases hv : pc[i]? with
  | none => rw [hv] at hdy; cases hdy
  | some v =>
    rw [hv] at hdy eu'
    cases hdy
    have eu2 : optV (pitchAt t v) = u := by injection eu'
    subst eu2
    have x2 : Ext H1 (upd H1 U (.tup [optV (pitchAt t v), y])) := Ext.new hU
    refine ⟨U, _, rfl, .of upd_same, rfl, _, _, rfl, _, _, rfl, rfl, ?_⟩
    refine ⟨y, rfl, .int t, rfl, v, t, At.ext (x1.trans x2) _ _ hAy, h63 v (List.mem_of_getElem? hv), rfl, fun H3 x3 => ?_⟩
    have x4 := x1.trans (x2.trans x3)
    generalize pitchAt t v = o
    cases o with
    | none =>
      refine ⟨.non, rfl, rfl, _, rfl, iteT ⟨.non, rfl, rfl, _, rfl, iteF ⟨.non, rfl, rfl, _, rfl, iteF (iteF ?_)⟩⟩⟩
      exact ⟨_, _, _, rfl, x4⟩
    | some z =>
      refine ⟨.int z, rfl, rfl, _, rfl, iteF (iteF ⟨.int z, rfl, rfl, _, rfl, iteT ?_⟩)⟩
      refine ⟨.int z, rfl, .int z, .int z, _, rfl, iteF ⟨.int z, rfl, .int z, rfl, rfl, _, rfl, ?_⟩⟩
      refine iteF' ?_ ?_
      · show (!decide ((V.int z) = V.int z)) = false
        rw [decide_eq_true rfl]
        rfl
      exact ⟨_, _, _, rfl, x4⟩
end VW
set_option Elab.async false
set_option linter.all false
set_option maxRecDepth 100000
set_option maxHeartbeats 8000000
namespace VW
open PySem PySem.Spec PyProof.Rows L2 GxR

theorem kit_list {K : PySem.W.Frag} : PySem.W.kitOne K (.type "list") (.type "list") = some true := isi_list (.lst [])
def tl_rounds (S : Ev) : TS := (tFor (iRng1 (tCons (tC (.int 3)) tNil)) (gName 6) (tSeq (tAsg (tOp kAdd (tOp kAdd (tOp kDiv (tCall (sp_law_at S) [] E0 (tCons (tVar 0) (tCons (tC (.int 0)) tNil))) (tC (.int 64))) (tOp kMul (tVar 6) (tOp kDiv (tCall (sp_law_at S) [] E0 (tCons (tVar 0) (tCons (tC (.int 1)) tNil))) (tC (.int 7))))) (tOp kMul (tVar 6) (tVar 6))) (gName 7))
      (tSeq (tAsg (tOp (rIxL S.K) (tLst (tCons (tOp (rIxL S.K) (tVar 4) (tOp kMod (tOp kDiv (tVar 7) (tC (.int 2))) (tCB (kLen S.K) (tCons (tVar 4) tNil)))) (tCons (tOp kSub (tOp kMod (tOp kDiv (tVar 7) (tC (.int 2))) (tOp kAdd (tCB (rMax S.K) (tCons (tVar 4) tNil)) (tC (.int 7)))) (tC (.int 3))) tNil))) (tOp kMod (tVar 7) (tC (.int 2)))) (gName 8))
      (tSeq (tAsg (tCall (sp_sounding S) [] E0 (tCons (tVar 3) (tCons (tVar 8) tNil))) (gName 9))
      (tSeq (tIfS (tOr (tNot (tB (tCB (rIsi S.K) (tCons (tVar 9) (tCons (tC (.ty "list")) tNil))))) (tTest (tOp rNe (tCB (kLen S.K) (tCons (tVar 9) tNil)) (tCB (kLen S.K) (tCons (tVar 1) tNil))))) (tRet (tC (.bl false))) tNext)
      (tSeq (tl_zip S)
      (tDrop (tBM S.K "list" rAppend (tVar 9) (tCons (tC (.int 0)) tNil)))))))))
theorem read_rounds (S : Ev) {a p h T : Addr} {ns ts : List Int} {pc : List (List Nt)} {H0 : Hp} {D : Ends} {y2 y5 : Option V} (hT : S.T H0) (hS : SqL S.K H0 a (ns.map V.int)) (hns : ns.length ≤ 63) (hP : At S.K H0 (.ref p) (pieceD pc)) (hH : At S.K H0 (.ref h) (pieceD pc)) (ok : okPiece pc = true) (h63 : ∀ v ∈ pc, v.length ≤ 63)
    (eT : H0 T = some (.lst (ts.map V.int))) (hm0 : 0 ∈ ts)
    (k : ∀ y2 y6 y7 y8 y9 y10 y11 H', Ext H0 H' → D.nx (Sl a p h T y2 y5 y6 y7 y8 y9 y10 y11) H') : tl_rounds S D (Sl a p h T y2 y5 none none none none none none) H0 := by
  have h6 := okPiece_len ok
  obtain ⟨pa, xs, e, hPS, hA⟩ := At.piece hP
  cases e
  have hl := hA.length
  rw [List.length_map] at hl
  have ht0 : 0 < ts.length := List.length_pos_of_mem hm0
  refine ⟨3, rfl, by decide, by decide, for_it (walk_range (lo := 0) (n := 3)) (fun i σ H' => ∃ y2 y6 y7 y8 y9 y10 y11, σ = Sl a p h T y2 y5 y6 y7 y8 y9 y10 y11 ∧ Ext H0 H') ⟨_, _, _, _, _, _, _, rfl, Ext.refl H0⟩ (fun _ _ _ _ _ => trivial) ?_
    (fun σ H' ⟨y2', y6', y7', y8', y9', y10', y11', e, x⟩ => by rw [e]; exact k _ _ _ _ _ _ _ H' x)⟩
  rintro i x σ H1 H1' hi ⟨y2', y6', y7', y8', y9', y10', y11', rfl, x1⟩ ⟨rfl, ex⟩
  have ex' : x = .int i := by rw [ex]; show V.int (0 + (i : Int)) = _; rw [Int.zero_add]
  subst ex'
  have hS1 := x1.sqL hS
  refine ⟨_, rfl, a, ns, 0, rfl, hS1, hns, rfl, by decide, _, 64, rfl, rfl, cdv _ _ (by decide) (by decide), .int i, rfl, _, rfl, a, ns, 1, rfl, hS1, hns, rfl, by decide, _, 7, rfl, rfl, cdv _ _ (by decide) (by decide), i, _, rfl, rfl, cmulL _ _ (by omega), _, _, rfl, rfl, .int i, rfl, .int i, rfl, i, i, rfl, rfl, cmulL _ _ (by omega), _, _, rfl, rfl, ?_⟩
  have eT1 := x1.lst eT
  obtain ⟨t1, e1⟩ := at_mod (ts := ts) (((ns.getD 0 0).fdiv 64 + (i : Int) * (ns.getD 1 0).fdiv 7 + (i : Int) * (i : Int)).fdiv 2) ht0
  refine ⟨.ref T, rfl, _, rfl, _, 2, rfl, rfl, cdv _ _ (by decide) (by decide), .ref T, rfl, .ref T, (ts.map V.int).length, rfl, .inl ⟨_, .of eT1, rfl⟩, _, _, rfl, rfl, ?_, T, _, _, .int t1, rfl, rfl, .of eT1, ?_, ?_⟩
  · show ((ts.map V.int).length : Int) ≠ 0
    rw [List.length_map]
    omega
  · show atI (ts.map V.int) (Int.fmod _ ((ts.map V.int).length : Int)) = _
    rw [List.length_map]
    exact e1
  refine ⟨_, rfl, _, 2, rfl, rfl, cdv _ _ (by decide) (by decide), .ref T, rfl, T, ts, rfl, .of eT1, ht0, fun m hm hmax => ⟨m, 7, rfl, rfl, _, _, rfl, rfl, ?_, _, 3, rfl, rfl, (by decide : 2 ≤ sizeLine), fun b hb => ?_⟩⟩
  · have := hmax 0 hm0
    show m + 7 ≠ 0
    omega
  obtain ⟨t, et⟩ := at_int2 t1 (Int.fmod (((ns.getD 0 0).fdiv 64 + (i : Int) * (ns.getD 1 0).fdiv 7 + (i : Int) * (i : Int)).fdiv 2) (m + 7) - 3) ((ns.getD 0 0).fdiv 64 + (i : Int) * (ns.getD 1 0).fdiv 7 + (i : Int) * (i : Int))
  refine ⟨_, rfl, _, 2, rfl, rfl, (by decide : (2 : Int) ≠ 0), b, _, _, .int t, rfl, rfl, .of upd_same, et, ?_⟩
  have x2 : Ext H1' (upd H1' b (.lst [.int t1, .int (Int.fmod (((ns.getD 0 0).fdiv 64 + (i : Int) * (ns.getD 1 0).fdiv 7 + (i : Int) * (i : Int)).fdiv 2) (m + 7) - 3)])) := Ext.new hb
  have x12 := x1.trans x2
  refine ⟨.ref h, rfl, .int t, rfl, x12.tabs hT, pieceD pc, .int t, At.ext x12 _ _ hH, .int t, fun pc' j ep _ ej H2 q x3 nq eq => ?_, fun _ z => ?_, fun z => ?_⟩
  · have epc := pieceD_inj ep
    subst epc
    cases ej
    have x13 := x12.trans x3
    refine ⟨.ref q, rfl, .ref q, .ty "list", .type "list", .type "list", true, rfl, .ty _, SqL.tyX (.of eq), kit_list, _, rfl, iteF ⟨.ref q, rfl, .ref q, _, rfl, .inl ⟨_, .of eq, rfl⟩, .ref p, rfl, .ref p, _, rfl, .inl ⟨_, x13.sqL hPS, rfl⟩, rfl, _, rfl, ?_⟩⟩
    refine iteF' ?_ ?_
    · rw [List.length_map, hl, decide_eq_true rfl]
      rfl
    refine read_zip S (H0 := H0) hP h6.2 h63 x13 eq fun z2 z10 z11 H3 x4 => ?_
    refine ⟨.ref q, rfl, .inl ⟨rfl, _, .of (x4.lst eq)⟩, q, _, .int 0, rfl, rfl, x4.lst eq, ?_, _, _, _, _, _, _, _, rfl, ?_⟩
    · rw [List.length_map]
      exact Nat.lt_of_lt_of_le (by omega : _ < 1001) (by decide : 1001 ≤ sizeLine)
    · exact (x13.trans x4).upd (x12.free nq)
  · cases z
  · rw [isPiece_D, ok] at z; cases z
end VW
set_option Elab.async false
set_option linter.all false
set_option maxRecDepth 100000
set_option maxHeartbeats 8000000
namespace VW
open PySem PySem.Spec PyProof.Rows L2 GxR

def tl_odd (S : Ev) : TS := (tSeq (tAsg (tOp (rIxL S.K) (tLst (tCons (tC (.bl true)) (tCons (tC .non) (tCons (tC (.str (PySem.Str.ofString "0"))) (tCons (tTup (tCons (tC (.int 0)) tNil)) (tCons (tC (.bl false)) (tCons (tLst (tCons (tC (.int 0)) tNil)) (tCons tDNewK tNil)))))))) (tOp kMod (tOp kAdd (tOp kMul (tCall (sp_law_at S) [] E0 (tCons (tVar 0) (tCons (tC (.int 0)) tNil))) (tC (.int 48271))) (tCall (sp_law_at S) [] E0 (tCons (tVar 0) (tCons (tC (.int 1)) tNil)))) (tC (.int 7)))) (gName 12))
      (tRet (tAndV (tCall (sp_law_refused S) [] E0 (tCons (tVar 3) (tCons (tVar 12) tNil))) (tOp (rEqD S.K) (tVar 3) (tVar 1)))))
theorem at7 (v0 v1 v2 v3 v4 v5 v6 : V) (n : Int) : ∃ v, atI [v0, v1, v2, v3, v4, v5, v6] (n.fmod 7) = some v ∧ v ∈ [v0, v1, v2, v3, v4, v5, v6] := by
  have h := md n (m := 7) (by decide)
  generalize n.fmod 7 = z at h
  have : z = 0 ∨ z = 1 ∨ z = 2 ∨ z = 3 ∨ z = 4 ∨ z = 5 ∨ z = 6 := by omega
  rcases this with e | e | e | e | e | e | e <;> subst e
  · exact ⟨v0, rfl, by simp⟩
  · exact ⟨v1, rfl, by simp⟩
  · exact ⟨v2, rfl, by simp⟩
  · exact ⟨v3, rfl, by simp⟩
  · exact ⟨v4, rfl, by simp⟩
  · exact ⟨v5, rfl, by simp⟩
  · exact ⟨v6, rfl, by simp⟩
theorem read_odd (S : Ev) {a p h T : Addr} {ns : List Int} {pc : List (List Nt)} {H : Hp} {Q : VK} {y2 y5 y6 y7 y8 y9 y10 y11 : Option V} (hT : S.T H) (kt : Kit S S.cNumber [S.cEntry, S.cPiece, S.cTheme, S.cClash, S.cText, S.cRange, S.cUneven]) (hS : SqL S.K H a (ns.map V.int)) (hns : ns.length ≤ 63) (hP : At S.K H (.ref p) (pieceD pc)) (hH : At S.K H (.ref h) (pieceD pc)) (ok : okPiece pc = true)
    (q : ∀ H', Ext H H' → Q (.bl true) H') : tl_odd S { nx := fun _ H' => Q .non H', rt := Q } (Sl a p h T y2 y5 y6 y7 y8 y9 y10 y11) H := by
  refine ⟨(by decide : 1 ≤ sizeLine), fun b1 hb1 => ⟨(by decide : 1 ≤ sizeLine), fun b2 hb2 b3 hb3 => ⟨(by decide : 7 ≤ sizeLine), fun b4 hb4 => ?_⟩⟩⟩
  have x1 : Ext H (upd H b1 (.tup [.int 0])) := Ext.new hb1
  have e1 : upd H b1 (.tup [.int 0]) b1 = some (.tup [.int 0]) := upd_same
  generalize upd H b1 (.tup [.int 0]) = H1 at *
  have x2 : Ext H1 (upd H1 b2 (.lst [.int 0])) := Ext.new hb2
  have e2 : upd H1 b2 (.lst [.int 0]) b2 = some (.lst [.int 0]) := upd_same
  generalize upd H1 b2 (.lst [.int 0]) = H2 at *
  have x3 : Ext H2 (upd H2 b3 (.dK [])) := Ext.new hb3
  have e3 : upd H2 b3 (.dK []) b3 = some (.dK []) := upd_same
  generalize upd H2 b3 (.dK []) = H3 at *
  have x4 : Ext H3 (upd H3 b4 (.lst [.bl true, .non, .str (PySem.Str.ofString "0"), .ref b1, .bl false, .ref b2, .ref b3])) := Ext.new hb4
  have e4 : upd H3 b4 (.lst [.bl true, .non, .str (PySem.Str.ofString "0"), .ref b1, .bl false, .ref b2, .ref b3]) b4 = some (.lst [.bl true, .non, .str (PySem.Str.ofString "0"), .ref b1, .bl false, .ref b2, .ref b3]) := upd_same
  generalize upd H3 b4 (.lst [.bl true, .non, .str (PySem.Str.ofString "0"), .ref b1, .bl false, .ref b2, .ref b3]) = H4 at *
  have x14 := x1.trans (x2.trans (x3.trans x4))
  have hS4 := x14.sqL hS
  obtain ⟨v, ev, hv⟩ := at7 (.bl true) .non (.str (PySem.Str.ofString "0")) (.ref b1) (.bl false) (.ref b2) (.ref b3) ((ns.getD 0 0) * 48271 + ns.getD 1 0)
  refine ⟨_, rfl, a, ns, 0, rfl, hS4, hns, rfl, by decide, _, 48271, rfl, rfl, cmulR _ _ (by decide), _, rfl, a, ns, 1, rfl, hS4, hns, rfl, by decide, _, _, rfl, rfl, _, 7, rfl, rfl, (by decide : (7 : Int) ≠ 0), b4, _, _, v, rfl, rfl, .of e4, ev, ?_⟩
  have hd : ∃ dt, At S.K H4 v dt ∧ dt.whole = false := by
    simp only [List.mem_cons, List.mem_nil_iff, or_false] at hv
    rcases hv with e | e | e | e | e | e | e <;> subst e
    · exact ⟨_, .bl _, rfl⟩
    · exact ⟨_, .non, rfl⟩
    · exact ⟨_, .str _, rfl⟩
    · exact ⟨.tup [.int 0], .tup (.inl (.inl ((x2.trans (x3.trans x4)).tup e1))) (.cons (.int _) .nil), rfl⟩
    · exact ⟨_, .bl _, rfl⟩
    · exact ⟨.lst [.int 0], .lst (.of ((x3.trans x4).lst e2)) (.cons (.int _) .nil), rfl⟩
    · exact ⟨.dic, .dic (x4.keep e3 fun _ z => by cases z), rfl⟩
  obtain ⟨dt, hdt, hw⟩ := hd
  refine ⟨.ref h, rfl, v, rfl, x14.tabs hT, kt, pc, dt, At.ext x14 _ _ hH, ok, hdt, hw, fun H5 x5 => ⟨true, rfl, iteT ⟨.ref h, rfl, .ref p, rfl, ?_⟩⟩⟩
  exact eqD_same (pieceD_flat pc) (by decide) (At.ext (x14.trans x5) _ _ hH) (At.ext (x14.trans x5) _ _ hP) (q H5 (x14.trans x5))

theorem pure_law (S : Ev) (vs : List V) (H : Hp) (Q : VK) (E : XK) (h : sp_law S vs H Q E) : t_law S E { nx := fun _ H' => Q .non H', rt := Q } (start N_law vs) H := by
  obtain ⟨x, rfl⟩ := args1 (len_law S vs H Q E h)
  obtain ⟨hT, kt, a, ns, rfl, hS, h63, q⟩ := h
  refine ⟨_, rfl, a, ns, rfl, hS, h63, fun H1 p x1 n1 => ?_⟩
  have ok := okPiece_law ns h63
  have h6 := okPiece_len ok
  have hv63 : ∀ v ∈ lawPiece ns, v.length ≤ 63 := fun v hv => lawPiece_voice ns h63 hv
  generalize lawPiece ns = pc at *
  have hP := n1.piece
  obtain ⟨pa, xs, e, hPS, hA⟩ := At.piece hP
  cases e
  have hl := hA.length
  rw [List.length_map] at hl
  refine ⟨.ref p, rfl, p, rfl, ⟨xs, hPS⟩, fun hd hhd => lc_rowsD (g := gName 2) (te := tCB (kList S.K) (tCons (tVar 2) tNil)) (vs := [2]) (σ := [some (.ref a), some (.ref p), none, none, none, none, none, none, none, none, none, none, none]) (xs := xs) hhd pc hl.symm (by omega) hPS ?_ fun H2 x2 n2 => ?_⟩
  · intro i y r H' R hy hr x3 k
    obtain ⟨dy, hdy, hAy⟩ := hA.get hy
    rw [List.getElem?_map, hr] at hdy
    cases hdy
    obtain ⟨b, ys, rfl, hb, hB⟩ := At.list (At.ext x3 _ _ hAy)
    refine ⟨rfl, _, rfl, b, ys, rfl, .inl hb, fun l hl' => ?_⟩
    exact k l ys _ upd_same hl' (Ext.new hl') (AtAll.ext (Ext.new hl') _ _ hB)
  have hH := n2.piece
  refine ⟨1, rfl, (by decide : 2 ≤ sizeLine), fun T hT0 => ?_⟩
  have x3 : Ext H2 (upd H2 T (.lst [.int (-1), .int 0])) := Ext.new hT0
  refine read_times S (At.ext x2 _ _ hP) h6.2 hv63 (p := p) (h := hd) (a := a) ⟨T, [-1, 0], none, none, rfl, x3, upd_same, by decide, by simp⟩ fun σ H3 ⟨T', ts, y2, y5, eσ, x4, eT, hb, hm⟩ => ?_
  subst eσ
  have x24 := x2.trans x4
  have x14 := x1.trans x24
  refine read_rounds S (x14.tabs hT) (x14.sqL hS) h63 (At.ext x24 _ _ hP) (At.ext x4 _ _ hH) ok hv63 eT hm fun z2 z6 z7 z8 z9 z10 z11 H4 x5 => ?_
  exact read_odd S ((x14.trans x5).tabs hT) kt ((x14.trans x5).sqL hS) h63 (At.ext (x24.trans x5) _ _ hP) (At.ext (x4.trans x5) _ _ hH) ok fun H5 x6 => q H5 ((x14.trans x5).trans x6)
end VW
set_option Elab.async false
set_option linter.all false
set_option maxRecDepth 100000
set_option maxHeartbeats 4000000
namespace VW
open PySem PySem.Spec PyProof.Rows L2 GxR
def top (i : Nat) : Stmt := PySem.Challenge.pw_voiceweave_k05_what_sounds.main.body.getD i (.Pass ⟨0, 0, 0, 0⟩)
abbrev s_is_whole : Stmt := top 14
theorem sc_is_whole : FnScope N_is_whole ["number"] (defScope s_is_whole) := ⟨rfl, rfl, rfl, by decide +kernel, rfl, by decide +kernel, by decide +kernel⟩
theorem own_is_whole {P : Program} {w : World} {mg : Str → Option Value} {base : Heap} {f c : Addr} {fd : FuncData} (S : Ev) (B : Bl mg) (Z : Nums mg) (F : FunC S.K "is_whole" "is_whole" s_is_whole f c fd) (hm : mg "is_whole" = some (.ref f)) :
    Own P w S.K mg base CX0 1 "is_whole" ["number"] (sp_is_whole S) := by
  refine own0 F hm sc_is_whole (fun _ _ _ _ _ _ us hl => match us, hl with | [_], _ => rfl) (len_is_whole S) (fun A outer s H vs Q E hr h => ⟨t_is_whole S E, ?_, pure_is_whole S vs H Q E h⟩)
  exact (pss_one (ps_ret (pe_and (pe_callB call_isi (by rfl) B.isinstance bo_isinstance (pa_cons (pv 0) (pa_cons (pe_tyInt B) pa_nil))) (pe_one (pe_not (pe_callB call_isi (by rfl) B.isinstance bo_isinstance (pa_cons (pv 0) (pa_cons (pe_tyBool B) pa_nil))))))))

abbrev s_require_whole : Stmt := top 15
theorem sc_require_whole : FnScope N_require_whole ["number"] (defScope s_require_whole) := ⟨rfl, rfl, rfl, by decide +kernel, rfl, by decide +kernel, by decide +kernel⟩
theorem own_require_whole {P : Program} {w : World} {mg : Str → Option Value} {base : Heap} {f c : Addr} {fd : FuncData} (S : Ev) (B : Bl mg) (Z : Nums mg) (F : FunC S.K "require_whole" "require_whole" s_require_whole f c fd) (hm : mg "require_whole" = some (.ref f))
    (G_is_whole : Own P w S.K mg base CX0 1 "is_whole" ["number"] (sp_is_whole S))
    (X_BadNumber : ExcC S.K mg "BadNumber" S.cNumber) :
    Own P w S.K mg base (L2.CX P w) 2 "require_whole" ["number"] (sp_require_whole S) := by
  refine ownX F hm sc_require_whole (fun _ _ _ _ _ _ us hl => match us, hl with | [_], _ => rfl) (len_require_whole S) (fun A outer s H vs Q E hr h => ⟨t_require_whole S E, ?_, pure_require_whole S vs H Q E h⟩)
  exact (pss_one (ps_if (pt_not (pt_val (pe_own0 G_is_whole (hr.mono (by decide)) (pa_cons (pv 0) pa_nil)))) (pss_one (ps_raiseC rfl X_BadNumber takes_def)) pss_nil))

abbrev s_end_of : Stmt := top 16
theorem sc_end_of : FnScope N_end_of ["note"] (defScope s_end_of) := ⟨rfl, rfl, rfl, by decide +kernel, rfl, by decide +kernel, by decide +kernel⟩
theorem own_end_of {P : Program} {w : World} {mg : Str → Option Value} {base : Heap} {f c : Addr} {fd : FuncData} (S : Ev) (B : Bl mg) (Z : Nums mg) (F : FunC S.K "end_of" "end_of" s_end_of f c fd) (hm : mg "end_of" = some (.ref f)) :
    Own P w S.K mg base CX0 1 "end_of" ["note"] (sp_end_of S) := by
  refine own0 F hm sc_end_of (fun _ _ _ _ _ _ us hl => match us, hl with | [_], _ => rfl) (len_end_of S) (fun A outer s H vs Q E hr h => ⟨t_end_of S E, ?_, pure_end_of S vs H Q E h⟩)
  exact (pss_cons (ps_asg (pv 0) (pg_tup rfl (pgs_cons (pg_name (i := 1) (sc_end_of).nd rfl (Or.inl rfl)) (pgs_cons (pg_name (i := 2) (sc_end_of).nd rfl (Or.inl rfl)) (pgs_cons (pg_name (i := 3) (sc_end_of).nd rfl (Or.inl rfl)) pgs_nil)))))
      (pss_one (ps_ret (pe_op op_add (pv 1) (pv 2)))))

abbrev s_is_note : Stmt := top 17
theorem sc_is_note : FnScope N_is_note ["note"] (defScope s_is_note) := ⟨rfl, rfl, rfl, by decide +kernel, rfl, by decide +kernel, by decide +kernel⟩
theorem own_is_note {P : Program} {w : World} {mg : Str → Option Value} {base : Heap} {f c : Addr} {fd : FuncData} (S : Ev) (B : Bl mg) (Z : Nums mg) (F : FunC S.K "is_note" "is_note" s_is_note f c fd) (hm : mg "is_note" = some (.ref f))
    (G_is_whole : Own P w S.K mg base CX0 1 "is_whole" ["number"] (sp_is_whole S))
    (TB : TabB base mg c S.Pn) :
    Own P w S.K mg base CX0 3 "is_note" ["note"] (sp_is_note S) := by
  refine own0 F hm sc_is_note (fun _ _ _ _ _ _ us hl => match us, hl with | [_], _ => rfl) (len_is_note S) (fun A outer s H vs Q E hr h => ⟨t_is_note S E, ?_, pure_is_note S vs H Q E h⟩)
  exact (pss_cons (ps_if (PW.pt (pw_or (pt_not (pt_val (pe_callB call_isi (by rfl) B.isinstance bo_isinstance (pa_cons (pv 0) (pa_cons (pe_tyTuple B) pa_nil))))) (pw_or1 (pt_cmpR op_ne (pe_callB call_len (by rfl) B.len bo_len (pa_cons (pv 0) pa_nil)) pe_int (nomark _))))) (pss_one (ps_ret pe_bl)) pss_nil)
      (pss_cons (ps_if (pt_not (pt_val (pe_allG (own := [("part", 5)]) (k := 1) (hr.mono (by decide)) rfl (sc_is_note).nd (by rfl) B.all TB rfl (pi_tup (pv 0)) ⟨(blkOk_by (own := [("part", 5)]) (N := N_is_note) (sc := (defScope (s_is_note))) (by decide +kernel)), rfl, by decide +kernel, by decide +kernel⟩ (fun _ _ _ _ _ _ _ => (pg_name (i := 5) (sc_is_note).nd rfl (Or.inl rfl))) (fun _ _ _ _ _ _ _ => (pe_own0 G_is_whole (Room.mono (gArd_room (k := 1) (hr.mono (by decide))) (by decide)) (pa_cons (pv 5) pa_nil)))))) (pss_one (ps_ret pe_bl)) pss_nil)
      (pss_cons (ps_asg (pv 0) (pg_tup rfl (pgs_cons (pg_name (i := 1) (sc_is_note).nd rfl (Or.inl rfl)) (pgs_cons (pg_name (i := 2) (sc_is_note).nd rfl (Or.inl rfl)) (pgs_cons (pg_name (i := 3) (sc_is_note).nd rfl (Or.inl rfl)) pgs_nil)))))
      (pss_cons (ps_set (i := 4) (sc_is_note).nd rfl (Or.inl rfl) (pe_and (pe_cmpR op_ge (pv 1) pe_int (nomark _)) (pe_and (pe_cmpR op_ge (pv 2) pe_int (nomark _)) (pe_one (pe_cmpR op_le (pe_op op_add (pv 1) (pv 2)) (pe_num Z.GREATEST_END) (nomark _))))))
      (pss_one (ps_ret (pe_and (pv 4) (pe_one (pe_chain op_le op_le (pe_un un_neg (pe_num Z.PITCH_REACH)) (pv 3) (pe_num Z.PITCH_REACH))))))))))

abbrev s_is_voice : Stmt := top 18
theorem sc_is_voice : FnScope N_is_voice ["voice"] (defScope s_is_voice) := ⟨rfl, rfl, rfl, by decide +kernel, rfl, by decide +kernel, by decide +kernel⟩
theorem own_is_voice {P : Program} {w : World} {mg : Str → Option Value} {base : Heap} {f c : Addr} {fd : FuncData} (S : Ev) (B : Bl mg) (Z : Nums mg) (F : FunC S.K "is_voice" "is_voice" s_is_voice f c fd) (hm : mg "is_voice" = some (.ref f))
    (G_end_of : Own P w S.K mg base CX0 1 "end_of" ["note"] (sp_end_of S))
    (G_is_note : Own P w S.K mg base CX0 3 "is_note" ["note"] (sp_is_note S)) :
    Own P w S.K mg base CX0 4 "is_voice" ["voice"] (sp_is_voice S) := by
  refine own0 F hm sc_is_voice (fun _ _ _ _ _ _ us hl => match us, hl with | [_], _ => rfl) (len_is_voice S) (fun A outer s H vs Q E hr h => ⟨t_is_voice S E, ?_, pure_is_voice S vs H Q E h⟩)
  exact (pss_cons (ps_if (pt_not (pt_val (pe_callB call_isi (by rfl) B.isinstance bo_isinstance (pa_cons (pv 0) (pa_cons (pe_tyList B) pa_nil))))) (pss_one (ps_ret pe_bl)) pss_nil)
      (pss_cons (ps_set (i := 1) (sc_is_voice).nd rfl (Or.inl rfl) pe_int)
      (pss_cons (ps_for PassesOwn.never rfl (pi_list (pv 0)) (pg_name (i := 2) (sc_is_voice).nd rfl (Or.inl rfl)) (pss_cons (ps_if (PW.pt (pw_or (pt_not (pt_val (pe_own0 G_is_note (hr.mono (by decide)) (pa_cons (pv 2) pa_nil)))) (pw_or1 (pt_cmpR op_lt (pe_ix ix_tup (pv 2) pe_int (fun _ _ => rfl)) (pv 1) (nomark _))))) (pss_one (ps_ret pe_bl)) pss_nil)
      (pss_one (ps_set (i := 1) (sc_is_voice).nd rfl (Or.inl rfl) (pe_own0 G_end_of (hr.mono (by decide)) (pa_cons (pv 2) pa_nil))))))
      (pss_one (ps_ret pe_bl)))))

abbrev s_is_piece : Stmt := top 19
theorem sc_is_piece : FnScope N_is_piece ["piece"] (defScope s_is_piece) := ⟨rfl, rfl, rfl, by decide +kernel, rfl, by decide +kernel, by decide +kernel⟩
theorem own_is_piece {P : Program} {w : World} {mg : Str → Option Value} {base : Heap} {f c : Addr} {fd : FuncData} (S : Ev) (B : Bl mg) (Z : Nums mg) (F : FunC S.K "is_piece" "is_piece" s_is_piece f c fd) (hm : mg "is_piece" = some (.ref f))
    (G_is_voice : Own P w S.K mg base CX0 4 "is_voice" ["voice"] (sp_is_voice S))
    (TB : TabB base mg c S.Pp) :
    Own P w S.K mg base CX0 6 "is_piece" ["piece"] (sp_is_piece S) := by
  refine own0 F hm sc_is_piece (fun _ _ _ _ _ _ us hl => match us, hl with | [_], _ => rfl) (len_is_piece S) (fun A outer s H vs Q E hr h => ⟨t_is_piece S E, ?_, pure_is_piece S vs H Q E h⟩)
  exact (pss_cons (ps_if (PW.pt (pw_or (pt_not (pt_val (pe_callB call_isi (by rfl) B.isinstance bo_isinstance (pa_cons (pv 0) (pa_cons (pe_tyList B) pa_nil))))) (pw_or1 (pt_not (pt_chain op_le op_le pe_int (pe_callB call_len (by rfl) B.len bo_len (pa_cons (pv 0) pa_nil)) (pe_num Z.MOST_VOICES)))))) (pss_one (ps_ret pe_bl)) pss_nil)
      (pss_one (ps_ret (pe_allG (own := [("voice", 1)]) (k := 4) (hr.mono (by decide)) rfl (sc_is_piece).nd (by rfl) B.all TB rfl (pi_list (pv 0)) ⟨(blkOk_by (own := [("voice", 1)]) (N := N_is_piece) (sc := (defScope (s_is_piece))) (by decide +kernel)), rfl, by decide +kernel, by decide +kernel⟩ (fun _ _ _ _ _ _ _ => (pg_name (i := 1) (sc_is_piece).nd rfl (Or.inl rfl))) (fun _ _ _ _ _ _ _ => (pe_own0 G_is_voice (Room.mono (gArd_room (k := 4) (hr.mono (by decide))) (by decide)) (pa_cons (pv 1) pa_nil)))))))

abbrev s_good : Stmt := top 20
theorem sc_good : FnScope N_good ["piece"] (defScope s_good) := ⟨rfl, rfl, rfl, by decide +kernel, rfl, by decide +kernel, by decide +kernel⟩
theorem own_good {P : Program} {w : World} {mg : Str → Option Value} {base : Heap} {f c : Addr} {fd : FuncData} (S : Ev) (B : Bl mg) (Z : Nums mg) (F : FunC S.K "good" "good" s_good f c fd) (hm : mg "good" = some (.ref f))
    (G_is_piece : Own P w S.K mg base CX0 6 "is_piece" ["piece"] (sp_is_piece S))
    (X_BadPiece : ExcC S.K mg "BadPiece" S.cPiece) :
    Own P w S.K mg base (L2.CX P w) 7 "good" ["piece"] (sp_good S) := by
  refine ownX F hm sc_good (fun _ _ _ _ _ _ us hl => match us, hl with | [_], _ => rfl) (len_good S) (fun A outer s H vs Q E hr h => ⟨t_good S E, ?_, pure_good S vs H Q E h⟩)
  exact (pss_cons (ps_if (pt_not (pt_val (pe_own0 G_is_piece (hr.mono (by decide)) (pa_cons (pv 0) pa_nil)))) (pss_one (ps_raiseC rfl X_BadPiece takes_def)) pss_nil)
      (pss_one (ps_ret (pe_lc (own := [("voice", 1)]) rfl (sc_good).nd (pi_list (pv 0)) (blkOk_by (own := [("voice", 1)]) (N := N_good) (sc := (defScope (s_good))) (by decide +kernel)) (fun _ _ _ _ _ => (pg_name (i := 1) (sc_good).nd rfl (Or.inl rfl))) (fun _ _ _ _ _ => pts_nil) (fun _ _ _ _ _ => (pe_callTy call_list_of (by rfl) B.list bo_list (pa_cons (pv 1) pa_nil)))))))

abbrev s_pitch_at : Stmt := top 22
theorem sc_pitch_at : FnScope N_pitch_at ["voice", "time"] (defScope s_pitch_at) := ⟨rfl, rfl, rfl, by decide +kernel, rfl, by decide +kernel, by decide +kernel⟩
theorem own_pitch_at {P : Program} {w : World} {mg : Str → Option Value} {base : Heap} {f c : Addr} {fd : FuncData} (S : Ev) (B : Bl mg) (Z : Nums mg) (F : FunC S.K "_pitch_at" "_pitch_at" s_pitch_at f c fd) (hm : mg "_pitch_at" = some (.ref f))
    (G_end_of : Own P w S.K mg base CX0 1 "end_of" ["note"] (sp_end_of S)) :
    Own P w S.K mg base CX0 2 "_pitch_at" ["voice", "time"] (sp_pitch_at S) := by
  refine own0 F hm sc_pitch_at (fun _ _ _ _ _ _ us hl => match us, hl with | [_, _], _ => rfl) (len_pitch_at S) (fun A outer s H vs Q E hr h => ⟨t_pitch_at S E, ?_, pure_pitch_at S vs H Q E h⟩)
  exact (pss_cons (ps_for PassesOwn.never rfl (pi_list (pv 0)) (pg_name (i := 2) (sc_pitch_at).nd rfl (Or.inl rfl)) (pss_one (ps_if (pt_chain op_le op_lt (pe_ix ix_tup (pv 2) pe_int (fun _ _ => rfl)) (pv 1) (pe_own0 G_end_of (hr.mono (by decide)) (pa_cons (pv 2) pa_nil))) (pss_one (ps_ret (pe_ix ix_tup (pv 2) pe_int (fun _ _ => rfl)))) pss_nil)))
      (pss_one (ps_ret pe_non)))

abbrev s_sounding : Stmt := top 21
theorem sc_sounding : FnScope N_sounding ["piece", "time"] (defScope s_sounding) := ⟨rfl, rfl, rfl, by decide +kernel, rfl, by decide +kernel, by decide +kernel⟩
theorem own_sounding {P : Program} {w : World} {mg : Str → Option Value} {base : Heap} {f c : Addr} {fd : FuncData} (S : Ev) (B : Bl mg) (Z : Nums mg) (F : FunC S.K "sounding" "sounding" s_sounding f c fd) (hm : mg "sounding" = some (.ref f))
    (G_pitch_at : Own P w S.K mg base CX0 2 "_pitch_at" ["voice", "time"] (sp_pitch_at S))
    (G_good : Own P w S.K mg base (L2.CX P w) 7 "good" ["piece"] (sp_good S))
    (G_require_whole : Own P w S.K mg base (L2.CX P w) 2 "require_whole" ["number"] (sp_require_whole S)) :
    Own P w S.K mg base (L2.CX P w) 8 "sounding" ["piece", "time"] (sp_sounding S) := by
  refine ownX F hm sc_sounding (fun _ _ _ _ _ _ us hl => match us, hl with | [_, _], _ => rfl) (len_sounding S) (fun A outer s H vs Q E hr h => ⟨t_sounding S E, ?_, pure_sounding S vs H Q E h⟩)
  exact (pss_cons (ps_set (i := 2) (sc_sounding).nd rfl (Or.inl rfl) (pe_own G_good (hr.mono (by decide)) (passes_call takes_def (fun _ _ _ _ z => z)) (pa_cons (pv 0) pa_nil)))
      (pss_cons (ps_expr (pe_own G_require_whole (hr.mono (by decide)) (passes_call takes_def (fun _ _ _ _ z => z)) (pa_cons (pv 1) pa_nil)))
      (pss_one (ps_ret (pe_lc (own := [("voice", 3)]) rfl (sc_sounding).nd (pi_list (pv 2)) (blkOk_by (own := [("voice", 3)]) (N := N_sounding) (sc := (defScope (s_sounding))) (by decide +kernel)) (fun _ _ _ _ _ => (pg_name (i := 3) (sc_sounding).nd rfl (Or.inl rfl))) (fun _ _ _ _ _ => pts_nil) (fun _ _ _ _ _ => (pe_own0 G_pitch_at (hr.mono (by decide)) (pa_cons (pv 3) (pa_cons (pv 1) pa_nil)))))))))

abbrev s_law_at : Stmt := top 24
theorem sc_law_at : FnScope N_law_at ["_law_script", "_law_k"] (defScope s_law_at) := ⟨rfl, rfl, rfl, by decide +kernel, rfl, by decide +kernel, by decide +kernel⟩
theorem own_law_at {P : Program} {w : World} {mg : Str → Option Value} {base : Heap} {f c : Addr} {fd : FuncData} (S : Ev) (B : Bl mg) (Z : Nums mg) (F : FunC S.K "_law_at" "_law_at" s_law_at f c fd) (hm : mg "_law_at" = some (.ref f)) :
    Own P w S.K mg base CX0 1 "_law_at" ["_law_script", "_law_k"] (sp_law_at S) := by
  refine own0 F hm sc_law_at (fun _ _ _ _ _ _ us hl => match us, hl with | [_, _], _ => rfl) (len_law_at S) (fun A outer s H vs Q E hr h => ⟨t_law_at S E, ?_, pure_law_at S vs H Q E h⟩)
  exact (pss_cons (ps_if (pt_cmpR op_lt (pv 1) (pe_callB call_len (by rfl) B.len bo_len (pa_cons (pv 0) pa_nil)) (nomark _)) (pss_one (ps_ret (pe_ix ix_list (pv 0) (pv 1) (fun _ _ => rfl)))) pss_nil)
      (pss_one (ps_ret pe_int)))

abbrev s_law_whole : Stmt := top 25
theorem sc_law_whole : FnScope N_law_whole ["_law_thing"] (defScope s_law_whole) := ⟨rfl, rfl, rfl, by decide +kernel, rfl, by decide +kernel, by decide +kernel⟩
theorem own_law_whole {P : Program} {w : World} {mg : Str → Option Value} {base : Heap} {f c : Addr} {fd : FuncData} (S : Ev) (B : Bl mg) (Z : Nums mg) (F : FunC S.K "_law_whole" "_law_whole" s_law_whole f c fd) (hm : mg "_law_whole" = some (.ref f)) :
    Own P w S.K mg base CX0 1 "_law_whole" ["_law_thing"] (sp_law_whole S) := by
  refine own0 F hm sc_law_whole (fun _ _ _ _ _ _ us hl => match us, hl with | [_], _ => rfl) (len_law_whole S) (fun A outer s H vs Q E hr h => ⟨t_law_whole S E, ?_, pure_law_whole S vs H Q E h⟩)
  exact (pss_one (ps_ret (pe_and (pe_callB call_isi (by rfl) B.isinstance bo_isinstance (pa_cons (pv 0) (pa_cons (pe_tyInt B) pa_nil))) (pe_one (pe_not (pe_callB call_isi (by rfl) B.isinstance bo_isinstance (pa_cons (pv 0) (pa_cons (pe_tyBool B) pa_nil))))))))

abbrev s_law_notes : Stmt := top 26
theorem sc_law_notes : FnScope N_law_notes ["_law_numbers", "_law_time", "_law_pitch", "_law_scale"] (defScope s_law_notes) := ⟨rfl, rfl, rfl, by decide +kernel, rfl, by decide +kernel, by decide +kernel⟩
theorem own_law_notes {P : Program} {w : World} {mg : Str → Option Value} {base : Heap} {f c : Addr} {fd : FuncData} (S : Ev) (B : Bl mg) (Z : Nums mg) (F : FunC S.K "_law_notes" "_law_notes" s_law_notes f c fd) (hm : mg "_law_notes" = some (.ref f)) :
    Own P w S.K mg base CX0 1 "_law_notes" ["_law_numbers", "_law_time", "_law_pitch", "_law_scale"] (sp_law_notes S) := by
  refine own0 F hm sc_law_notes (fun _ _ _ _ _ _ us hl => match us, hl with | [_, _, _, _], _ => rfl) (len_law_notes S) (fun A outer s H vs Q E hr h => ⟨t_law_notes S E, ?_, pure_law_notes S vs H Q E h⟩)
  exact (pss_cons (ps_set (i := 4) (sc_law_notes).nd rfl (Or.inl rfl) (pe_lst pa_nil))
      (pss_cons (ps_for PassesOwn.never rfl (pi_list (pv 0)) (pg_name (i := 5) (sc_law_notes).nd rfl (Or.inl rfl)) (pss_cons (ps_set (i := 6) (sc_law_notes).nd rfl (Or.inl rfl) (pe_op op_fdivN (pv 5) pe_int))
      (pss_cons (ps_set (i := 1) (sc_law_notes).nd rfl (Or.inl rfl) (pe_op op_add (pv 1) (pe_op op_mul (pe_ix ix_list (pe_lst (pa_cons pe_int (pa_cons pe_int (pa_cons pe_int (pa_cons pe_int (pa_cons pe_int (pa_cons pe_int pa_nil))))))) (pe_op op_modN (pv 5) pe_int) (fun _ _ => rfl)) (pv 3))))
      (pss_cons (ps_set (i := 7) (sc_law_notes).nd rfl (Or.inl rfl) (pe_ix ix_list (pe_lst (pa_cons (pe_op op_sub (pe_op op_modN (pe_op op_fdivN (pv 6) pe_int) pe_int) pe_int) (pa_cons (pe_op op_sub (pe_op op_modN (pe_op op_fdivN (pv 6) pe_int) pe_int) pe_int) (pa_cons (pe_op op_sub (pe_op op_modN (pe_op op_fdivN (pv 6) pe_int) pe_int) pe_int) (pa_cons (pe_op op_sub (pe_op op_modN (pe_op op_fdivN (pv 6) pe_int) pe_int) pe_int) pa_nil))))) (pe_op op_modN (pv 6) pe_int) (fun _ _ => rfl)))
      (pss_cons (ps_set (i := 2) (sc_law_notes).nd rfl (Or.inl rfl) (pe_op op_sub (pe_op op_modN (pe_op op_add (pe_op op_add (pv 2) (pv 7)) pe_int) pe_int) pe_int))
      (pss_cons (ps_expr (pe_bm PySem.F.plainAttrs_list PySem.F.slot_list_append PySem.F.type_list_append mt_append (pv 4) (pa_cons (pe_tup (pa_cons (pv 1) (pa_cons (pe_op op_mul (pe_op op_add pe_int (pe_op op_modN (pe_op op_fdivN (pv 5) pe_int) pe_int)) (pv 3)) (pa_cons (pv 2) pa_nil)))) pa_nil)))
      (pss_one (ps_set (i := 1) (sc_law_notes).nd rfl (Or.inl rfl) (pe_op op_add (pv 1) (pe_op op_mul (pe_op op_add pe_int (pe_op op_modN (pe_op op_fdivN (pv 5) pe_int) pe_int)) (pv 3)))))))))))
      (pss_one (ps_ret (pv 4)))))

abbrev s_law_piece : Stmt := top 27
theorem sc_law_piece : FnScope N_law_piece ["_law_script"] (defScope s_law_piece) := ⟨rfl, rfl, rfl, by decide +kernel, rfl, by decide +kernel, by decide +kernel⟩
theorem own_law_piece {P : Program} {w : World} {mg : Str → Option Value} {base : Heap} {f c : Addr} {fd : FuncData} (S : Ev) (B : Bl mg) (Z : Nums mg) (F : FunC S.K "_law_piece" "_law_piece" s_law_piece f c fd) (hm : mg "_law_piece" = some (.ref f))
    (G_law_at : Own P w S.K mg base CX0 1 "_law_at" ["_law_script", "_law_k"] (sp_law_at S))
    (G_law_notes : Own P w S.K mg base CX0 1 "_law_notes" ["_law_numbers", "_law_time", "_law_pitch", "_law_scale"] (sp_law_notes S)) :
    Own P w S.K mg base CX0 2 "_law_piece" ["_law_script"] (sp_law_piece S) := by
  refine own0 F hm sc_law_piece (fun _ _ _ _ _ _ us hl => match us, hl with | [_], _ => rfl) (len_law_piece S) (fun A outer s H vs Q E hr h => ⟨t_law_piece S E, ?_, pure_law_piece S vs H Q E h⟩)
  exact (pss_cons (ps_set (i := 1) (sc_law_piece).nd rfl (Or.inl rfl) (pe_op op_add pe_int (pe_op op_modN (pe_own0 G_law_at (hr.mono (by decide)) (pa_cons (pv 0) (pa_cons pe_int pa_nil))) pe_int)))
      (pss_cons (ps_if (pt_cmpR op_eq (pe_op op_modN (pe_op op_fdivN (pe_own0 G_law_at (hr.mono (by decide)) (pa_cons (pv 0) (pa_cons pe_int pa_nil))) pe_int) pe_int) pe_int (nomark _)) (pss_one (ps_set (i := 1) (sc_law_piece).nd rfl (Or.inl rfl) (pe_op op_add pe_int (pe_op op_modN (pe_op op_fdivN (pe_own0 G_law_at (hr.mono (by decide)) (pa_cons (pv 0) (pa_cons pe_int pa_nil))) pe_int) pe_int)))) pss_nil)
      (pss_cons (ps_set (i := 2) (sc_law_piece).nd rfl (Or.inl rfl) pe_int)
      (pss_cons (ps_if (pt_cmpR op_eq (pe_op op_modN (pe_own0 G_law_at (hr.mono (by decide)) (pa_cons (pv 0) (pa_cons pe_int pa_nil))) pe_int) pe_int (nomark _)) (pss_one (ps_set (i := 2) (sc_law_piece).nd rfl (Or.inl rfl) (pe_op op_add pe_int (pe_op op_modN (pe_op op_fdivN (pe_own0 G_law_at (hr.mono (by decide)) (pa_cons (pv 0) (pa_cons pe_int pa_nil))) pe_int) pe_int)))) pss_nil)
      (pss_cons (ps_set (i := 3) (sc_law_piece).nd rfl (Or.inl rfl) (pe_lst pa_nil))
      (pss_cons (ps_for PassesOwn.never rfl (pi_range1 rfl B.range (pa_cons (pv 1) pa_nil)) (pg_name (i := 4) (sc_law_piece).nd rfl (Or.inl rfl)) (pss_cons (ps_setLc (i := 5) (own := [("_law_k", 8)]) rfl (sc_law_piece).nd rfl rfl (sw_true rfl rfl rfl (by decide +kernel)) (pi_range3 rfl B.range (pa_cons (pe_op op_add pe_int (pv 4)) (pa_cons (pe_callB (call_min2 rfl) (by rfl) B.min bo_min (pa_cons (pe_callB call_len (by rfl) B.len bo_len (pa_cons (pv 0) pa_nil)) (pa_cons pe_int pa_nil))) (pa_cons (pv 1) pa_nil)))) (blkOk_by (own := [("_law_k", 8)]) (N := N_law_piece) (sc := (defScope (s_law_piece))) (by decide +kernel)) (fun _ _ _ _ _ => (pg_name (i := 8) (sc_law_piece).nd rfl (Or.inl rfl))) (fun _ _ _ _ _ => pts_nil) (fun _ _ _ _ _ => (pe_ix ix_list (pv 0) (pv 8) (fun _ _ => rfl))))
      (pss_cons (ps_set (i := 6) (sc_law_piece).nd rfl (Or.inl rfl) (pe_op op_sub (pe_own0 G_law_at (hr.mono (by decide)) (pa_cons (pv 0) (pa_cons pe_int pa_nil))) (pe_op op_mul pe_int (pv 4))))
      (pss_cons (ps_set (i := 7) (sc_law_piece).nd rfl (Or.inl rfl) (pe_op op_mul (pe_op op_modN (pe_op op_add (pe_op op_fdivN (pe_own0 G_law_at (hr.mono (by decide)) (pa_cons (pv 0) (pa_cons pe_int pa_nil))) pe_int) (pe_op op_mul (pv 4) (pe_op op_fdivN (pe_own0 G_law_at (hr.mono (by decide)) (pa_cons (pv 0) (pa_cons pe_int pa_nil))) pe_int))) pe_int) (pv 2)))
      (pss_one (ps_expr (pe_bm PySem.F.plainAttrs_list PySem.F.slot_list_append PySem.F.type_list_append mt_append (pv 3) (pa_cons (pe_own0 G_law_notes (hr.mono (by decide)) (pa_cons (pv 5) (pa_cons (pv 7) (pa_cons (pe_op op_sub (pe_op op_modN (pv 6) pe_int) pe_int) (pa_cons (pv 2) pa_nil))))) pa_nil))))))))
      (pss_one (ps_ret (pv 3)))))))))

abbrev s_law_heard : Stmt := top 29
theorem sc_law_heard : FnScope N_law_heard ["_law_voice", "_law_time"] (defScope s_law_heard) := ⟨rfl, rfl, rfl, by decide +kernel, rfl, by decide +kernel, by decide +kernel⟩
theorem own_law_heard {P : Program} {w : World} {mg : Str → Option Value} {base : Heap} {f c : Addr} {fd : FuncData} (S : Ev) (B : Bl mg) (Z : Nums mg) (F : FunC S.K "_law_heard" "_law_heard" s_law_heard f c fd) (hm : mg "_law_heard" = some (.ref f)) :
    Own P w S.K mg base CX0 1 "_law_heard" ["_law_voice", "_law_time"] (sp_law_heard S) := by
  refine own0 F hm sc_law_heard (fun _ _ _ _ _ _ us hl => match us, hl with | [_, _], _ => rfl) (len_law_heard S) (fun A outer s H vs Q E hr h => ⟨t_law_heard S E, ?_, pure_law_heard S vs H Q E h⟩)
  exact (pss_cons (ps_setLc (i := 2) (own := [("_law_note", 3)]) rfl (sc_law_heard).nd rfl rfl (sw_true rfl rfl rfl (by decide +kernel)) (pi_list (pv 0)) (blkOk_by (own := [("_law_note", 3)]) (N := N_law_heard) (sc := (defScope (s_law_heard))) (by decide +kernel)) (fun _ _ _ _ _ => (pg_name (i := 3) (sc_law_heard).nd rfl (Or.inl rfl))) (fun _ _ _ _ _ => (pts_one (PW.pt (pw_and (pt_cmpR op_le (pe_ix ix_tup (pv 3) pe_int (fun _ _ => rfl)) (pv 1) (nomark _)) (pw_and1 (pt_cmpR op_lt (pv 1) (pe_op op_add (pe_ix ix_tup (pv 3) pe_int (fun _ _ => rfl)) (pe_ix ix_tup (pv 3) pe_int (fun _ _ => rfl))) (nomark _))))))) (fun _ _ _ _ _ => (pe_ix ix_tup (pv 3) pe_int (fun _ _ => rfl))))
      (pss_cons (ps_if (pt_cmpR (op_eqD hr.units) (pv 2) (pe_lst pa_nil) (nomark _)) (pss_one (ps_ret pe_non)) pss_nil)
      (pss_one (ps_ret (pe_ix ix_list (pv 2) pe_int (fun _ _ => rfl))))))

abbrev s_law_refused : Stmt := top 28
theorem sc_law_refused : FnScope N_law_refused ["_law_piece_here", "_law_time"] (defScope s_law_refused) := ⟨rfl, rfl, rfl, by decide +kernel, rfl, by decide +kernel, by decide +kernel⟩
theorem own_law_refused {P : Program} {w : World} {mg : Str → Option Value} {base : Heap} {f c : Addr} {fd : FuncData} (S : Ev) (B : Bl mg) (Z : Nums mg) (F : FunC S.K "_law_refused" "_law_refused" s_law_refused f c fd) (hm : mg "_law_refused" = some (.ref f))
    (G_sounding : Own P w S.K mg base (L2.CX P w) 8 "sounding" ["piece", "time"] (sp_sounding S))
    (g_BadEntry : mg "BadEntry" = some (.ref S.cEntry))
    (g_BadNumber : mg "BadNumber" = some (.ref S.cNumber))
    (g_BadPiece : mg "BadPiece" = some (.ref S.cPiece))
    (g_BadTheme : mg "BadTheme" = some (.ref S.cTheme))
    (g_Clash : mg "Clash" = some (.ref S.cClash))
    (g_NoText : mg "NoText" = some (.ref S.cText))
    (g_OutOfRange : mg "OutOfRange" = some (.ref S.cRange))
    (g_Uneven : mg "Uneven" = some (.ref S.cUneven))
    (g_WeaveError : mg "WeaveError" = some (.ref S.cWeave)) :
    Own P w S.K mg base CX0 9 "_law_refused" ["_law_piece_here", "_law_time"] (sp_law_refused S) := by
  refine own0 F hm sc_law_refused (fun _ _ _ _ _ _ us hl => match us, hl with | [_, _], _ => rfl) (len_law_refused S) (fun A outer s H vs Q E hr h => ⟨t_law_refused S E, ?_, pure_law_refused S vs H Q E h⟩)
  exact (pss_cons (ps_try_as (i := 2) (tb := fun W => (tDrop (tCallS (sp_sounding S) (WE W) (tCons (tVar 0) (tCons (tVar 1) tNil))))) (ts := fun a cls d => (tSeq (tIfS (tOr (tB (tCB (rIsX S.K a cls d) (tCons (tVar 2) (tCons (tC (.ref S.cEntry)) tNil)))) (tOr (tB (tCB (rIsX S.K a cls d) (tCons (tVar 2) (tCons (tC (.ref S.cPiece)) tNil)))) (tOr (tB (tCB (rIsX S.K a cls d) (tCons (tVar 2) (tCons (tC (.ref S.cTheme)) tNil)))) (tB (tCB (rIsX S.K a cls d) (tCons (tVar 2) (tCons (tC (.ref S.cClash)) tNil))))))) (tRet (tC (.bl false))) tNext)
      (tSeq (tIfS (tOr (tB (tCB (rIsX S.K a cls d) (tCons (tVar 2) (tCons (tC (.ref S.cText)) tNil)))) (tOr (tB (tCB (rIsX S.K a cls d) (tCons (tVar 2) (tCons (tC (.ref S.cRange)) tNil)))) (tB (tCB (rIsX S.K a cls d) (tCons (tVar 2) (tCons (tC (.ref S.cUneven)) tNil)))))) (tRet (tC (.bl false))) tNext)
      (tRet (tAndV (tCB (rIsX S.K a cls d) (tCons (tVar 2) (tCons (tC (.ref S.cNumber)) tNil))) (tCB (rIsX S.K a cls d) (tCons (tVar 2) (tCons (tC (.ty "ValueError")) tNil)))))))) rfl rfl (sc_law_refused).nd rfl rfl ⟨rfl, by decide, .inl g_WeaveError⟩ takesNo (fun W pn xe tk _ => (pss_one (ps_expr (pe_ownS G_sounding (hr.mono (by decide)) tk (pa_cons (pv 0) (pa_cons (pv 1) pa_nil)))))) (fun a oe cls d pn hz hf => (pss_cons (ps_if (PW.pt (pw_or (pt_val (pe_callB (call_isX hz hf) (by rfl) B.isinstance bo_isinstance (pa_cons (pv 2) (pa_cons (pe_glob rfl g_BadEntry rfl) pa_nil)))) (pw_or (pt_val (pe_callB (call_isX hz hf) (by rfl) B.isinstance bo_isinstance (pa_cons (pv 2) (pa_cons (pe_glob rfl g_BadPiece rfl) pa_nil)))) (pw_or (pt_val (pe_callB (call_isX hz hf) (by rfl) B.isinstance bo_isinstance (pa_cons (pv 2) (pa_cons (pe_glob rfl g_BadTheme rfl) pa_nil)))) (pw_or1 (pt_val (pe_callB (call_isX hz hf) (by rfl) B.isinstance bo_isinstance (pa_cons (pv 2) (pa_cons (pe_glob rfl g_Clash rfl) pa_nil))))))))) (pss_one (ps_ret pe_bl)) pss_nil)
      (pss_cons (ps_if (PW.pt (pw_or (pt_val (pe_callB (call_isX hz hf) (by rfl) B.isinstance bo_isinstance (pa_cons (pv 2) (pa_cons (pe_glob rfl g_NoText rfl) pa_nil)))) (pw_or (pt_val (pe_callB (call_isX hz hf) (by rfl) B.isinstance bo_isinstance (pa_cons (pv 2) (pa_cons (pe_glob rfl g_OutOfRange rfl) pa_nil)))) (pw_or1 (pt_val (pe_callB (call_isX hz hf) (by rfl) B.isinstance bo_isinstance (pa_cons (pv 2) (pa_cons (pe_glob rfl g_Uneven rfl) pa_nil)))))))) (pss_one (ps_ret pe_bl)) pss_nil)
      (pss_one (ps_ret (pe_and (pe_callB (call_isX hz hf) (by rfl) B.isinstance bo_isinstance (pa_cons (pv 2) (pa_cons (pe_glob rfl g_BadNumber rfl) pa_nil))) (pe_one (pe_callB (call_isX hz hf) (by rfl) B.isinstance bo_isinstance (pa_cons (pv 2) (pa_cons (pe_tyVE B) pa_nil)))))))))))
      (pss_one (ps_ret pe_bl)))

abbrev s_law : Stmt := top 30
theorem sc_law : FnScope N_law ["_law_script"] (defScope s_law) := ⟨rfl, rfl, rfl, by decide +kernel, rfl, by decide +kernel, by decide +kernel⟩
theorem ok_law {P : Program} {w : World} {mg : Str → Option Value} {base : Heap} {f c : Addr} {fd : FuncData} (S : Ev) (B : Bl mg) (Z : Nums mg) (F : FunC S.K "law" "law" s_law f c fd)
    (G_law_at : Own P w S.K mg base CX0 1 "_law_at" ["_law_script", "_law_k"] (sp_law_at S))
    (G_law_heard : Own P w S.K mg base CX0 1 "_law_heard" ["_law_voice", "_law_time"] (sp_law_heard S))
    (G_law_piece : Own P w S.K mg base CX0 2 "_law_piece" ["_law_script"] (sp_law_piece S))
    (G_law_refused : Own P w S.K mg base CX0 9 "_law_refused" ["_law_piece_here", "_law_time"] (sp_law_refused S))
    (G_law_whole : Own P w S.K mg base CX0 1 "_law_whole" ["_law_thing"] (sp_law_whole S))
    (G_sounding : Own P w S.K mg base (L2.CX P w) 8 "sounding" ["piece", "time"] (sp_sounding S)) :
    FnOk P w S.K mg base CX0 10 f fd ["_law_script"] (sp_law S) := by
  refine ok0 F sc_law (fun _ _ _ _ _ _ us hl => match us, hl with | [_], _ => rfl) (len_law S) (fun A outer s H vs Q E hr h => ⟨t_law S E, ?_, pure_law S vs H Q E h⟩)
  exact (pss_cons (ps_set (i := 1) (sc_law).nd rfl (Or.inl rfl) (pe_own0 G_law_piece (hr.mono (by decide)) (pa_cons (pv 0) pa_nil)))
      (pss_cons (ps_setLc (i := 3) (own := [("_law_voice", 2)]) rfl (sc_law).nd rfl rfl (sw_true rfl rfl rfl (by decide +kernel)) (pi_list (pv 1)) (blkOk_by (own := [("_law_voice", 2)]) (N := N_law) (sc := (defScope (s_law))) (by decide +kernel)) (fun _ _ _ _ _ => (pg_name (i := 2) (sc_law).nd rfl (Or.inl rfl))) (fun _ _ _ _ _ => pts_nil) (fun _ _ _ _ _ => (pe_callTy call_list_of (by rfl) B.list bo_list (pa_cons (pv 2) pa_nil))))
      (pss_cons (ps_set (i := 4) (sc_law).nd rfl (Or.inl rfl) (pe_lst (pa_cons (pe_un un_neg pe_int) (pa_cons pe_int pa_nil))))
      (pss_cons (ps_for PassesOwn.never rfl (pi_list (pv 1)) (pg_name (i := 2) (sc_law).nd rfl (Or.inl rfl)) (pss_one (ps_for PassesOwn.never rfl (pi_list (pv 2)) (pg_name (i := 5) (sc_law).nd rfl (Or.inl rfl)) (pss_one (ps_set (i := 4) (sc_law).nd rfl (Or.inl rfl) (pe_op op_cat (pv 4) (pe_lst (pa_cons (pe_ix ix_tup (pv 5) pe_int (fun _ _ => rfl)) (pa_cons (pe_op op_sub (pe_ix ix_tup (pv 5) pe_int (fun _ _ => rfl)) pe_int) (pa_cons (pe_op op_add (pe_ix ix_tup (pv 5) pe_int (fun _ _ => rfl)) (pe_ix ix_tup (pv 5) pe_int (fun _ _ => rfl))) (pa_cons (pe_op op_sub (pe_op op_add (pe_ix ix_tup (pv 5) pe_int (fun _ _ => rfl)) (pe_ix ix_tup (pv 5) pe_int (fun _ _ => rfl))) pe_int) pa_nil)))))))))))
      (pss_cons (ps_for PassesOwn.never rfl (pi_range1 rfl B.range (pa_cons pe_int pa_nil)) (pg_name (i := 6) (sc_law).nd rfl (Or.inl rfl)) (pss_cons (ps_set (i := 7) (sc_law).nd rfl (Or.inl rfl) (pe_op op_add (pe_op op_add (pe_op op_fdivN (pe_own0 G_law_at (hr.mono (by decide)) (pa_cons (pv 0) (pa_cons pe_int pa_nil))) pe_int) (pe_op op_mul (pv 6) (pe_op op_fdivN (pe_own0 G_law_at (hr.mono (by decide)) (pa_cons (pv 0) (pa_cons pe_int pa_nil))) pe_int))) (pe_op op_mul (pv 6) (pv 6))))
      (pss_cons (ps_set (i := 8) (sc_law).nd rfl (Or.inl rfl) (pe_ix ix_list (pe_lst (pa_cons (pe_ix ix_list (pv 4) (pe_op op_modN (pe_op op_fdivN (pv 7) pe_int) (pe_callB call_len (by rfl) B.len bo_len (pa_cons (pv 4) pa_nil))) (fun _ _ => rfl)) (pa_cons (pe_op op_sub (pe_op op_modN (pe_op op_fdivN (pv 7) pe_int) (pe_op op_add (pe_callB (cr_max rfl) (by rfl) B.max bo_max (pa_cons (pv 4) pa_nil)) pe_int)) pe_int) pa_nil))) (pe_op op_modN (pv 7) pe_int) (fun _ _ => rfl)))
      (pss_cons (ps_set (i := 9) (sc_law).nd rfl (Or.inl rfl) (pe_own G_sounding (hr.mono (by decide)) passL (pa_cons (pv 3) (pa_cons (pv 8) pa_nil))))
      (pss_cons (ps_if (PW.pt (pw_or (pt_not (pt_val (pe_callB call_isi (by rfl) B.isinstance bo_isinstance (pa_cons (pv 9) (pa_cons (pe_tyList B) pa_nil))))) (pw_or1 (pt_cmpR op_ne (pe_callB call_len (by rfl) B.len bo_len (pa_cons (pv 9) pa_nil)) (pe_callB call_len (by rfl) B.len bo_len (pa_cons (pv 1) pa_nil)) (nomark _))))) (pss_one (ps_ret pe_bl)) pss_nil)
      (pss_cons (ps_for PassesOwn.never rfl (pi_zip (by rfl) B.zip (pa_cons (pv 9) (pa_cons (pv 1) pa_nil))) (pg_tup rfl (pgs_cons (pg_name (i := 10) (sc_law).nd rfl (Or.inl rfl)) (pgs_cons (pg_name (i := 2) (sc_law).nd rfl (Or.inl rfl)) pgs_nil))) (pss_cons (ps_set (i := 11) (sc_law).nd rfl (Or.inl rfl) (pe_own0 G_law_heard (hr.mono (by decide)) (pa_cons (pv 2) (pa_cons (pv 8) pa_nil))))
      (pss_one (ps_if (PW.pt (pw_or (PW.pt (pw_and (pt_cmpR op_isN (pv 11) pe_non (nomark _)) (pw_and1 (pt_cmpR op_notN (pv 10) pe_non (nomark _))))) (pw_or1 (PW.pt (pw_and (pt_cmpR op_notN (pv 11) pe_non (nomark _)) (pw_and1 (PW.pt (pw_or (pt_not (pt_val (pe_own0 G_law_whole (hr.mono (by decide)) (pa_cons (pv 10) pa_nil)))) (pw_or1 (pt_cmpR op_ne (pv 10) (pv 11) (nomark _))))))))))) (pss_one (ps_ret pe_bl)) pss_nil))))
      (pss_one (ps_expr (pe_bm PySem.F.plainAttrs_list PySem.F.slot_list_append PySem.F.type_list_append mt_append (pv 9) (pa_cons pe_int pa_nil))))))))))
      (pss_cons (ps_set (i := 12) (sc_law).nd rfl (Or.inl rfl) (pe_ix ix_list (pe_lst (pa_cons pe_bl (pa_cons pe_non (pa_cons pe_str (pa_cons (pe_tup (pa_cons pe_int pa_nil)) (pa_cons pe_bl (pa_cons (pe_lst (pa_cons pe_int pa_nil)) (pa_cons pe_dnewK pa_nil)))))))) (pe_op op_modN (pe_op op_add (pe_op op_mul (pe_own0 G_law_at (hr.mono (by decide)) (pa_cons (pv 0) (pa_cons pe_int pa_nil))) pe_int) (pe_own0 G_law_at (hr.mono (by decide)) (pa_cons (pv 0) (pa_cons pe_int pa_nil)))) pe_int) (fun _ _ => rfl)))
      (pss_one (ps_ret (pe_and (pe_own0 G_law_refused (hr.mono (by decide)) (pa_cons (pv 3) (pa_cons (pv 12) pa_nil))) (pe_one (pe_cmpR (op_eqD hr.units) (pv 3) (pv 1) (nomark _))))))))))))

/-- all facts of the row together: the law keeps its promise -/
theorem all_facts {l : PySem.W.OpenLaw} {w : World} {K : PySem.W.Frag} {mg : Str → Option Value} {h : Heap} {fa : Addr} {Pn Pp cWeave cPiece cNumber cTheme cEntry cRange cUneven cClash cText : Addr} (KX : K.In h) (G : h.Ns mainGlobals mg) (hfa : mg "law" = some (.ref fa))
    (T : ∀ y, y ∈ (["is_note", "is_piece"] : List Str) → ∀ c P, PySem.W.tabIn K y = some (c, P) → PySem.W.CodeHd h c P ∧ h.get? P = some { cls := .none, data := .fields #[] })
    (x_BadEntry : PySem.W.nsIn K mainGlobals "BadEntry" = some (some (.ref cEntry)))
    (x_BadNumber : PySem.W.nsIn K mainGlobals "BadNumber" = some (some (.ref cNumber)))
    (x_BadPiece : PySem.W.nsIn K mainGlobals "BadPiece" = some (some (.ref cPiece)))
    (x_BadTheme : PySem.W.nsIn K mainGlobals "BadTheme" = some (some (.ref cTheme)))
    (x_Clash : PySem.W.nsIn K mainGlobals "Clash" = some (some (.ref cClash)))
    (x_NoText : PySem.W.nsIn K mainGlobals "NoText" = some (some (.ref cText)))
    (x_OutOfRange : PySem.W.nsIn K mainGlobals "OutOfRange" = some (some (.ref cRange)))
    (x_Uneven : PySem.W.nsIn K mainGlobals "Uneven" = some (some (.ref cUneven)))
    (x_WeaveError : PySem.W.nsIn K mainGlobals "WeaveError" = some (some (.ref cWeave)))
    (xx_BadNumber : PySem.W.excIn K cNumber [.type "ValueError", .type "Exception", .type "BaseException", .type "object"] "ValueError.__new__" = true)
    (xk_BadNumber : PySem.W.keepIn K (.ref cNumber) = true)
    (xb_BadNumber : PySem.W.subIn K (.ref cNumber) (.type "BaseException") = some true)
    (xt_BadNumber : PySem.W.typeIn K (.ref cNumber) = some (.type "type"))
    (xx_BadPiece : PySem.W.excIn K cPiece [.type "ValueError", .type "Exception", .type "BaseException", .type "object"] "ValueError.__new__" = true)
    (xk_BadPiece : PySem.W.keepIn K (.ref cPiece) = true)
    (xb_BadPiece : PySem.W.subIn K (.ref cPiece) (.type "BaseException") = some true)
    (xt_BadPiece : PySem.W.typeIn K (.ref cPiece) = some (.type "type"))
    (yg_BadNumber : PySem.W.findIn K (.ref cNumber) "__getattribute__" = some (some (.builtin "BaseException.__getattribute__")))
    (yk_BadNumber : PySem.W.findIn K (.ref cNumber) "__getattr__" = some none)
    (yd_BadNumber : PySem.W.hasDictIn K cNumber = true)
    (ya_BadNumber : PySem.W.findIn K (.ref cNumber) "__class__" = some (some (.builtin "object.__class__")))
    (ym_BadNumber : PySem.W.mroIn K cNumber (.type "object") = some true)
    (yv_BadNumber : PySem.W.subIn K (.ref cNumber) (.type "ValueError") = some true)
    (ys_BadNumber_BadEntry : PySem.W.subIn K (.ref cNumber) (.ref cEntry) = some false)
    (yq_BadNumber_BadEntry : cNumber ≠ cEntry)
    (ys_BadNumber_BadPiece : PySem.W.subIn K (.ref cNumber) (.ref cPiece) = some false)
    (yq_BadNumber_BadPiece : cNumber ≠ cPiece)
    (ys_BadNumber_BadTheme : PySem.W.subIn K (.ref cNumber) (.ref cTheme) = some false)
    (yq_BadNumber_BadTheme : cNumber ≠ cTheme)
    (ys_BadNumber_Clash : PySem.W.subIn K (.ref cNumber) (.ref cClash) = some false)
    (yq_BadNumber_Clash : cNumber ≠ cClash)
    (ys_BadNumber_NoText : PySem.W.subIn K (.ref cNumber) (.ref cText) = some false)
    (yq_BadNumber_NoText : cNumber ≠ cText)
    (ys_BadNumber_OutOfRange : PySem.W.subIn K (.ref cNumber) (.ref cRange) = some false)
    (yq_BadNumber_OutOfRange : cNumber ≠ cRange)
    (ys_BadNumber_Uneven : PySem.W.subIn K (.ref cNumber) (.ref cUneven) = some false)
    (yq_BadNumber_Uneven : cNumber ≠ cUneven)
    (ye_BadNumber : PySem.W.subIn K (.ref cNumber) (.ref cWeave) = some true)
    (zd_BadEntry : PySem.W.hasDictIn K cEntry = true)
    (zt_BadEntry : PySem.W.typeIn K (.ref cEntry) = some (.type "type"))
    (zd_BadPiece : PySem.W.hasDictIn K cPiece = true)
    (zt_BadPiece : PySem.W.typeIn K (.ref cPiece) = some (.type "type"))
    (zd_BadTheme : PySem.W.hasDictIn K cTheme = true)
    (zt_BadTheme : PySem.W.typeIn K (.ref cTheme) = some (.type "type"))
    (zd_Clash : PySem.W.hasDictIn K cClash = true)
    (zt_Clash : PySem.W.typeIn K (.ref cClash) = some (.type "type"))
    (zd_NoText : PySem.W.hasDictIn K cText = true)
    (zt_NoText : PySem.W.typeIn K (.ref cText) = some (.type "type"))
    (zd_OutOfRange : PySem.W.hasDictIn K cRange = true)
    (zt_OutOfRange : PySem.W.typeIn K (.ref cRange) = some (.type "type"))
    (zd_Uneven : PySem.W.hasDictIn K cUneven = true)
    (zt_Uneven : PySem.W.typeIn K (.ref cUneven) = some (.type "type"))
    (zd_WeaveError : PySem.W.hasDictIn K cWeave = true)
    (zt_WeaveError : PySem.W.typeIn K (.ref cWeave) = some (.type "type"))
    (zb_WeaveError : PySem.W.subIn K (.ref cWeave) (.type "BaseException") = some true)
    (yn : PySem.W.specialIn K (.builtin "object.__class__") "__get__" = some (some (.builtin "getset_descriptor.__get__")))
    (yt : PySem.W.takesIn K (.builtin "object.__class__") = some true)
    (b_isinstance : PySem.W.nsIn K mainGlobals "isinstance" = some none)
    (b_len : PySem.W.nsIn K mainGlobals "len" = some none)
    (b_max : PySem.W.nsIn K mainGlobals "max" = some none)
    (b_min : PySem.W.nsIn K mainGlobals "min" = some none)
    (b_sorted : PySem.W.nsIn K mainGlobals "sorted" = some none)
    (b_all : PySem.W.nsIn K mainGlobals "all" = some none)
    (b_any : PySem.W.nsIn K mainGlobals "any" = some none)
    (b_int : PySem.W.nsIn K mainGlobals "int" = some none)
    (b_bool : PySem.W.nsIn K mainGlobals "bool" = some none)
    (b_str : PySem.W.nsIn K mainGlobals "str" = some none)
    (b_list : PySem.W.nsIn K mainGlobals "list" = some none)
    (b_tuple : PySem.W.nsIn K mainGlobals "tuple" = some none)
    (b_range : PySem.W.nsIn K mainGlobals "range" = some none)
    (b_zip : PySem.W.nsIn K mainGlobals "zip" = some none)
    (b_enumerate : PySem.W.nsIn K mainGlobals "enumerate" = some none)
    (b_ValueError : PySem.W.nsIn K mainGlobals "ValueError" = some none)
    {t_GREATEST_END : Tok} (n_GREATEST_END : PySem.W.nsIn K mainGlobals "GREATEST_END" = some (some (.int 100000 t_GREATEST_END)))
    {t_PITCH_REACH : Tok} (n_PITCH_REACH : PySem.W.nsIn K mainGlobals "PITCH_REACH" = some (some (.int 200 t_PITCH_REACH)))
    {t_MOST_VOICES : Tok} (n_MOST_VOICES : PySem.W.nsIn K mainGlobals "MOST_VOICES" = some (some (.int 6 t_MOST_VOICES)))
    {f_is_whole : Addr} (m_is_whole : PySem.W.nsIn K mainGlobals "is_whole" = some (some (.ref f_is_whole)))
    {oc_is_whole : Value} {od_is_whole an_is_whole : Option Addr} {osl_is_whole : Array (Option Value)} {kV_is_whole doc_is_whole pm_is_whole ct_is_whole : Value} {c_is_whole : Addr} (l_is_whole : K.lookup f_is_whole = some ⟨oc_is_whole, od_is_whole, .func (PySem.W.fnOf "is_whole" "is_whole" (defArgs s_is_whole) (defBody s_is_whole) (defScope s_is_whole) .none kV_is_whole doc_is_whole pm_is_whole an_is_whole (.ref c_is_whole) ct_is_whole), osl_is_whole⟩)
    (c_is_whole_ : PySem.W.codeIn K (.ref c_is_whole) "is_whole" = true)
    (k_is_whole : PySem.W.keepIn K (.ref f_is_whole) = true)
    {f_require_whole : Addr} (m_require_whole : PySem.W.nsIn K mainGlobals "require_whole" = some (some (.ref f_require_whole)))
    {oc_require_whole : Value} {od_require_whole an_require_whole : Option Addr} {osl_require_whole : Array (Option Value)} {kV_require_whole doc_require_whole pm_require_whole ct_require_whole : Value} {c_require_whole : Addr} (l_require_whole : K.lookup f_require_whole = some ⟨oc_require_whole, od_require_whole, .func (PySem.W.fnOf "require_whole" "require_whole" (defArgs s_require_whole) (defBody s_require_whole) (defScope s_require_whole) .none kV_require_whole doc_require_whole pm_require_whole an_require_whole (.ref c_require_whole) ct_require_whole), osl_require_whole⟩)
    (c_require_whole_ : PySem.W.codeIn K (.ref c_require_whole) "require_whole" = true)
    (k_require_whole : PySem.W.keepIn K (.ref f_require_whole) = true)
    {f_end_of : Addr} (m_end_of : PySem.W.nsIn K mainGlobals "end_of" = some (some (.ref f_end_of)))
    {oc_end_of : Value} {od_end_of an_end_of : Option Addr} {osl_end_of : Array (Option Value)} {kV_end_of doc_end_of pm_end_of ct_end_of : Value} {c_end_of : Addr} (l_end_of : K.lookup f_end_of = some ⟨oc_end_of, od_end_of, .func (PySem.W.fnOf "end_of" "end_of" (defArgs s_end_of) (defBody s_end_of) (defScope s_end_of) .none kV_end_of doc_end_of pm_end_of an_end_of (.ref c_end_of) ct_end_of), osl_end_of⟩)
    (c_end_of_ : PySem.W.codeIn K (.ref c_end_of) "end_of" = true)
    (k_end_of : PySem.W.keepIn K (.ref f_end_of) = true)
    {f_is_note : Addr} (m_is_note : PySem.W.nsIn K mainGlobals "is_note" = some (some (.ref f_is_note)))
    {oc_is_note : Value} {od_is_note an_is_note : Option Addr} {osl_is_note : Array (Option Value)} {kV_is_note doc_is_note pm_is_note ct_is_note : Value} {c_is_note : Addr} (l_is_note : K.lookup f_is_note = some ⟨oc_is_note, od_is_note, .func (PySem.W.fnOf "is_note" "is_note" (defArgs s_is_note) (defBody s_is_note) (defScope s_is_note) .none kV_is_note doc_is_note pm_is_note an_is_note (.ref c_is_note) ct_is_note), osl_is_note⟩)
    (c_is_note_ : PySem.W.codeIn K (.ref c_is_note) "is_note" = true)
    (k_is_note : PySem.W.keepIn K (.ref f_is_note) = true)
    {f_is_voice : Addr} (m_is_voice : PySem.W.nsIn K mainGlobals "is_voice" = some (some (.ref f_is_voice)))
    {oc_is_voice : Value} {od_is_voice an_is_voice : Option Addr} {osl_is_voice : Array (Option Value)} {kV_is_voice doc_is_voice pm_is_voice ct_is_voice : Value} {c_is_voice : Addr} (l_is_voice : K.lookup f_is_voice = some ⟨oc_is_voice, od_is_voice, .func (PySem.W.fnOf "is_voice" "is_voice" (defArgs s_is_voice) (defBody s_is_voice) (defScope s_is_voice) .none kV_is_voice doc_is_voice pm_is_voice an_is_voice (.ref c_is_voice) ct_is_voice), osl_is_voice⟩)
    (c_is_voice_ : PySem.W.codeIn K (.ref c_is_voice) "is_voice" = true)
    (k_is_voice : PySem.W.keepIn K (.ref f_is_voice) = true)
    {f_is_piece : Addr} (m_is_piece : PySem.W.nsIn K mainGlobals "is_piece" = some (some (.ref f_is_piece)))
    {oc_is_piece : Value} {od_is_piece an_is_piece : Option Addr} {osl_is_piece : Array (Option Value)} {kV_is_piece doc_is_piece pm_is_piece ct_is_piece : Value} {c_is_piece : Addr} (l_is_piece : K.lookup f_is_piece = some ⟨oc_is_piece, od_is_piece, .func (PySem.W.fnOf "is_piece" "is_piece" (defArgs s_is_piece) (defBody s_is_piece) (defScope s_is_piece) .none kV_is_piece doc_is_piece pm_is_piece an_is_piece (.ref c_is_piece) ct_is_piece), osl_is_piece⟩)
    (c_is_piece_ : PySem.W.codeIn K (.ref c_is_piece) "is_piece" = true)
    (k_is_piece : PySem.W.keepIn K (.ref f_is_piece) = true)
    {f_good : Addr} (m_good : PySem.W.nsIn K mainGlobals "good" = some (some (.ref f_good)))
    {oc_good : Value} {od_good an_good : Option Addr} {osl_good : Array (Option Value)} {kV_good doc_good pm_good ct_good : Value} {c_good : Addr} (l_good : K.lookup f_good = some ⟨oc_good, od_good, .func (PySem.W.fnOf "good" "good" (defArgs s_good) (defBody s_good) (defScope s_good) .none kV_good doc_good pm_good an_good (.ref c_good) ct_good), osl_good⟩)
    (c_good_ : PySem.W.codeIn K (.ref c_good) "good" = true)
    (k_good : PySem.W.keepIn K (.ref f_good) = true)
    {f_pitch_at : Addr} (m_pitch_at : PySem.W.nsIn K mainGlobals "_pitch_at" = some (some (.ref f_pitch_at)))
    {oc_pitch_at : Value} {od_pitch_at an_pitch_at : Option Addr} {osl_pitch_at : Array (Option Value)} {kV_pitch_at doc_pitch_at pm_pitch_at ct_pitch_at : Value} {c_pitch_at : Addr} (l_pitch_at : K.lookup f_pitch_at = some ⟨oc_pitch_at, od_pitch_at, .func (PySem.W.fnOf "_pitch_at" "_pitch_at" (defArgs s_pitch_at) (defBody s_pitch_at) (defScope s_pitch_at) .none kV_pitch_at doc_pitch_at pm_pitch_at an_pitch_at (.ref c_pitch_at) ct_pitch_at), osl_pitch_at⟩)
    (c_pitch_at_ : PySem.W.codeIn K (.ref c_pitch_at) "_pitch_at" = true)
    (k_pitch_at : PySem.W.keepIn K (.ref f_pitch_at) = true)
    {f_sounding : Addr} (m_sounding : PySem.W.nsIn K mainGlobals "sounding" = some (some (.ref f_sounding)))
    {oc_sounding : Value} {od_sounding an_sounding : Option Addr} {osl_sounding : Array (Option Value)} {kV_sounding doc_sounding pm_sounding ct_sounding : Value} {c_sounding : Addr} (l_sounding : K.lookup f_sounding = some ⟨oc_sounding, od_sounding, .func (PySem.W.fnOf "sounding" "sounding" (defArgs s_sounding) (defBody s_sounding) (defScope s_sounding) .none kV_sounding doc_sounding pm_sounding an_sounding (.ref c_sounding) ct_sounding), osl_sounding⟩)
    (c_sounding_ : PySem.W.codeIn K (.ref c_sounding) "sounding" = true)
    (k_sounding : PySem.W.keepIn K (.ref f_sounding) = true)
    {f_law_at : Addr} (m_law_at : PySem.W.nsIn K mainGlobals "_law_at" = some (some (.ref f_law_at)))
    {oc_law_at : Value} {od_law_at an_law_at : Option Addr} {osl_law_at : Array (Option Value)} {kV_law_at doc_law_at pm_law_at ct_law_at : Value} {c_law_at : Addr} (l_law_at : K.lookup f_law_at = some ⟨oc_law_at, od_law_at, .func (PySem.W.fnOf "_law_at" "_law_at" (defArgs s_law_at) (defBody s_law_at) (defScope s_law_at) .none kV_law_at doc_law_at pm_law_at an_law_at (.ref c_law_at) ct_law_at), osl_law_at⟩)
    (c_law_at_ : PySem.W.codeIn K (.ref c_law_at) "_law_at" = true)
    (k_law_at : PySem.W.keepIn K (.ref f_law_at) = true)
    {f_law_whole : Addr} (m_law_whole : PySem.W.nsIn K mainGlobals "_law_whole" = some (some (.ref f_law_whole)))
    {oc_law_whole : Value} {od_law_whole an_law_whole : Option Addr} {osl_law_whole : Array (Option Value)} {kV_law_whole doc_law_whole pm_law_whole ct_law_whole : Value} {c_law_whole : Addr} (l_law_whole : K.lookup f_law_whole = some ⟨oc_law_whole, od_law_whole, .func (PySem.W.fnOf "_law_whole" "_law_whole" (defArgs s_law_whole) (defBody s_law_whole) (defScope s_law_whole) .none kV_law_whole doc_law_whole pm_law_whole an_law_whole (.ref c_law_whole) ct_law_whole), osl_law_whole⟩)
    (c_law_whole_ : PySem.W.codeIn K (.ref c_law_whole) "_law_whole" = true)
    (k_law_whole : PySem.W.keepIn K (.ref f_law_whole) = true)
    {f_law_notes : Addr} (m_law_notes : PySem.W.nsIn K mainGlobals "_law_notes" = some (some (.ref f_law_notes)))
    {oc_law_notes : Value} {od_law_notes an_law_notes : Option Addr} {osl_law_notes : Array (Option Value)} {kV_law_notes doc_law_notes pm_law_notes ct_law_notes : Value} {c_law_notes : Addr} (l_law_notes : K.lookup f_law_notes = some ⟨oc_law_notes, od_law_notes, .func (PySem.W.fnOf "_law_notes" "_law_notes" (defArgs s_law_notes) (defBody s_law_notes) (defScope s_law_notes) .none kV_law_notes doc_law_notes pm_law_notes an_law_notes (.ref c_law_notes) ct_law_notes), osl_law_notes⟩)
    (c_law_notes_ : PySem.W.codeIn K (.ref c_law_notes) "_law_notes" = true)
    (k_law_notes : PySem.W.keepIn K (.ref f_law_notes) = true)
    {f_law_piece : Addr} (m_law_piece : PySem.W.nsIn K mainGlobals "_law_piece" = some (some (.ref f_law_piece)))
    {oc_law_piece : Value} {od_law_piece an_law_piece : Option Addr} {osl_law_piece : Array (Option Value)} {kV_law_piece doc_law_piece pm_law_piece ct_law_piece : Value} {c_law_piece : Addr} (l_law_piece : K.lookup f_law_piece = some ⟨oc_law_piece, od_law_piece, .func (PySem.W.fnOf "_law_piece" "_law_piece" (defArgs s_law_piece) (defBody s_law_piece) (defScope s_law_piece) .none kV_law_piece doc_law_piece pm_law_piece an_law_piece (.ref c_law_piece) ct_law_piece), osl_law_piece⟩)
    (c_law_piece_ : PySem.W.codeIn K (.ref c_law_piece) "_law_piece" = true)
    (k_law_piece : PySem.W.keepIn K (.ref f_law_piece) = true)
    {f_law_heard : Addr} (m_law_heard : PySem.W.nsIn K mainGlobals "_law_heard" = some (some (.ref f_law_heard)))
    {oc_law_heard : Value} {od_law_heard an_law_heard : Option Addr} {osl_law_heard : Array (Option Value)} {kV_law_heard doc_law_heard pm_law_heard ct_law_heard : Value} {c_law_heard : Addr} (l_law_heard : K.lookup f_law_heard = some ⟨oc_law_heard, od_law_heard, .func (PySem.W.fnOf "_law_heard" "_law_heard" (defArgs s_law_heard) (defBody s_law_heard) (defScope s_law_heard) .none kV_law_heard doc_law_heard pm_law_heard an_law_heard (.ref c_law_heard) ct_law_heard), osl_law_heard⟩)
    (c_law_heard_ : PySem.W.codeIn K (.ref c_law_heard) "_law_heard" = true)
    (k_law_heard : PySem.W.keepIn K (.ref f_law_heard) = true)
    {f_law_refused : Addr} (m_law_refused : PySem.W.nsIn K mainGlobals "_law_refused" = some (some (.ref f_law_refused)))
    {oc_law_refused : Value} {od_law_refused an_law_refused : Option Addr} {osl_law_refused : Array (Option Value)} {kV_law_refused doc_law_refused pm_law_refused ct_law_refused : Value} {c_law_refused : Addr} (l_law_refused : K.lookup f_law_refused = some ⟨oc_law_refused, od_law_refused, .func (PySem.W.fnOf "_law_refused" "_law_refused" (defArgs s_law_refused) (defBody s_law_refused) (defScope s_law_refused) .none kV_law_refused doc_law_refused pm_law_refused an_law_refused (.ref c_law_refused) ct_law_refused), osl_law_refused⟩)
    (c_law_refused_ : PySem.W.codeIn K (.ref c_law_refused) "_law_refused" = true)
    (k_law_refused : PySem.W.keepIn K (.ref f_law_refused) = true)
    {f_law : Addr} (m_law : PySem.W.nsIn K mainGlobals "law" = some (some (.ref f_law)))
    {oc_law : Value} {od_law an_law : Option Addr} {osl_law : Array (Option Value)} {kV_law doc_law pm_law ct_law : Value} {c_law : Addr} (l_law : K.lookup f_law = some ⟨oc_law, od_law, .func (PySem.W.fnOf "law" "law" (defArgs s_law) (defBody s_law) (defScope s_law) .none kV_law doc_law pm_law an_law (.ref c_law) ct_law), osl_law⟩)
    (c_law_ : PySem.W.codeIn K (.ref c_law) "law" = true)
    (k_law : PySem.W.keepIn K (.ref f_law) = true)
    {te_is_note : Value} {td_is_note : Option Addr} {tv_is_note : Array Value} {ts_is_note : Array (Option Value)} (tl_is_note : K.lookup c_is_note = some ⟨te_is_note, td_is_note, .fields tv_is_note, ts_is_note⟩)
    (ti_is_note : tv_is_note[11]? = some (.ref Pn))
    (tn_is_note : K.lookup Pn = none)
    {te_is_piece : Value} {td_is_piece : Option Addr} {tv_is_piece : Array Value} {ts_is_piece : Array (Option Value)} (tl_is_piece : K.lookup c_is_piece = some ⟨te_is_piece, td_is_piece, .fields tv_is_piece, ts_is_piece⟩)
    (ti_is_piece : tv_is_piece[11]? = some (.ref Pp))
    (tn_is_piece : K.lookup Pp = none) :
    LamX.LawAtS l w K CX0 10 63 "_law_script" mg fa h := by
  let S : Ev := mkEv K Pn Pp cWeave cPiece cNumber cTheme cEntry cRange cUneven cClash cText
  have e := hfa.symm.trans (PySem.W.mg_of KX G m_law)
  cases e
  have B : Bl mg := ⟨PySem.W.mg_none_of KX G b_isinstance, PySem.W.mg_none_of KX G b_len, PySem.W.mg_none_of KX G b_max, PySem.W.mg_none_of KX G b_min, PySem.W.mg_none_of KX G b_sorted, PySem.W.mg_none_of KX G b_all, PySem.W.mg_none_of KX G b_any, PySem.W.mg_none_of KX G b_int, PySem.W.mg_none_of KX G b_bool, PySem.W.mg_none_of KX G b_str, PySem.W.mg_none_of KX G b_list, PySem.W.mg_none_of KX G b_tuple, PySem.W.mg_none_of KX G b_range, PySem.W.mg_none_of KX G b_zip, PySem.W.mg_none_of KX G b_enumerate, PySem.W.mg_none_of KX G b_ValueError⟩
  have Z : Nums mg := ⟨⟨_, PySem.W.mg_of KX G n_GREATEST_END⟩, ⟨_, PySem.W.mg_of KX G n_PITCH_REACH⟩, ⟨_, PySem.W.mg_of KX G n_MOST_VOICES⟩⟩
  have X_BadNumber : ExcC K mg "BadNumber" cNumber := ⟨PySem.W.mg_of KX G x_BadNumber, xx_BadNumber, xk_BadNumber, xb_BadNumber, xt_BadNumber⟩
  have X_BadPiece : ExcC K mg "BadPiece" cPiece := ⟨PySem.W.mg_of KX G x_BadPiece, xx_BadPiece, xk_BadPiece, xb_BadPiece, xt_BadPiece⟩
  have kt_BadNumber : Kit S cNumber [cEntry, cPiece, cTheme, cClash, cText, cRange, cUneven] := ⟨⟨yg_BadNumber, yk_BadNumber, xb_BadNumber, yd_BadNumber, ya_BadNumber, yn, yt, ym_BadNumber⟩, kit_self, kit_val yv_BadNumber, (fun D hD => by
    simp only [List.mem_cons, List.mem_nil_iff, or_false] at hD
    rcases hD with rfl | rfl | rfl | rfl | rfl | rfl | rfl
    · exact kit_not zd_BadEntry zt_BadEntry ys_BadNumber_BadEntry yq_BadNumber_BadEntry
    · exact kit_not zd_BadPiece zt_BadPiece ys_BadNumber_BadPiece yq_BadNumber_BadPiece
    · exact kit_not zd_BadTheme zt_BadTheme ys_BadNumber_BadTheme yq_BadNumber_BadTheme
    · exact kit_not zd_Clash zt_Clash ys_BadNumber_Clash yq_BadNumber_Clash
    · exact kit_not zd_NoText zt_NoText ys_BadNumber_NoText yq_BadNumber_NoText
    · exact kit_not zd_OutOfRange zt_OutOfRange ys_BadNumber_OutOfRange yq_BadNumber_OutOfRange
    · exact kit_not zd_Uneven zt_Uneven ys_BadNumber_Uneven yq_BadNumber_Uneven
  ), PySem.W.exm_ref zb_WeaveError zd_WeaveError zt_WeaveError ye_BadNumber⟩
  refine ⟨PySem.W.fnOf "law" "law" (defArgs s_law) (defBody s_law) (defScope s_law) .none kV_law doc_law pm_law an_law (.ref c_law) ct_law, [(c_is_note, Pn), (c_is_piece, Pp)], sp_law S, ?_, ?_, ?_, fun s v => .of_eq rfl, ?_, ?_⟩
  · intro p hp
    simp only [List.mem_cons, List.mem_nil_iff, or_false] at hp
    rcases hp with rfl | rfl
    · exact (T "is_note" (by simp) _ _ (tabIn_of m_is_note l_is_note rfl tl_is_note ti_is_note)).2
    · exact (T "is_piece" (by simp) _ _ (tabIn_of m_is_piece l_is_piece rfl tl_is_piece ti_is_piece)).2
  · intro p hp
    simp only [List.mem_cons, List.mem_nil_iff, or_false] at hp
    rcases hp with rfl | rfl
    · exact tn_is_note
    · exact tn_is_piece
  · intro p hp
    simp only [List.mem_cons, List.mem_nil_iff, or_false] at hp
    rcases hp with rfl | rfl
    · exact (T "is_note" (by simp) _ _ (tabIn_of m_is_note l_is_note rfl tl_is_note ti_is_note)).1
    · exact (T "is_piece" (by simp) _ _ (tabIn_of m_is_piece l_is_piece rfl tl_is_piece ti_is_piece)).1
  · intro H a ns hl hbits ht hS
    exact ⟨(fun P hP => by
      rcases List.mem_cons.mp hP with e | hP
      · subst e; exact ⟨#[], ht (c_is_note, P) (by simp), trivial⟩
      · rw [List.mem_singleton.mp hP]; exact ⟨#[], ht (c_is_piece, Pp) (by simp), trivial⟩), kt_BadNumber, ⟨a, ns, rfl, hS, hl, fun _ _ => rfl⟩⟩
  · intro base hKb hGb tb
    have G_is_whole := own_is_whole (P := l.prog) (w := w) (base := base) S B Z (FunC.mk' l_is_whole c_is_whole_ k_is_whole) (PySem.W.mg_of KX G m_is_whole)
    have G_require_whole := own_require_whole (P := l.prog) (w := w) (base := base) S B Z (FunC.mk' l_require_whole c_require_whole_ k_require_whole) (PySem.W.mg_of KX G m_require_whole) G_is_whole X_BadNumber
    have G_end_of := own_end_of (P := l.prog) (w := w) (base := base) S B Z (FunC.mk' l_end_of c_end_of_ k_end_of) (PySem.W.mg_of KX G m_end_of)
    have G_is_note := own_is_note (P := l.prog) (w := w) (base := base) S B Z (FunC.mk' l_is_note c_is_note_ k_is_note) (PySem.W.mg_of KX G m_is_note) G_is_whole (tab_ofL (tb (c_is_note, Pn) (by simp)))
    have G_is_voice := own_is_voice (P := l.prog) (w := w) (base := base) S B Z (FunC.mk' l_is_voice c_is_voice_ k_is_voice) (PySem.W.mg_of KX G m_is_voice) G_end_of G_is_note
    have G_is_piece := own_is_piece (P := l.prog) (w := w) (base := base) S B Z (FunC.mk' l_is_piece c_is_piece_ k_is_piece) (PySem.W.mg_of KX G m_is_piece) G_is_voice (tab_ofL (tb (c_is_piece, Pp) (by simp)))
    have G_good := own_good (P := l.prog) (w := w) (base := base) S B Z (FunC.mk' l_good c_good_ k_good) (PySem.W.mg_of KX G m_good) G_is_piece X_BadPiece
    have G_pitch_at := own_pitch_at (P := l.prog) (w := w) (base := base) S B Z (FunC.mk' l_pitch_at c_pitch_at_ k_pitch_at) (PySem.W.mg_of KX G m_pitch_at) G_end_of
    have G_sounding := own_sounding (P := l.prog) (w := w) (base := base) S B Z (FunC.mk' l_sounding c_sounding_ k_sounding) (PySem.W.mg_of KX G m_sounding) G_pitch_at G_good G_require_whole
    have G_law_at := own_law_at (P := l.prog) (w := w) (base := base) S B Z (FunC.mk' l_law_at c_law_at_ k_law_at) (PySem.W.mg_of KX G m_law_at)
    have G_law_whole := own_law_whole (P := l.prog) (w := w) (base := base) S B Z (FunC.mk' l_law_whole c_law_whole_ k_law_whole) (PySem.W.mg_of KX G m_law_whole)
    have G_law_notes := own_law_notes (P := l.prog) (w := w) (base := base) S B Z (FunC.mk' l_law_notes c_law_notes_ k_law_notes) (PySem.W.mg_of KX G m_law_notes)
    have G_law_piece := own_law_piece (P := l.prog) (w := w) (base := base) S B Z (FunC.mk' l_law_piece c_law_piece_ k_law_piece) (PySem.W.mg_of KX G m_law_piece) G_law_at G_law_notes
    have G_law_heard := own_law_heard (P := l.prog) (w := w) (base := base) S B Z (FunC.mk' l_law_heard c_law_heard_ k_law_heard) (PySem.W.mg_of KX G m_law_heard)
    have G_law_refused := own_law_refused (P := l.prog) (w := w) (base := base) S B Z (FunC.mk' l_law_refused c_law_refused_ k_law_refused) (PySem.W.mg_of KX G m_law_refused) G_sounding (PySem.W.mg_of KX G x_BadEntry) (PySem.W.mg_of KX G x_BadNumber) (PySem.W.mg_of KX G x_BadPiece) (PySem.W.mg_of KX G x_BadTheme) (PySem.W.mg_of KX G x_Clash) (PySem.W.mg_of KX G x_NoText) (PySem.W.mg_of KX G x_OutOfRange) (PySem.W.mg_of KX G x_Uneven) (PySem.W.mg_of KX G x_WeaveError)
    exact ok_law (P := l.prog) (w := w) (base := base) S B Z (FunC.mk' l_law c_law_ k_law) G_law_at G_law_heard G_law_piece G_law_refused G_law_whole G_sounding
end VW

open PySem PySem.W PyProof.Rows in
set_option maxRecDepth 100000 in
set_option maxHeartbeats 0 in
theorem PySem.Challenge.cw_voiceweave_k05_what_sounds_holds : PySem.Challenge.rw_voiceweave_k05_what_sounds.Holds := by
  w_on; o_law; k_head; (case hw => w_witness2)
  k_fill
  refine VW.walk_tabs (l := PySem.Challenge.rw_voiceweave_k05_what_sounds) (n := 63) (k := 10) (x := "_law_script") (CX := fun _ => L2.CX0) ["is_note", "is_piece"] rfl (by decide) rfl ⟨rfl, by decide, by decide⟩ (by decide +kernel) (fun w h Y => PySem.W.kIn_of Y) ?F fun _ _ _ _ _ z => z
  case F =>
    intro w mg fa h KX G hmg T
    refine' VW.all_facts KX G hmg T ?x_BadEntry ?x_BadNumber ?x_BadPiece ?x_BadTheme ?x_Clash ?x_NoText ?x_OutOfRange ?x_Uneven ?x_WeaveError ?xx_BadNumber ?xk_BadNumber ?xb_BadNumber ?xt_BadNumber ?xx_BadPiece ?xk_BadPiece ?xb_BadPiece ?xt_BadPiece ?yg_BadNumber ?yk_BadNumber ?yd_BadNumber ?ya_BadNumber ?ym_BadNumber ?yv_BadNumber ?ys_BadNumber_BadEntry ?yq_BadNumber_BadEntry ?ys_BadNumber_BadPiece ?yq_BadNumber_BadPiece ?ys_BadNumber_BadTheme ?yq_BadNumber_BadTheme ?ys_BadNumber_Clash ?yq_BadNumber_Clash ?ys_BadNumber_NoText ?yq_BadNumber_NoText ?ys_BadNumber_OutOfRange ?yq_BadNumber_OutOfRange ?ys_BadNumber_Uneven ?yq_BadNumber_Uneven ?ye_BadNumber ?zd_BadEntry ?zt_BadEntry ?zd_BadPiece ?zt_BadPiece ?zd_BadTheme ?zt_BadTheme ?zd_Clash ?zt_Clash ?zd_NoText ?zt_NoText ?zd_OutOfRange ?zt_OutOfRange ?zd_Uneven ?zt_Uneven ?zd_WeaveError ?zt_WeaveError ?zb_WeaveError ?yn ?yt ?b_isinstance ?b_len ?b_max ?b_min ?b_sorted ?b_all ?b_any ?b_int ?b_bool ?b_str ?b_list ?b_tuple ?b_range ?b_zip ?b_enumerate ?b_ValueError ?n_GREATEST_END ?n_PITCH_REACH ?n_MOST_VOICES ?m_is_whole ?l_is_whole ?c_is_whole_ ?k_is_whole ?m_require_whole ?l_require_whole ?c_require_whole_ ?k_require_whole ?m_end_of ?l_end_of ?c_end_of_ ?k_end_of ?m_is_note ?l_is_note ?c_is_note_ ?k_is_note ?m_is_voice ?l_is_voice ?c_is_voice_ ?k_is_voice ?m_is_piece ?l_is_piece ?c_is_piece_ ?k_is_piece ?m_good ?l_good ?c_good_ ?k_good ?m_pitch_at ?l_pitch_at ?c_pitch_at_ ?k_pitch_at ?m_sounding ?l_sounding ?c_sounding_ ?k_sounding ?m_law_at ?l_law_at ?c_law_at_ ?k_law_at ?m_law_whole ?l_law_whole ?c_law_whole_ ?k_law_whole ?m_law_notes ?l_law_notes ?c_law_notes_ ?k_law_notes ?m_law_piece ?l_law_piece ?c_law_piece_ ?k_law_piece ?m_law_heard ?l_law_heard ?c_law_heard_ ?k_law_heard ?m_law_refused ?l_law_refused ?c_law_refused_ ?k_law_refused ?m_law ?l_law ?c_law_ ?k_law ?tl_is_note ?ti_is_note ?tn_is_note ?tl_is_piece ?ti_is_piece ?tn_is_piece
    (case x_BadEntry => k_is)
    (case x_BadNumber => k_is)
    (case x_BadPiece => k_is)
    (case x_BadTheme => k_is)
    (case x_Clash => k_is)
    (case x_NoText => k_is)
    (case x_OutOfRange => k_is)
    (case x_Uneven => k_is)
    (case x_WeaveError => k_is)
    (case xx_BadNumber => k_exc)
    (case xk_BadNumber => k_is)
    (case xb_BadNumber => k_is)
    (case xt_BadNumber => k_is)
    (case xx_BadPiece => k_exc)
    (case xk_BadPiece => k_is)
    (case xb_BadPiece => k_is)
    (case xt_BadPiece => k_is)
    (case yg_BadNumber => k_is)
    (case yk_BadNumber => k_is)
    (case yd_BadNumber => k_is)
    (case ya_BadNumber => k_is)
    (case ym_BadNumber => k_is)
    (case yv_BadNumber => k_is)
    (case ys_BadNumber_BadEntry => k_is)
    (case yq_BadNumber_BadEntry => decide)
    (case ys_BadNumber_BadPiece => k_is)
    (case yq_BadNumber_BadPiece => decide)
    (case ys_BadNumber_BadTheme => k_is)
    (case yq_BadNumber_BadTheme => decide)
    (case ys_BadNumber_Clash => k_is)
    (case yq_BadNumber_Clash => decide)
    (case ys_BadNumber_NoText => k_is)
    (case yq_BadNumber_NoText => decide)
    (case ys_BadNumber_OutOfRange => k_is)
    (case yq_BadNumber_OutOfRange => decide)
    (case ys_BadNumber_Uneven => k_is)
    (case yq_BadNumber_Uneven => decide)
    (case ye_BadNumber => k_is)
    (case zd_BadEntry => k_is)
    (case zt_BadEntry => k_is)
    (case zd_BadPiece => k_is)
    (case zt_BadPiece => k_is)
    (case zd_BadTheme => k_is)
    (case zt_BadTheme => k_is)
    (case zd_Clash => k_is)
    (case zt_Clash => k_is)
    (case zd_NoText => k_is)
    (case zt_NoText => k_is)
    (case zd_OutOfRange => k_is)
    (case zt_OutOfRange => k_is)
    (case zd_Uneven => k_is)
    (case zt_Uneven => k_is)
    (case zd_WeaveError => k_is)
    (case zt_WeaveError => k_is)
    (case zb_WeaveError => k_is)
    (case yn => k_is)
    (case yt => k_is)
    (case b_isinstance => k_is)
    (case b_len => k_is)
    (case b_max => k_is)
    (case b_min => k_is)
    (case b_sorted => k_is)
    (case b_all => k_is)
    (case b_any => k_is)
    (case b_int => k_is)
    (case b_bool => k_is)
    (case b_str => k_is)
    (case b_list => k_is)
    (case b_tuple => k_is)
    (case b_range => k_is)
    (case b_zip => k_is)
    (case b_enumerate => k_is)
    (case b_ValueError => k_is)
    (case n_GREATEST_END => k_is)
    (case n_PITCH_REACH => k_is)
    (case n_MOST_VOICES => k_is)
    (case m_is_whole => k_is)
    (case l_is_whole => k_is)
    (case c_is_whole_ => k_is)
    (case k_is_whole => k_is)
    (case m_require_whole => k_is)
    (case l_require_whole => k_is)
    (case c_require_whole_ => k_is)
    (case k_require_whole => k_is)
    (case m_end_of => k_is)
    (case l_end_of => k_is)
    (case c_end_of_ => k_is)
    (case k_end_of => k_is)
    (case m_is_note => k_is)
    (case l_is_note => k_is)
    (case c_is_note_ => k_is)
    (case k_is_note => k_is)
    (case m_is_voice => k_is)
    (case l_is_voice => k_is)
    (case c_is_voice_ => k_is)
    (case k_is_voice => k_is)
    (case m_is_piece => k_is)
    (case l_is_piece => k_is)
    (case c_is_piece_ => k_is)
    (case k_is_piece => k_is)
    (case m_good => k_is)
    (case l_good => k_is)
    (case c_good_ => k_is)
    (case k_good => k_is)
    (case m_pitch_at => k_is)
    (case l_pitch_at => k_is)
    (case c_pitch_at_ => k_is)
    (case k_pitch_at => k_is)
    (case m_sounding => k_is)
    (case l_sounding => k_is)
    (case c_sounding_ => k_is)
    (case k_sounding => k_is)
    (case m_law_at => k_is)
    (case l_law_at => k_is)
    (case c_law_at_ => k_is)
    (case k_law_at => k_is)
    (case m_law_whole => k_is)
    (case l_law_whole => k_is)
    (case c_law_whole_ => k_is)
    (case k_law_whole => k_is)
    (case m_law_notes => k_is)
    (case l_law_notes => k_is)
    (case c_law_notes_ => k_is)
    (case k_law_notes => k_is)
    (case m_law_piece => k_is)
    (case l_law_piece => k_is)
    (case c_law_piece_ => k_is)
    (case k_law_piece => k_is)
    (case m_law_heard => k_is)
    (case l_law_heard => k_is)
    (case c_law_heard_ => k_is)
    (case k_law_heard => k_is)
    (case m_law_refused => k_is)
    (case l_law_refused => k_is)
    (case c_law_refused_ => k_is)
    (case k_law_refused => k_is)
    (case m_law => k_is)
    (case l_law => k_is)
    (case c_law_ => k_is)
    (case k_law => k_is)
    (case tl_is_note => k_is)
    (case ti_is_note => rfl)
    (case tn_is_note => rfl)
    (case tl_is_piece => k_is)
    (case ti_is_piece => rfl)
    (case tn_is_piece => rfl)
