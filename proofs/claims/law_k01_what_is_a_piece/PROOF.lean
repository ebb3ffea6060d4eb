import PyProof.Rows.All
import Wide.All
import OpenK.AllK
import Wide.FinOn
import PySem.Challenge.RW_voiceweave_k01_what_is_a_piece
import HandS.ForMost
import HandS.ForExc
import HandS.AnyAll
import HandS.EndTab
import HandS.GenBody
import KE.GoesRaise
import HandS.IsInst
import HandS.Style
import HandS.More
import HandS.Walk
import HandS.ExcIs
import HandS.HotCalls
import HandS.SortKw
import HandS.Deep
import HandS.TupAny
import KE.DataMinMax
import HandS.Text
set_option Elab.async false
set_option linter.all false
set_option maxRecDepth 100000
set_option maxHeartbeats 2000000
/-! The voices layer, part 1: any and all of a generator expression whose element may call defs. -/
namespace VW
open PySem PySem.Spec PyProof.Rows L2 GxR

/-! ### the frame of a generator expression -/
/-- where the generator's code runs when «all» or «any» wakes it -/
abbrev gArd (A : Around) (c : Code) : Around := A.in1.in1.over c []
abbrev genX (X : Cx) (s : Shared) (H : Hp) (cenv : Env) (c : Code) (fp : List Addr) : Cx :=
  { X with A := gArd X.A c, s_0 := s, H_0 := H, env := cenv, outer := X.stack, stack := cenv :: X.stack, ex := fp, fn := fun _ => false, pn := [], xe := fun _ _ => False }
/-- the code of a generator expression's turns -/
abbrev genCode (elt tg iter : Expr) (scope : Scope) (pos : Pos) (it : Value) (cenv : Env) : Code :=
  .compLoop (.GeneratorExp elt [⟨tg, iter, [], 0⟩] scope pos) 0 it .none cenv

theorem gArd_frames {A : Around} {fs : List Env} {elt tg iter : Expr} {scope : Scope} {pos : Pos} {it : Value} {cenv : Env} (h : A.frames = some fs) :
    (gArd A (genCode elt tg iter scope pos it cenv)).frames = some (cenv :: fs) := by
  have e1 : (genCode elt tg iter scope pos it cenv).envs = [cenv] := rfl
  show pushEnvs (genCode elt tg iter scope pos it cenv).envs (pushEnvs (envsOf []) A.frames) = _
  rw [e1, h]
  rfl
theorem gArd_room {A : Around} {k : Nat} {elt tg iter : Expr} {scope : Scope} {pos : Pos} {it : Value} {cenv : Env} (r : Room (k + 1) A) :
    Room k (gArd A (genCode elt tg iter scope pos it cenv)) := by
  have w1 : (genCode elt tg iter scope pos it cenv).weight = 1 := rfl
  have u1 : (genCode elt tg iter scope pos it cenv).cUnits = 3 := rfl
  refine ⟨r.hd, ?_, ?_⟩
  · have := r.dp
    show A.depth + frameCount [] + (genCode elt tg iter scope pos it cenv).weight + 3 * k + 5 < _
    rw [w1]
    show A.depth + 0 + 1 + 3 * k + 5 < _
    omega
  · have := r.un
    show A.units + 1 + 1 + unitsOf [] + (genCode elt tg iter scope pos it cenv).cUnits + 16 * k + 200 < _
    rw [u1]
    show A.units + 1 + 1 + 0 + 3 + 16 * k + 200 < _
    omega

section
variable {X : Cx} {pins : List (Addr × Obj)} {σ : L2.St} {H : Hp} {s : Shared}

/-- the generator's frame has been laid (at the next address): the state is one of its context -/
theorem gen_start {elt tg iter : Expr} {scope : Scope} {own : List (Str × Nat)} {fp : List Addr} {gpos : Pos} {it code : Value} {fr : Obj} {h' : Heap} {m : Str → Option Value}
    (I : Inv X pins σ H s) (ok : BlkOk X.N X.env.scope scope own) (hcell : ∀ y ∈ scope.names, y.2 ≠ .cell) (hN : X.N.Nodup) (hfp : ∀ b ∈ fp, FpOk X pins H b ∧ b < s.heap.objs.size)
    (hn : h'.Ns s.heap.objs.size m) (hs : Heap.SameBut s.heap.objs.size (s.heap.push fr) h') {cenv : Env} (hce : cenv = genEnv scope (cloFrom X.env.cells scope.names []) s.heap.objs.size code builtinsNs X.env) :
    Inv (genX X s H cenv (genCode elt tg iter scope gpos it cenv) fp) [] (wipe σ (own.map (·.2))) H { s with heap := h' } := by
  have hfree : ∀ y ∈ scope.names, y.2 = .free → ∃ c, X.env.cells.lookup y.1 = some c := fun y hy e =>
    (ok.free y hy e).elim (fun k => I.ok.has _ (.inl k)) fun k => I.ok.has _ (.inr k)
  have hL : cenv.locals = s.heap.objs.size := by rw [hce]; rfl
  have hcl : cenv.cells = cloFrom X.env.cells scope.names [] := by rw [hce]; rfl
  have hsc : cenv.scope = scope := by rw [hce]; rfl
  have kp : ∀ b o, s.heap.get? b = some o → h'.get? b = some o := fun b o e =>
    (hs.2 b (Nat.ne_of_lt (Heap.lt_size e))).trans (Heap.get?_push_of_some _ e)
  have caught : ∀ {y c}, cenv.cells.lookup y = some c → X.env.cells.lookup y = some c ∧ c < s.heap.objs.size := fun {y c} e => by
    rw [hcl] at e
    rcases cloFrom_mem (PySem.mem_of_lookup e) with hm | ⟨h1, rfl⟩
    · cases hm
    · obtain ⟨c, hc⟩ := hfree _ h1 rfl
      rw [hc]
      obtain ⟨w, z⟩ := I.cell _ _ hc
      exact ⟨rfl, z.lt⟩
  have look : ∀ {y}, scope.names.lookup y = some .free → ∃ c, cenv.cells.lookup y = some c ∧ X.env.cells.lookup y = some c := fun {y} hl => by
    have hm := cloFrom_has (cells := X.env.cells) (acc := []) (PySem.mem_of_lookup hl)
    obtain ⟨c, hc⟩ := mem_lookup hm
    rw [← hcl] at hc
    exact ⟨c, hc, (caught hc).1⟩
  have okB : (genX X s H cenv (genCode elt tg iter scope gpos it cenv) fp).Ok := by
    refine ⟨I.ok.mod, by show cenv.scope.kind = _; rw [hsc]; exact ok.kind, by show cenv.globals = _; rw [hce]; exact I.ok.glob, by show cenv.builtins = _; rw [hce]; rfl,
      by show s.heap.objs.size ≤ cenv.locals; rw [hL]; exact Nat.le_refl _, fun y z c e1 e2 => I.ok.inj y z c (caught e1).1 (caught e2).1, fun y hy => ?_, fun y c z _ => absurd (show false = true from z) Bool.false_ne_true,
      I.ok.hd, gArd_frames I.ok.frames, .inr ⟨rfl, by show cenv.frame = some cenv.locals; rw [hce]; rfl⟩, fun b hb => ⟨?_, fun y c e z => ?_⟩, I.bs, Nat.le_trans I.ok.bsz I.sz, fun b o e hb => ?_, fun b hb z => ?_, I.stack, I.stkFree⟩
    · have hy : scope.names.lookup y = some .cell ∨ scope.names.lookup y = some .free := by
        have hy' : cenv.scope.names.lookup y = some .cell ∨ cenv.scope.names.lookup y = some .free := hy
        rw [hsc] at hy'
        exact hy'
      rcases hy with hy | hy
      · exact absurd rfl (hcell _ (PySem.mem_of_lookup hy))
      · obtain ⟨c, h1, _⟩ := look hy
        exact ⟨c, h1⟩
    · show b ≠ cenv.locals
      rw [hL]; exact Nat.ne_of_lt (hfp b hb).2
    · exact (hfp b hb).1.2.2.2.2.1 y c (caught e).1 z
    · rcases (hfp b hb).1.2.2.2.1 with z | z
      · exact I.ok.noex b o e z
      · exact absurd (Nat.lt_of_lt_of_le (Heap.lt_size e) (Nat.le_trans I.ok.bsz z)) (Nat.lt_irrefl _)
    · rcases List.mem_cons.mp (I.stkSub b z) with z | z
      · exact (hfp b hb).1.2.1 z
      · exact (hfp b hb).1.2.2.1 z
  refine ⟨okB, rfl, I.bare, Un.kept kp, ⟨m, ?_, fun i y av e1 e2 e3 => ?_⟩, fun y c e => ?_, ?_, fun y c e => ?_, fun p hp => ?_, I.hok.kept kp, by rw [wipe_length]; exact I.len⟩
  · show Heap.Ns _ cenv.locals _
    rw [hL]; exact hn
  · obtain ⟨e2, hne⟩ := wipe_some e2
    have fr : scope.names.lookup y = some .free := by
      have e3' : Vis cenv.scope y := e3
      rw [hsc] at e3'
      have no : ∀ k, scope.names.lookup y = some k → k = .local ∨ k = .cell → False := fun k hk hh => by
        rcases ok.own _ (PySem.mem_of_lookup hk) hh with q | q
        · obtain ⟨p, hp, hpy⟩ := List.mem_map.mp q
          have e4 := ok.ix p hp
          have hp1 : p.1 = y := hpy
          rw [hp1] at e4
          exact hne (List.mem_map.mpr ⟨p, hp, nodup_ix hN e4 e1⟩)
        · exact q (List.mem_of_getElem? e1)
      rcases e3' with z | z | z
      · exact (no _ z (.inl rfl)).elim
      · exact (no _ z (.inr rfl)).elim
      · exact z
    obtain ⟨m0, hn0, hl⟩ := I.loc
    have hvis : Vis X.env.scope y := (ok.free _ (PySem.mem_of_lookup fr) rfl).elim (fun k => .inr (.inl k)) (fun k => .inr (.inr k))
    obtain ⟨w, r, q⟩ := hl i y av e1 e2 hvis
    obtain ⟨c, h1, h2⟩ := look fr
    refine ⟨w, r, .inr ⟨.inr (by show cenv.scope.names.lookup y = _; rw [hsc]; exact fr), c, h1, ?_⟩⟩
    rcases q with ⟨k, _⟩ | ⟨_, c', e', z⟩
    · have k : X.env.scope.names.lookup y = some .local := k
      rcases ok.free _ (PySem.mem_of_lookup fr) rfl with k' | k' <;> rw [show X.env.scope.names.lookup y = _ from k'] at k <;> cases k
    · rw [h2] at e'; cases e'
      exact z.keeps kp
  · obtain ⟨w, z⟩ := I.cell y c (caught e).1
    exact ⟨w, z.keeps kp⟩
  · show H cenv.locals = none
    rw [hL]; exact I.hok.fresh (Nat.le_refl _)
  · exact I.freeC y c (caught e).1
  · exact absurd (show p ∈ ([] : List (Addr × Obj)) ++ [] from hp) (by simp)
end
end VW
set_option Elab.async false
set_option linter.all false
set_option maxRecDepth 100000
set_option maxHeartbeats 2000000
namespace VW
open PySem PySem.Spec PyProof.Rows L2 GxR

/-- what the one that asks owes at a turn of the generator: st is the answer at which it stops -/
def GenStep (J : It) (g : TG) (te : TE) (vs : List Nat) (σ : L2.St) (st : Bool) (Q : VK) (W : Nat → Nat → Hp → Prop) : Prop :=
  ∀ i m H, W i m H → (J.stop i H ∧ Q (.bl (!st)) H) ∨ (J.go i H ∧ ∃ Nx : Hp → Prop, (∀ H', Nx H' → ∃ m', m' < m ∧ W (i + 1) m' H') ∧
    ∀ x H', J.yld i H x H' → g x (wipe σ vs) H' fun σ2 H2 => wipe σ2 vs = wipe σ vs ∧ te σ2 H2 fun y H3 => ∃ b, y = .bl b ∧ (b = st → Q (.bl st) H3) ∧ (b ≠ st → Nx H3))

section
variable {X : Cx} {pins : List (Addr × Obj)} {σ : L2.St} {elt tg iter : Expr} {scope : Scope} {gpos : Pos} {cenv : Env} {fp : List Addr} {it a : Addr} {tn : Nat → Heap → Prop} {J : It} {g : TG} {te : TE} {vs : List Nat} {st : Bool} {Q : VK} {W : Nat → Nat → Hp → Prop}
  {s3 : Shared} {H3 : Hp} {oa : Obj}

/-- the state between two turns, the generator's own frame known -/
def Betw (X : Cx) (s3 : Shared) (H3 : Hp) (cenv : Env) (c : Code) (fp : List Addr) (a : Addr) (oa : Obj) (tn : Nat → Heap → Prop) (τ : L2.St) (i : Nat) (H : Hp) (s : Shared) : Prop :=
  Inv (genX X s3 H3 cenv c fp) [(a, oa)] τ H s ∧ tn i s.heap ∧ ∀ b ∈ fp, H b = none
/-- its end, for the one that asks -/
def gEnd (X : Cx) (s3 : Shared) (H3 : Hp) (cenv : Env) (c : Code) (fp : List Addr) (a : Addr) (oa : Obj) (τ : L2.St) (st : Bool) (Q : VK) : Nat → Shared → Shared → Prop := fun _ _ s1 =>
  ∃ H, Inv (genX X s3 H3 cenv c fp) [(a, oa)] τ H s1 ∧ Q (.bl (!st)) H
/-- a turn's answer, and what comes when it is woken again -/
def gProto (X : Cx) (s3 : Shared) (H3 : Hp) (cenv : Env) (c : Code) (fp : List Addr) (a : Addr) (oa : Obj) (tn : Nat → Heap → Prop) (τ : L2.St) (st : Bool) (Q : VK) (W : Nat → Nat → Hp → Prop) : Protocol := fun n _ v s1 kap =>
  ∃ (b : Bool) (H : Hp), v = .bool b ∧ (∃ τ', Inv (genX X s3 H3 cenv c fp) [(a, oa)] τ' H s1) ∧ (b = st → Q (.bl st) H) ∧
    (b ≠ st → ∀ s2 : Shared, s2.heap = s1.heap → s2.os = s1.os → AllBare s2.gens → kap (.send .none) s2)

theorem Inv.regen {X' : Cx} {pins : List (Addr × Obj)} {σ : L2.St} {H : Hp} {s s2 : Shared} (I : Inv X' pins σ H s) (h1 : s2.heap = s.heap) (h2 : s2.os = s.os) (h3 : AllBare s2.gens) : Inv X' pins σ H s2 := by
  obtain ⟨hh, g, d, t, o⟩ := s2
  have e1 : hh = s.heap := h1
  have e2 : o = s.os := h2
  subst e1 e2
  exact I.call (h' := s.heap) (g' := g) (d' := d) (t' := t) (ch := []) (Un.kept fun _ _ q => q) (I.hok.kept fun _ _ q => q) h3 (fun _ z => nomatch z)

theorem gen_loop (hc : X.calm = true) (T : Turn X.prog X.w X.K tg J fp it tn)
    (hpg : PG (genX X s3 H3 cenv (genCode elt tg iter scope gpos (.ref it) cenv) fp) tg g) (hpe : PE (genX X s3 H3 cenv (genCode elt tg iter scope gpos (.ref it) cenv) fp) elt te)
    (hco : cenv.scope.isCoroutine = false) (hafp : a ∉ fp) (step : GenStep J g te vs σ st Q W) :
    ∀ (m i n : Nat) (s0 s : Shared) (H : Hp), m < n → W i m H → Betw X s3 H3 cenv (genCode elt tg iter scope gpos (.ref it) cenv) fp a oa tn (wipe σ vs) i H s →
      Seg (model X.prog X.w) X.A.in1.in1 (fun n s₀ r s₁ => r = .ok .next ∧ gEnd X s3 H3 cenv (genCode elt tg iter scope gpos (.ref it) cenv) fp a oa (wipe σ vs) st Q n s₀ s₁)
        (gProto X s3 H3 cenv (genCode elt tg iter scope gpos (.ref it) cenv) fp a oa tn (wipe σ vs) st Q W) n s0 (genCode elt tg iter scope gpos (.ref it) cenv)
        ((model X.prog X.w).den (genCode elt tg iter scope gpos (.ref it) cenv)) [] s := by
  intro m
  induction m using Nat.strongRecOn with
  | ind m ih =>
    intro i n s0 s H hmn hW hB
    obtain ⟨I, htn, hfr⟩ := hB
    have hc' : (genX X s3 H3 cenv (genCode elt tg iter scope gpos (.ref it) cenv) fp).calm = true := hc
    have stat : ∀ {pl : List (Addr × Obj)} {τ : L2.St} {H' : Hp} {s' : Shared}, (∀ p ∈ pl, p.1 ∉ fp) → Inv (genX X s3 H3 cenv (genCode elt tg iter scope gpos (.ref it) cenv) fp) pl τ H' s' → (∀ b ∈ fp, H' b = none) →
        ∀ b ∈ fp, FpOk (genX X s3 H3 cenv (genCode elt tg iter scope gpos (.ref it) cenv) fp) pl H' b := fun {pl τ H' s'} hpl I' hn b hb =>
      ⟨hn b hb, (I'.ok.exf b hb).1, I'.ok.exfs b hb, .inl hb, fun x c e => (I'.ok.exf b hb).2 x c e, fun p hp z => hpl p (by simpa using hp) (by rw [z]; exact hb)⟩
    have pa : ∀ p ∈ [(a, oa)], p.1 ∉ fp := fun p hp => by
      rw [List.mem_singleton.mp hp]; exact hafp
    show Seg _ X.A.in1.in1 _ _ n s0 _ ((compTurn (.GeneratorExp elt [⟨tg, iter, [], 0⟩] scope gpos) 0 (.ref it) .none cenv).onRaise (leaving cenv)) [] s
    rw [compTurn_gen, Sem.onRaise_eq_wrap]
    refine seg_bind_wrap (wpAny_standAt ?_)
    rcases step i m H hW with ⟨stop, q⟩ | ⟨go, Nx, hNx, turn⟩
    · have td := T.done (genX X s3 H3 cenv (genCode elt tg iter scope gpos (.ref it) cenv) fp) rfl rfl rfl hc' i [(a, oa)] s _ H (fun _ _ => False) I (stat pa I hfr) htn stop
      refine seg_bind_wrap (wpAny_mono td (fun r s4 hr => ?_) fun _ _ z => z.elim)
      obtain ⟨rfl, I4⟩ := hr
      exact seg_end (.ok .next) ⟨rfl, H, I4, q⟩
    · have ti := T.item (genX X s3 H3 cenv (genCode elt tg iter scope gpos (.ref it) cenv) fp) rfl rfl rfl hc' i [(a, oa)] s _ H (fun _ _ => False) I (stat pa I hfr) htn go
      refine seg_bind_wrap (wpAny_mono ti (fun r s4 hr => ?_) fun _ _ z => z.elim)
      obtain ⟨u, rfl, h4⟩ := hr
      refine seg_bind_wrap (wpAny_mono h4 (fun _ s5 h5 => ?_) fun _ _ z => z.elim)
      obtain ⟨x, H5, I5, r5, y5, tn5, fr5⟩ := h5
      have I5' := I5.pinned (stat pa I5 fr5) (T.obj _ _ tn5)
      refine seg_bind_wrap (wpAny_mono (hpg.run _ s5 _ H5 x u _ I5' r5 (turn x H5 y5)) (fun _ s6 h6 => ?_) fun _ _ z => False.elim z)
      obtain ⟨σ6, H6, I6, hw6, q6⟩ := h6
      simp only [List.forIn_nil]
      refine seg_bind_wrap (wpAny_pure ?_)
      simp only [if_true]
      have hy : ∀ v, yieldOut cenv v = yieldValue v := fun v => by simp only [yieldOut, hco, Bool.false_eq_true, if_false]
      simp only [hy]
      rw [Sem.bind_eq_wrap', Sem.bind_eq_wrap', Sem.wrap_wrap, Sem.wrap_wrap]
      refine seg_wrap (wpAny_mono (hpe.run _ s6 σ6 H6 _ I6 q6) (fun v s7 h7 => ?_) fun _ _ z => False.elim z)
      obtain ⟨y, H7, I7, r7, b, rfl, hst, hgo⟩ := h7
      obtain rfl : v = Value.bool b := r7
      obtain ⟨n, rfl⟩ : ∃ k, n = k + 1 := ⟨n - 1, by omega⟩
      -- the iterator stands as it was left
      have pin' : ∀ c ∈ fp, ∀ o, s5.heap.get? c = some o → s7.heap.get? c = some o ∧ H7 c = none := fun c hc o e =>
        let z := I7.pin (c, o) (List.mem_append_right _ (List.mem_append_right _ (mem_pinsAt hc e)))
        ⟨z.1, z.2.1⟩
      have tn7 : tn (i + 1) s7.heap := T.keep _ _ _ tn5 fun c hc o e => (pin' c hc o e).1
      have fr7 : ∀ c ∈ fp, H7 c = none := fun c hc => by
        obtain ⟨o, e, _⟩ := T.obj _ _ tn5 c hc
        exact (pin' c hc o e).2
      have hl : (wipe σ vs).length = σ6.length := by rw [← hw6, wipe_length]
      have I8 : Inv (genX X s3 H3 cenv (genCode elt tg iter scope gpos (.ref it) cenv) fp) [(a, oa)] (wipe σ vs) H7 s7 := I7.unpinned.weak hl fun j v e => by
        rw [← hw6] at e
        exact (wipe_some e).1
      refine seg_at (seg_yield rfl rfl rfl ⟨b, H7, rfl, ⟨_, I8⟩, hst, fun hb s9 e1 e2 e3 => ?_⟩)
      obtain ⟨m', hm', hW'⟩ := hNx H7 (hgo hb)
      refine seg_again rfl (ih m' hm' (i + 1) n s9 s9 H7 (by omega) hW' ⟨Inv.regen I8 e1 e2 e3, by rw [e1]; exact tn7, fr7⟩)

/-- from its first wakening -/
theorem gen_first (hc : X.calm = true) (T : Turn X.prog X.w X.K tg J fp it tn)
    (hpg : PG (genX X s3 H3 cenv (genCode elt tg iter scope gpos (.ref it) cenv) fp) tg g) (hpe : PE (genX X s3 H3 cenv (genCode elt tg iter scope gpos (.ref it) cenv) fp) elt te)
    (hco : cenv.scope.isCoroutine = false) (hafp : a ∉ fp) (step : GenStep J g te vs σ st Q W)
    (m n : Nat) (s0 s : Shared) (H : Hp) (hmn : m < n) (hW : W 0 m H) (hB : Betw X s3 H3 cenv (genCode elt tg iter scope gpos (.ref it) cenv) fp a oa tn (wipe σ vs) 0 H s) :
    Seg (model X.prog X.w) X.A.in1.in1 (fun n s₀ r s₁ => r = .ok .next ∧ gEnd X s3 H3 cenv (genCode elt tg iter scope gpos (.ref it) cenv) fp a oa (wipe σ vs) st Q n s₀ s₁)
      (gProto X s3 H3 cenv (genCode elt tg iter scope gpos (.ref it) cenv) fp a oa tn (wipe σ vs) st Q W) n s0 (.compStart (.GeneratorExp elt [⟨tg, iter, [], 0⟩] scope gpos) 0 (.ref it) .none cenv)
      ((model X.prog X.w).den (.compStart (.GeneratorExp elt [⟨tg, iter, [], 0⟩] scope gpos) 0 (.ref it) .none cenv)) [] s := by
  have loop := gen_loop hc T hpg hpe hco hafp step m 0 n s0 s H hmn hW hB
  show Seg _ X.A.in1.in1 _ _ n s0 _ ((compStart (.GeneratorExp elt [⟨tg, iter, [], 0⟩] scope gpos) 0 (.ref it) .none cenv).onRaise (leaving cenv)) [] s
  unfold compStart
  rw [Sem.onRaise_eq_wrap]
  show Seg _ X.A.in1.in1 _ _ n s0 _ ((ask >>= _).wrap _ _ _ _) [] s
  refine seg_bind_wrap (wpAny_askSetting ?_)
  have again := seg_again (n := n) (s₀ := s0) (c := .compStart (.GeneratorExp elt [⟨tg, iter, [], 0⟩] scope gpos) 0 (.ref it) .none cenv) (c' := genCode elt tg iter scope gpos (.ref it) cenv) rfl loop
  split
  · exact again
  · refine seg_bind_wrap (wpAny_rule ?_)
    show Seg _ X.A.in1.in1 _ _ n s0 _ ((standAt iter.pos >>= _).wrap _ _ _ _) [] s
    refine seg_bind_wrap (wpAny_standAt (seg_bind_wrap (T.self _ 0 s _ _ hB.2.1 ?_)))
    exact again
end
end VW
set_option Elab.async false
set_option linter.all false
set_option maxRecDepth 100000
set_option maxHeartbeats 2000000
namespace VW
open PySem PySem.Spec PyProof.Rows L2 GxR

theorem bare_set {s : Shared} {g : Nat} {gs x : GenState} (hgs : s.gens[g]? = some gs) (h : AllBare s.gens) (hx : x.bare = true) : AllBare (s.setGen g x).gens :=
  (GenOnlyQ.of (GenOnly.setGen s g x) (setGen_self hgs) hx).bare h
theorem gens_at {s : Shared} {g : Nat} {x : GenState} (h : g + 1 ≤ (s.setGen g x).gens.size) : ∃ gs, s.gens[g]? = some gs := by
  rw [GenW.setGen_size] at h
  exact ⟨s.gens[g], Array.getElem?_eq_getElem (by omega)⟩

section
variable {X : Cx} {pins : List (Addr × Obj)} {σ τ0 : L2.St} {cenv : Env} {c : Code} {fp : List Addr} {a : Addr} {tn : Nat → Heap → Prop} {st : Bool} {Q : VK} {W : Nat → Nat → Hp → Prop} {s3 : Shared} {H3 : Hp} {oa : Obj} {g : Nat}

/-- it sleeps, or has not yet begun: woken, it does as its protocol says -/
def Sleeps (X : Cx) (s3 : Shared) (H3 : Hp) (cenv : Env) (c : Code) (fp : List Addr) (a : Addr) (oa : Obj) (tn : Nat → Heap → Prop) (τ : L2.St) (st : Bool) (Q : VK) (W : Nat → Nat → Hp → Prop) (g n : Nat) (s : Shared) : Prop :=
  ∃ gs : GenState, s.gens[g]? = some gs ∧ ∀ s2 : Shared, s2.heap = s.heap → s2.os = s.os → AllBare s2.gens →
    gs.Goes (model X.prog X.w) X.A.in1.in1 (fun n s₀ r s₁ => r = .ok .next ∧ gEnd X s3 H3 cenv c fp a oa τ st Q n s₀ s₁) (gProto X s3 H3 cenv c fp a oa tn τ st Q W) n (.send .none) s2
/-- the answer of «all» or «any» -/
def Answered (X : Cx) (s3 : Shared) (H3 : Hp) (cenv : Env) (c : Code) (fp : List Addr) (a : Addr) (oa : Obj) (Q : VK) (r : Result) (s' : Shared) : Prop :=
  ∃ (b : Bool) (H' : Hp) (τ : L2.St), r = .ok (.ret (.bool b)) ∧ Inv (genX X s3 H3 cenv c fp) [(a, oa)] τ H' s' ∧ Q (.bl b) H'

theorem all_turns {k : Nat} (hr : Room (k + 1) X.A) (hga : ∀ h : Heap, h.get? a = some oa → h.IsGen a g) : ∀ (n : Nat) (s : Shared) (τ : L2.St) (H : Hp), Inv (genX X s3 H3 cenv c fp) [(a, oa)] τ H s →
    Sleeps X s3 H3 cenv c fp a oa tn τ0 false Q W g n s → codeAny (model X.prog X.w) X.A (.builtin "all.loop" ⟨[.ref a], []⟩) (Answered X s3 H3 cenv c fp a oa Q) s := by
  intro n
  induction n with
  | zero =>
    intro s τ H I hS
    obtain ⟨gs, hgs, hgo⟩ := hS
    have hgl : g + 1 ≤ s.gens.size := Nat.succ_le_of_lt (Array.getElem?_eq_some_iff.mp hgs).1
    have hoa : s.heap.get? a = some oa := (I.pin (a, oa) (List.mem_append_right _ List.mem_cons_self)).1
    refine codeAny_builtin PySem.F.entry_all_loop ?_
    rw [Around.under_plainId PySem.F.plain_all_loop _]
    show wpAny _ X.A.in1 (pyNext (.ref a) >>= _) _ _ s
    refine wpAny_bind (GenW.wpAny_gsz (n := g + 1) hgl (wpAny_pyNext_genexpQ (A := X.A.in1) hr.hd I.nolimit (by have := hr.dp; show X.A.depth < _; omega) (hga _ hoa) hgs (hgo _ rfl rfl (bare_set hgs I.bare rfl))
      (fun v s₁ gs' hb hv hsz => ?_) fun s₁ hp h' hk hsz => ?_))
    · obtain ⟨gs1, hg1⟩ := gens_at hsz
      obtain ⟨b, H1, rfl, ⟨τ1, I1⟩, hst, hgo1⟩ := hv
      refine wpAny_bind (wpAny_holding (wpAny_truthy_bool ?_))
      refine wpAny_bind (wpAny_letGo ?_)
      cases b with
      | true => exact (hgo1 (by decide) s₁ rfl rfl I1.bare).elim
      | false =>
        simp only [Bool.false_eq_true, if_false]
        exact wpAny_bind (wpAny_rule (wpAny_pure ⟨false, H1, τ1, rfl, Inv.regen I1 rfl rfl (bare_set hg1 I1.bare hb), hst rfl⟩))
    · obtain ⟨gs1, hg1⟩ := gens_at hsz
      obtain ⟨H1, I1, q⟩ := hp
      refine wpAny_bind (wpAny_rule (wpAny_pure ⟨true, H1, τ0, rfl, ?_, q⟩))
      exact Inv.regen (I1.kept (t' := s₁.toks) hk) rfl rfl (bare_set hg1 I1.bare rfl)
  | succ n ih =>
    intro s τ H I hS
    obtain ⟨gs, hgs, hgo⟩ := hS
    have hgl : g + 1 ≤ s.gens.size := Nat.succ_le_of_lt (Array.getElem?_eq_some_iff.mp hgs).1
    have hoa : s.heap.get? a = some oa := (I.pin (a, oa) (List.mem_append_right _ List.mem_cons_self)).1
    refine codeAny_builtin PySem.F.entry_all_loop ?_
    rw [Around.under_plainId PySem.F.plain_all_loop _]
    show wpAny _ X.A.in1 (pyNext (.ref a) >>= _) _ _ s
    refine wpAny_bind (GenW.wpAny_gsz (n := g + 1) hgl (wpAny_pyNext_genexpQ (A := X.A.in1) hr.hd I.nolimit (by have := hr.dp; show X.A.depth < _; omega) (hga _ hoa) hgs (hgo _ rfl rfl (bare_set hgs I.bare rfl))
      (fun v s₁ gs' hb hv hsz => ?_) fun s₁ hp h' hk hsz => ?_))
    · obtain ⟨gs1, hg1⟩ := gens_at hsz
      obtain ⟨b, H1, rfl, ⟨τ1, I1⟩, hst, hgo1⟩ := hv
      refine wpAny_bind (wpAny_holding (wpAny_truthy_bool ?_))
      refine wpAny_bind (wpAny_letGo ?_)
      have J1 := Inv.regen (s2 := s₁.setGen g gs') I1 rfl rfl (bare_set hg1 I1.bare hb)
      cases b with
      | true =>
        simp only [if_true]
        refine wpAny_pure ⟨plainId_quiet PySem.F.plain_all_loop _, ih _ τ1 H1 J1 ⟨gs', setGen_self hg1, fun s2 e1 e2 e3 => ?_⟩⟩
        exact hgo1 (by decide) s2 e1 e2 e3
      | false =>
        simp only [Bool.false_eq_true, if_false]
        exact wpAny_bind (wpAny_rule (wpAny_pure ⟨false, H1, τ1, rfl, J1, hst rfl⟩))
    · obtain ⟨gs1, hg1⟩ := gens_at hsz
      obtain ⟨H1, I1, q⟩ := hp
      refine wpAny_bind (wpAny_rule (wpAny_pure ⟨true, H1, τ0, rfl, ?_, q⟩))
      exact Inv.regen (I1.kept (t' := s₁.toks) hk) rfl rfl (bare_set hg1 I1.bare rfl)

theorem any_turns {k : Nat} (hr : Room (k + 1) X.A) (hga : ∀ h : Heap, h.get? a = some oa → h.IsGen a g) : ∀ (n : Nat) (s : Shared) (τ : L2.St) (H : Hp), Inv (genX X s3 H3 cenv c fp) [(a, oa)] τ H s →
    Sleeps X s3 H3 cenv c fp a oa tn τ0 true Q W g n s → codeAny (model X.prog X.w) X.A (.builtin "any.loop" ⟨[.ref a], []⟩) (Answered X s3 H3 cenv c fp a oa Q) s := by
  intro n
  induction n with
  | zero =>
    intro s τ H I hS
    obtain ⟨gs, hgs, hgo⟩ := hS
    have hgl : g + 1 ≤ s.gens.size := Nat.succ_le_of_lt (Array.getElem?_eq_some_iff.mp hgs).1
    have hoa : s.heap.get? a = some oa := (I.pin (a, oa) (List.mem_append_right _ List.mem_cons_self)).1
    refine codeAny_builtin PySem.F.entry_any_loop ?_
    rw [Around.under_plainId PySem.F.plain_any_loop _]
    show wpAny _ X.A.in1 (pyNext (.ref a) >>= _) _ _ s
    refine wpAny_bind (GenW.wpAny_gsz (n := g + 1) hgl (wpAny_pyNext_genexpQ (A := X.A.in1) hr.hd I.nolimit (by have := hr.dp; show X.A.depth < _; omega) (hga _ hoa) hgs (hgo _ rfl rfl (bare_set hgs I.bare rfl))
      (fun v s₁ gs' hb hv hsz => ?_) fun s₁ hp h' hk hsz => ?_))
    · obtain ⟨gs1, hg1⟩ := gens_at hsz
      obtain ⟨b, H1, rfl, ⟨τ1, I1⟩, hst, hgo1⟩ := hv
      refine wpAny_bind (wpAny_holding (wpAny_truthy_bool ?_))
      refine wpAny_bind (wpAny_letGo ?_)
      cases b with
      | false => exact (hgo1 (by decide) s₁ rfl rfl I1.bare).elim
      | true =>
        simp only [if_true]
        exact wpAny_bind (wpAny_rule (wpAny_pure ⟨true, H1, τ1, rfl, Inv.regen I1 rfl rfl (bare_set hg1 I1.bare hb), hst rfl⟩))
    · obtain ⟨gs1, hg1⟩ := gens_at hsz
      obtain ⟨H1, I1, q⟩ := hp
      refine wpAny_bind (wpAny_rule (wpAny_pure ⟨false, H1, τ0, rfl, ?_, q⟩))
      exact Inv.regen (I1.kept (t' := s₁.toks) hk) rfl rfl (bare_set hg1 I1.bare rfl)
  | succ n ih =>
    intro s τ H I hS
    obtain ⟨gs, hgs, hgo⟩ := hS
    have hgl : g + 1 ≤ s.gens.size := Nat.succ_le_of_lt (Array.getElem?_eq_some_iff.mp hgs).1
    have hoa : s.heap.get? a = some oa := (I.pin (a, oa) (List.mem_append_right _ List.mem_cons_self)).1
    refine codeAny_builtin PySem.F.entry_any_loop ?_
    rw [Around.under_plainId PySem.F.plain_any_loop _]
    show wpAny _ X.A.in1 (pyNext (.ref a) >>= _) _ _ s
    refine wpAny_bind (GenW.wpAny_gsz (n := g + 1) hgl (wpAny_pyNext_genexpQ (A := X.A.in1) hr.hd I.nolimit (by have := hr.dp; show X.A.depth < _; omega) (hga _ hoa) hgs (hgo _ rfl rfl (bare_set hgs I.bare rfl))
      (fun v s₁ gs' hb hv hsz => ?_) fun s₁ hp h' hk hsz => ?_))
    · obtain ⟨gs1, hg1⟩ := gens_at hsz
      obtain ⟨b, H1, rfl, ⟨τ1, I1⟩, hst, hgo1⟩ := hv
      refine wpAny_bind (wpAny_holding (wpAny_truthy_bool ?_))
      refine wpAny_bind (wpAny_letGo ?_)
      have J1 := Inv.regen (s2 := s₁.setGen g gs') I1 rfl rfl (bare_set hg1 I1.bare hb)
      cases b with
      | false =>
        simp only [Bool.false_eq_true, if_false]
        refine wpAny_pure ⟨plainId_quiet PySem.F.plain_any_loop _, ih _ τ1 H1 J1 ⟨gs', setGen_self hg1, fun s2 e1 e2 e3 => ?_⟩⟩
        exact hgo1 (by decide) s2 e1 e2 e3
      | true =>
        simp only [if_true]
        exact wpAny_bind (wpAny_rule (wpAny_pure ⟨true, H1, τ1, rfl, J1, hst rfl⟩))
    · obtain ⟨gs1, hg1⟩ := gens_at hsz
      obtain ⟨H1, I1, q⟩ := hp
      refine wpAny_bind (wpAny_rule (wpAny_pure ⟨false, H1, τ0, rfl, ?_, q⟩))
      exact Inv.regen (I1.kept (t' := s₁.toks) hk) rfl rfl (bare_set hg1 I1.bare rfl)
end
end VW
set_option Elab.async false
set_option linter.all false
set_option maxRecDepth 100000
set_option maxHeartbeats 2000000
namespace VW
open PySem PySem.Spec PyProof.Rows L2 GxR

/-- any | all of (elt for tg in iter): st the answer at which it stops; P the table of the def's code objects, which may grow -/
def tGenQ (st : Bool) (P : Addr) (wi : TI) (g : TG) (te : TE) (vs : List Nat) : TE := fun σ H Q => wi σ H fun J H1 => TabG H1 P ∧ ∀ H2, Tabbed P H1 H2 → ∃ W : Nat → Nat → Hp → Prop, (∃ m, W 0 m H2) ∧ GenStep J g te vs σ st Q W

/-- a generator expression's scope -/
structure GenOk (N : List Str) (sc scope : Scope) (own : List (Str × Nat)) : Prop where
  blk : BlkOk N sc scope own
  co : scope.isCoroutine = false
  cell : ∀ y ∈ scope.names, y.2 ≠ .cell
  dot : scope.names.lookup (".0" : Str) = some NameKind.local

section
variable {X : Cx} {pins : List (Addr × Obj)} {σ : L2.St} {H : Hp} {s : Shared} {elt tg iter : Expr} {scope : Scope} {own : List (Str × Nat)} {gpos : Pos} {wi : TI} {g : TG} {te : TE} {st : Bool} {Q : VK} {c P : Addr} {k : Nat}

/-- what stands when the generator has been made -/
def Made (X : Cx) (pins : List (Addr × Obj)) (σ : L2.St) (vs : List Nat) (st : Bool) (Q : VK) (v : Value) (s' : Shared) : Prop :=
  ∃ (s3 : Shared) (H3 : Hp) (cenv : Env) (cd : Code) (fp : List Addr) (a : Addr) (oa : Obj) (tn : Nat → Heap → Prop) (W : Nat → Nat → Hp → Prop) (g n : Nat),
    v = .ref a ∧ (∀ h : Heap, h.get? a = some oa → h.IsGen a g) ∧ Inv (genX X s3 H3 cenv cd fp) [(a, oa)] (wipe σ vs) H3 s' ∧ Sleeps X s3 H3 cenv cd fp a oa tn (wipe σ vs) st Q W g n s' ∧
      ∀ (τ : L2.St) (H' : Hp) (s'' : Shared), Inv (genX X s3 H3 cenv cd fp) [(a, oa)] τ H' s'' → Inv X pins σ H' s''

theorem gen_made (hr : Room k X.A) (hc : X.calm = true) (hN : X.N.Nodup) (TB : TabB X.base X.mg c P) (hcode : X.env.code = .ref c) (hi : PI X tg iter wi) (ok : GenOk X.N X.env.scope scope own)
    (hpg : ∀ (s3 : Shared) (H3 : Hp) (cl : List (Str × Addr)) (C : Addr) (code it : Value) (fp : List Addr), PG (genX X s3 H3 (genEnv scope cl C code builtinsNs X.env) (genCode elt tg iter scope gpos it (genEnv scope cl C code builtinsNs X.env)) fp) tg g)
    (hpe : ∀ (s3 : Shared) (H3 : Hp) (cl : List (Str × Addr)) (C : Addr) (code it : Value) (fp : List Addr), PE (genX X s3 H3 (genEnv scope cl C code builtinsNs X.env) (genCode elt tg iter scope gpos it (genEnv scope cl C code builtinsNs X.env)) fp) elt te)
    (hs : ∀ v, genFold iter X.env v = pure v) (I : Inv X pins σ H s) (h : tGenQ st P wi g te (own.map (·.2)) σ H Q) :
    wpAny (model X.prog X.w) X.A (eval (.GeneratorExp elt [⟨tg, iter, [], 0⟩] scope gpos) X.env) (Made X pins σ (own.map (·.2)) st Q) X.xe s := by
  have hfree : ∀ y ∈ scope.names, y.2 = .free → ∃ c, X.env.cells.lookup y.1 = some c := fun y hy e =>
    (ok.blk.free y hy e).elim (fun k => I.ok.has _ (.inl k)) fun k => I.ok.has _ (.inr k)
  refine wpAny_GeneratorExp_make ok.co (closure_ok hfree) ok.cell ok.dot ok.blk.kind hr.depth ?_ hs
  refine thn (hi.run pins s σ H _ I h) fun xv s1 hx => thn hx fun itv s2 h2 => ?_
  obtain ⟨it, fp, tn, J, H1, rfl, I2, T, tn2, f2, ⟨ps, hP, htr⟩, q⟩ := h2
  have hP2 : s2.heap.get? P = some { cls := .none, data := .fields ps } := I2.hok P _ hP
  have hPlt : P < s2.heap.objs.size := Heap.lt_size hP2
  have cd : PySem.W.CodeHd s2.heap c P := TB.code.keeps fun b u e => I2.bk b u e
  have nP : ∀ b, H1 b = none → b ≠ P := fun b e z => by rw [z, hP] at e; cases e
  have szfp : ∀ b ∈ fp, b < s2.heap.objs.size := fun b hb => by
    obtain ⟨o, e, _⟩ := T.obj _ _ tn2 b hb
    exact Heap.lt_size e
  -- whichever code object it has, from there on
  have cont : ∀ (code : Value) (h3 : Heap) (tk : Nat) (more : Array Value), Heap.ExtBut P s2.heap h3 → s2.heap.objs.size ≤ h3.objs.size → h3.get? P = some { cls := .none, data := .fields (ps ++ more) } → TriplesOk (ps ++ more).toList →
      wpAny (model X.prog X.w) X.A (builtinsFor X.env.globals X.env.builtins) (fun bi s₄ =>
        ∀ h', h'.Ns s₄.heap.objs.size (fun y => if y = ".0" then some (.ref it) else none) → Heap.SameBut s₄.heap.objs.size (s₄.heap.push { cls := .type "frame", data := .dict #[] }) h' →
          Made X pins σ (own.map (·.2)) st Q (.ref h'.objs.size) { s₄ with
            gens := s₄.gens.push (.fresh (.compStart (.GeneratorExp elt [⟨tg, iter, [], 0⟩] scope gpos) 0 (.ref it) .none (genEnv scope (cloFrom X.env.cells scope.names []) s₄.heap.objs.size code bi X.env))),
            toks := s₄.toks + 1 + 1 + 1,
            heap := h'.push { cls := .type "generator", data := .fields #[.int s₄.gens.size 0, .str "<genexpr>" (s₄.toks + 1), .str (X.env.qual ++ "<genexpr>") (s₄.toks + 1 + 1)] } }) X.xe { s2 with heap := h3, toks := tk } := by
    intro code h3 tk more hx hsz hP3 htr3
    have I3 : Inv X pins σ (upd H1 P (.tbl (ps ++ more))) { s2 with heap := h3, toks := tk } := inv_tab (g' := s2.gens) (d' := s2.drawn) I2 hP (fun b o hb e => hx b o hb e) hP3 I2.bare
    obtain ⟨bm, ob, e1, e2, e3, e4, e5, e6, e7, e8⟩ := TB.bm
    refine wpAny_builtinsFor (m := X.mg) (by rw [I3.ok.glob]; exact I3.mod.glob.keeps I3.bk) e1 e2 (I3.bk _ _ e5) e6 e7 e8 ?_
    intro h' hn' hs'
    have f3 : ∀ b ∈ fp, FpOk X pins (upd H1 P (.tbl (ps ++ more))) b ∧ b < h3.objs.size := fun b hb =>
      ⟨⟨by rw [upd_ne (nP b (f2 b hb).1)]; exact (f2 b hb).1, (f2 b hb).2⟩, Nat.lt_of_lt_of_le (szfp b hb) hsz⟩
    have kp : ∀ b o, h3.get? b = some o → h'.get? b = some o := fun b o e => (hs'.2 b (Nat.ne_of_lt (Heap.lt_size e))).trans (Heap.get?_push_of_some _ e)
    have I4 := gen_start (elt := elt) (tg := tg) (iter := iter) (gpos := gpos) (it := .ref it) (code := code) (m := fun y => if y = ".0" then some (.ref it) else none) I3 ok.blk ok.cell hN f3 hn' hs' rfl
    have hC : h'.objs.size = h3.objs.size + 1 := by rw [hs'.1, Heap.size_push]
    generalize hce : genEnv scope (cloFrom X.env.cells scope.names []) h3.objs.size code builtinsNs X.env = cenv at I4 ⊢
    have tn4 : tn 0 h' := T.keep _ _ _ tn2 fun b hb o e => kp b o (hx b o (nP b (f2 b hb).1) e)
    -- the generator's own object
    have I5 : Inv (genX X { s2 with heap := h3, toks := tk } (upd H1 P (.tbl (ps ++ more))) cenv (genCode elt tg iter scope gpos (.ref it) cenv) fp) [] (wipe σ (own.map (·.2))) (upd H1 P (.tbl (ps ++ more)))
        { s2 with
            gens := s2.gens.push (.fresh (.compStart (.GeneratorExp elt [⟨tg, iter, [], 0⟩] scope gpos) 0 (.ref it) .none cenv)), toks := tk + 1 + 1 + 1,
            heap := h'.push { cls := .type "generator", data := .fields #[.int s2.gens.size 0, .str "<genexpr>" (tk + 1), .str (X.env.qual ++ "<genexpr>") (tk + 1 + 1)] } } :=
      by
        have z := I4.call (h' := h'.push { cls := .type "generator", data := .fields #[.int s2.gens.size 0, .str "<genexpr>" (tk + 1), .str (X.env.qual ++ "<genexpr>") (tk + 1 + 1)] })
          (g' := s2.gens.push (.fresh (.compStart (.GeneratorExp elt [⟨tg, iter, [], 0⟩] scope gpos) 0 (.ref it) .none cenv))) (d' := s2.drawn) (t' := tk + 1 + 1 + 1) (ch := [])
          (Un.kept fun b o e => Heap.get?_push_of_some _ e) (I4.hok.kept fun b o e => Heap.get?_push_of_some _ e) (I4.bare.push rfl) fun _ z => nomatch z
        exact z
    obtain ⟨W, ⟨m0, w0⟩, step⟩ := q (upd H1 P (.tbl (ps ++ more))) ⟨⟨_, upd_same, htr3⟩, fun b hb => upd_ne hb⟩
    have hget : (h'.push { cls := .type "generator", data := .fields #[.int s2.gens.size 0, .str "<genexpr>" (tk + 1), .str (X.env.qual ++ "<genexpr>") (tk + 1 + 1)] }).get? h'.objs.size =
        some { cls := .type "generator", data := .fields #[.int s2.gens.size 0, .str "<genexpr>" (tk + 1), .str (X.env.qual ++ "<genexpr>") (tk + 1 + 1)] } := Heap.get?_push_size _ rfl
    have hHa : (upd H1 P (.tbl (ps ++ more))) h'.objs.size = none := I4.hok.fresh (Nat.le_refl _)
    have hcL : cenv.locals = h3.objs.size := by rw [← hce]; rfl
    have haL : h'.objs.size ≠ cenv.locals := by rw [hcL, hC]; exact Nat.succ_ne_self _
    have haf : h'.objs.size ∉ fp := fun z => by
      have z1 := (f3 _ z).2
      rw [hC] at z1
      exact absurd (Nat.lt_of_succ_lt z1) (Nat.lt_irrefl _)
    have haS : h'.objs.size ∉ frs X.stack := fun z => by
      obtain ⟨_, o, ho, _⟩ := I3.stack.mem z
      have z1 : h'.objs.size < h3.objs.size := Heap.lt_size ho
      rw [hC] at z1
      exact absurd (Nat.lt_of_succ_lt z1) (Nat.lt_irrefl _)
    have I6 := I5.pins_of (pins' := [(h'.objs.size, { cls := .type "generator", data := .fields #[.int s2.gens.size 0, .str "<genexpr>" (tk + 1), .str (X.env.qual ++ "<genexpr>") (tk + 1 + 1)] })]) fun p hp => by
      rw [List.mem_singleton.mp hp]
      exact ⟨hget, hHa, haL, haS, fun v z => by cases z⟩
    have fr6 : ∀ b ∈ fp, (upd H1 P (.tbl (ps ++ more))) b = none := fun b hb => (f3 b hb).1.1
    have tn6 : tn 0 (h'.push { cls := .type "generator", data := .fields #[.int s2.gens.size 0, .str "<genexpr>" (tk + 1), .str (X.env.qual ++ "<genexpr>") (tk + 1 + 1)] }) := T.keep _ _ _ tn4 fun b _ o e => Heap.get?_push_of_some _ e
    refine ⟨{ s2 with heap := h3, toks := tk }, upd H1 P (.tbl (ps ++ more)), cenv, genCode elt tg iter scope gpos (.ref it) cenv, fp, h'.objs.size, _, tn, W, s2.gens.size, m0 + 1, rfl, ?_, I6, ?_, ?_⟩
    · intro hh e
      exact ⟨_, _, _, e, rfl, rfl, rfl⟩
    · refine ⟨_, Array.getElem?_push_size .., fun s9 e1 e2 e3 => ⟨rfl, ?_⟩⟩
      subst hce
      exact gen_first hc T (hpg _ _ _ _ _ _ _) (hpe _ _ _ _ _ _ _) ok.co haf step m0 (m0 + 1) s9 s9 _ (Nat.lt_succ_self _) w0 ⟨Inv.regen I6 e1 e2 e3, by rw [e1]; exact tn6, fr6⟩
    · intro τ H' s'' J
      exact I3.call' (ch := fp) J.os J.base J.hok J.bare fun b hb => ⟨(f3 b hb).1.2.2.2.1, (f3 b hb).1.2.1, (f3 b hb).1.2.2.2.2.1, (f3 b hb).1.2.2.2.2.2⟩
  refine ⟨I2.nolimit, ?_⟩
  cases hf : codeAmong gpos ps.toList with
  | none =>
    refine wpAny_genexprCodeX hcode (cd.code hP2 htr) (cd.tab hP2) hf fun c' h' tk hx hge hlt hco' _ htab' _ => ?_
    obtain ⟨o1, vs, f1, tf, fl, tg', inF, tx, tt, op, _, _, _, _, _, _, _, _, _, htr', _⟩ := hco'
    exact cont _ h' tk _ hx (Nat.le_trans hge (Nat.le_of_lt hlt)) htab'.2 htr'
  | some cv =>
    refine wpAny_genexprCode_hit hcode (cd.code hP2 htr) hf ?_
    exact cont cv s2.heap s2.toks #[] (Heap.ExtBut.refl _ _) (Nat.le_refl _) (by rw [Array.append_empty]; exact hP2) (by rw [Array.append_empty]; exact htr)
end

section
variable {X : Cx} {elt tg iter : Expr} {scope : Scope} {own : List (Str × Nat)} {p pos gpos : Pos} {wi : TI} {g : TG} {te : TE} {c P : Addr} {k : Nat}
theorem pe_allG (hr : Room (k + 1) X.A) (hc : X.calm = true) (hN : X.N.Nodup) (hg : Gl X "all") (hm : X.mg "all" = none) (TB : TabB X.base X.mg c P) (hcode : X.env.code = .ref c) (hi : PI X tg iter wi) (ok : GenOk X.N X.env.scope scope own)
    (hpg : ∀ (s3 : Shared) (H3 : Hp) (cl : List (Str × Addr)) (C : Addr) (code it : Value) (fp : List Addr), PG (genX X s3 H3 (genEnv scope cl C code builtinsNs X.env) (genCode elt tg iter scope gpos it (genEnv scope cl C code builtinsNs X.env)) fp) tg g)
    (hpe : ∀ (s3 : Shared) (H3 : Hp) (cl : List (Str × Addr)) (C : Addr) (code it : Value) (fp : List Addr), PE (genX X s3 H3 (genEnv scope cl C code builtinsNs X.env) (genCode elt tg iter scope gpos it (genEnv scope cl C code builtinsNs X.env)) fp) elt te)
    (hs : ∀ v, genFold iter X.env v = pure v := by intro _; rfl)
    (he : starEach [.GeneratorExp elt [⟨tg, iter, [], 0⟩] scope gpos] X.env = (false, eval (.GeneratorExp elt [⟨tg, iter, [], 0⟩] scope gpos) X.env) :: starEach [] X.env := by rfl) :
    PE X (.Call (.Name "all" p) [.GeneratorExp elt [⟨tg, iter, [], 0⟩] scope gpos] [] pos) (tGenQ false P wi g te (own.map (·.2))) := by
  refine ⟨fun pins s σ H Q I h => ?_⟩
  refine wpAny_Call_Name_kw (ld_blt I hg hm boot_all ?_)
  refine PyProof.Rows.callWith_builtin1 ?_ he (by rfl)
  rw [he]
  show wpAny _ _ (spliced ((false, eval (.GeneratorExp elt [⟨tg, iter, [], 0⟩] scope gpos) X.env) :: backTo pos (starEach [] X.env))) _ _ s
  refine Calls.spliced_cons (thn (gen_made hr hc hN TB hcode hi ok hpg hpe hs I h) fun v s1 hv => Calls.spliced_nil ?_)
  obtain ⟨s3, H3, cenv, cd, fp, a, oa, tn, W, gn, n, rfl, hga, J, hS, back⟩ := hv
  have hoa : s1.heap.get? a = some oa := (J.pin (a, oa) (List.mem_append_right _ List.mem_cons_self)).1
  refine call_function_tree PySem.F.kind_all PySem.F.plain_all PySem.F.entry_all (PySem.F.args_all1 _) ?_
  unfold Builtin.«all»
  refine wpAny_bind (m := oneArg "all" _) (wpAny_pure ?_)
  refine wpAny_bind (wpAny_pyIter_gen (hga _ hoa) ?_)
  refine wpAny_pure ⟨plainId_quiet PySem.F.plain_all_loop _, codeAny_mono (all_turns hr hga n s1 _ _ J hS) fun r s' hr' => ?_⟩
  obtain ⟨b, H', τ, rfl, J', q⟩ := hr'
  exact ⟨.bl b, H', back _ _ _ J', rfl, q⟩
theorem pe_anyG (hr : Room (k + 1) X.A) (hc : X.calm = true) (hN : X.N.Nodup) (hg : Gl X "any") (hm : X.mg "any" = none) (TB : TabB X.base X.mg c P) (hcode : X.env.code = .ref c) (hi : PI X tg iter wi) (ok : GenOk X.N X.env.scope scope own)
    (hpg : ∀ (s3 : Shared) (H3 : Hp) (cl : List (Str × Addr)) (C : Addr) (code it : Value) (fp : List Addr), PG (genX X s3 H3 (genEnv scope cl C code builtinsNs X.env) (genCode elt tg iter scope gpos it (genEnv scope cl C code builtinsNs X.env)) fp) tg g)
    (hpe : ∀ (s3 : Shared) (H3 : Hp) (cl : List (Str × Addr)) (C : Addr) (code it : Value) (fp : List Addr), PE (genX X s3 H3 (genEnv scope cl C code builtinsNs X.env) (genCode elt tg iter scope gpos it (genEnv scope cl C code builtinsNs X.env)) fp) elt te)
    (hs : ∀ v, genFold iter X.env v = pure v := by intro _; rfl)
    (he : starEach [.GeneratorExp elt [⟨tg, iter, [], 0⟩] scope gpos] X.env = (false, eval (.GeneratorExp elt [⟨tg, iter, [], 0⟩] scope gpos) X.env) :: starEach [] X.env := by rfl) :
    PE X (.Call (.Name "any" p) [.GeneratorExp elt [⟨tg, iter, [], 0⟩] scope gpos] [] pos) (tGenQ true P wi g te (own.map (·.2))) := by
  refine ⟨fun pins s σ H Q I h => ?_⟩
  refine wpAny_Call_Name_kw (ld_blt I hg hm boot_any ?_)
  refine PyProof.Rows.callWith_builtin1 ?_ he (by rfl)
  rw [he]
  show wpAny _ _ (spliced ((false, eval (.GeneratorExp elt [⟨tg, iter, [], 0⟩] scope gpos) X.env) :: backTo pos (starEach [] X.env))) _ _ s
  refine Calls.spliced_cons (thn (gen_made hr hc hN TB hcode hi ok hpg hpe hs I h) fun v s1 hv => Calls.spliced_nil ?_)
  obtain ⟨s3, H3, cenv, cd, fp, a, oa, tn, W, gn, n, rfl, hga, J, hS, back⟩ := hv
  have hoa : s1.heap.get? a = some oa := (J.pin (a, oa) (List.mem_append_right _ List.mem_cons_self)).1
  refine call_function_tree PySem.F.kind_any PySem.F.plain_any PySem.F.entry_any (PySem.F.args_any1 _) ?_
  unfold Builtin.«any»
  refine wpAny_bind (m := oneArg "any" _) (wpAny_pure ?_)
  refine wpAny_bind (wpAny_pyIter_gen (hga _ hoa) ?_)
  refine wpAny_pure ⟨plainId_quiet PySem.F.plain_any_loop _, codeAny_mono (any_turns hr hga n s1 _ _ J hS) fun r s' hr' => ?_⟩
  obtain ⟨b, H', τ, rfl, J', q⟩ := hr'
  exact ⟨.bl b, H', back _ _ _ J', rfl, q⟩
end
end VW
set_option Elab.async false
set_option linter.all false
set_option maxRecDepth 100000
set_option maxHeartbeats 2000000
/-! The voices layer, part 2: an exception that leaves a list comprehension from its element. -/
namespace VW
open PySem PySem.Spec PyProof.Rows L2 GxR

/-- the frame that runs: a comprehension's block has none of its own -/
structure FrX (X : Cx) (fe : Env) (fo : List Env) (L : Addr) : Prop where
  stk : X.stack = fe :: fo
  f1 : fe.frame = some L
  f2 : X.env.frame = some L
/-- an exception in the air, seen from a block or from a def's body -/
def XF (X : Cx) (L : Addr) (E : XK) (u : Value) (s' : Shared) : Prop :=
  ∃ (a : Addr) (B : Heap) (sI : Shared) (pins : List (Addr × Obj)) (σ : L2.St) (H : Hp) (cls : Value) (d : Option Addr),
    u = .ref a ∧ Inv X pins σ H sI ∧ (∀ b o, sI.heap.get? b = some o → b ∉ frs X.stack → B.get? b = some o) ∧ sI.heap.UpToSlots s'.heap ∧
      Sky B X.stack a (Zc cls d) L s'.heap ∧ H a = none ∧ s'.os = sI.os ∧ AllBare s'.gens ∧ E cls d H
def TakesF (X : Cx) (L : Addr) (E : XK) : Prop := ∀ u s', XF X L E u s' → X.xe u s'
theorem TakesF.of {X : Cx} {E : XK} (t : Takes X (fun cls d _ H => E cls d H)) : TakesF X X.env.locals E := fun u s' x => t u s' x
/-- what a called def lets out is taken -/
theorem TakesF.passes {X : Cx} {L : Addr} {E : XK} (t : TakesF X L E) : Passes (CX X.prog X.w) X E := fun pins σ H s e s' I c => by
  obtain ⟨a, B, sI, pi, τ, H', cls, d, e1, I1, nb, up, sky, na, os, ag, w⟩ := XE.of_call (W := fun cls d _ H => E cls d H) I (fun _ _ _ z => z) c
  refine t e s' ⟨a, B, sI, pi, τ, H', cls, d, e1, I1, nb, up, ?_, na, os, ag, w⟩
  obtain ⟨a', B', H'', cls', d', e', fl, _⟩ := c
  rcases sky with z | z | z
  · exact .inl z
  · exact .inr (.inl z)
  · -- out of a call it flies
    exfalso
    rw [e1] at e'
    cases e'
    obtain ⟨_, _, _, oe, vs, T, oT, ts, h1, _, h2, h3, h4, h5, h6, h7, h8⟩ := z
    obtain ⟨_, _, _, oe', vs', T', oT', ts', g1, _, g2, g3, g4, g5, g6, g7, g8⟩ := fl
    rw [h1] at g1; cases g1
    rw [h2] at g2; cases g2
    rw [h3] at g3; cases g3
    rw [h6] at g6; cases g6
    rw [h7] at g7; cases g7
    rw [h8] at g8
    cases g8

/-- a block's context with a wish about exceptions -/
abbrev blkX (X : Cx) (s : Shared) (H : Hp) (scope : Scope) (cenv : Env) (fp : List Addr) (xe : Value → Shared → Prop) : Cx := { X.blk s H scope cenv fp with xe := xe }
theorem Inv.xe {X : Cx} {pins : List (Addr × Obj)} {σ : L2.St} {H : Hp} {s : Shared} {E : Value → Shared → Prop} (I : Inv X pins σ H s) : Inv { X with xe := E } pins σ H s := I.wish E
theorem Inv.unxe {X : Cx} {pins : List (Addr × Obj)} {σ : L2.St} {H : Hp} {s : Shared} {E : Value → Shared → Prop} (I : Inv { X with xe := E } pins σ H s) : Inv X pins σ H s := I.unwish

/-- noted by the frame that runs -/
theorem sky_note {M : Model} {A : Around} {E₁ : Value → Shared → Prop} {B : Heap} {fe : Env} {fo : List Env} {L a : Addr} {Z : Obj → Prop} {s : Shared} {Q : Unit → Shared → Prop} (hZ : HandSPX.Steady Z) (hfr : A.frames = some (fe :: fo)) (hf : fe.frame = some L)
    (x : Sky B (fe :: fo) a Z L s.heap) (hQ : ∀ h1, HandSPX.HeldZ B (fe :: fo) a Z L h1 → s.heap.UpToSlots h1 → Q () { s with heap := h1 }) : wpAny M A (noteFrame (.ref a) fe) Q E₁ s := by
  rcases x with ⟨hB, hn, hl, oe, vs, he, hz, hd, h1⟩ | fl | hh
  · exact HandSPX.look_newZ hZ hfr hl hf he hB hn hd h1 hz hQ
  · exact HandSPX.looks_onZ hZ hfr hf fl hQ
  · exact HandSPX.againZ hf hh.2.2.2 (hQ s.heap hh (Heap.UpToSlots.refl _))

section
variable {X : Cx} {pins : List (Addr × Obj)} {σ : L2.St} {H3 : Hp} {s3 : Shared} {scope : Scope} {ce : Env} {fp : List Addr} {L : Addr} {E : XK} {fe : Env} {fo : List Env}
/-- the wish inside of a block -/
def blkWish (X : Cx) (ce : Env) : Value → Shared → Prop := notedBy (model X.prog X.w) X.A ce fun e s' => CompFails (model X.prog X.w) X.A X.xe ce e s'
theorem takes_blk (I3 : Inv X pins σ H3 s3) (f : FrX X fe fo L) (hcf : ce.frame = X.env.frame) (hC : s3.heap.objs.size ≤ ce.locals) (hfp : ∀ b ∈ fp, FpOk X pins H3 b) (t : TakesF X L E) :
    TakesF (blkX X s3 H3 scope ce fp (blkWish X ce)) L E := by
  rintro u s' ⟨a, B, sI, pins', σ', H', cls, d, rfl, J, nb, up, sky, na, os, ag, hE⟩
  have hfr : X.A.frames = some (fe :: fo) := by rw [I3.ok.frames, f.stk]
  have sky' : Sky B (fe :: fo) a (Zc cls d) L s'.heap := by
    have z : Sky B X.stack a (Zc cls d) L s'.heap := sky
    rw [f.stk] at z
    exact z
  show wpAny (model X.prog X.w) X.A (noteFrame (.ref a) ce) _ _ s'
  rw [noteFrame_env _ (show ce.frame = fe.frame by rw [hcf, f.f2, f.f1])]
  refine sky_note Zc.steady hfr f.f1 sky' fun h1 held up1 => ?_
  obtain ⟨m, hn, _⟩ := J.loc
  have hn : sI.heap.Ns ce.locals m := hn
  have up01 : sI.heap.UpToSlots h1 := up.trans up1
  refine ⟨m, hn.upToSlots up01, fun h2 m2 hn2 hs2 => ?_⟩
  obtain ⟨b1, b0, f1, oe, vs, T, oT, ts, he, hz, hd, hv1, hnT, hTe, hT, hdT, hv3⟩ := held
  -- the block's names are not the exception's, nor its traceback's
  have hn1 : h1.Ns ce.locals m := hn.upToSlots up01
  have nC : ∀ {b : Addr} {o : Obj} {fs : Array Value}, h1.get? b = some o → o.data = .fields fs → b ≠ ce.locals := fun {b o fs} e q z => by
    obtain ⟨ob, es, ep, ho, hd', _⟩ := hn1
    rw [z, ho] at e
    cases e
    rw [hd'] at q
    cases q
  obtain ⟨B2, g1, g2⟩ := restrict B fun b => decide (b ≠ ce.locals)
  have gB : ∀ b, b ≠ ce.locals → B2.get? b = B.get? b := fun b hb => g1 b (decide_eq_true hb)
  have gC : B2.get? ce.locals = none := g2 _ (by simp)
  have B2n : ∀ b, B.get? b = none → B2.get? b = none := fun b e => by
    by_cases hb : b = ce.locals
    · rw [hb]; exact gC
    · rw [gB b hb]; exact e
  have held2 : HandSPX.HeldZ B2 (fe :: fo) a (Zc cls d) L h2 := by
    refine ⟨fun b o e => ?_, B2n a b0, ?_, ?_⟩
    · have hb : b ≠ ce.locals := fun z => by rw [z, gC] at e; cases e
      rw [gB b hb] at e
      exact (hs2.2 b hb).trans (b1 b o e)
    · refine funFrames_none (Heap.FunFrames.sameBut hs2 hn2 f1) fun b hb => ?_
      obtain ⟨z, _⟩ := f1.mem hb
      exact B2n b z
    · exact ⟨oe, vs, T, oT, ts, (hs2.2 a (nC he hd)).trans he, hz, hd, hv1, B2n T hnT, hTe, (hs2.2 T (nC hT hdT)).trans hT, hdT, hv3⟩
  unfold PySem.passOn
  refine wpAny_bind (wpAny_field ((hs2.2 a (nC he hd)).trans he) hd hv1 ?_)
  rw [if_neg (show ¬ ((Value.ref T == Value.none) = true) from by simp)]
  rw [show ce.frame = some L from hcf.trans f.f2]
  refine wpAny_bind (HandSPX.setFlight_onZ held2 fun h3 held3 up3 => wpAny_throw ?_)
  -- back in the context around
  obtain ⟨G, k1, k2⟩ := restrict sI.heap fun b => decide (b ≠ ce.locals)
  have kG : ∀ b, b ≠ ce.locals → G.get? b = sI.heap.get? b := fun b hb => k1 b (decide_eq_true hb)
  have kC : G.get? ce.locals = none := k2 _ (by simp)
  have old : ∀ {b : Addr} {o : Obj}, s3.heap.get? b = some o → b ≠ ce.locals := fun {b o} e => Nat.ne_of_lt (Nat.lt_of_lt_of_le (Heap.lt_size e) hC)
  have of_G : ∀ {b : Addr} {o : Obj}, G.get? b = some o → b ≠ ce.locals ∧ sI.heap.get? b = some o := fun {b o} e => by
    have hb : b ≠ ce.locals := fun z => by rw [z, kC] at e; cases e
    exact ⟨hb, by rw [← kG b hb]; exact e⟩
  have hHC : H' ce.locals = none := J.free
  have un : Un (frs X.stack) fp H3 H' s3.heap G := by
    have u0 : Un (frs X.stack) fp H3 H' s3.heap sI.heap := J.base
    refine ⟨fun b o e n hb hx => by rw [kG b (old e)]; exact u0.keep b o e n hb hx, fun b o e n hb hx => ?_, u0.free, fun b o e hx => ?_, u0.tups, u0.frzs, u0.tbls⟩
    · obtain ⟨sl, q⟩ := u0.slot b o e n hb hx
      exact ⟨sl, by rw [kG b (old e)]; exact q⟩
    · obtain ⟨o', q⟩ := u0.there b o e hx
      exact ⟨o', by rw [kG b (old e)]; exact q⟩
  have hokG : HOk X.prog X.w H' G := fun b o e => by
    have ne : ∀ c o', H' c = some o' → c ≠ ce.locals := fun c o' q z => by rw [z, hHC] at q; cases q
    refine (J.hok b o e).stay (fun c v hc q => ?_) (fun _ q => q) fun _ _ q => q
    rw [kG c (by rcases hc with z | z
                 · rw [z]; exact ne b _ e
                 · exact ne c _ z)]
    exact q
  have IG : Inv X pins σ H' { sI with heap := G } := I3.call' (s' := { sI with heap := G }) (ch := fp) J.os un hokG J.bare fun b hb => ⟨(hfp b hb).2.2.2.1, (hfp b hb).2.1, (hfp b hb).2.2.2.2.1, (hfp b hb).2.2.2.2.2⟩
  refine t (.ref a) _ ⟨a, B2, { sI with heap := G }, pins, σ, H', cls, d, rfl, IG, fun b o e hb => ?_, fun b o e hnf => ?_, ?_, na, os, ag, hE⟩
  · obtain ⟨hbC, e'⟩ := of_G e
    rw [gB b hbC]
    exact nb b o e' hb
  · obtain ⟨hbC, e'⟩ := of_G e
    obtain ⟨sl, q⟩ := up01 b o e' hnf
    obtain ⟨sl2, q2⟩ := up3 b _ ((hs2.2 b hbC).trans q) hnf
    exact ⟨sl2, q2⟩
  · rw [f.stk]
    exact .inr (.inr held3)
end
end VW
set_option Elab.async false
set_option linter.all false
set_option maxRecDepth 100000
set_option maxHeartbeats 2000000
namespace VW
open PySem PySem.Spec PyProof.Rows L2 GxR

section
variable {X : Cx} {L : Addr} {E : XK} {fe : Env} {fo : List Env}
theorem lcX_core {pins : List (Addr × Obj)} {s : Shared} {σ : L2.St} {H : Hp} {Q : VK} {elt tg iter : Expr} {ifs : List Expr} {scope : Scope} {own : List (Str × Nat)} {pos pos' : Pos} {wi : TI} {g : TG} {tt : TT} {te : TE} {use : Option (Value → Sem Unit)} {Qf : Value → Shared → Prop}
    (hc : X.calm = true) (hN : X.N.Nodup) (f : FrX X fe fo L) (tk : TakesF X L E) (I : Inv X pins σ H s) (hi : PI X tg iter wi) (ok : BlkOk X.N X.env.scope scope own)
    (hg : ∀ (s : Shared) (H : Hp) (C : Addr) (cl : List (Str × Addr)) (fp : List Addr) (xe : Value → Shared → Prop), PG (blkX X s H scope (compEnvC scope cl C X.env) fp xe) tg g)
    (ht : ∀ (s : Shared) (H : Hp) (C : Addr) (cl : List (Str × Addr)) (fp : List Addr) (xe : Value → Shared → Prop), TakesF (blkX X s H scope (compEnvC scope cl C X.env) fp xe) L E → PTs (blkX X s H scope (compEnvC scope cl C X.env) fp xe) ifs tt)
    (he : ∀ (s : Shared) (H : Hp) (C : Addr) (cl : List (Str × Addr)) (fp : List Addr) (xe : Value → Shared → Prop), TakesF (blkX X s H scope (compEnvC scope cl C X.env) fp xe) L E → PE (blkX X s H scope (compEnvC scope cl C X.env) fp xe) elt te)
    (hs : ∀ x, foldedSetIterable iter X.env x = pure x) (h : tLc wi g tt te (own.map (·.2)) σ H Q)
    (hRR : ∀ (D : Addr) (ce : Env) (s' : Shared) (m : Str → Option Value) (H' : Hp), Inv X pins σ H' s' → Q (.ref D) H' → s'.heap.Ns ce.locals m → FpOk X pins H' ce.locals → compEnds (model X.prog X.w) X.A X.xe use Qf (.ref D) ce (.ok .next) s') :
    wpAny (model X.prog X.w) X.A (comprehension (.ListComp elt [⟨tg, iter, ifs, 0⟩] scope pos) scope X.env pos' (newList []) false (eval iter X.env) use) Qf X.xe s := by
  have hfree : ∀ y ∈ scope.names, y.2 = .free → ∃ c, X.env.cells.lookup y.1 = some c := fun y hy e =>
    (ok.free y hy e).elim (fun k => I.ok.has _ (.inl k)) fun k => I.ok.has _ (.inr k)
  refine comprehension_at (use := use) rfl hs (closure_ok hfree) ok.kind (fun y hy e => by rw [ok.uniq y hy, e]) (wpAny_mono (hi.run pins s σ H _ I h) (fun xv s1 hx => wpAny_mono hx (fun itv s2 h2 => ?_) fun _ _ z => z) fun _ _ z => z)
  obtain ⟨it, fp, tn, J, H2, rfl, I2, T, tn2, f2, q⟩ := h2
  refine wpAny_newObj_type (newEnv_comp ?_) (by show 0 ≤ sizeLine; decide)
  generalize hD : s2.heap.objs.size = D
  obtain ⟨W, ⟨m0, w0⟩, turn⟩ := q D (I2.hok.fresh (Nat.le_of_eq hD))
  -- the new list is laid
  generalize hs3 : ({ s2 with heap := s2.heap.push { cls := .type "list", data := .seq ([] : List Value).toArray } } : Shared) = s3
  have h3 : s3.heap = s2.heap.push { cls := .type "list", data := .seq ([] : List Value).toArray } := by rw [← hs3]
  have I3 : Inv X pins σ (upd H2 D (.lst [])) s3 := by
    rw [← hs3]
    refine I2.laid (t' := s2.toks) (fun b o e => Heap.get?_push_of_some _ e) (Nat.le_of_eq hD) ⟨Nat.zero_le _, [], 0, .nil, ?_⟩
    rw [← hD]
    exact Heap.get?_push_size _ rfl
  have f3 : ∀ b ∈ fp, FpOk X pins (upd H2 D (.lst [])) b ∧ b < s3.heap.objs.size := fun b hb => by
    obtain ⟨o, e, _⟩ := T.obj _ _ tn2 b hb
    have hlt := Heap.lt_size e
    refine ⟨⟨?_, (f2 b hb).2⟩, by rw [h3, Heap.size_push]; exact Nat.lt_succ_of_lt hlt⟩
    rw [upd_ne (by rw [← hD]; exact Nat.ne_of_lt hlt)]
    exact (f2 b hb).1
  have tn3 : tn 0 s3.heap := T.keep _ _ _ tn2 fun b _ o e => by rw [h3]; exact Heap.get?_push_of_some _ e
  have I4 := block_start I3 ok hN f3
  show codeAny _ _ (.compStart (.ListComp elt [⟨tg, iter, ifs, 0⟩] scope pos) 0 (.ref it) (.ref D) (compEnvC scope (cellsFrom (s3.heap.objs.size + 1) scope.names (cloFrom X.env.cells scope.names [])) s3.heap.objs.size X.env))
    (compEnds (model X.prog X.w) X.A X.xe use Qf (.ref D) (compEnvC scope (cellsFrom (s3.heap.objs.size + 1) scope.names (cloFrom X.env.cells scope.names [])) s3.heap.objs.size X.env)) { s3 with heap := pushCells (s3.heap.push { cls := .type "dict", data := .dict #[] }) scope.names }
  have pg0 := fun xe => hg s3 (upd H2 D (.lst [])) s3.heap.objs.size (cellsFrom (s3.heap.objs.size + 1) scope.names (cloFrom X.env.cells scope.names [])) fp xe
  have pt0 := fun xe => ht s3 (upd H2 D (.lst [])) s3.heap.objs.size (cellsFrom (s3.heap.objs.size + 1) scope.names (cloFrom X.env.cells scope.names [])) fp xe
  have pe0 := fun xe => he s3 (upd H2 D (.lst [])) s3.heap.objs.size (cellsFrom (s3.heap.objs.size + 1) scope.names (cloFrom X.env.cells scope.names [])) fp xe
  have cL0 : (compEnvC scope (cellsFrom (s3.heap.objs.size + 1) scope.names (cloFrom X.env.cells scope.names [])) s3.heap.objs.size X.env).locals = s3.heap.objs.size := rfl
  have cF0 : (compEnvC scope (cellsFrom (s3.heap.objs.size + 1) scope.names (cloFrom X.env.cells scope.names [])) s3.heap.objs.size X.env).frame = X.env.frame := rfl
  generalize compEnvC scope (cellsFrom (s3.heap.objs.size + 1) scope.names (cloFrom X.env.cells scope.names [])) s3.heap.objs.size X.env = ce at I4 pg0 pt0 pe0 cL0 cF0 ⊢
  generalize hH3 : upd H2 D (.lst []) = H3 at I3 I4 pg0 pt0 pe0 w0 f3
  have tkB := takes_blk (scope := scope) (ce := ce) I3 f cF0 (Nat.le_of_eq cL0.symm) (fun b hb => (f3 b hb).1) tk
  have pg := pg0 (blkWish X ce)
  have pt := pt0 (blkWish X ce) tkB
  have pe := pe0 (blkWish X ce) tkB
  have I4 : Inv (blkX X s3 H3 scope ce fp (blkWish X ce)) [] (wipe σ (own.map (·.2))) H3 { s3 with heap := pushCells (s3.heap.push { cls := .type "dict", data := .dict #[] }) scope.names } := VW.Inv.xe I4
  generalize hs4 : ({ s3 with heap := pushCells (s3.heap.push { cls := .type "dict", data := .dict #[] }) scope.names } : Shared) = s4 at I4 ⊢
  have tn4 : tn 0 s4.heap := T.keep _ _ _ tn3 fun b _ o e => by rw [← hs4]; exact pushCells_keeps _ _ _ _ (Heap.get?_push_of_some _ e)
  have stat : ∀ {σ' : L2.St} {H' : Hp} {s' : Shared}, Inv (blkX X s3 H3 scope ce fp (blkWish X ce)) [] σ' H' s' → (∀ b ∈ fp, H' b = none) → ∀ b ∈ fp, FpOk (blkX X s3 H3 scope ce fp (blkWish X ce)) [] H' b := fun {σ' H' s'} I' hn b hb =>
    ⟨hn b hb, (I'.ok.exf b hb).1, I'.ok.exfs b hb, .inl hb, fun x c e => (I'.ok.exf b hb).2 x c e, fun p hp => absurd (show p ∈ ([] : List (Addr × Obj)) ++ [] from hp) (by simp)⟩
  -- what the loop's code owes where it raises
  have fails : ∀ e s', blkWish X ce e s' → notedBy (model X.prog X.w) X.A ce (fun e s' => compEnds (model X.prog X.w) X.A X.xe use Qf (.ref D) ce (.error e) s') e s' := fun e s' z => by
    cases use <;> exact z
  have loop : codeAny (model X.prog X.w) X.A (.compLoop (.ListComp elt [⟨tg, iter, ifs, 0⟩] scope pos) 0 (.ref it) (.ref D) ce) (compEnds (model X.prog X.w) X.A X.xe use Qf (.ref D) ce) s4 := by
    refine compLoop_any (fun n s' => ∃ i H', Inv (blkX X s3 H3 scope ce fp (blkWish X ce)) [] (wipe σ (own.map (·.2))) H' s' ∧ tn i s'.heap ∧ (∀ b ∈ fp, H' b = none) ∧ W i n H') ?_ m0 ⟨0, H3, I4, tn4, fun b hb => (f3 b hb).1.1, w0⟩
    rintro n s5 ⟨i, H5, I5, tn5, n5, w5⟩
    rcases turn i n H5 w5 with ⟨stop, qq⟩ | ⟨go, Nx, hNx, step⟩
    · have td := T.done (blkX X s3 H3 scope ce fp (blkWish X ce)) rfl rfl rfl hc i [] s5 _ H5 (fun _ _ => False) I5 (stat I5 n5) tn5 stop
      refine wpAny_mono td (fun r s6 hr => ?_) fun _ _ z => z.elim
      obtain ⟨rfl, I6⟩ := hr
      have I7 : Inv X pins σ H5 s6 := I3.call' (ch := fp) I6.os I6.base I6.hok I6.bare fun b hb => ⟨(f3 b hb).1.2.2.2.1, (f3 b hb).1.2.1, (f3 b hb).1.2.2.2.2.1, (f3 b hb).1.2.2.2.2.2⟩
      obtain ⟨m, hn, _⟩ := I6.loc
      have nC : H5 ce.locals = none := I6.free
      exact hRR D ce s6 m H5 I7 qq hn (by rw [cL0] at nC ⊢; exact I3.fpOk (Nat.le_refl _) nC)
    · have ti := T.item (blkX X s3 H3 scope ce fp (blkWish X ce)) rfl rfl rfl hc i [] s5 _ H5 (fun _ _ => False) I5 (stat I5 n5) tn5 go
      refine wpAny_mono ti (fun r s6 hr => ?_) fun _ _ z => z.elim
      obtain ⟨u, rfl, h6⟩ := hr
      refine wpAny_mono h6 (fun _ s7 h7 => ?_) fun _ _ z => z.elim
      obtain ⟨x, H7, I7, r7, y7, tn7, n7⟩ := h7
      have I7' := I7.pinned (stat I7 n7) (T.obj _ _ tn7)
      refine wpAny_mono (pg.run _ s7 _ H7 x u _ I7' r7 (step x H7 y7)) (fun _ s8 h8 => ?_) fails
      obtain ⟨σ8, H8, I8, hw8, q8⟩ := h8
      refine wpAny_mono (pt.run _ s8 σ8 H8 _ I8 q8) (fun b s9 h9 => ?_) fails
      obtain ⟨H9, I9, q9⟩ := h9
      have fin : ∀ {s' : Shared} {H' : Hp}, Inv (blkX X s3 H3 scope ce fp (blkWish X ce)) ([] ++ pinsAt fp s7.heap) σ8 H' s' → Nx H' → ∃ m, m < n ∧ ∃ i H', Inv (blkX X s3 H3 scope ce fp (blkWish X ce)) [] (wipe σ (own.map (·.2))) H' s' ∧ tn i s'.heap ∧ (∀ b ∈ fp, H' b = none) ∧ W i m H' := fun {s' H'} I' nx => by
        obtain ⟨m', hm, w'⟩ := hNx H' nx
        have pin' : ∀ c ∈ fp, ∀ o, s7.heap.get? c = some o → s'.heap.get? c = some o ∧ H' c = none := fun c hc o e =>
          let z := I'.pin (c, o) (List.mem_append_right _ (List.mem_append_right _ (mem_pinsAt hc e)))
          ⟨z.1, z.2.1⟩
        have hl : (wipe σ (own.map (·.2))).length = σ8.length := by rw [← hw8, wipe_length]
        refine ⟨m', hm, i + 1, H', (I'.unpinned (pins := [])).weak hl (fun j v e => by rw [← hw8] at e; exact (wipe_some e).1), T.keep _ _ _ tn7 fun c hc o e => (pin' c hc o e).1, fun c hc => ?_, w'⟩
        obtain ⟨o, e, _⟩ := T.obj _ _ tn7 c hc
        exact (pin' c hc o e).2
      cases b with
      | false =>
        simp only [Bool.false_eq_true, if_false] at q9 ⊢
        exact fin I9 q9
      | true =>
        simp only [if_true] at q9 ⊢
        refine wpAny_mono (pe.run _ s9 σ8 H9 _ I9 q9) (fun z s10 h10 => ?_) fails
        obtain ⟨yv, H10, I10, r10, acc, hD10, hz10, nx⟩ := h10
        exact app_ok (X := blkX X s3 H3 scope ce fp (blkWish X ce)) I10 hD10 hz10 r10 fun s11 I11 => fin I11 nx
  exact codeAny_compStart_list loop (T.self X.A 0 _ _ _ tn4 loop)

/-- [elt for tg in iter if ..] as a value; the element, or a test, may raise -/
theorem pe_lcX {elt tg iter : Expr} {ifs : List Expr} {scope : Scope} {own : List (Str × Nat)} {pos : Pos} {wi : TI} {g : TG} {tt : TT} {te : TE} (hc : X.calm = true) (hN : X.N.Nodup) (f : FrX X fe fo L) (tk : TakesF X L E) (hi : PI X tg iter wi) (ok : BlkOk X.N X.env.scope scope own)
    (hg : ∀ (s : Shared) (H : Hp) (C : Addr) (cl : List (Str × Addr)) (fp : List Addr) (xe : Value → Shared → Prop), PG (blkX X s H scope (compEnvC scope cl C X.env) fp xe) tg g)
    (ht : ∀ (s : Shared) (H : Hp) (C : Addr) (cl : List (Str × Addr)) (fp : List Addr) (xe : Value → Shared → Prop), TakesF (blkX X s H scope (compEnvC scope cl C X.env) fp xe) L E → PTs (blkX X s H scope (compEnvC scope cl C X.env) fp xe) ifs tt)
    (he : ∀ (s : Shared) (H : Hp) (C : Addr) (cl : List (Str × Addr)) (fp : List Addr) (xe : Value → Shared → Prop), TakesF (blkX X s H scope (compEnvC scope cl C X.env) fp xe) L E → PE (blkX X s H scope (compEnvC scope cl C X.env) fp xe) elt te)
    (hs : ∀ x, foldedSetIterable iter X.env x = pure x := by intro _; rfl) : PE X (.ListComp elt [⟨tg, iter, ifs, 0⟩] scope pos) (tLc wi g tt te (own.map (·.2))) := by
  refine ⟨fun pins s σ H Q I h => ?_⟩
  rw [eval_ListComp]
  refine lcX_core hc hN f tk I hi ok hg ht he hs h fun D ce s' m H' I' q hn fo => ⟨m, hn, fun h2 sb => ?_⟩
  obtain ⟨f0, f1, f2, f3, f4, f5⟩ := fo
  exact ⟨.ref D, H', I'.turned (t' := s'.toks) (fun b o hb e => (sb.2 b hb).trans e) f0 f1 f3 f4 f5, rfl, q⟩
/-- name = [..] on one line, the name a local -/
theorem ps_setLcX {i : Nat} {y : Str} {py : Pos} {elt tg iter : Expr} {ifs : List Expr} {scope : Scope} {own : List (Str × Nat)} {pos spos : Pos} {wi : TI} {g : TG} {tt : TT} {te : TE} (hc : X.calm = true) (hN : X.N.Nodup) (f : FrX X fe fo L) (tk : TakesF X L E)
    (hy : X.N[i]? = some y) (hyl : X.env.scope.names.lookup y = some .local)
    (hsw : swapsWith (.ListComp elt [⟨tg, iter, ifs, 0⟩] scope pos) (some (.Name y py)) spos.line X.env = pure true) (hi : PI X tg iter wi) (ok : BlkOk X.N X.env.scope scope own)
    (hg : ∀ (s : Shared) (H : Hp) (C : Addr) (cl : List (Str × Addr)) (fp : List Addr) (xe : Value → Shared → Prop), PG (blkX X s H scope (compEnvC scope cl C X.env) fp xe) tg g)
    (ht : ∀ (s : Shared) (H : Hp) (C : Addr) (cl : List (Str × Addr)) (fp : List Addr) (xe : Value → Shared → Prop), TakesF (blkX X s H scope (compEnvC scope cl C X.env) fp xe) L E → PTs (blkX X s H scope (compEnvC scope cl C X.env) fp xe) ifs tt)
    (he : ∀ (s : Shared) (H : Hp) (C : Addr) (cl : List (Str × Addr)) (fp : List Addr) (xe : Value → Shared → Prop), TakesF (blkX X s H scope (compEnvC scope cl C X.env) fp xe) L E → PE (blkX X s H scope (compEnvC scope cl C X.env) fp xe) elt te)
    (hs : ∀ x, foldedSetIterable iter X.env x = pure x := by intro _; rfl) : PS X (.Assign [.Name y py] (.ListComp elt [⟨tg, iter, ifs, 0⟩] scope pos) spos) (tAsg (tLc wi g tt te (own.map (·.2))) (gName i)) := by
  refine ⟨fun pins s σ H D I h => ?_⟩
  rw [exec_Assign_Name_used _ _ _ _ hsw]
  refine wpAny_bind (wpAny_standAt (wpAny_bind ?_))
  show wpAny _ X.A (do let _ ← comprehension (.ListComp elt [⟨tg, iter, ifs, 0⟩] scope pos) scope X.env (firstIterPos [⟨tg, iter, ifs, 0⟩] pos) (newList []) false (eval iter X.env) (some (assign (.Name y py) X.env))) _ _ s
  have h : tLc wi g tt te (own.map (·.2)) σ H (fun x H1 => gName i x σ H1 D.nx) := h
  refine wpAny_bind (wpAny_mono (lcX_core (Qf := fun _ s' => SP X pins D .next s') hc hN f tk I hi ok hg ht he hs h fun A ce s' m H' I' q hn fo => ?_) (fun _ s' hq => wpAny_pure (wpAny_pure hq)) fun _ _ z => z)
  show wpAny _ _ (assign (.Name y py) X.env (.ref A)) _ _ _
  refine wpAny_assign_Name (store_ok2 (v := V.ref A) I' hN hy (.inl hyl) rfl (fun s2 I2 ⟨a, sb, ha⟩ => ?_) (.inr hyl))
  obtain ⟨f0, f1, f2, f3, f4, f5⟩ := fo
  have haC : ce.locals ≠ a := by
    rcases ha with z | z
    · rw [z]; exact f1
    · exact fun e => f4 y a z e.symm
  refine ⟨m, hn.sameBut sb haC, fun h3 sb3 => ?_⟩
  exact ⟨_, H', I2.turned (t' := s2.toks) (fun b o hb e => (sb3.2 b hb).trans e) f0 f1 f3 f4 f5, q⟩
end
end VW
set_option Elab.async false
set_option linter.all false
set_option maxRecDepth 100000
set_option maxHeartbeats 2000000
/-! The voices layer, part 3: data in the heap, what only grows, defs with their code. -/
namespace VW
open PySem PySem.Spec PyProof.Rows L2 GxR

/-! ### the heap grows: objects are kept, tables of code stay tables of code -/
def Ext (H H' : Hp) : Prop := ∀ b o, H b = some o → H' b = some o ∨ ∃ ps ps', o = .tbl ps ∧ TriplesOk ps.toList ∧ H' b = some (.tbl ps') ∧ TriplesOk ps'.toList
section
variable {H H1 H2 : Hp} {a p : Addr} {o : HO} {xs : List V}
theorem Ext.refl (H : Hp) : Ext H H := fun _ _ e => .inl e
theorem Ext.trans (x : Ext H H1) (y : Ext H1 H2) : Ext H H2 := fun b o e => by
  rcases x b o e with e1 | ⟨ps, ps1, rfl, t0, e1, t1⟩
  · exact y b o e1
  · rcases y b _ e1 with e2 | ⟨q, q2, eq, _, e2, t2⟩
    · exact .inr ⟨ps, ps1, rfl, t0, e2, t1⟩
    · exact .inr ⟨ps, q2, rfl, t0, e2, t2⟩
theorem Ext.keep (x : Ext H H1) (e : H a = some o) (h : ∀ ps, o ≠ .tbl ps) : H1 a = some o := by
  rcases x a o e with e1 | ⟨ps, _, z, _⟩
  · exact e1
  · exact absurd z (h ps)
theorem Ext.lst (x : Ext H H1) (e : H a = some (.lst xs)) : H1 a = some (.lst xs) := x.keep e fun _ z => by cases z
theorem Ext.tup (x : Ext H H1) (e : H a = some (.tup xs)) : H1 a = some (.tup xs) := x.keep e fun _ z => by cases z
theorem Ext.new (e : H p = none) : Ext H (upd H p o) := fun b u q => .inl (by rw [upd_ne (ne_of_none q e)]; exact q)
theorem Ext.upd (x : Ext H H1) (e : H p = none) : Ext H (upd H1 p o) := fun b u q => by
  rw [upd_ne (ne_of_none q e)]
  exact x b u q
theorem Ext.free (x : Ext H H1) (e : H1 p = none) : H p = none := by
  cases q : H p with
  | none => rfl
  | some u =>
    rcases x p u q with z | ⟨_, _, _, _, z, _⟩ <;> rw [e] at z <;> cases z
theorem Ext.tab (x : Ext H H1) (t : TabG H a) : TabG H1 a := by
  obtain ⟨ps, e, tr⟩ := t
  rcases x a _ e with e1 | ⟨_, ps1, _, _, e1, t1⟩
  · exact ⟨ps, e1, tr⟩
  · exact ⟨ps1, e1, t1⟩
theorem Ext.tabbed (t : TabG H a) (y : Tabbed a H H1) : Ext H H1 := fun b o e => by
  by_cases hb : b = a
  · obtain ⟨ps, e1, tr⟩ := t
    obtain ⟨⟨ps', e2, tr'⟩, _⟩ := y
    rw [hb] at e ⊢
    rw [e1] at e
    cases e
    exact .inr ⟨ps, ps', rfl, tr, e2, tr'⟩
  · exact .inl (by rw [y.2 b hb]; exact e)
/-- the tables of the defs that hold generator expressions -/
def Tabs (Ps : List Addr) (H : Hp) : Prop := ∀ P ∈ Ps, TabG H P
theorem Ext.tabs {Ps : List Addr} (x : Ext H H1) (t : Tabs Ps H) : Tabs Ps H1 := fun P hP => x.tab (t P hP)
theorem Ext.rd (x : Ext H H1) (h : ∀ ps, o ≠ .tbl ps) (r : Rd H a o) : Rd H1 a o := by
  rcases r with e | ⟨ob, e⟩
  · exact .inl (x.keep e h)
  · exact .inr ⟨ob, x.keep e fun _ z => by cases z⟩
theorem Ext.sqL {K : PySem.W.Frag} (x : Ext H H1) (h : SqL K H a xs) : SqL K H1 a xs := by
  rcases h with r | r
  · exact .inl (x.rd (fun _ z => by cases z) r)
  · exact .inr r
theorem Ext.sqT {K : PySem.W.Frag} (x : Ext H H1) (h : SqT K H a xs) : SqT K H1 a xs := by
  rcases h with r | r
  · exact .inl (x.rd (fun _ z => by cases z) r)
  · exact .inr r
end

/-! ### data -/
inductive D where
  | non | bl (b : Bool) | int (i : Int) | str (x : Str) | tup (l : List D) | lst (l : List D) | dic
mutual
inductive At (K : PySem.W.Frag) (H : Hp) : V → D → Prop
  | non : At K H .non .non
  | bl (b : Bool) : At K H (.bl b) (.bl b)
  | int (i : Int) : At K H (.int i) (.int i)
  | str (x : Str) : At K H (.str x) (.str x)
  | lst {a : Addr} {xs : List V} {ds : List D} : SqL K H a xs → AtAll K H xs ds → At K H (.ref a) (.lst ds)
  | tup {a : Addr} {xs : List V} {ds : List D} : SqT K H a xs → AtAll K H xs ds → At K H (.ref a) (.tup ds)
  | dic {a : Addr} {kvs : List (Key × V)} : H a = some (.dK kvs) → At K H (.ref a) .dic
inductive AtAll (K : PySem.W.Frag) (H : Hp) : List V → List D → Prop
  | nil : AtAll K H [] []
  | cons {v : V} {vs : List V} {d : D} {ds : List D} : At K H v d → AtAll K H vs ds → AtAll K H (v :: vs) (d :: ds)
end
section
variable {K : PySem.W.Frag} {H H1 : Hp}
mutual
theorem At.ext (x : Ext H H1) : ∀ (d : D) (v : V), At K H v d → At K H1 v d
  | .non, _, h => by cases h; exact .non
  | .bl b, _, h => by cases h; exact .bl b
  | .int i, _, h => by cases h; exact .int i
  | .str y, _, h => by cases h; exact .str y
  | .lst ds, _, h => by
    cases h with
    | lst hs ha => exact .lst (x.sqL hs) (AtAll.ext x ds _ ha)
  | .tup ds, _, h => by
    cases h with
    | tup hs ha => exact .tup (x.sqT hs) (AtAll.ext x ds _ ha)
  | .dic, _, h => by
    cases h with
    | dic e => exact .dic (x.keep e fun _ z => by cases z)
theorem AtAll.ext (x : Ext H H1) : ∀ (ds : List D) (vs : List V), AtAll K H vs ds → AtAll K H1 vs ds
  | [], _, h => by cases h; exact .nil
  | d :: ds, _, h => by
    cases h with
    | cons h1 h2 => exact .cons (At.ext x d _ h1) (AtAll.ext x ds _ h2)
end
theorem AtAll.length : ∀ {vs : List V} {ds : List D}, AtAll K H vs ds → vs.length = ds.length
  | _, _, .nil => rfl
  | _, _, .cons _ t => congrArg (· + 1) t.length
theorem AtAll.get : ∀ {vs : List V} {ds : List D} {i : Nat} {v : V}, AtAll K H vs ds → vs[i]? = some v → ∃ d, ds[i]? = some d ∧ At K H v d
  | _, _, i, v, .nil, e => by simp at e
  | _, _, 0, v, .cons h _, e => by simp at e; subst e; exact ⟨_, rfl, h⟩
  | _, _, i + 1, v, .cons _ t, e => by
    obtain ⟨d, h1, h2⟩ := AtAll.get (i := i) t (by simpa using e)
    exact ⟨d, by simpa using h1, h2⟩
theorem AtAll.get' : ∀ {vs : List V} {ds : List D} {i : Nat} {d : D}, AtAll K H vs ds → ds[i]? = some d → ∃ v, vs[i]? = some v ∧ At K H v d
  | _, _, i, d, .nil, e => by simp at e
  | _, _, 0, d, .cons h _, e => by simp at e; subst e; exact ⟨_, rfl, h⟩
  | _, _, i + 1, d, .cons _ t, e => by
    obtain ⟨v, h1, h2⟩ := AtAll.get' (i := i) t (by simpa using e)
    exact ⟨v, by simpa using h1, h2⟩
theorem AtAll.append : ∀ {vs ws : List V} {ds es : List D}, AtAll K H vs ds → AtAll K H ws es → AtAll K H (vs ++ ws) (ds ++ es)
  | _, _, _, _, .nil, s => s
  | _, _, _, _, .cons h t, s => .cons h (AtAll.append t s)
theorem AtAll.ints : ∀ ns : List Int, AtAll K H (ns.map V.int) (ns.map D.int)
  | [] => .nil
  | n :: ns => .cons (.int n) (AtAll.ints ns)
/-- the name of its type -/
def D.ty : D → String
  | .non => "NoneType" | .bl _ => "bool" | .int _ => "int" | .str _ => "str" | .tup _ => "tuple" | .lst _ => "list" | .dic => "dict"
theorem SqL.tyX {a : Addr} {xs : List V} (h : SqL K H a xs) : TyX K H (.ref a) (.type "list") := by
  rcases h with (e | ⟨o, e⟩) | ⟨o, its, n, e, c, _⟩
  · exact .base (.lst e)
  · exact .base (.frz e)
  · exact .kList e c
theorem SqT.tyX {a : Addr} {xs : List V} (h : SqT K H a xs) : TyX K H (.ref a) (.type "tuple") := by
  rcases h with (e | ⟨o, e⟩) | ⟨o, its, n, e, c, _⟩
  · exact .base (.tup e)
  · exact .fTuple e
  · exact .kTuple e c
theorem At.tyX {v : V} {d : D} (h : At K H v d) : TyX K H v (.type d.ty) := by
  cases h with
  | non => exact .base .non
  | bl b => exact .base (.bl b)
  | int i => exact .base (.int i)
  | str x => exact .base (.str x)
  | lst hs _ => exact SqL.tyX hs
  | tup hs _ => exact SqT.tyX hs
  | dic e => exact .base (.dK e)
end
end VW
set_option Elab.async false
set_option linter.all false
set_option maxRecDepth 100000
set_option maxHeartbeats 2000000
namespace VW
open PySem PySem.Spec PyProof.Rows L2 GxR

/-! ### a def of the text with its code object -/
structure FunC (K : PySem.W.Frag) (x qual : Str) (st : Stmt) (f c : Addr) (fd : FuncData) : Prop where
  ex : ∃ (oc : Value) (od : Option Addr) (kV doc pm : Value) (an : Option Addr) (ct : Value) (osl : Array (Option Value)),
    fd = PySem.W.fnOf x qual (defArgs st) (defBody st) (defScope st) .none kV doc pm an (.ref c) ct ∧ K.lookup f = some ⟨oc, od, .func fd, osl⟩ ∧ PySem.W.codeIn K (.ref c) qual = true
  kp : PySem.W.keepIn K (.ref f) = true
theorem FunC.mk' {K : PySem.W.Frag} {x qual : Str} {st : Stmt} {f c : Addr} {oc : Value} {od an : Option Addr} {osl : Array (Option Value)} {kV doc pm ct : Value}
    (l : K.lookup f = some ⟨oc, od, .func (PySem.W.fnOf x qual (defArgs st) (defBody st) (defScope st) .none kV doc pm an (.ref c) ct), osl⟩)
    (h : PySem.W.codeIn K (.ref c) qual = true) (k : PySem.W.keepIn K (.ref f) = true) : FunC K x qual st f c (PySem.W.fnOf x qual (defArgs st) (defBody st) (defScope st) .none kV doc pm an (.ref c) ct) :=
  ⟨⟨oc, od, kV, doc, pm, an, ct, osl, rfl, l, h⟩, k⟩

/-- what a caller needs of a def: where it stands, what it keeps -/
structure Own (P : Program) (w : World) (K : PySem.W.Frag) (mg : Str → Option Value) (base : Heap) (CX : CXT) (k : Nat) (x : Str) (ps : List Str) (sp : Sp) : Prop where
  ex : ∃ (f : Addr) (fd : FuncData), mg x = some (.ref f) ∧ PySem.W.keepIn K (.ref f) = true ∧ FnOk P w K mg base CX k f fd ps sp ∧ Binds K fd ps []
theorem Own.up {P : Program} {w : World} {K : PySem.W.Frag} {mg : Str → Option Value} {base : Heap} {CX : CXT} {j k : Nat} {x : Str} {ps : List Str} {sp : Sp} (G : Own P w K mg base CX j x ps sp) (h : j ≤ k) : Own P w K mg base CX k x ps sp := by
  obtain ⟨f, fd, a, b, c, d⟩ := G.ex
  exact ⟨f, fd, a, b, c.mono h, d⟩
theorem Own.imp {P : Program} {w : World} {K : PySem.W.Frag} {mg : Str → Option Value} {base : Heap} {CX : CXT} {k : Nat} {x : Str} {ps : List Str} {sp sp' : Sp} (G : Own P w K mg base CX k x ps sp) (h : ∀ vs H Q E, sp' vs H Q E → sp vs H Q E) :
    Own P w K mg base CX k x ps sp' := by
  obtain ⟨f, fd, a, b, c, d⟩ := G.ex
  exact ⟨f, fd, a, b, c.imp h, d⟩

section
variable {X : Cx} {CX : CXT} {k : Nat} {ps : List Str} {sp : Sp} {E : XK} {x : Str} {p pos : Pos} {e : Expr} {es : List Expr} {t : TA}
/-- f(..), f a def of the text -/
theorem pe_own (G : Own X.prog X.w X.K X.mg X.base CX k x ps sp) (hr : Room k X.A) (hx : Passes CX X E) (ha : PA X (e :: es) t) (hg : Gl X x := by rfl)
    (hdb : (x == ("__debug__" : Str)) = false := by decide) (he : starEach (e :: es) X.env = (false, eval e X.env) :: starEach es X.env := by rfl) (hpl : (backTo pos (starEach es X.env)).any (·.1) = false := by rfl) :
    PE X (.Call (.Name x p) (e :: es) [] pos) (tCall sp [] E t) := by
  obtain ⟨f, fd, hm, hk, F, b⟩ := G.ex
  exact pe_call F hr hg hm hk b .nil hx ha hdb he hpl
/-- where nothing is raised -/
theorem pe_own0 (G : Own X.prog X.w X.K X.mg X.base CX0 k x ps sp) (hr : Room k X.A) (ha : PA X (e :: es) t) (hg : Gl X x := by rfl)
    (hdb : (x == ("__debug__" : Str)) = false := by decide) (he : starEach (e :: es) X.env = (false, eval e X.env) :: starEach es X.env := by rfl) (hpl : (backTo pos (starEach es X.env)).any (·.1) = false := by rfl) :
    PE X (.Call (.Name x p) (e :: es) [] pos) (tCall sp [] E0 t) := pe_own G hr pass0 ha hg hdb he hpl
/-- where what is raised is wished for by the slots (a try's body) -/
theorem pe_ownS {W : WX} (G : Own X.prog X.w X.K X.mg X.base (L2.CX X.prog X.w) k x ps sp) (hr : Room k X.A) (tk : Takes X W) (ha : PA X (e :: es) t) (hg : Gl X x := by rfl)
    (hdb : (x == ("__debug__" : Str)) = false := by decide) (he : starEach (e :: es) X.env = (false, eval e X.env) :: starEach es X.env := by rfl) (hpl : (backTo pos (starEach es X.env)).any (·.1) = false := by rfl) :
    PE X (.Call (.Name x p) (e :: es) [] pos) (tCallS sp (WE W) t) := by
  obtain ⟨f, fd, hm, hk, F, b⟩ := G.ex
  exact pe_callS F hr hg hm hk b (fun σ => passAt tk σ) ha hdb he hpl
/-- a constant of the module -/
theorem pe_num {i : Int} (hm : ∃ t, X.mg x = some (.int i t)) (hg : Gl X x := by rfl) (hd : (x == ("__debug__" : Str)) = false := by decide) : PE X (.Name x p) (tC (.int i)) := by
  obtain ⟨t, hm⟩ := hm
  exact pe_glob hg hm ⟨t, rfl⟩ hd
end

section
variable {P : Program} {w : World} {K : PySem.W.Frag} {mg : Str → Option Value} {base : Heap}
/-- a def that raises nothing: by its body's rules and their reading -/
theorem ok0 {x : Str} {st : Stmt} {f c : Addr} {fd : FuncData} {N ps : List Str} {k : Nat} {sp : Sp} (F : FunC K x x st f c fd) (S : FnScope N ps (defScope st))
    (hb : ∀ (kV doc pm : Value) (an : Option Addr) (cdv ct : Value) (us : List Value), us.length = ps.length → bindArgs (PySem.W.fnOf x x (defArgs st) (defBody st) (defScope st) .none kV doc pm an cdv ct) ⟨us, []⟩ = pure (ps.zip us))
    (len : ∀ vs H Q E, sp vs H Q E → vs.length = ps.length)
    (hbody : ∀ (A : Around) (outer : List Env) (s : Shared) (H : Hp) (vs : List V) (Q : VK) (E : XK), Room k (A.deeper (envOfC x (defScope st) s.heap.objs.size f (.ref c))) → sp vs H Q E →
      ∃ t, PSs (cxOf CX0 P w K mg base N x (defScope st) f (.ref c) A outer s H E).nox (defBody st) t ∧ t { nx := fun _ H' => Q .non H', rt := Q } (start N vs) H) :
    FnOk P w K mg base CX0 (k + 1) f fd ps sp := by
  obtain ⟨⟨oc, od, kV, doc, pm, an, ct, osl, rfl, lk, hcd⟩, kp⟩ := F
  refine fn_of lk hcd S len fun A outer s H vs Q E hr hsp => ?_
  obtain ⟨t, h, q⟩ := hbody A outer s H vs Q E hr hsp
  exact ⟨t, h.nox, q⟩
/-- a def that raises nothing: by its body's rules and their reading -/
theorem own0 {x : Str} {st : Stmt} {f c : Addr} {fd : FuncData} {N ps : List Str} {k : Nat} {sp : Sp} (F : FunC K x x st f c fd) (hm : mg x = some (.ref f)) (S : FnScope N ps (defScope st))
    (hb : ∀ (kV doc pm : Value) (an : Option Addr) (cdv ct : Value) (us : List Value), us.length = ps.length → bindArgs (PySem.W.fnOf x x (defArgs st) (defBody st) (defScope st) .none kV doc pm an cdv ct) ⟨us, []⟩ = pure (ps.zip us))
    (len : ∀ vs H Q E, sp vs H Q E → vs.length = ps.length)
    (hbody : ∀ (A : Around) (outer : List Env) (s : Shared) (H : Hp) (vs : List V) (Q : VK) (E : XK), Room k (A.deeper (envOfC x (defScope st) s.heap.objs.size f (.ref c))) → sp vs H Q E →
      ∃ t, PSs (cxOf CX0 P w K mg base N x (defScope st) f (.ref c) A outer s H E).nox (defBody st) t ∧ t { nx := fun _ H' => Q .non H', rt := Q } (start N vs) H) :
    Own P w K mg base CX0 (k + 1) x ps sp := by
  obtain ⟨⟨oc, od, kV, doc, pm, an, ct, osl, rfl, lk, hcd⟩, kp⟩ := F
  refine ⟨f, _, hm, kp, fn_of lk hcd S len fun A outer s H vs Q E hr hsp => ?_, .all (hb kV doc pm an (.ref c) ct)⟩
  obtain ⟨t, h, q⟩ := hbody A outer s H vs Q E hr hsp
  exact ⟨t, h.nox, q⟩
/-- a def that may raise -/
theorem ownX {x : Str} {st : Stmt} {f c : Addr} {fd : FuncData} {N ps : List Str} {k : Nat} {sp : Sp} (F : FunC K x x st f c fd) (hm : mg x = some (.ref f)) (S : FnScope N ps (defScope st))
    (hb : ∀ (kV doc pm : Value) (an : Option Addr) (cdv ct : Value) (us : List Value), us.length = ps.length → bindArgs (PySem.W.fnOf x x (defArgs st) (defBody st) (defScope st) .none kV doc pm an cdv ct) ⟨us, []⟩ = pure (ps.zip us))
    (len : ∀ vs H Q E, sp vs H Q E → vs.length = ps.length)
    (hbody : ∀ (A : Around) (outer : List Env) (s : Shared) (H : Hp) (vs : List V) (Q : VK) (E : XK), Room k (A.deeper (envOfC x (defScope st) s.heap.objs.size f (.ref c))) → sp vs H Q E →
      ∃ t, PSs (cxOf (L2.CX P w) P w K mg base N x (defScope st) f (.ref c) A outer s H E) (defBody st) t ∧ t { nx := fun _ H' => Q .non H', rt := Q } (start N vs) H) :
    Own P w K mg base (L2.CX P w) (k + 1) x ps sp := by
  obtain ⟨⟨oc, od, kV, doc, pm, an, ct, osl, rfl, lk, hcd⟩, kp⟩ := F
  exact ⟨f, _, hm, kp, fn_of lk hcd S len hbody, .all (hb kV doc pm an (.ref c) ct)⟩
end

/-- in a def's body: the frame that runs, and what leaves it -/
theorem frX_def {CX : CXT} {P : Program} {w : World} {K : PySem.W.Frag} {mg : Str → Option Value} {base : Heap} {N : List Str} {qual : Str} {scope : Scope} {f : Addr} {cd : Value} {A : Around} {outer : List Env} {s : Shared} {H : Hp} {E : XK} :
    FrX (cxOf CX P w K mg base N qual scope f cd A outer s H E) (envOfC qual scope s.heap.objs.size f cd) outer s.heap.objs.size := ⟨rfl, rfl, rfl⟩
theorem takes_def {P : Program} {w : World} {K : PySem.W.Frag} {mg : Str → Option Value} {base : Heap} {N : List Str} {qual : Str} {scope : Scope} {f : Addr} {cd : Value} {A : Around} {outer : List Env} {s : Shared} {H : Hp} {E : XK} :
    Takes (cxOf (L2.CX P w) P w K mg base N qual scope f cd A outer s H E) (fun cls d _ H' => E cls d H') := takes_of rfl rfl rfl rfl
theorem takesF_def {P : Program} {w : World} {K : PySem.W.Frag} {mg : Str → Option Value} {base : Heap} {N : List Str} {qual : Str} {scope : Scope} {f : Addr} {cd : Value} {A : Around} {outer : List Env} {s : Shared} {H : Hp} {E : XK} :
    TakesF (cxOf (L2.CX P w) P w K mg base N qual scope f cd A outer s H E) s.heap.objs.size E := TakesF.of takes_def
/-- raise X('..') in a def, X an own class without __init__ of its own -/
structure ExcC (K : PySem.W.Frag) (mg : Str → Option Value) (x : Str) (C : Addr) : Prop where
  g : mg x = some (.ref C)
  x : PySem.W.excIn K C [.type "ValueError", .type "Exception", .type "BaseException", .type "object"] "ValueError.__new__" = true
  k : PySem.W.keepIn K (.ref C) = true
  b : PySem.W.subIn K (.ref C) (.type "BaseException") = some true
  t : PySem.W.typeIn K (.ref C) = some (.type "type")
theorem ps_raiseC {X : Cx} {W : WX} {x m : Str} {C : Addr} {j : Nat} {p p2 pos pos2 : Pos} (hc : X.calm = true) (T : ExcC X.K X.mg x C) (tk : Takes X W) (hg : Gl X x := by rfl) (hdb : (x == ("__debug__" : Str)) = false := by decide) :
    PS X (.Raise (some (.Call (.Name x p) [.Constant (.str m) j p2] [] pos)) none pos2) (fun _ σ H => W (.ref C) none σ H) :=
  ps_raise hc tk (pmk_own PySem.F.excBase_ValueError T.x T.g T.k (raises_own T.b T.t) hg hdb)
end VW
set_option Elab.async false
set_option linter.all false
set_option maxRecDepth 100000
set_option maxHeartbeats 2000000
namespace VW
open PySem PySem.Spec PyProof.Rows L2 GxR

/-! ### readings by name -/
abbrev kAdd : R2 := rI0 fun i j => .int (i + j)
abbrev kSub : R2 := rI0 fun i j => .int (i - j)
abbrev kMul : R2 := rI CMul fun i j => .int (i * j)
abbrev kDiv : R2 := rI CDivN fun i j => .int (i.fdiv j)
abbrev kMod : R2 := rI (fun _ j => j ≠ 0) fun i j => .int (i.fmod j)
abbrev kPow : R2 := rI CPow fun i j => .int (i ^ j.toNat)
abbrev kLt : R2 := rI0 fun i j => .bl (decide (i < j))
abbrev kLe : R2 := rI0 fun i j => .bl (decide (i ≤ j))
abbrev kGt : R2 := rI0 fun i j => .bl (decide (j < i))
abbrev kGe : R2 := rI0 fun i j => .bl (decide (j ≤ i))
abbrev kAddS : R2 := fun x y H Q => ∃ i j, x = .str i ∧ y = .str j ∧ i.length + j.length ≤ sizeLine ∧ Q (.str (i ++ j)) H
abbrev kNeg : V → Hp → VK → Prop := rU fun i => .int (-i)
abbrev kIsN : R2 := fun x y H Q => y = .non ∧ Q (.bl (decide (x = .non))) H
abbrev kNotN : R2 := fun x y H Q => y = .non ∧ Q (.bl (!decide (x = .non))) H
abbrev kLen (K : PySem.W.Frag) : List V → Hp → VK → Prop := fun xs H Q => ∃ x n, xs = [x] ∧ LenV K x H n ∧ Q (.int n) H
abbrev kInt1 : List V → Hp → VK → Prop := fun xs H Q => (∃ i, xs = [.int i] ∧ Q (.int i) H) ∨ ∃ k, xs = [.bl k] ∧ Q (.int (if k then 1 else 0)) H
abbrev kMax2 : List V → Hp → VK → Prop := fun xs H Q => ∃ i j, xs = [.int i, .int j] ∧ Q (.int (if j > i then j else i)) H
abbrev kMin2 : List V → Hp → VK → Prop := fun xs H Q => ∃ i j, xs = [.int i, .int j] ∧ Q (.int (if j < i then j else i)) H
abbrev kList (K : PySem.W.Frag) : List V → Hp → VK → Prop := fun xs H Q => ∃ p ys, xs = [.ref p] ∧ (SqL K H p ys ∨ SqT K H p ys) ∧ ∀ l, H l = none → Q (.ref l) (upd H l (.lst ys))
abbrev kTru (K : PySem.W.Frag) (te : TE) : TT := fun σ H Q => te σ H fun x H' => ∃ k, TruV K x H' k ∧ Q k H'

/-! ### the built-in names -/
theorem bo_isinstance : bootBuiltins "isinstance" = some (.builtin "isinstance") := by decide +kernel
theorem bo_len : bootBuiltins "len" = some (.builtin "len") := by decide +kernel
theorem bo_max : bootBuiltins "max" = some (.builtin "max") := by decide +kernel
theorem bo_min : bootBuiltins "min" = some (.builtin "min") := by decide +kernel
theorem bo_sorted : bootBuiltins "sorted" = some (.builtin "sorted") := by decide +kernel
theorem bo_int : bootBuiltins "int" = some (.type "int") := by decide +kernel
theorem bo_bool : bootBuiltins "bool" = some (.type "bool") := by decide +kernel
theorem bo_str : bootBuiltins "str" = some (.type "str") := by decide +kernel
theorem bo_list : bootBuiltins "list" = some (.type "list") := by decide +kernel
theorem bo_tuple : bootBuiltins "tuple" = some (.type "tuple") := by decide +kernel
theorem bo_ValueError : bootBuiltins "ValueError" = some (.type "ValueError") := by decide +kernel
/-- none of the built-in names that are used is a name of the module -/
structure Bl (mg : Str → Option Value) : Prop where
  isinstance : mg "isinstance" = none
  len : mg "len" = none
  max : mg "max" = none
  min : mg "min" = none
  sorted : mg "sorted" = none
  all : mg "all" = none
  any : mg "any" = none
  int : mg "int" = none
  bool : mg "bool" = none
  str : mg "str" = none
  list : mg "list" = none
  tuple : mg "tuple" = none
  range : mg "range" = none
  zip : mg "zip" = none
  enumerate : mg "enumerate" = none
  ValueError : mg "ValueError" = none
section
variable {X : Cx} {p : Pos}
theorem pe_tyInt (B : Bl X.mg) (hg : Gl X "int" := by rfl) : PE X (.Name "int" p) (tC (.ty "int")) := pe_bltn hg B.int bo_int rfl
theorem pe_tyBool (B : Bl X.mg) (hg : Gl X "bool" := by rfl) : PE X (.Name "bool" p) (tC (.ty "bool")) := pe_bltn hg B.bool bo_bool rfl
theorem pe_tyStr (B : Bl X.mg) (hg : Gl X "str" := by rfl) : PE X (.Name "str" p) (tC (.ty "str")) := pe_bltn hg B.str bo_str rfl
theorem pe_tyList (B : Bl X.mg) (hg : Gl X "list" := by rfl) : PE X (.Name "list" p) (tC (.ty "list")) := pe_bltn hg B.list bo_list rfl
theorem pe_tyTuple (B : Bl X.mg) (hg : Gl X "tuple" := by rfl) : PE X (.Name "tuple" p) (tC (.ty "tuple")) := pe_bltn hg B.tuple bo_tuple rfl
theorem pe_tyVE (B : Bl X.mg) (hg : Gl X "ValueError" := by rfl) : PE X (.Name "ValueError" p) (tC (.ty "ValueError")) := pe_bltn hg B.ValueError bo_ValueError rfl
end

/-! ### what every law's text leaves: places of the classes, of the tables -/
structure Ev where
  K : PySem.W.Frag
  Ps : List Addr
  Pn : Addr
  Pp : Addr
  hPn : Pn ∈ Ps
  hPp : Pp ∈ Ps
  cWeave : Addr
  cPiece : Addr
  cNumber : Addr
  cTheme : Addr
  cEntry : Addr
  cRange : Addr
  cUneven : Addr
  cClash : Addr
  cText : Addr
def Ev.T (S : Ev) (H : Hp) : Prop := Tabs S.Ps H

/-! ### isinstance of data -/
def D.isInt : D → Bool | .int _ => true | .bl _ => true | _ => false
def D.isBl : D → Bool | .bl _ => true | _ => false
def D.isTup : D → Bool | .tup _ => true | _ => false
def D.isLst : D → Bool | .lst _ => true | _ => false
def D.isStr : D → Bool | .str _ => true | _ => false
/-- a whole number -/
def D.whole : D → Bool | .int _ => true | _ => false
section
variable {K : PySem.W.Frag} (d : D)
theorem isi_int : PySem.W.kitOne K (.type d.ty) (.type "int") = some d.isInt := by
  cases d with
  | non => exact kit_ty (show kitB "NoneType" "int" = some false by decide +kernel)
  | bl _ => exact kit_ty (show kitB "bool" "int" = some true by decide +kernel)
  | int _ => exact kit_ty (show kitB "int" "int" = some true by decide +kernel)
  | str _ => exact kit_ty (show kitB "str" "int" = some false by decide +kernel)
  | tup _ => exact kit_ty (show kitB "tuple" "int" = some false by decide +kernel)
  | lst _ => exact kit_ty (show kitB "list" "int" = some false by decide +kernel)
  | dic => exact kit_ty (show kitB "dict" "int" = some false by decide +kernel)
theorem isi_bool : PySem.W.kitOne K (.type d.ty) (.type "bool") = some d.isBl := by
  cases d with
  | non => exact kit_ty (show kitB "NoneType" "bool" = some false by decide +kernel)
  | bl _ => exact kit_ty (show kitB "bool" "bool" = some true by decide +kernel)
  | int _ => exact kit_ty (show kitB "int" "bool" = some false by decide +kernel)
  | str _ => exact kit_ty (show kitB "str" "bool" = some false by decide +kernel)
  | tup _ => exact kit_ty (show kitB "tuple" "bool" = some false by decide +kernel)
  | lst _ => exact kit_ty (show kitB "list" "bool" = some false by decide +kernel)
  | dic => exact kit_ty (show kitB "dict" "bool" = some false by decide +kernel)
theorem isi_tuple : PySem.W.kitOne K (.type d.ty) (.type "tuple") = some d.isTup := by
  cases d with
  | non => exact kit_ty (show kitB "NoneType" "tuple" = some false by decide +kernel)
  | bl _ => exact kit_ty (show kitB "bool" "tuple" = some false by decide +kernel)
  | int _ => exact kit_ty (show kitB "int" "tuple" = some false by decide +kernel)
  | str _ => exact kit_ty (show kitB "str" "tuple" = some false by decide +kernel)
  | tup _ => exact kit_ty (show kitB "tuple" "tuple" = some true by decide +kernel)
  | lst _ => exact kit_ty (show kitB "list" "tuple" = some false by decide +kernel)
  | dic => exact kit_ty (show kitB "dict" "tuple" = some false by decide +kernel)
theorem isi_list : PySem.W.kitOne K (.type d.ty) (.type "list") = some d.isLst := by
  cases d with
  | non => exact kit_ty (show kitB "NoneType" "list" = some false by decide +kernel)
  | bl _ => exact kit_ty (show kitB "bool" "list" = some false by decide +kernel)
  | int _ => exact kit_ty (show kitB "int" "list" = some false by decide +kernel)
  | str _ => exact kit_ty (show kitB "str" "list" = some false by decide +kernel)
  | tup _ => exact kit_ty (show kitB "tuple" "list" = some false by decide +kernel)
  | lst _ => exact kit_ty (show kitB "list" "list" = some true by decide +kernel)
  | dic => exact kit_ty (show kitB "dict" "list" = some false by decide +kernel)
theorem isi_str : PySem.W.kitOne K (.type d.ty) (.type "str") = some d.isStr := by
  cases d with
  | non => exact kit_ty (show kitB "NoneType" "str" = some false by decide +kernel)
  | bl _ => exact kit_ty (show kitB "bool" "str" = some false by decide +kernel)
  | int _ => exact kit_ty (show kitB "int" "str" = some false by decide +kernel)
  | str _ => exact kit_ty (show kitB "str" "str" = some true by decide +kernel)
  | tup _ => exact kit_ty (show kitB "tuple" "str" = some false by decide +kernel)
  | lst _ => exact kit_ty (show kitB "list" "str" = some false by decide +kernel)
  | dic => exact kit_ty (show kitB "dict" "str" = some false by decide +kernel)
end
end VW
set_option Elab.async false
set_option linter.all false
set_option maxRecDepth 100000
set_option maxHeartbeats 2000000
/-! The promises of the program's defs and of the laws' own helpers. -/
namespace VW
open PySem PySem.Spec PyProof.Rows L2 GxR

/-- the module's numbers -/
structure Nums (mg : Str → Option Value) : Prop where
  GREATEST_END : ∃ t, mg "GREATEST_END" = some (.int 100000 t)
  PITCH_REACH : ∃ t, mg "PITCH_REACH" = some (.int 200 t)
  MOST_VOICES : ∃ t, mg "MOST_VOICES" = some (.int 6 t)

/-! ### notes, voices, pieces -/
abbrev Nt := Int × Int × Int
def okNote (n : Nt) : Bool := decide (0 ≤ n.1) && decide (1 ≤ n.2.1) && decide (n.1 + n.2.1 ≤ 100000) && decide (-200 ≤ n.2.2) && decide (n.2.2 ≤ 200)
def okFrom : Int → List Nt → Bool
  | _, [] => true
  | e, n :: r => okNote n && decide (e ≤ n.1) && okFrom (n.1 + n.2.1) r
def okVoice (v : List Nt) : Bool := okFrom 0 v
def okPiece (p : List (List Nt)) : Bool := decide (1 ≤ p.length) && decide (p.length ≤ 6) && p.all okVoice
def noteD (n : Nt) : D := .tup [.int n.1, .int n.2.1, .int n.2.2]
def voiceD (v : List Nt) : D := .lst (v.map noteD)
def pieceD (p : List (List Nt)) : D := .lst (p.map voiceD)
/-- .. of anything -/
def asNote : D → Option Nt
  | .tup [.int s, .int l, .int p] => some (s, l, p)
  | _ => none
def isNote (d : D) : Bool := match asNote d with | some n => okNote n | none => false
def voiceFrom : Int → List D → Bool
  | _, [] => true
  | e, d :: r => match asNote d with
    | some n => okNote n && decide (e ≤ n.1) && voiceFrom (n.1 + n.2.1) r
    | none => false
def isVoice : D → Bool
  | .lst ds => voiceFrom 0 ds
  | _ => false
def isPiece : D → Bool
  | .lst ds => decide (1 ≤ ds.length) && decide (ds.length ≤ 6) && ds.all isVoice
  | _ => false
theorem asNote_some {d : D} {n : Nt} (h : asNote d = some n) : d = noteD n := by
  unfold asNote at h
  split at h
  · injection h with h; subst h; rfl
  · cases h
theorem asNote_noteD (n : Nt) : asNote (noteD n) = some n := rfl
theorem voiceFrom_some : ∀ {ds : List D} {e : Int}, voiceFrom e ds = true → ∃ v : List Nt, ds = v.map noteD ∧ okFrom e v = true
  | [], _, _ => ⟨[], rfl, rfl⟩
  | d :: r, e, h => by
    unfold voiceFrom at h
    cases q : asNote d with
    | none => rw [q] at h; cases h
    | some n =>
      rw [q] at h
      have h' : (okNote n && decide (e ≤ n.1) && voiceFrom (n.1 + n.2.1) r) = true := h
      rw [Bool.and_eq_true] at h'
      obtain ⟨v, e1, e2⟩ := voiceFrom_some h'.2
      refine ⟨n :: v, by rw [asNote_some q, e1]; rfl, ?_⟩
      show (okNote n && decide (e ≤ n.1) && okFrom (n.1 + n.2.1) v) = true
      rw [Bool.and_eq_true]
      exact ⟨h'.1, e2⟩
theorem voiceFrom_map : ∀ (v : List Nt) (e : Int), voiceFrom e (v.map noteD) = okFrom e v
  | [], _ => rfl
  | n :: v, e => by
    show (okNote n && decide (e ≤ n.1) && voiceFrom (n.1 + n.2.1) (v.map noteD)) = (okNote n && decide (e ≤ n.1) && okFrom (n.1 + n.2.1) v)
    rw [voiceFrom_map v]
theorem isVoice_some {d : D} (h : isVoice d = true) : ∃ v, d = voiceD v ∧ okVoice v = true := by
  cases d with
  | lst ds =>
    obtain ⟨v, e1, e2⟩ := voiceFrom_some (e := 0) h
    exact ⟨v, by rw [e1]; rfl, e2⟩
  | _ => cases h
theorem isVoice_D (v : List Nt) : isVoice (voiceD v) = okVoice v := voiceFrom_map v 0
theorem all_voices : ∀ {ds : List D}, ds.all isVoice = true → ∃ p : List (List Nt), ds = p.map voiceD ∧ p.all okVoice = true
  | [], _ => ⟨[], rfl, rfl⟩
  | d :: ds, h => by
    rw [List.all_cons, Bool.and_eq_true] at h
    obtain ⟨v, e1, e2⟩ := isVoice_some h.1
    obtain ⟨p, e3, e4⟩ := all_voices h.2
    exact ⟨v :: p, by rw [e1, e3]; rfl, by rw [List.all_cons, e2, e4]; rfl⟩
theorem isPiece_some {d : D} (h : isPiece d = true) : ∃ p, d = pieceD p ∧ okPiece p = true := by
  cases d with
  | lst ds =>
    have h' : (decide (1 ≤ ds.length) && decide (ds.length ≤ 6) && ds.all isVoice) = true := h
    rw [Bool.and_eq_true] at h'
    obtain ⟨p, e1, e2⟩ := all_voices h'.2
    refine ⟨p, by rw [e1]; rfl, ?_⟩
    unfold okPiece
    rw [Bool.and_eq_true]
    refine ⟨?_, e2⟩
    rw [e1, List.length_map] at h'
    exact h'.1
  | _ => cases h
theorem all_voiceD (p : List (List Nt)) : (p.map voiceD).all isVoice = p.all okVoice := by
  rw [List.all_map]
  congr 1
  funext v
  exact isVoice_D v
theorem isPiece_D (p : List (List Nt)) : isPiece (pieceD p) = okPiece p := by
  show (decide (1 ≤ (p.map voiceD).length) && decide ((p.map voiceD).length ≤ 6) && (p.map voiceD).all isVoice) = _
  rw [all_voiceD, List.length_map]
  rfl
/-- the pitch that sounds at a time -/
def pitchAt (t : Int) : List Nt → Option Int
  | [] => none
  | n :: r => if n.1 ≤ t ∧ t < n.1 + n.2.1 then some n.2.2 else pitchAt t r
def optV : Option Int → V
  | some i => .int i
  | none => .non

/-! ### new lists of new lists -/
def Rows (K : PySem.W.Frag) (H : Hp) : List Addr → List (List D) → Prop
  | [], [] => True
  | a :: as, ds :: dss => (∃ xs, H a = some (.lst xs) ∧ AtAll K H xs ds) ∧ Rows K H as dss
  | _, _ => False
/-- at p a list of lists, none of which stood in H0 -/
structure New2 (K : PySem.W.Frag) (H0 H : Hp) (p : Addr) (dss : List (List D)) : Prop where
  ex : ∃ as : List Addr, H p = some (.lst (as.map V.ref)) ∧ H0 p = none ∧ (p :: as).Nodup ∧ (∀ a ∈ as, H0 a = none) ∧ Rows K H as dss

/-! ### the promises -/
def sp_is_whole (S : Ev) : Sp := fun vs H Q _ => match vs with
  | [x] => ∃ d, At S.K H x d ∧ Q (.bl d.whole) H
  | _ => False
def sp_require_whole (S : Ev) : Sp := fun vs H Q E => match vs with
  | [x] => ∃ d, At S.K H x d ∧ (d.whole = true → Q .non H) ∧ (d.whole = false → E (.ref S.cNumber) none H)
  | _ => False
def sp_end_of (S : Ev) : Sp := fun vs H Q _ => match vs with
  | [x] => ∃ a s l p, x = .ref a ∧ SqT S.K H a [.int s, .int l, p] ∧ Q (.int (s + l)) H
  | _ => False
def sp_is_note (S : Ev) : Sp := fun vs H Q _ => match vs with
  | [x] => S.T H ∧ ∃ d, At S.K H x d ∧ ∀ H', Ext H H' → Q (.bl (isNote d)) H'
  | _ => False
def sp_is_voice (S : Ev) : Sp := fun vs H Q _ => match vs with
  | [x] => S.T H ∧ ∃ d, At S.K H x d ∧ ∀ H', Ext H H' → Q (.bl (isVoice d)) H'
  | _ => False
def sp_is_piece (S : Ev) : Sp := fun vs H Q _ => match vs with
  | [x] => S.T H ∧ ∃ d, At S.K H x d ∧ ∀ H', Ext H H' → Q (.bl (isPiece d)) H'
  | _ => False
def sp_good (S : Ev) : Sp := fun vs H Q E => match vs with
  | [x] => S.T H ∧ ∃ d, At S.K H x d ∧ (∀ pc, d = pieceD pc → okPiece pc = true → ∀ H' p, Ext H H' → New2 S.K H H' p (pc.map fun v => v.map noteD) → Q (.ref p) H') ∧
      (isPiece d = false → ∀ H', Ext H H' → E (.ref S.cPiece) none H')
  | _ => False
def sp_pitch_at (S : Ev) : Sp := fun vs H Q _ => match vs with
  | [x, t] => ∃ v i, At S.K H x (voiceD v) ∧ t = .int i ∧ Q (optV (pitchAt i v)) H
  | _ => False
def sp_sounding (S : Ev) : Sp := fun vs H Q E => match vs with
  | [x, t] => S.T H ∧ ∃ d dt, At S.K H x d ∧ At S.K H t dt ∧
      (∀ pc i, d = pieceD pc → okPiece pc = true → dt = .int i → ∀ H' p, Ext H H' → H p = none → H' p = some (.lst (pc.map fun v => optV (pitchAt i v))) → Q (.ref p) H') ∧
      (isPiece d = true → dt.whole = false → ∀ H', Ext H H' → E (.ref S.cNumber) none H') ∧ (isPiece d = false → ∀ H', Ext H H' → E (.ref S.cPiece) none H')
  | _ => False

/-! ### the laws' own helpers -/
def sp_law_at (S : Ev) : Sp := fun vs H Q _ => match vs with
  | [x, k] => ∃ (a : Addr) (ns : List Int) (i : Int), x = .ref a ∧ SqL S.K H a (ns.map V.int) ∧ ns.length ≤ 63 ∧ k = .int i ∧ 0 ≤ i ∧ Q (.int (ns.getD i.toNat 0)) H
  | _ => False
def sp_law_whole (S : Ev) : Sp := fun vs H Q _ => match vs with
  | [x] => ∃ d, At S.K H x d ∧ Q (.bl d.whole) H
  | _ => False
/-- the notes that the law makes of numbers, from a time, a pitch, a scale -/
def rest6 : Int → Int := fun z => if z = 4 then 1 else if z = 5 then 3 else 0
def jump4 (m : Int) : Int := if m.fmod 4 = 2 then (m.fdiv 4).fmod 15 - 7 else if m.fmod 4 = 3 then (m.fdiv 4).fmod 41 - 20 else (m.fdiv 4).fmod 5 - 2
def lawStep (sc : Int) (st : Int × Int) (n : Int) : Int × Int :=
  (st.1 + rest6 (n.fmod 6) * sc + (1 + (n.fdiv 6).fmod 4) * sc, (st.2 + jump4 (n.fdiv 24) + 200).fmod 401 - 200)
def lawNote (sc : Int) (st : Int × Int) (n : Int) : Nt :=
  (st.1 + rest6 (n.fmod 6) * sc, (1 + (n.fdiv 6).fmod 4) * sc, (st.2 + jump4 (n.fdiv 24) + 200).fmod 401 - 200)
def lawNotes (sc : Int) : Int × Int → List Int → List Nt
  | _, [] => []
  | st, n :: r => lawNote sc st n :: lawNotes sc (lawStep sc st n) r
def sp_law_notes (S : Ev) : Sp := fun vs H Q _ => match vs with
  | [x, t, p, k] => ∃ (a : Addr) (ns : List Int) (ti pi sc : Int), x = .ref a ∧ SqL S.K H a (ns.map V.int) ∧ ns.length ≤ 63 ∧ t = .int ti ∧ p = .int pi ∧ k = .int sc ∧
      ∀ H' q xs, Ext H H' → H q = none → H' q = some (.lst xs) → AtAll S.K H' xs ((lawNotes sc (ti, pi) ns).map noteD) → Q (.ref q) H'
  | _ => False
/-- the law's piece of a script -/
def cell (ns : List Int) (k : Nat) : Int := ns.getD k 0
def lawMany (ns : List Int) : Int := if ((cell ns 0).fdiv 4).fmod 8 = 1 then 5 + ((cell ns 0).fdiv 32).fmod 2 else 1 + (cell ns 0).fmod 4
def lawScale (ns : List Int) : Int := if (cell ns 1).fmod 8 = 1 then 1 + ((cell ns 1).fdiv 8).fmod 200 else 1
/-- every m-th cell from the k-th on -/
def every (m : Nat) : Nat → List Int → List Int
  | _, [] => []
  | 0, n :: r => n :: every m (m - 1) r
  | k + 1, _ :: r => every m k r
def lawVoice (ns : List Int) (pl : Nat) : List Nt :=
  lawNotes (lawScale ns) (((cell ns 1).fdiv 1600 + pl * (cell ns 2).fdiv 401).fmod 5 * lawScale ns, (cell ns 2 - 5 * pl).fmod 401 - 200) (every (lawMany ns).toNat (3 + pl) ns)
def lawPiece (ns : List Int) : List (List Nt) := (List.range (lawMany ns).toNat).map (lawVoice ns)
def sp_law_piece (S : Ev) : Sp := fun vs H Q _ => match vs with
  | [x] => ∃ (a : Addr) (ns : List Int), x = .ref a ∧ SqL S.K H a (ns.map V.int) ∧ ns.length ≤ 63 ∧ ∀ H' p, Ext H H' → New2 S.K H H' p ((lawPiece ns).map fun v => v.map noteD) → Q (.ref p) H'
  | _ => False

/-! ### how many arguments -/
section
variable (S : Ev) (vs : List V) (H : Hp) (Q : VK) (E : XK)
theorem len_is_whole (h : sp_is_whole S vs H Q E) : vs.length = ["number"].length := by rcases vs with _ | ⟨a, _ | ⟨b, r⟩⟩ <;> first | rfl | exact h.elim
theorem len_require_whole (h : sp_require_whole S vs H Q E) : vs.length = ["number"].length := by rcases vs with _ | ⟨a, _ | ⟨b, r⟩⟩ <;> first | rfl | exact h.elim
theorem len_end_of (h : sp_end_of S vs H Q E) : vs.length = ["note"].length := by rcases vs with _ | ⟨a, _ | ⟨b, r⟩⟩ <;> first | rfl | exact h.elim
theorem len_is_note (h : sp_is_note S vs H Q E) : vs.length = ["note"].length := by rcases vs with _ | ⟨a, _ | ⟨b, r⟩⟩ <;> first | rfl | exact h.elim
theorem len_is_voice (h : sp_is_voice S vs H Q E) : vs.length = ["voice"].length := by rcases vs with _ | ⟨a, _ | ⟨b, r⟩⟩ <;> first | rfl | exact h.elim
theorem len_is_piece (h : sp_is_piece S vs H Q E) : vs.length = ["piece"].length := by rcases vs with _ | ⟨a, _ | ⟨b, r⟩⟩ <;> first | rfl | exact h.elim
theorem len_good (h : sp_good S vs H Q E) : vs.length = ["piece"].length := by rcases vs with _ | ⟨a, _ | ⟨b, r⟩⟩ <;> first | rfl | exact h.elim
theorem len_pitch_at (h : sp_pitch_at S vs H Q E) : vs.length = ["voice", "time"].length := by rcases vs with _ | ⟨a, _ | ⟨b, _ | ⟨c, r⟩⟩⟩ <;> first | rfl | exact h.elim
theorem len_sounding (h : sp_sounding S vs H Q E) : vs.length = ["piece", "time"].length := by rcases vs with _ | ⟨a, _ | ⟨b, _ | ⟨c, r⟩⟩⟩ <;> first | rfl | exact h.elim
theorem len_law_at (h : sp_law_at S vs H Q E) : vs.length = ["s", "k"].length := by rcases vs with _ | ⟨a, _ | ⟨b, _ | ⟨c, r⟩⟩⟩ <;> first | rfl | exact h.elim
theorem len_law_whole (h : sp_law_whole S vs H Q E) : vs.length = ["x"].length := by rcases vs with _ | ⟨a, _ | ⟨b, r⟩⟩ <;> first | rfl | exact h.elim
theorem len_law_notes (h : sp_law_notes S vs H Q E) : vs.length = ["a", "b", "c", "d"].length := by rcases vs with _ | ⟨a, _ | ⟨b, _ | ⟨c, _ | ⟨d, _ | ⟨e, r⟩⟩⟩⟩⟩ <;> first | rfl | exact h.elim
theorem len_law_piece (h : sp_law_piece S vs H Q E) : vs.length = ["s"].length := by rcases vs with _ | ⟨a, _ | ⟨b, r⟩⟩ <;> first | rfl | exact h.elim
end
end VW
set_option Elab.async false
set_option linter.all false
set_option maxRecDepth 100000
set_option maxHeartbeats 4000000
namespace VW
open PySem PySem.Spec PyProof.Rows L2 GxR
abbrev N_is_whole : List Str := ["number"]
def t_is_whole (S : Ev) (E : XK) : TS :=
  (tRet (tAndV (tCB (rIsi S.K) (tCons (tVar 0) (tCons (tC (.ty "int")) tNil))) (tNotV (tCB (rIsi S.K) (tCons (tVar 0) (tCons (tC (.ty "bool")) tNil))))))

abbrev N_require_whole : List Str := ["number"]
def t_require_whole (S : Ev) (E : XK) : TS :=
  (tIfS (tNot (tB (tCall (sp_is_whole S) [] E0 (tCons (tVar 0) tNil)))) (fun _ _ H => E (.ref S.cNumber) none H) tNext)

abbrev N_end_of : List Str := ["note", "start", "long", "_"]
def t_end_of (S : Ev) (E : XK) : TS :=
  (tSeq (tAsg (tVar 0) (gTup S.K 3 (gCons (gName 1) (gCons (gName 2) (gCons (gName 3) gNil)))))
      (tRet (tOp kAdd (tVar 1) (tVar 2))))

abbrev N_is_note : List Str := ["note", "start", "long", "pitch", "in_time", "part"]
def t_is_note (S : Ev) (E : XK) : TS :=
  (tSeq (tIfS (tOr (tNot (tB (tCB (rIsi S.K) (tCons (tVar 0) (tCons (tC (.ty "tuple")) tNil))))) (tTest (tOp rNe (tCB (kLen S.K) (tCons (tVar 0) tNil)) (tC (.int 3))))) (tRet (tC (.bl false))) tNext)
      (tSeq (tIfS (tNot (tB (tGenQ false S.Pn (iTup S.K (tVar 0)) (gName 5) (tCall (sp_is_whole S) [] E0 (tCons (tVar 5) tNil)) [5]))) (tRet (tC (.bl false))) tNext)
      (tSeq (tAsg (tVar 0) (gTup S.K 3 (gCons (gName 1) (gCons (gName 2) (gCons (gName 3) gNil)))))
      (tSeq (tAsg (tAndV (tOp kGe (tVar 1) (tC (.int 0))) (tAndV (tOp kGe (tVar 2) (tC (.int 1))) (tOp kLe (tOp kAdd (tVar 1) (tVar 2)) (tC (.int 100000))))) (gName 4))
      (tRet (tAndV (tVar 4) (tChain kLe kLe (tUn kNeg (tC (.int 200))) (tVar 3) (tC (.int 200)))))))))

abbrev N_is_voice : List Str := ["voice", "last_end", "note"]
def t_is_voice (S : Ev) (E : XK) : TS :=
  (tSeq (tIfS (tNot (tB (tCB (rIsi S.K) (tCons (tVar 0) (tCons (tC (.ty "list")) tNil))))) (tRet (tC (.bl false))) tNext)
      (tSeq (tAsg (tC (.int 0)) (gName 1))
      (tSeq (tFor (iList S.K (tVar 0)) (gName 2) (tSeq (tIfS (tOr (tNot (tB (tCall (sp_is_note S) [] E0 (tCons (tVar 2) tNil)))) (tTest (tOp kLt (tOp (rIxT S.K) (tVar 2) (tC (.int 0))) (tVar 1)))) (tRet (tC (.bl false))) tNext)
      (tAsg (tCall (sp_end_of S) [] E0 (tCons (tVar 2) tNil)) (gName 1))))
      (tRet (tC (.bl true))))))

abbrev N_is_piece : List Str := ["piece", "voice"]
def t_is_piece (S : Ev) (E : XK) : TS :=
  (tSeq (tIfS (tOr (tNot (tB (tCB (rIsi S.K) (tCons (tVar 0) (tCons (tC (.ty "list")) tNil))))) (tNot (tTest (tChain kLe kLe (tC (.int 1)) (tCB (kLen S.K) (tCons (tVar 0) tNil)) (tC (.int 6)))))) (tRet (tC (.bl false))) tNext)
      (tRet (tGenQ false S.Pp (iList S.K (tVar 0)) (gName 1) (tCall (sp_is_voice S) [] E0 (tCons (tVar 1) tNil)) [1])))

abbrev N_good : List Str := ["piece", "voice"]
def t_good (S : Ev) (E : XK) : TS :=
  (tSeq (tIfS (tNot (tB (tCall (sp_is_piece S) [] E0 (tCons (tVar 0) tNil)))) (fun _ _ H => E (.ref S.cPiece) none H) tNext)
      (tRet (tLc (iList S.K (tVar 0)) (gName 1) tYes (tCB (kList S.K) (tCons (tVar 1) tNil)) [1])))

abbrev N_sounding : List Str := ["piece", "time", "voices", "voice"]
def t_sounding (S : Ev) (E : XK) : TS :=
  (tSeq (tAsg (tCall (sp_good S) [] E (tCons (tVar 0) tNil)) (gName 2))
      (tSeq (tDrop (tCall (sp_require_whole S) [] E (tCons (tVar 1) tNil)))
      (tRet (tLc (iList S.K (tVar 2)) (gName 3) tYes (tCall (sp_pitch_at S) [] E0 (tCons (tVar 3) (tCons (tVar 1) tNil))) [3]))))

abbrev N_pitch_at : List Str := ["voice", "time", "note"]
def t_pitch_at (S : Ev) (E : XK) : TS :=
  (tSeq (tFor (iList S.K (tVar 0)) (gName 2) (tIfS (tTest (tChain kLe kLt (tOp (rIxT S.K) (tVar 2) (tC (.int 0))) (tVar 1) (tCall (sp_end_of S) [] E0 (tCons (tVar 2) tNil)))) (tRet (tOp (rIxT S.K) (tVar 2) (tC (.int 2)))) tNext))
      (tRet (tC .non)))

abbrev N_law_at : List Str := ["_law_script", "_law_k"]
def t_law_at (S : Ev) (E : XK) : TS :=
  (tSeq (tIfS (tTest (tOp kLt (tVar 1) (tCB (kLen S.K) (tCons (tVar 0) tNil)))) (tRet (tOp (rIxL S.K) (tVar 0) (tVar 1))) tNext)
      (tRet (tC (.int 0))))

abbrev N_law_whole : List Str := ["_law_thing"]
def t_law_whole (S : Ev) (E : XK) : TS :=
  (tRet (tAndV (tCB (rIsi S.K) (tCons (tVar 0) (tCons (tC (.ty "int")) tNil))) (tNotV (tCB (rIsi S.K) (tCons (tVar 0) (tCons (tC (.ty "bool")) tNil))))))

abbrev N_law_notes : List Str := ["_law_numbers", "_law_time", "_law_pitch", "_law_scale", "_law_notes_here", "_law_number", "_law_more", "_law_jump"]
def t_law_notes (S : Ev) (E : XK) : TS :=
  (tSeq (tAsg (tLst tNil) (gName 4))
      (tSeq (tFor (iList S.K (tVar 0)) (gName 5) (tSeq (tAsg (tOp kDiv (tVar 5) (tC (.int 24))) (gName 6))
      (tSeq (tAsg (tOp kAdd (tVar 1) (tOp kMul (tOp (rIxL S.K) (tLst (tCons (tC (.int 0)) (tCons (tC (.int 0)) (tCons (tC (.int 0)) (tCons (tC (.int 0)) (tCons (tC (.int 1)) (tCons (tC (.int 3)) tNil))))))) (tOp kMod (tVar 5) (tC (.int 6)))) (tVar 3))) (gName 1))
      (tSeq (tAsg (tOp (rIxL S.K) (tLst (tCons (tOp kSub (tOp kMod (tOp kDiv (tVar 6) (tC (.int 4))) (tC (.int 5))) (tC (.int 2))) (tCons (tOp kSub (tOp kMod (tOp kDiv (tVar 6) (tC (.int 4))) (tC (.int 5))) (tC (.int 2))) (tCons (tOp kSub (tOp kMod (tOp kDiv (tVar 6) (tC (.int 4))) (tC (.int 15))) (tC (.int 7))) (tCons (tOp kSub (tOp kMod (tOp kDiv (tVar 6) (tC (.int 4))) (tC (.int 41))) (tC (.int 20))) tNil))))) (tOp kMod (tVar 6) (tC (.int 4)))) (gName 7))
      (tSeq (tAsg (tOp kSub (tOp kMod (tOp kAdd (tOp kAdd (tVar 2) (tVar 7)) (tC (.int 200))) (tC (.int 401))) (tC (.int 200))) (gName 2))
      (tSeq (tDrop (tBM S.K "list" rAppend (tVar 4) (tCons (tTup (tCons (tVar 1) (tCons (tOp kMul (tOp kAdd (tC (.int 1)) (tOp kMod (tOp kDiv (tVar 5) (tC (.int 6))) (tC (.int 4)))) (tVar 3)) (tCons (tVar 2) tNil)))) tNil)))
      (tAsg (tOp kAdd (tVar 1) (tOp kMul (tOp kAdd (tC (.int 1)) (tOp kMod (tOp kDiv (tVar 5) (tC (.int 6))) (tC (.int 4)))) (tVar 3))) (gName 1))))))))
      (tRet (tVar 4))))

abbrev N_law_piece : List Str := ["_law_script", "_law_many", "_law_scale", "_law_piece_here", "_law_place", "_law_numbers", "_law_base", "_law_begun", "_law_k"]
def t_law_piece (S : Ev) (E : XK) : TS :=
  (tSeq (tAsg (tOp kAdd (tC (.int 1)) (tOp kMod (tCall (sp_law_at S) [] E0 (tCons (tVar 0) (tCons (tC (.int 0)) tNil))) (tC (.int 4)))) (gName 1))
      (tSeq (tIfS (tTest (tOp rEq (tOp kMod (tOp kDiv (tCall (sp_law_at S) [] E0 (tCons (tVar 0) (tCons (tC (.int 0)) tNil))) (tC (.int 4))) (tC (.int 8))) (tC (.int 1)))) (tAsg (tOp kAdd (tC (.int 5)) (tOp kMod (tOp kDiv (tCall (sp_law_at S) [] E0 (tCons (tVar 0) (tCons (tC (.int 0)) tNil))) (tC (.int 32))) (tC (.int 2)))) (gName 1)) tNext)
      (tSeq (tAsg (tC (.int 1)) (gName 2))
      (tSeq (tIfS (tTest (tOp rEq (tOp kMod (tCall (sp_law_at S) [] E0 (tCons (tVar 0) (tCons (tC (.int 1)) tNil))) (tC (.int 8))) (tC (.int 1)))) (tAsg (tOp kAdd (tC (.int 1)) (tOp kMod (tOp kDiv (tCall (sp_law_at S) [] E0 (tCons (tVar 0) (tCons (tC (.int 1)) tNil))) (tC (.int 8))) (tC (.int 200)))) (gName 2)) tNext)
      (tSeq (tAsg (tLst tNil) (gName 3))
      (tSeq (tFor (iRng1 (tCons (tVar 1) tNil)) (gName 4) (tSeq (tAsg (tLc (iRng3 (tCons (tOp kAdd (tC (.int 3)) (tVar 4)) (tCons (tCB kMin2 (tCons (tCB (kLen S.K) (tCons (tVar 0) tNil)) (tCons (tC (.int 63)) tNil))) (tCons (tVar 1) tNil)))) (gName 8) tYes (tOp (rIxL S.K) (tVar 0) (tVar 8)) [8]) (gName 5))
      (tSeq (tAsg (tOp kSub (tCall (sp_law_at S) [] E0 (tCons (tVar 0) (tCons (tC (.int 2)) tNil))) (tOp kMul (tC (.int 5)) (tVar 4))) (gName 6))
      (tSeq (tAsg (tOp kMul (tOp kMod (tOp kAdd (tOp kDiv (tCall (sp_law_at S) [] E0 (tCons (tVar 0) (tCons (tC (.int 1)) tNil))) (tC (.int 1600))) (tOp kMul (tVar 4) (tOp kDiv (tCall (sp_law_at S) [] E0 (tCons (tVar 0) (tCons (tC (.int 2)) tNil))) (tC (.int 401))))) (tC (.int 5))) (tVar 2)) (gName 7))
      (tDrop (tBM S.K "list" rAppend (tVar 3) (tCons (tCall (sp_law_notes S) [] E0 (tCons (tVar 5) (tCons (tVar 7) (tCons (tOp kSub (tOp kMod (tVar 6) (tC (.int 401))) (tC (.int 200))) (tCons (tVar 2) tNil))))) tNil)))))))
      (tRet (tVar 3))))))))
end VW
set_option Elab.async false
set_option linter.all false
set_option maxRecDepth 100000
set_option maxHeartbeats 4000000
namespace VW
open PySem PySem.Spec PyProof.Rows L2 GxR

theorem args1 {vs : List V} (h : vs.length = 1) : ∃ x, vs = [x] := match vs, h with | [x], _ => ⟨x, rfl⟩
theorem args2 {vs : List V} (h : vs.length = 2) : ∃ x y, vs = [x, y] := match vs, h with | [x, y], _ => ⟨x, y, rfl⟩
theorem args3 {vs : List V} (h : vs.length = 3) : ∃ x y z, vs = [x, y, z] := match vs, h with | [x, y, z], _ => ⟨x, y, z, rfl⟩
theorem args4 {vs : List V} (h : vs.length = 4) : ∃ x y z w, vs = [x, y, z, w] := match vs, h with | [x, y, z, w], _ => ⟨x, y, z, w, rfl⟩

/-- the same two lines serve is_whole and the laws' own _law_whole -/
theorem whole_read {K : PySem.W.Frag} {x : V} {d : D} {H : Hp} {Q : VK} (hx : At K H x d) (q : Q (.bl d.whole) H) :
    rIsi K [x, .ty "int"] H fun y H1 => ∃ c, y = .bl c ∧ if c = true then rIsi K [x, .ty "bool"] H1 fun y H2 => ∃ c, y = .bl c ∧ Q (.bl !c) H2 else Q (.bl false) H1 := by
  refine ⟨x, .ty "int", .type d.ty, .type "int", d.isInt, rfl, .ty _, hx.tyX, isi_int d, d.isInt, rfl, ?_⟩
  by_cases e : d.isInt = true
  · rw [if_pos e]
    refine ⟨x, .ty "bool", .type d.ty, .type "bool", d.isBl, rfl, .ty _, hx.tyX, isi_bool d, d.isBl, rfl, ?_⟩
    have : (!d.isBl) = d.whole := by cases d <;> first | rfl | cases e
    rw [this]
    exact q
  · rw [if_neg e]
    have : false = d.whole := by cases d <;> first | rfl | exact absurd rfl e
    rw [this]
    exact q
theorem pure_is_whole (S : Ev) (vs : List V) (H : Hp) (Q : VK) (E : XK) (h : sp_is_whole S vs H Q E) : t_is_whole S E { nx := fun _ H' => Q .non H', rt := Q } (start N_is_whole vs) H := by
  obtain ⟨x, rfl⟩ := args1 (len_is_whole S vs H Q E h)
  obtain ⟨d, hx, q⟩ := h
  exact ⟨x, rfl, whole_read hx q |> fun ⟨a, b, c, d, e, h1, h2, h3, h4, c', h5, h6⟩ => ⟨a, b, c, d, e, h1, h2, h3, h4, c', h5, by
    by_cases z : c' = true
    · rw [if_pos z] at h6 ⊢; exact ⟨x, rfl, h6⟩
    · rw [if_neg z] at h6 ⊢; exact h6⟩⟩
theorem pure_law_whole (S : Ev) (vs : List V) (H : Hp) (Q : VK) (E : XK) (h : sp_law_whole S vs H Q E) : t_law_whole S E { nx := fun _ H' => Q .non H', rt := Q } (start N_law_whole vs) H := by
  obtain ⟨x, rfl⟩ := args1 (len_law_whole S vs H Q E h)
  obtain ⟨d, hx, q⟩ := h
  exact ⟨x, rfl, whole_read hx q |> fun ⟨a, b, c, d, e, h1, h2, h3, h4, c', h5, h6⟩ => ⟨a, b, c, d, e, h1, h2, h3, h4, c', h5, by
    by_cases z : c' = true
    · rw [if_pos z] at h6 ⊢; exact ⟨x, rfl, h6⟩
    · rw [if_neg z] at h6 ⊢; exact h6⟩⟩
theorem pure_require_whole (S : Ev) (vs : List V) (H : Hp) (Q : VK) (E : XK) (h : sp_require_whole S vs H Q E) : t_require_whole S E { nx := fun _ H' => Q .non H', rt := Q } (start N_require_whole vs) H := by
  obtain ⟨x, rfl⟩ := args1 (len_require_whole S vs H Q E h)
  obtain ⟨d, hx, q1, q2⟩ := h
  refine ⟨x, rfl, d, hx, _, rfl, ?_⟩
  cases e : d.whole with
  | true => exact iteF (q1 e)
  | false => exact iteT (q2 e)
theorem pure_end_of (S : Ev) (vs : List V) (H : Hp) (Q : VK) (E : XK) (h : sp_end_of S vs H Q E) : t_end_of S E { nx := fun _ H' => Q .non H', rt := Q } (start N_end_of vs) H := by
  obtain ⟨x, rfl⟩ := args1 (len_end_of S vs H Q E h)
  obtain ⟨a, s, l, p, rfl, ht, q⟩ := h
  exact ⟨_, rfl, a, _, rfl, ht, rfl, .int s, _, rfl, .int l, _, rfl, p, _, rfl, rfl, _, rfl, _, rfl, s, l, rfl, rfl, q⟩
end VW
set_option Elab.async false
set_option linter.all false
set_option maxRecDepth 100000
set_option maxHeartbeats 4000000
namespace VW
open PySem PySem.Spec PyProof.Rows L2 GxR

/-! ### any, all over a list or a tuple that stands -/
section
variable {K : PySem.W.Frag} {P a : Addr} {xs : List V} {g : TG} {te : TE} {vs : List Nat} {σ : L2.St} {H : Hp} {Q : VK} {st : Bool} {k : Nat}
theorem genQ_list (ha : σ[k]? = some (some (.ref a))) (hS : SqL K H a xs) (hT : TabG H P) (Pv : Nat → Hp → Prop) (h0 : ∀ H2, Ext H H2 → Pv 0 H2) (hl : ∀ i H, Pv i H → SqL K H a xs)
    (hs : ∀ i x H, xs[i]? = some x → Pv i H → g x (wipe σ vs) H fun σ2 H2 => wipe σ2 vs = wipe σ vs ∧ te σ2 H2 fun y H3 => ∃ b, y = .bl b ∧ (b = st → Q (.bl st) H3) ∧ (b ≠ st → Pv (i + 1) H3))
    (hd : ∀ H, Pv xs.length H → Q (.bl (!st)) H) : tGenQ st P (iList K (tVar k)) g te vs σ H Q := by
  refine ⟨_, ha, a, rfl, ⟨_, hS⟩, hT, fun H2 t2 => ⟨fun i m H => m = xs.length - i ∧ i ≤ xs.length ∧ Pv i H, ⟨xs.length, by simp, Nat.zero_le _, h0 H2 (Ext.tabbed hT t2)⟩, ?_⟩⟩
  rintro i m H3 ⟨rfl, hi, p⟩
  have q := hl i H3 p
  by_cases hlt : i < xs.length
  · refine .inr ⟨⟨xs, xs[i], q, by simp [hlt]⟩, Pv (i + 1), fun H' p' => ⟨xs.length - (i + 1), by omega, rfl, hlt, p'⟩, fun x H' y => ?_⟩
    obtain ⟨e, y⟩ := y
    subst e
    exact hs i x _ (y xs q) p
  · have e : i = xs.length := by omega
    subst e
    exact .inl ⟨⟨xs, q, Nat.le_refl _⟩, hd H3 p⟩
theorem genQ_tup (ha : σ[k]? = some (some (.ref a))) (hS : SqT K H a xs) (hT : TabG H P) (Pv : Nat → Hp → Prop) (h0 : ∀ H2, Ext H H2 → Pv 0 H2) (hl : ∀ i H, Pv i H → SqT K H a xs)
    (hs : ∀ i x H, xs[i]? = some x → Pv i H → g x (wipe σ vs) H fun σ2 H2 => wipe σ2 vs = wipe σ vs ∧ te σ2 H2 fun y H3 => ∃ b, y = .bl b ∧ (b = st → Q (.bl st) H3) ∧ (b ≠ st → Pv (i + 1) H3))
    (hd : ∀ H, Pv xs.length H → Q (.bl (!st)) H) : tGenQ st P (iTup K (tVar k)) g te vs σ H Q := by
  refine ⟨_, ha, a, rfl, ⟨_, hS⟩, hT, fun H2 t2 => ⟨fun i m H => m = xs.length - i ∧ i ≤ xs.length ∧ Pv i H, ⟨xs.length, by simp, Nat.zero_le _, h0 H2 (Ext.tabbed hT t2)⟩, ?_⟩⟩
  rintro i m H3 ⟨rfl, hi, p⟩
  have q := hl i H3 p
  by_cases hlt : i < xs.length
  · refine .inr ⟨⟨xs, xs[i], q, by simp [hlt]⟩, Pv (i + 1), fun H' p' => ⟨xs.length - (i + 1), by omega, rfl, hlt, p'⟩, fun x H' y => ?_⟩
    obtain ⟨e, y⟩ := y
    subst e
    exact hs i x _ (y xs q) p
  · have e : i = xs.length := by omega
    subst e
    exact .inl ⟨⟨xs, q, Nat.le_refl _⟩, hd H3 p⟩
end
/-- what holds of the first i holds of one more -/
theorem take_all {ds : List D} {p : D → Bool} {i : Nat} {d : D} (h : (ds.take i).all p = true) (e : ds[i]? = some d) (hd : p d = true) : (ds.take (i + 1)).all p = true := by
  rw [List.take_succ, e, List.all_append, h]
  simp [hd]
theorem not_all {ds : List D} {p : D → Bool} {i : Nat} {d : D} (e : ds[i]? = some d) (hd : p d = false) : ds.all p = false := by
  rw [List.all_eq_false]
  exact ⟨d, List.mem_of_getElem? e, by simp [hd]⟩

/-! ### is_note -/
theorem isNote_of {d : D} (h : ∀ a b c, d ≠ .tup [.int a, .int b, .int c]) : isNote d = false := by
  unfold isNote asNote
  split
  · rename_i n hn
    split at hn
    · rename_i a b c
      exact absurd rfl (h a b c)
    · cases hn
  · rfl
theorem whole_int : ∀ {d : D}, d.whole = true → ∃ i, d = .int i
  | .int i, _ => ⟨i, rfl⟩
  | .non, h => by cases h
  | .bl _, h => by cases h
  | .str _, h => by cases h
  | .tup _, h => by cases h
  | .lst _, h => by cases h
  | .dic, h => by cases h
theorem all_whole3 {ds : List D} (hl : ds.length = 3) (h : ds.all D.whole = true) : ∃ a b c : Int, ds = [.int a, .int b, .int c] := by
  match ds, hl with
  | [x, y, z], _ =>
    simp only [List.all_cons, List.all_nil, Bool.and_true, Bool.and_eq_true] at h
    obtain ⟨h1, h2, h3⟩ := h
    obtain ⟨a, rfl⟩ := whole_int h1
    obtain ⟨b, rfl⟩ := whole_int h2
    obtain ⟨c, rfl⟩ := whole_int h3
    exact ⟨_, _, _, rfl⟩
theorem pure_is_note (S : Ev) (vs : List V) (H : Hp) (Q : VK) (E : XK) (h : sp_is_note S vs H Q E) : t_is_note S E { nx := fun _ H' => Q .non H', rt := Q } (start N_is_note vs) H := by
  obtain ⟨x, rfl⟩ := args1 (len_is_note S vs H Q E h)
  obtain ⟨hT, d, hx, q⟩ := h
  -- if not isinstance(note, tuple) or len(note) != 3
  refine ⟨x, rfl, x, .ty "tuple", .type d.ty, .type "tuple", d.isTup, rfl, .ty _, hx.tyX, isi_tuple d, _, rfl, ?_⟩
  by_cases ht : d.isTup = true
  · rw [ht]
    refine iteF ?_
    obtain ⟨a, ts, ds, rfl, rfl, hS, hA⟩ : ∃ a ts ds, x = .ref a ∧ d = .tup ds ∧ SqT S.K H a ts ∧ AtAll S.K H ts ds := by
      cases hx with
      | tup hs ha => exact ⟨_, _, _, rfl, rfl, hs, ha⟩
      | non => cases ht
      | bl b => cases ht
      | int i => cases ht
      | str y => cases ht
      | lst _ _ => cases ht
      | dic _ => cases ht
    have hlen := hA.length
    refine ⟨_, rfl, .ref a, ts.length, rfl, .inr ⟨ts, hS, rfl⟩, rfl, _, rfl, ?_⟩
    by_cases h3 : ts.length = 3
    · rw [show (!decide ((V.int (ts.length : Int)) = V.int 3)) = false by rw [h3]; rfl]
      refine iteF ?_
      -- if not all(is_whole(part) for part in note)
      have hPn : TabG H S.Pn := hT _ S.hPn
      refine genQ_tup (xs := ts) rfl hS hPn (fun i H' => Ext H H' ∧ (ds.take i).all D.whole = true) (fun H2 e2 => ⟨e2, by simp⟩) (fun i H' p => p.1.sqT hS) (fun i y H' hy p => ?_) (fun H' p => ?_)
      · obtain ⟨dy, hdy, hAy⟩ := hA.get hy
        refine ⟨rfl, y, rfl, dy, At.ext p.1 _ _ hAy, dy.whole, rfl, fun hb => ?_, fun hb => ⟨p.1, take_all p.2 hdy (by simpa using hb)⟩⟩
        refine ⟨_, rfl, ?_⟩
        refine iteT ?_
        have e : isNote (.tup ds) = false := isNote_of fun a b c z => by
          injection z with z
          have := not_all hdy hb
          rw [z] at this
          cases this
        have := q H' p.1
        rw [e] at this
        exact this
      · refine ⟨_, rfl, iteF ?_⟩
        have hall : ds.all D.whole = true := by
          have := p.2
          rw [hlen, List.take_length] at this
          exact this
        obtain ⟨s, l, pt, rfl⟩ := all_whole3 (by omega) hall
        have ets : ts = [.int s, .int l, .int pt] := by
          cases hA with
          | cons k1 hr =>
            cases hr with
            | cons k2 hr =>
              cases hr with
              | cons k3 hr =>
                cases hr
                cases k1; cases k2; cases k3
                rfl
        subst ets
        have hS' := p.1.sqT hS
        have q' := q H' p.1
        have eN : isNote (.tup [.int s, .int l, .int pt]) = (decide (0 ≤ s) && decide (1 ≤ l) && decide (s + l ≤ 100000) && decide (-200 ≤ pt) && decide (pt ≤ 200)) := rfl
        rw [eN] at q'
        -- start, long, pitch = note
        refine ⟨_, rfl, a, _, rfl, hS', rfl, .int s, _, rfl, .int l, _, rfl, .int pt, _, rfl, rfl, ?_⟩
        -- in_time = ..; return in_time and -PITCH_REACH <= pitch <= PITCH_REACH
        refine ⟨.int s, rfl, s, 0, rfl, rfl, _, rfl, ?_⟩
        have fin : ∀ b : Bool, (b = true → (decide (-200 ≤ pt) && decide (pt ≤ 200)) = (decide (0 ≤ s) && decide (1 ≤ l) && decide (s + l ≤ 100000) && decide (-200 ≤ pt) && decide (pt ≤ 200))) → (b = false → (decide (0 ≤ s) && decide (1 ≤ l) && decide (s + l ≤ 100000) && decide (-200 ≤ pt) && decide (pt ≤ 200)) = false) →
            tRet (tAndV (tVar 4) (tChain kLe kLe (tUn kNeg (tC (.int 200))) (tVar 3) (tC (.int 200)))) { nx := fun _ H' => Q .non H', rt := Q } [some (.ref a), some (.int s), some (.int l), some (.int pt), some (.bl b), none] H' := by
          intro b hb1 hb0
          refine ⟨.bl b, rfl, b, rfl, ?_⟩
          cases b with
          | false =>
            refine iteF ?_
            rw [← hb0 rfl]; exact q'
          | true =>
            refine iteT ?_
            refine ⟨200, rfl, .int pt, rfl, -200, pt, rfl, rfl, _, rfl, ?_⟩
            rw [← hb1 rfl] at q'
            by_cases e : -200 ≤ pt
            · rw [decide_eq_true e] at q' ⊢
              exact iteT ⟨pt, 200, rfl, rfl, q'⟩
            · rw [decide_eq_false e] at q' ⊢
              exact iteF q'
        by_cases e1 : 0 ≤ s
        · rw [decide_eq_true e1]
          refine iteT ⟨.int l, rfl, l, 1, rfl, rfl, _, rfl, ?_⟩
          by_cases e2 : 1 ≤ l
          · rw [decide_eq_true e2]
            refine iteT ⟨.int s, rfl, .int l, rfl, s, l, rfl, rfl, s + l, 100000, rfl, rfl, ?_⟩
            exact fin _ (fun hb => by rw [hb, decide_eq_true e1, decide_eq_true e2]; simp) fun hb => by rw [hb]; simp
          · rw [decide_eq_false e2]
            exact iteF (fin _ (fun hb => by cases hb) fun _ => by simp [decide_eq_false e2])
        · rw [decide_eq_false e1]
          exact iteF (fin _ (fun hb => by cases hb) fun _ => by simp [decide_eq_false e1])
    · have hne : ¬ (V.int (ts.length : Int)) = V.int 3 := fun z => h3 (by injection z with z; omega)
      rw [show (!decide ((V.int (ts.length : Int)) = V.int 3)) = true by rw [decide_eq_false hne]; rfl]
      refine iteT ?_
      have e : isNote (.tup ds) = false := isNote_of fun a b c z => by
        injection z with z
        rw [z] at hlen
        exact h3 (by rw [hlen]; rfl)
      have := q H (Ext.refl H)
      rw [e] at this
      exact this
  · have ht' : d.isTup = false := by simpa using ht
    rw [ht']
    refine iteT ?_
    have e : isNote d = false := isNote_of fun a b c z => by rw [z] at ht'; cases ht'
    have := q H (Ext.refl H)
    rw [e] at this
    exact this
end VW
set_option Elab.async false
set_option linter.all false
set_option maxRecDepth 100000
set_option maxHeartbeats 4000000
namespace VW
open PySem PySem.Spec PyProof.Rows L2 GxR

theorem At.note {K : PySem.W.Frag} {H : Hp} {x : V} {n : Nt} (h : At K H x (noteD n)) : ∃ a, x = .ref a ∧ SqT K H a [.int n.1, .int n.2.1, .int n.2.2] := by
  cases h with
  | tup hs ha =>
    cases ha with
    | cons k1 hr =>
      cases hr with
      | cons k2 hr =>
        cases hr with
        | cons k3 hr =>
          cases hr
          cases k1; cases k2; cases k3
          exact ⟨_, rfl, hs⟩
theorem At.list {K : PySem.W.Frag} {H : Hp} {x : V} {ds : List D} (h : At K H x (.lst ds)) : ∃ a xs, x = .ref a ∧ SqL K H a xs ∧ AtAll K H xs ds := by
  cases h with
  | lst hs ha => exact ⟨_, _, rfl, hs, ha⟩
theorem At.isLst {K : PySem.W.Frag} {H : Hp} {x : V} {d : D} (h : At K H x d) (e : d.isLst = true) : ∃ a xs ds, d = .lst ds ∧ x = .ref a ∧ SqL K H a xs ∧ AtAll K H xs ds := by
  cases h with
  | lst hs ha => exact ⟨_, _, _, rfl, rfl, hs, ha⟩
  | non => cases e
  | bl b => cases e
  | int i => cases e
  | str y => cases e
  | tup _ _ => cases e
  | dic _ => cases e
theorem drop_at {α : Type} {l : List α} {i : Nat} {x : α} (h : l[i]? = some x) : l.drop i = x :: l.drop (i + 1) := by
  obtain ⟨hi, e⟩ := List.getElem?_eq_some_iff.mp h
  rw [List.drop_eq_getElem_cons hi, e]
theorem isNote_some {d : D} (h : isNote d = true) : ∃ n, asNote d = some n ∧ okNote n = true := by
  unfold isNote at h
  split at h
  · rename_i n hn; exact ⟨n, hn, h⟩
  · cases h
theorem voiceFrom_bad {d : D} {r : List D} {e : Int} (h : isNote d = false) : voiceFrom e (d :: r) = false := by
  unfold isNote at h
  unfold voiceFrom
  split
  · rename_i n hn
    rw [hn] at h
    have h' : okNote n = false := h
    rw [h']
    rfl
  · rfl
theorem voiceFrom_cons {d : D} {r : List D} {e : Int} {n : Nt} (h : asNote d = some n) : voiceFrom e (d :: r) = (okNote n && decide (e ≤ n.1) && voiceFrom (n.1 + n.2.1) r) := by
  show (match asNote d with | some n => _ | none => _) = _
  rw [h]

theorem pure_is_voice (S : Ev) (vs : List V) (H : Hp) (Q : VK) (E : XK) (h : sp_is_voice S vs H Q E) : t_is_voice S E { nx := fun _ H' => Q .non H', rt := Q } (start N_is_voice vs) H := by
  obtain ⟨x, rfl⟩ := args1 (len_is_voice S vs H Q E h)
  obtain ⟨hT, d, hx, q⟩ := h
  refine ⟨x, rfl, x, .ty "list", .type d.ty, .type "list", d.isLst, rfl, .ty _, hx.tyX, isi_list d, _, rfl, ?_⟩
  cases ht : d.isLst with
  | false =>
    refine iteT ?_
    have e : isVoice d = false := by cases d <;> first | rfl | cases ht
    have := q H (Ext.refl H)
    rw [e] at this
    exact this
  | true =>
    refine iteF ?_
    obtain ⟨a, xs, ds, rfl, rfl, hS, hA⟩ := hx.isLst ht
    have hlen := hA.length
    refine ⟨_, rfl, a, rfl, ⟨_, hS⟩, for_list (K := S.K) (a := a) (xs := xs) (fun i σ H' => ∃ e y2, σ = [some (.ref a), some (.int e), y2] ∧ Ext H H' ∧ voiceFrom 0 ds = voiceFrom e (ds.drop i))
      ⟨0, none, rfl, Ext.refl H, rfl⟩ (fun i σ H' _ ⟨_, _, _, x2, _⟩ => x2.sqL hS) ?_ ?_⟩
    · rintro i y σ H' hy ⟨e, y2, rfl, x2, eq⟩
      obtain ⟨dy, hdy, hAy⟩ := hA.get hy
      rw [drop_at hdy] at eq
      have hAy' := At.ext x2 _ _ hAy
      refine ⟨_, rfl, x2.tabs hT, dy, hAy', fun H2 x3 => ⟨_, rfl, ?_⟩⟩
      cases hn : isNote dy with
      | false =>
        refine iteT (iteT ?_)
        rw [voiceFrom_bad hn] at eq
        have := q H2 (x2.trans x3)
        rw [show isVoice (.lst ds) = voiceFrom 0 ds from rfl, eq] at this
        exact this
      | true =>
        refine iteF ?_
        obtain ⟨n, e1, ok⟩ := isNote_some hn
        have ed := asNote_some e1
        subst ed
        obtain ⟨b, rfl, hb⟩ := (At.ext x3 _ _ hAy').note
        rw [voiceFrom_cons e1, ok, Bool.true_and] at eq
        refine ⟨_, rfl, b, _, 0, .int n.1, rfl, rfl, hb, rfl, .int e, rfl, n.1, e, rfl, rfl, _, rfl, ?_⟩
        by_cases c : n.1 < e
        · rw [decide_eq_true c]
          refine iteT ?_
          rw [decide_eq_false (by omega), Bool.false_and] at eq
          have := q H2 (x2.trans x3)
          rw [show isVoice (.lst ds) = voiceFrom 0 ds from rfl, eq] at this
          exact this
        · rw [decide_eq_false c]
          refine iteF ?_
          rw [decide_eq_true (by omega), Bool.true_and] at eq
          exact ⟨_, rfl, b, n.1, n.2.1, .int n.2.2, rfl, hb, n.1 + n.2.1, _, rfl, x2.trans x3, eq⟩
    · rintro σ H' ⟨e, y2, rfl, x2, eq⟩
      rw [hlen, List.drop_length] at eq
      have := q H' x2
      rw [show isVoice (.lst ds) = voiceFrom 0 ds from rfl, eq] at this
      exact this

theorem pure_is_piece (S : Ev) (vs : List V) (H : Hp) (Q : VK) (E : XK) (h : sp_is_piece S vs H Q E) : t_is_piece S E { nx := fun _ H' => Q .non H', rt := Q } (start N_is_piece vs) H := by
  obtain ⟨x, rfl⟩ := args1 (len_is_piece S vs H Q E h)
  obtain ⟨hT, d, hx, q⟩ := h
  refine ⟨x, rfl, x, .ty "list", .type d.ty, .type "list", d.isLst, rfl, .ty _, hx.tyX, isi_list d, _, rfl, ?_⟩
  cases ht : d.isLst with
  | false =>
    refine iteT (iteT ?_)
    have e : isPiece d = false := by cases d <;> first | rfl | cases ht
    have := q H (Ext.refl H)
    rw [e] at this
    exact this
  | true =>
    refine iteF ?_
    obtain ⟨a, xs, ds, rfl, rfl, hS, hA⟩ := hx.isLst ht
    have hlen := hA.length
    have eP : isPiece (.lst ds) = (decide (1 ≤ ds.length) && decide (ds.length ≤ 6) && ds.all isVoice) := rfl
    refine ⟨_, rfl, .ref a, xs.length, rfl, .inl ⟨xs, hS, rfl⟩, 1, xs.length, rfl, rfl, _, rfl, ?_⟩
    by_cases h1 : 1 ≤ xs.length
    · rw [decide_eq_true (show (1 : Int) ≤ (xs.length : Int) by omega)]
      refine iteT ⟨xs.length, 6, rfl, rfl, _, rfl, ?_⟩
      by_cases h6 : xs.length ≤ 6
      · rw [decide_eq_true (show (xs.length : Int) ≤ 6 by omega)]
        refine iteF ?_
        have hPp : TabG H S.Pp := hT _ S.hPp
        refine genQ_list (xs := xs) rfl hS hPp (fun i H' => Ext H H' ∧ (ds.take i).all isVoice = true) (fun H2 e2 => ⟨e2, by simp⟩) (fun i H' p => p.1.sqL hS) (fun i y H' hy p => ?_) (fun H' p => ?_)
        · obtain ⟨dy, hdy, hAy⟩ := hA.get hy
          refine ⟨rfl, y, rfl, p.1.tabs hT, dy, At.ext p.1 _ _ hAy, fun H2 x3 => ⟨_, rfl, fun hb => ?_, fun hb => ⟨p.1.trans x3, take_all p.2 hdy (by simpa using hb)⟩⟩⟩
          have := q H2 (p.1.trans x3)
          rw [eP, not_all hdy hb, Bool.and_false] at this
          exact this
        · have hall : ds.all isVoice = true := by
            have := p.2
            rw [hlen, List.take_length] at this
            exact this
          have := q H' p.1
          rw [eP, hall, decide_eq_true (by omega), decide_eq_true (by omega)] at this
          exact this
      · rw [decide_eq_false (show ¬ (xs.length : Int) ≤ 6 by omega)]
        refine iteT ?_
        have := q H (Ext.refl H)
        rw [eP, decide_eq_false (show ¬ ds.length ≤ 6 by omega), Bool.and_false, Bool.false_and] at this
        exact this
    · rw [decide_eq_false (show ¬ (1 : Int) ≤ (xs.length : Int) by omega)]
      refine iteF ⟨_, rfl, ?_⟩
      refine iteT ?_
      have := q H (Ext.refl H)
      rw [eP, decide_eq_false (show ¬ 1 ≤ ds.length by omega), Bool.false_and, Bool.false_and] at this
      exact this
end VW
set_option Elab.async false
set_option linter.all false
set_option maxRecDepth 100000
set_option maxHeartbeats 4000000
namespace VW
open PySem PySem.Spec PyProof.Rows L2 GxR

/-! ### notes while a list changes -/
section
variable {K : PySem.W.Frag} {H H1 : Hp} {D a : Addr} {o : HO} {zs : List V}
theorem sqT_upd {xs : List V} (hD : H D = some (.lst zs)) (h : SqT K H a xs) : SqT K (upd H D o) a xs := by
  rcases h with (e | ⟨ob, e⟩) | h
  · exact .inl (.inl (by rw [upd_ne (ne_of e hD (by intro z; cases z))]; exact e))
  · exact .inl (.inr ⟨ob, by rw [upd_ne (ne_of e hD (by intro z; cases z))]; exact e⟩)
  · exact .inr h
theorem At.note_upd {x : V} {n : Nt} (hD : H D = some (.lst zs)) (h : At K H x (noteD n)) : At K (upd H D o) x (noteD n) := by
  cases h with
  | tup hs ha =>
    refine .tup (sqT_upd hD hs) ?_
    cases ha with
    | cons k1 hr =>
      cases hr with
      | cons k2 hr =>
        cases hr with
        | cons k3 hr =>
          cases hr
          cases k1; cases k2; cases k3
          exact .cons (.int _) (.cons (.int _) (.cons (.int _) .nil))
theorem AtAll.notes_upd (hD : H D = some (.lst zs)) : ∀ {xs : List V} {v : List Nt}, AtAll K H xs (v.map noteD) → AtAll K (upd H D o) xs (v.map noteD)
  | _, [], h => by cases h; exact .nil
  | _, n :: v, h => by
    cases h with
    | cons k r => exact .cons (k.note_upd hD) (AtAll.notes_upd hD r)
end
theorem Rows.ext {K : PySem.W.Frag} {H H1 : Hp} (x : Ext H H1) : ∀ {as : List Addr} {dss : List (List D)}, Rows K H as dss → Rows K H1 as dss
  | [], [], _ => trivial
  | a :: as, ds :: dss, ⟨⟨xs, e, h⟩, r⟩ => ⟨⟨xs, x.lst e, AtAll.ext x _ _ h⟩, Rows.ext x r⟩
  | [], _ :: _, h => h.elim
  | _ :: _, [], h => h.elim
theorem Rows.upd {K : PySem.W.Frag} {H : Hp} {p : Addr} {o : HO} {zs : List V} (hD : H p = some (.lst zs)) : ∀ {as : List Addr} {rows : List (List Nt)}, p ∉ as → Rows K H as (rows.map fun v => v.map noteD) → Rows K (L2.upd H p o) as (rows.map fun v => v.map noteD)
  | [], [], _, _ => trivial
  | a :: as, v :: rows, hn, ⟨⟨xs, e, h⟩, r⟩ => ⟨⟨xs, by rw [upd_ne (fun z => hn (by rw [← z]; exact List.mem_cons_self))]; exact e, h.notes_upd hD⟩, Rows.upd hD (fun z => hn (List.mem_cons_of_mem _ z)) r⟩
  | [], _ :: _, _, h => h.elim
  | _ :: _, [], _, h => h.elim
theorem Rows.snoc {K : PySem.W.Frag} {H : Hp} {b : Addr} {xs : List V} {ds : List D} (e : H b = some (.lst xs)) (h : AtAll K H xs ds) : ∀ {as : List Addr} {dss : List (List D)}, Rows K H as dss → Rows K H (as ++ [b]) (dss ++ [ds])
  | [], [], _ => ⟨⟨xs, e, h⟩, trivial⟩
  | _ :: _, _ :: _, ⟨h1, r⟩ => ⟨h1, Rows.snoc e h r⟩
  | [], _ :: _, h => h.elim
  | _ :: _, [], h => h.elim
theorem Rows.length {K : PySem.W.Frag} {H : Hp} : ∀ {as : List Addr} {dss : List (List D)}, Rows K H as dss → as.length = dss.length
  | [], [], _ => rfl
  | _ :: _, _ :: _, ⟨_, r⟩ => congrArg (· + 1) r.length
  | [], _ :: _, h => h.elim
  | _ :: _, [], h => h.elim
theorem Rows.there {K : PySem.W.Frag} {H : Hp} : ∀ {as : List Addr} {dss : List (List D)} {a : Addr}, Rows K H as dss → a ∈ as → ∃ xs, H a = some (.lst xs)
  | a :: as, ds :: dss, b, ⟨⟨xs, e, _⟩, r⟩, hb => by
    rcases List.mem_cons.mp hb with z | z
    · rw [z]; exact ⟨xs, e⟩
    · exact Rows.there r z
  | [], _, _, _, hb => by cases hb
  | _ :: _, [], _, h, _ => h.elim
theorem Rows.at {K : PySem.W.Frag} {H : Hp} : ∀ {as : List Addr} {dss : List (List D)}, Rows K H as dss → AtAll K H (as.map V.ref) (dss.map D.lst)
  | [], [], _ => .nil
  | _ :: _, _ :: _, ⟨⟨xs, e, h⟩, r⟩ => .cons (.lst (.of e) h) r.at
  | [], _ :: _, h => h.elim
  | _ :: _, [], h => h.elim
theorem New2.at {K : PySem.W.Frag} {H0 H : Hp} {p : Addr} {dss : List (List D)} (h : New2 K H0 H p dss) : At K H (.ref p) (.lst (dss.map D.lst)) := by
  obtain ⟨as, e, _, _, _, r⟩ := h.ex
  exact .lst (.of e) r.at
theorem pieceD_rows (pc : List (List Nt)) : pieceD pc = .lst ((pc.map fun v => v.map noteD).map D.lst) := by
  unfold pieceD
  rw [List.map_map]
  rfl
theorem New2.piece {K : PySem.W.Frag} {H0 H : Hp} {p : Addr} {pc : List (List Nt)} (h : New2 K H0 H p (pc.map fun v => v.map noteD)) : At K H (.ref p) (pieceD pc) := by
  rw [pieceD_rows]
  exact h.at

/-- a comprehension whose elements are new lists of notes -/
theorem lc_rowsD {K : PySem.W.Frag} {a : Addr} {xs : List V} {g : TG} {te : TE} {vs : List Nat} {σ : L2.St} {H1 : Hp} {D : Addr} {Qd : Hp → Prop} (hD : H1 D = none) (rows : List (List Nt)) (hlen : rows.length = xs.length) (hz : xs.length ≤ 1000) (hS : SqL K H1 a xs)
    (hs : ∀ (i : Nat) (x : V) (r : List Nt) (H' : Hp) (R : VK), xs[i]? = some x → rows[i]? = some r → Ext H1 H' → (∀ b ys H4, H4 b = some (.lst ys) → H' b = none → Ext H' H4 → AtAll K H4 ys (r.map noteD) → R (.ref b) H4) →
      g x (wipe σ vs) H' fun σ2 H2 => wipe σ2 vs = wipe σ vs ∧ te σ2 H2 R)
    (hd : ∀ H', Ext H1 H' → New2 K H1 H' D (rows.map fun v => v.map noteD) → Qd H') :
    ∃ W : Nat → Nat → Hp → Prop, (∃ m, W 0 m (upd H1 D (.lst []))) ∧ ∀ i m H, W i m H →
      ((Itl K a).stop i H ∧ Qd H) ∨ ((Itl K a).go i H ∧ ∃ Nx : Hp → Prop, (∀ H', Nx H' → ∃ m', m' < m ∧ W (i + 1) m' H') ∧ ∀ x H', (Itl K a).yld i H x H' → g x (wipe σ vs) H' fun σ2 H2 => wipe σ2 vs = wipe σ vs ∧ tYes σ2 H2 fun b H3 =>
        if b = true then te σ2 H3 fun y H4 => ∃ acc, H4 D = some (.lst acc) ∧ acc.length < sizeLine ∧ Nx (upd H4 D (.lst (acc ++ [y]))) else Nx H3) := by
  have E0 : Ext H1 (upd H1 D (.lst [])) := Ext.new hD
  refine lc_list (Pv := fun i H => Ext H1 H ∧ ∃ as : List Addr, H D = some (.lst (as.map V.ref)) ∧ as.length = i ∧ (D :: as).Nodup ∧ (∀ a ∈ as, H1 a = none) ∧ Rows K H as ((rows.take i).map fun v => v.map noteD))
    ⟨E0, [], upd_same, rfl, by simp, by simp, trivial⟩ (fun i H _ h => h.1.sqL hS) ?_ ?_
  · rintro i x H hx ⟨hE, as, eD, hL, hN, h0, hR⟩
    have hi : i < xs.length := by
      have := hx
      rw [List.getElem?_eq_some_iff] at this
      exact this.1
    have hr : rows[i]? = some rows[i] := List.getElem?_eq_getElem (by omega)
    refine hs i x _ H _ hx hr hE fun b ys H4 eb nb hE4 hA => ⟨as.map V.ref, hE4.lst eD, by rw [List.length_map]; exact Nat.lt_of_lt_of_le (by omega) (by decide : 1001 ≤ sizeLine), ?_⟩
    have bD : b ≠ D := fun z => by rw [z, eD] at nb; cases nb
    have bas : b ∉ as := fun z => by obtain ⟨ws, ew⟩ := hR.there z; rw [ew] at nb; cases nb
    have Das : D ∉ as := (List.nodup_cons.mp hN).1
    have eD4 := hE4.lst eD
    refine ⟨(hE.trans hE4).upd hD, as ++ [b], by rw [upd_same, List.map_append]; rfl, by rw [List.length_append, hL]; rfl, ?_, ?_, ?_⟩
    · rw [← List.cons_append]
      refine List.nodup_append.mpr ⟨hN, by simp, ?_⟩
      intro c hc d hd'
      rw [List.mem_singleton.mp hd']
      intro z
      rw [z] at hc
      rcases List.mem_cons.mp hc with q | q
      · exact bD q
      · exact bas q
    · intro c hc
      rcases List.mem_append.mp hc with q | q
      · exact h0 c q
      · rw [List.mem_singleton.mp q]
        exact hE.free nb
    · have e1 : (rows.take (i + 1)).map (fun v => v.map noteD) = ((rows.take i).map fun v => v.map noteD) ++ [rows[i].map noteD] := by
        rw [List.take_succ, hr, List.map_append]
        rfl
      rw [e1]
      refine Rows.snoc (xs := ys) (by rw [upd_ne bD]; exact eb) (hA.notes_upd eD4) ?_
      exact Rows.upd eD4 Das (Rows.ext hE4 hR)
  · rintro H ⟨hE, as, eD, hL, hN, h0, hR⟩
    refine hd H hE ⟨as, eD, hD, hN, h0, ?_⟩
    rw [← hlen, List.take_length] at hR
    exact hR
end VW
set_option Elab.async false
set_option linter.all false
set_option maxRecDepth 100000
set_option maxHeartbeats 4000000
namespace VW
open PySem PySem.Spec PyProof.Rows L2 GxR

/-- what a piece holds, voice by voice -/
theorem At.piece {K : PySem.W.Frag} {H : Hp} {x : V} {pc : List (List Nt)} (h : At K H x (pieceD pc)) : ∃ a xs, x = .ref a ∧ SqL K H a xs ∧ AtAll K H xs (pc.map voiceD) := by
  unfold pieceD at h
  cases h with
  | lst hs ha => exact ⟨_, _, rfl, hs, ha⟩
theorem okPiece_len {pc : List (List Nt)} (h : okPiece pc = true) : 1 ≤ pc.length ∧ pc.length ≤ 6 := by
  unfold okPiece at h
  simp only [Bool.and_eq_true, decide_eq_true_eq] at h
  exact h.1

theorem pure_good (S : Ev) (vs : List V) (H : Hp) (Q : VK) (E : XK) (h : sp_good S vs H Q E) : t_good S E { nx := fun _ H' => Q .non H', rt := Q } (start N_good vs) H := by
  obtain ⟨x, rfl⟩ := args1 (len_good S vs H Q E h)
  obtain ⟨hT, d, hx, q1, q2⟩ := h
  refine ⟨x, rfl, hT, d, hx, fun H2 x2 => ⟨_, rfl, ?_⟩⟩
  cases hd : isPiece d with
  | false => exact iteT (q2 hd H2 x2)
  | true =>
    refine iteF ?_
    obtain ⟨pc, ed, ok⟩ := isPiece_some hd
    subst ed
    obtain ⟨a, xs, rfl, hS, hA⟩ := At.piece (At.ext x2 _ _ hx)
    have hl := hA.length
    rw [List.length_map] at hl
    have hp := okPiece_len ok
    refine ⟨_, rfl, a, rfl, ⟨xs, hS⟩, fun p hp => lc_rowsD (xs := xs) hp pc hl.symm (by omega) hS ?_ fun H' x3 n2 => q1 pc rfl ok H' p (x2.trans x3) ⟨?_⟩⟩
    · intro i y r H' R hy hr x3 k
      obtain ⟨dy, hdy, hAy⟩ := hA.get hy
      rw [List.getElem?_map, hr] at hdy
      cases hdy
      obtain ⟨b, ys, rfl, hb, hB⟩ := At.list (At.ext x3 _ _ hAy)
      refine ⟨rfl, _, rfl, b, ys, rfl, .inl hb, fun l hl' => ?_⟩
      exact k l ys _ upd_same hl' (Ext.new hl') (AtAll.ext (Ext.new hl') _ _ hB)
    · obtain ⟨as, e1, e2, e3, e4, e5⟩ := n2.ex
      exact ⟨as, e1, x2.free e2, e3, fun a ha => x2.free (e4 a ha), e5⟩

theorem atI_of {xs : List V} {i : Int} {v : V} (h : 0 ≤ i) (e : xs[i.toNat]? = some v) : atI xs i = some v := by
  have hl : i.toNat < xs.length := (List.getElem?_eq_some_iff.mp e).1
  unfold atI ixN
  rw [if_pos h, if_pos (by omega)]
  exact e
theorem atI3 (a b c : V) : atI [a, b, c] 0 = some a ∧ atI [a, b, c] 1 = some b ∧ atI [a, b, c] 2 = some c := ⟨rfl, rfl, rfl⟩
theorem pure_pitch_at (S : Ev) (vs : List V) (H : Hp) (Q : VK) (E : XK) (h : sp_pitch_at S vs H Q E) : t_pitch_at S E { nx := fun _ H' => Q .non H', rt := Q } (start N_pitch_at vs) H := by
  obtain ⟨x, t, rfl⟩ := args2 (len_pitch_at S vs H Q E h)
  obtain ⟨v, i, hx, rfl, q⟩ := h
  obtain ⟨a, xs, rfl, hS, hA⟩ := At.list hx
  have hlen := hA.length
  rw [List.length_map] at hlen
  refine ⟨_, rfl, a, rfl, ⟨_, hS⟩, for_list (K := S.K) (a := a) (xs := xs) (fun k σ H' => ∃ y2, σ = [some (.ref a), some (.int i), y2] ∧ H' = H ∧ pitchAt i v = pitchAt i (v.drop k))
      ⟨none, rfl, rfl, rfl⟩ (fun i σ H' _ ⟨_, _, e, _⟩ => by rw [e]; exact hS) ?_ ?_⟩
  · rintro k y σ H' hy ⟨y2, rfl, rfl, eq⟩
    obtain ⟨dy, hdy, hAy⟩ := hA.get hy
    rw [List.getElem?_map] at hdy
    cases hv : v[k]? with
    | none => rw [hv] at hdy; cases hdy
    | some n =>
      rw [hv] at hdy
      cases hdy
      obtain ⟨b, rfl, hb⟩ := hAy.note
      rw [drop_at hv] at eq
      have eq' : pitchAt i v = if n.1 ≤ i ∧ i < n.1 + n.2.1 then some n.2.2 else pitchAt i (v.drop (k + 1)) := eq
      refine ⟨_, rfl, b, _, 0, .int n.1, rfl, rfl, hb, rfl, .int i, rfl, n.1, i, rfl, rfl, _, rfl, ?_⟩
      by_cases c : n.1 ≤ i
      · rw [decide_eq_true c]
        refine iteT ⟨_, rfl, b, n.1, n.2.1, .int n.2.2, rfl, hb, i, n.1 + n.2.1, rfl, rfl, _, rfl, ?_⟩
        by_cases c2 : i < n.1 + n.2.1
        · rw [decide_eq_true c2]
          rw [if_pos ⟨c, c2⟩] at eq'
          refine iteT ⟨_, rfl, b, _, 2, .int n.2.2, rfl, rfl, hb, rfl, ?_⟩
          rw [eq'] at q
          exact q
        · rw [decide_eq_false c2]
          rw [if_neg (fun z => c2 z.2)] at eq'
          exact iteF ⟨_, rfl, rfl, eq'⟩
      · rw [decide_eq_false c]
        rw [if_neg (fun z => c z.1)] at eq'
        exact iteF ⟨_, rfl, iteF ⟨_, rfl, rfl, eq'⟩⟩
  · rintro σ H' ⟨y2, rfl, rfl, eq⟩
    rw [hlen, List.drop_length] at eq
    rw [eq] at q
    exact q

theorem pure_law_at (S : Ev) (vs : List V) (H : Hp) (Q : VK) (E : XK) (h : sp_law_at S vs H Q E) : t_law_at S E { nx := fun _ H' => Q .non H', rt := Q } (start N_law_at vs) H := by
  obtain ⟨x, k, rfl⟩ := args2 (len_law_at S vs H Q E h)
  obtain ⟨a, ns, i, rfl, hS, h63, rfl, hi, q⟩ := h
  refine ⟨.int i, rfl, _, rfl, _, (ns.map V.int).length, rfl, .inl ⟨_, hS, rfl⟩, i, _, rfl, rfl, _, rfl, ?_⟩
  rw [List.length_map]
  by_cases c : i < (ns.length : Int)
  · rw [decide_eq_true c]
    have hn : i.toNat < ns.length := by omega
    refine iteT ⟨_, rfl, .int i, rfl, a, _, i, .int (ns.getD i.toNat 0), rfl, rfl, hS, ?_, q⟩
    refine atI_of hi ?_
    rw [List.getElem?_map, List.getElem?_eq_getElem hn, List.getD_eq_getElem?_getD, List.getElem?_eq_getElem hn]
    rfl
  · rw [decide_eq_false c]
    refine iteF ?_
    rw [List.getD_eq_getElem?_getD, List.getElem?_eq_none (by omega)] at q
    exact q
end VW
set_option Elab.async false
set_option linter.all false
set_option maxRecDepth 100000
set_option maxHeartbeats 4000000
namespace VW
open PySem PySem.Spec PyProof.Rows L2 GxR

theorem D.whole_int {d : D} (h : d.whole = true) : ∃ i, d = .int i := by cases d <;> first | exact ⟨_, rfl⟩ | cases h
theorem At.isInt {K : PySem.W.Frag} {H : Hp} {x : V} {i : Int} (h : At K H x (.int i)) : x = .int i := by cases h; rfl
theorem take_snoc {α β : Type} {l : List α} {i : Nat} {x : α} (f : α → β) (h : l[i]? = some x) : (l.take (i + 1)).map f = (l.take i).map f ++ [f x] := by
  rw [List.take_succ, h, List.map_append]
  rfl

theorem pure_sounding (S : Ev) (vs : List V) (H : Hp) (Q : VK) (E : XK) (h : sp_sounding S vs H Q E) : t_sounding S E { nx := fun _ H' => Q .non H', rt := Q } (start N_sounding vs) H := by
  obtain ⟨x, t, rfl⟩ := args2 (len_sounding S vs H Q E h)
  obtain ⟨hT, d, dt, hx, ht, q1, q2, q3⟩ := h
  refine ⟨x, rfl, hT, d, hx, fun pc ed ok H2 p x2 n2 => ?_, fun hd H' x2 => q3 hd H' x2⟩
  refine ⟨t, rfl, dt, At.ext x2 _ _ ht, fun hw => ?_, fun hw => q2 (by rw [ed, isPiece_D]; exact ok) hw H2 x2⟩
  obtain ⟨i, ei⟩ := D.whole_int hw
  subst ei
  have et := ht.isInt
  subst et
  have hp := okPiece_len ok
  have hP := n2.piece
  obtain ⟨a, xs, e, hS, hA⟩ := At.piece hP
  cases e
  have hl := hA.length
  rw [List.length_map] at hl
  refine ⟨_, rfl, p, rfl, ⟨xs, hS⟩, fun D hD => ?_⟩
  refine lc_list (Pv := fun k H' => Ext H2 H' ∧ H' D = some (.lst ((pc.take k).map fun v => optV (pitchAt i v)))) ⟨Ext.new hD, upd_same⟩ (fun k H' _ p => p.1.sqL hS) ?_ ?_
  · rintro k y H' hy ⟨x3, eD⟩
    obtain ⟨dy, hdy, hAy⟩ := hA.get hy
    rw [List.getElem?_map] at hdy
    cases hv : pc[k]? with
    | none => rw [hv] at hdy; cases hdy
    | some v =>
      rw [hv] at hdy
      cases hdy
      have hk : k < pc.length := (List.getElem?_eq_some_iff.mp hv).1
      refine ⟨rfl, y, rfl, .int i, rfl, v, i, At.ext x3 _ _ hAy, rfl, _, eD, ?_, x3.upd hD, ?_⟩
      · rw [List.length_map, List.length_take]
        exact Nat.lt_of_lt_of_le (by omega : _ < 1001) (by decide : 1001 ≤ sizeLine)
      · rw [upd_same, take_snoc _ hv]
  · rintro H' ⟨x3, eD⟩
    rw [hl, List.take_length] at eD
    exact q1 pc i ed ok rfl H' D (x2.trans x3) (x2.free hD) eD
end VW
set_option Elab.async false
set_option linter.all false
set_option maxRecDepth 100000
set_option maxHeartbeats 4000000
namespace VW
open PySem PySem.Spec PyProof.Rows L2 GxR

theorem md (n : Int) {m : Int} (h : 0 < m) : 0 ≤ n.fmod m ∧ n.fmod m < m := ⟨Int.fmod_nonneg_of_pos n h, Int.fmod_lt_of_pos n h⟩
theorem cdv (n m : Int) (h : m ≠ 0) (h1 : m.natAbs < 1073741824) : CDivN n m := ⟨h, h1⟩
theorem rest6_at (n : Int) : atI ([.int 0, .int 0, .int 0, .int 0, .int 1, .int 3] : List V) (n.fmod 6) = some (V.int (rest6 (n.fmod 6))) := by
  have h := md n (m := 6) (by decide)
  generalize n.fmod 6 = z at h
  have : z = 0 ∨ z = 1 ∨ z = 2 ∨ z = 3 ∨ z = 4 ∨ z = 5 := by omega
  rcases this with e | e | e | e | e | e <;> subst e <;> rfl
theorem rest6_b (n : Int) : 0 ≤ rest6 n ∧ rest6 n ≤ 3 := by
  unfold rest6
  split
  · exact ⟨by decide, by decide⟩
  · split <;> exact ⟨by decide, by decide⟩
theorem jump4_at (m : Int) : atI ([.int ((m.fdiv 4).fmod 5 - 2), .int ((m.fdiv 4).fmod 5 - 2), .int ((m.fdiv 4).fmod 15 - 7), .int ((m.fdiv 4).fmod 41 - 20)] : List V) (m.fmod 4) = some (V.int (jump4 m)) := by
  have h := md m (m := 4) (by decide)
  unfold jump4
  generalize m.fmod 4 = z at h
  have : z = 0 ∨ z = 1 ∨ z = 2 ∨ z = 3 := by omega
  rcases this with e | e | e | e <;> subst e <;> rfl
theorem cmulL (i j : Int) (h : 0 ≤ i ∧ i ≤ 1000000) : CMul i j := .inl ⟨by omega, by omega⟩
theorem cmulR (i j : Int) (h : 0 ≤ j ∧ j ≤ 1000000) : CMul i j := .inr ⟨by omega, by omega⟩

theorem lawNotes_cons (sc : Int) (st : Int × Int) (n : Int) (r : List Int) : lawNotes sc st (n :: r) = lawNote sc st n :: lawNotes sc (lawStep sc st n) r := by rw [lawNotes]
/-- where the loop of the law's notes stands -/
structure NotesAt (S : Ev) (H0 : Hp) (a q : Addr) (ns : List Int) (sc : Int) (goal : List Nt) (k : Nat) (σ : L2.St) (H : Hp) : Prop where
  ex : ∃ (t p : Int) (y5 y6 y7 : Option V) (xs : List V) (done : List Nt), σ = [some (.ref a), some (.int t), some (.int p), some (.int sc), some (.ref q), y5, y6, y7] ∧ Ext H0 H ∧ H q = some (.lst xs) ∧ AtAll S.K H xs (done.map noteD) ∧ done.length = k ∧ done ++ lawNotes sc (t, p) (ns.drop k) = goal

theorem pure_law_notes (S : Ev) (vs : List V) (H : Hp) (Q : VK) (E : XK) (h : sp_law_notes S vs H Q E) : t_law_notes S E { nx := fun _ H' => Q .non H', rt := Q } (start N_law_notes vs) H := by
  obtain ⟨x, y, z, w, rfl⟩ := args4 (len_law_notes S vs H Q E h)
  obtain ⟨a, ns, ti, pi, sc, rfl, hS, h63, rfl, rfl, rfl, qq⟩ := h
  refine ⟨Nat.zero_le _, fun q hq => ⟨_, rfl, a, rfl, ⟨_, (Ext.new hq).sqL hS⟩, for_list (K := S.K) (a := a) (xs := ns.map V.int) (NotesAt S H a q ns sc (lawNotes sc (ti, pi) ns))
    ⟨ti, pi, none, none, none, [], [], rfl, Ext.new hq, upd_same, .nil, rfl, rfl⟩ (fun i σ H' _ ⟨_, _, _, _, _, _, _, _, e, _⟩ => e.sqL hS) ?_ ?_⟩⟩
  · rintro k y σ H' hy ⟨t, p, y5, y6, y7, xs, done, rfl, x2, eq, hA, hl, eg⟩
    rw [List.getElem?_map] at hy
    cases hv : ns[k]? with
    | none => rw [hv] at hy; cases hy
    | some n =>
      rw [hv] at hy
      cases hy
      have hk : k < ns.length := (List.getElem?_eq_some_iff.mp hv).1
      rw [drop_at hv] at eg
      refine ⟨.int n, rfl, n, 24, rfl, rfl, cdv n 24 (by decide) (by decide), ?_⟩
      refine ⟨.int t, rfl, (by decide : 6 ≤ sizeLine), fun b1 hb1 => ⟨.int n, rfl, n, 6, rfl, rfl, (by decide : (6 : Int) ≠ 0), b1, _, n.fmod 6, .int (rest6 (n.fmod 6)), rfl, rfl, SqL.of upd_same, rest6_at n, .int sc, rfl, rest6 (n.fmod 6), sc, rfl, rfl, ?_, t, _, rfl, rfl, ?_⟩⟩
      · have := rest6_b (n.fmod 6)
        exact cmulL _ _ ⟨this.1, by omega⟩
      have q1 : b1 ≠ q := fun z => by rw [z, eq] at hb1; cases hb1
      refine ⟨.int (n.fdiv 24), rfl, (n.fdiv 24), 4, rfl, rfl, cdv (n.fdiv 24) 4 (by decide) (by decide), _, 5, rfl, rfl, (by decide : (5 : Int) ≠ 0), _, 2, rfl, rfl,
        .int (n.fdiv 24), rfl, (n.fdiv 24), 4, rfl, rfl, cdv (n.fdiv 24) 4 (by decide) (by decide), _, 5, rfl, rfl, (by decide : (5 : Int) ≠ 0), _, 2, rfl, rfl,
        .int (n.fdiv 24), rfl, (n.fdiv 24), 4, rfl, rfl, cdv (n.fdiv 24) 4 (by decide) (by decide), _, 15, rfl, rfl, (by decide : (15 : Int) ≠ 0), _, 7, rfl, rfl,
        .int (n.fdiv 24), rfl, (n.fdiv 24), 4, rfl, rfl, cdv (n.fdiv 24) 4 (by decide) (by decide), _, 41, rfl, rfl, (by decide : (41 : Int) ≠ 0), _, 20, rfl, rfl, (by decide : 4 ≤ sizeLine), fun b2 hb2 => ?_⟩
      refine ⟨.int (n.fdiv 24), rfl, (n.fdiv 24), 4, rfl, rfl, (by decide : (4 : Int) ≠ 0), b2, _, (n.fdiv 24).fmod 4, .int (jump4 (n.fdiv 24)), rfl, rfl, SqL.of upd_same, jump4_at (n.fdiv 24), ?_⟩
      refine ⟨.int p, rfl, .int (jump4 (n.fdiv 24)), rfl, p, jump4 (n.fdiv 24), rfl, rfl, _, 200, rfl, rfl, _, 401, rfl, rfl, (by decide : (401 : Int) ≠ 0), _, 200, rfl, rfl, ?_⟩
      have e1 : Ext H' (upd H' b1 (.lst [.int 0, .int 0, .int 0, .int 0, .int 1, .int 3])) := Ext.new hb1
      generalize upd H' b1 (.lst [.int 0, .int 0, .int 0, .int 0, .int 1, .int 3]) = H1 at e1 hb2 ⊢
      have e2 : Ext H1 (upd H1 b2 (.lst [.int (((n.fdiv 24).fdiv 4).fmod 5 - 2), .int (((n.fdiv 24).fdiv 4).fmod 5 - 2), .int (((n.fdiv 24).fdiv 4).fmod 15 - 7), .int (((n.fdiv 24).fdiv 4).fmod 41 - 20)])) := Ext.new hb2
      generalize upd H1 b2 (.lst [.int (((n.fdiv 24).fdiv 4).fmod 5 - 2), .int (((n.fdiv 24).fdiv 4).fmod 5 - 2), .int (((n.fdiv 24).fdiv 4).fmod 15 - 7), .int (((n.fdiv 24).fdiv 4).fmod 41 - 20)]) = H2 at e2 ⊢
      have e3 := e1.trans e2
      have eq2 := e3.lst eq
      have m4 := md (n.fdiv 6) (m := 4) (by decide)
      have hm : CMul (1 + (n.fdiv 6).fmod 4) sc := cmulL _ _ ⟨by omega, by omega⟩
      refine ⟨.ref q, rfl, .inl ⟨rfl, xs, SqL.of eq2⟩, .int _, rfl, .int n, rfl, n, 6, rfl, rfl, cdv n 6 (by decide) (by decide), _, 4, rfl, rfl, (by decide : (4 : Int) ≠ 0), 1, _, rfl, rfl, .int sc, rfl, _, sc, rfl, rfl, hm, .int _, rfl, (by decide : 3 ≤ sizeLine), fun b3 hb3 => ?_⟩
      have eq3 := (Ext.new hb3 (o := .tup [.int (t + rest6 (n.fmod 6) * sc), .int ((1 + (n.fdiv 6).fmod 4) * sc), .int ((p + jump4 (n.fdiv 24) + 200).fmod 401 - 200)])).lst eq2
      refine ⟨q, xs, .ref b3, rfl, rfl, eq3, ?_, ?_⟩
      · rw [hA.length, List.length_map, hl]
        exact Nat.lt_of_lt_of_le (by omega : _ < 1001) (by decide : 1001 ≤ sizeLine)
      refine ⟨.int _, rfl, .int n, rfl, n, 6, rfl, rfl, cdv n 6 (by decide) (by decide), _, 4, rfl, rfl, (by decide : (4 : Int) ≠ 0), 1, _, rfl, rfl, .int sc, rfl, _, sc, rfl, rfl, hm, _, _, rfl, rfl, ?_⟩
      have e4 := e3.trans (Ext.new hb3 (o := .tup [.int (t + rest6 (n.fmod 6) * sc), .int ((1 + (n.fdiv 6).fmod 4) * sc), .int ((p + jump4 (n.fdiv 24) + 200).fmod 401 - 200)]))
      refine ⟨_, _, _, _, _, _, done ++ [lawNote sc (t, p) n], rfl, (x2.trans e4).upd hq, upd_same, ?_, by rw [List.length_append, hl]; rfl, ?_⟩
      · rw [List.map_append]
        refine AtAll.append ((AtAll.ext e4 _ _ hA).notes_upd eq3) (.cons ?_ .nil)
        refine At.note_upd eq3 ?_
        unfold lawNote
        exact .tup (.inl (.inl upd_same)) (.cons (.int _) (.cons (.int _) (.cons (.int _) .nil)))
      · rw [List.append_assoc, ← eg]
        show done ++ ([lawNote sc (t, p) n] ++ _) = done ++ lawNotes sc (t, p) (n :: _)
        rw [lawNotes_cons]
        rfl
  · rintro σ H' ⟨t, p, y5, y6, y7, xs, done, rfl, x2, eq, hA, hl, eg⟩
    rw [List.length_map, List.drop_length] at eg
    have e0 : lawNotes sc (t, p) [] = [] := by unfold lawNotes; rfl
    rw [e0, List.append_nil] at eg
    rw [eg] at hA
    exact ⟨_, rfl, qq H' q xs x2 hq eq hA⟩
end VW
set_option Elab.async false
set_option linter.all false
set_option maxRecDepth 100000
set_option maxHeartbeats 4000000
namespace VW
open PySem PySem.Spec PyProof.Rows L2 GxR

/-- one new list more -/
theorem New2.snoc {K : PySem.W.Frag} {H0 H H4 : Hp} {p b : Addr} {rows : List (List Nt)} {r : List Nt} {ys : List V} (hE : Ext H0 H) (h : New2 K H0 H p (rows.map fun v => v.map noteD)) (hE4 : Ext H H4) (nb : H b = none) (eb : H4 b = some (.lst ys)) (hA : AtAll K H4 ys (r.map noteD)) :
    ∃ acc, H4 p = some (.lst acc) ∧ acc.length = rows.length ∧ New2 K H0 (upd H4 p (.lst (acc ++ [.ref b]))) p ((rows ++ [r]).map fun v => v.map noteD) := by
  obtain ⟨as, eD, hD, hN, h0, hR⟩ := h.ex
  have hL := hR.length
  rw [List.length_map] at hL
  refine ⟨as.map V.ref, hE4.lst eD, by rw [List.length_map, hL], ?_⟩
  have bD : b ≠ p := fun z => by rw [z, eD] at nb; cases nb
  have bas : b ∉ as := fun z => by obtain ⟨ws, ew⟩ := hR.there z; rw [ew] at nb; cases nb
  have Das : p ∉ as := (List.nodup_cons.mp hN).1
  have eD4 := hE4.lst eD
  refine ⟨as ++ [b], by rw [upd_same, List.map_append]; rfl, hD, ?_, ?_, ?_⟩
  · rw [← List.cons_append]
    refine List.nodup_append.mpr ⟨hN, by simp, ?_⟩
    intro c hc d hd'
    rw [List.mem_singleton.mp hd']
    intro z
    rw [z] at hc
    rcases List.mem_cons.mp hc with q | q
    · exact bD q
    · exact bas q
  · intro c hc
    rcases List.mem_append.mp hc with q | q
    · exact h0 c q
    · rw [List.mem_singleton.mp q]
      exact hE.free nb
  · rw [List.map_append]
    refine Rows.snoc (xs := ys) (by rw [upd_ne bD]; exact eb) (hA.notes_upd eD4) ?_
    exact Rows.upd eD4 Das (Rows.ext hE4 hR)

/-! ### every m-th -/
theorem every_drop (m : Nat) : ∀ (k : Nat) (ns : List Int), every m k ns = every m 0 (ns.drop k)
  | 0, ns => rfl
  | k + 1, [] => by rw [List.drop_nil, every, every]
  | k + 1, n :: r => by rw [every, List.drop_succ_cons]; exact every_drop m k r
theorem every_out (m k : Nat) (ns : List Int) (h : ns.length ≤ k) : every m k ns = [] := by
  rw [every_drop, List.drop_of_length_le h]
  unfold every
  rfl
theorem every_in (m : Nat) (hm : 1 ≤ m) (k : Nat) (ns : List Int) (h : k < ns.length) : every m k ns = ns[k] :: every m (k + m) ns := by
  rw [every_drop m k, every_drop m (k + m), List.drop_eq_getElem_cons h, every, every_drop, List.drop_drop]
  have e : k + 1 + (m - 1) = k + m := by omega
  rw [e]
theorem every_len (m : Nat) : ∀ (k : Nat) (ns : List Int), (every m k ns).length ≤ ns.length
  | _, [] => by unfold every; exact Nat.le_refl _
  | 0, n :: r => by rw [every, List.length_cons, List.length_cons]; exact Nat.succ_le_succ (every_len m (m - 1) r)
  | k + 1, n :: r => by rw [every, List.length_cons]; exact Nat.le_succ_of_le (every_len m k r)

/-! ### a range by steps -/
theorem size_step {a b c : Int} (hc : 0 < c) : ∃ n : Nat, Builtin.Range.rangeSize a b c = n ∧ (∀ i : Nat, i < n → a + i * c < b) ∧ b ≤ a + n * c ∧ n ≤ (b - a).toNat := by
  unfold Builtin.Range.rangeSize
  rw [if_pos (show c > 0 from hc)]
  by_cases h : a < b
  · rw [if_pos h]
    have h0 : 0 ≤ (b - a - 1) / c := Int.ediv_nonneg (by omega) (by omega)
    refine ⟨((b - a - 1) / c + 1).toNat, by omega, fun i hi => ?_, ?_, ?_⟩
    · have : (i : Int) ≤ (b - a - 1) / c := by omega
      have := (Int.le_ediv_iff_mul_le hc).mp this
      omega
    · have := Int.lt_ediv_add_one_mul_self (b - a - 1) hc
      have e : ((((b - a - 1) / c + 1).toNat : Nat) : Int) = (b - a - 1) / c + 1 := by omega
      rw [e]
      omega
    · have : (b - a - 1) / c ≤ b - a - 1 := Int.ediv_le_self _ (by omega)
      omega
  · rw [if_neg h]
    exact ⟨0, rfl, fun i hi => absurd hi (by omega), by omega, by omega⟩
theorem rgC_step {a b c : Int} {n : Nat} (ha : 0 ≤ a ∧ a ≤ 1000000) (hb : 0 ≤ b ∧ b ≤ 1000000) (hc : 0 < c ∧ c ≤ 1000000) (hn : Builtin.Range.rangeSize a b c = n) (hle : n ≤ (b - a).toNat) : RgC a b c n := by
  refine ⟨by omega, by omega, ?_, hn⟩
  unfold Builtin.Range.small
  rw [hn]
  simp only [Builtin.Range.rangeFitsLong, Bool.and_eq_true, Bool.or_eq_true, decide_eq_true_eq, beq_iff_eq, show c > 0 from hc.1, if_true]
  omega
end VW
set_option Elab.async false
set_option linter.all false
set_option maxRecDepth 100000
set_option maxHeartbeats 4000000
namespace VW
open PySem PySem.Spec PyProof.Rows L2 GxR

theorem lawMany_b (ns : List Int) : 1 ≤ lawMany ns ∧ lawMany ns ≤ 6 := by
  unfold lawMany
  have h1 := md (cell ns 0) (m := 4) (by decide)
  have h2 := md ((cell ns 0).fdiv 32) (m := 2) (by decide)
  split <;> omega
theorem lawScale_b (ns : List Int) : 1 ≤ lawScale ns ∧ lawScale ns ≤ 200 := by
  unfold lawScale
  have h1 := md ((cell ns 1).fdiv 8) (m := 200) (by decide)
  split <;> omega

theorem iteT' {c : Bool} {A B : Prop} (h : c = true) (k : A) : if c = true then A else B := by rw [if_pos h]; exact k
theorem iteF' {c : Bool} {A B : Prop} (h : c = false) (k : B) : if c = true then A else B := by rw [h, if_neg (by decide)]; exact k
/-- the law's loop over the voices -/
def tp_loop (S : Ev) : TS :=
      (tSeq (tAsg (tLst tNil) (gName 3))
      (tSeq (tFor (iRng1 (tCons (tVar 1) tNil)) (gName 4) (tSeq (tAsg (tLc (iRng3 (tCons (tOp kAdd (tC (.int 3)) (tVar 4)) (tCons (tCB kMin2 (tCons (tCB (kLen S.K) (tCons (tVar 0) tNil)) (tCons (tC (.int 63)) tNil))) (tCons (tVar 1) tNil)))) (gName 8) tYes (tOp (rIxL S.K) (tVar 0) (tVar 8)) [8]) (gName 5))
      (tSeq (tAsg (tOp kSub (tCall (sp_law_at S) [] E0 (tCons (tVar 0) (tCons (tC (.int 2)) tNil))) (tOp kMul (tC (.int 5)) (tVar 4))) (gName 6))
      (tSeq (tAsg (tOp kMul (tOp kMod (tOp kAdd (tOp kDiv (tCall (sp_law_at S) [] E0 (tCons (tVar 0) (tCons (tC (.int 1)) tNil))) (tC (.int 1600))) (tOp kMul (tVar 4) (tOp kDiv (tCall (sp_law_at S) [] E0 (tCons (tVar 0) (tCons (tC (.int 2)) tNil))) (tC (.int 401))))) (tC (.int 5))) (tVar 2)) (gName 7))
      (tDrop (tBM S.K "list" rAppend (tVar 3) (tCons (tCall (sp_law_notes S) [] E0 (tCons (tVar 5) (tCons (tVar 7) (tCons (tOp kSub (tOp kMod (tVar 6) (tC (.int 401))) (tC (.int 200))) (tCons (tVar 2) tNil))))) tNil)))))))
      (tRet (tVar 3))))
def tp_scale (S : Ev) : TS :=
      (tSeq (tAsg (tC (.int 1)) (gName 2))
      (tSeq (tIfS (tTest (tOp rEq (tOp kMod (tCall (sp_law_at S) [] E0 (tCons (tVar 0) (tCons (tC (.int 1)) tNil))) (tC (.int 8))) (tC (.int 1)))) (tAsg (tOp kAdd (tC (.int 1)) (tOp kMod (tOp kDiv (tCall (sp_law_at S) [] E0 (tCons (tVar 0) (tCons (tC (.int 1)) tNil))) (tC (.int 8))) (tC (.int 200)))) (gName 2)) tNext)
      (tp_loop S)))

/-- the numbers of one voice -/
theorem lc_every {K : PySem.W.Frag} {a : Addr} {ns : List Int} {m pl n : Nat} {g : TG} {te : TE} {vs : List Nat} {σ : L2.St} {H1 : Hp} {D : Addr} {Qd : Hp → Prop} (hD : H1 D = none) (hS : SqL K H1 a (ns.map V.int)) (h63 : ns.length ≤ 63) (hm : 1 ≤ m)
    (hin : ∀ i : Nat, i < n → 3 + (pl : Int) + i * m < ns.length) (hout : (ns.length : Int) ≤ 3 + (pl : Int) + n * m) (hn : n ≤ 63)
    (hs : ∀ (i : Nat) (H' : Hp) (R : VK) (v : Int), atI (ns.map V.int) (3 + (pl : Int) + i * m) = some (.int v) → SqL K H' a (ns.map V.int) → R (.int v) H' → g (.int (3 + (pl : Int) + i * m)) (wipe σ vs) H' fun σ2 H2 => wipe σ2 vs = wipe σ vs ∧ te σ2 H2 R)
    (hd : ∀ H', Ext H1 H' → H' D = some (.lst ((every m (3 + pl) ns).map V.int)) → Qd H') :
    ∃ W : Nat → Nat → Hp → Prop, (∃ m, W 0 m (upd H1 D (.lst []))) ∧ ∀ i k H, W i k H →
      ((Itc (3 + (pl : Int)) m n).stop i H ∧ Qd H) ∨ ((Itc (3 + (pl : Int)) m n).go i H ∧ ∃ Nx : Hp → Prop, (∀ H', Nx H' → ∃ m', m' < k ∧ W (i + 1) m' H') ∧ ∀ x H', (Itc (3 + (pl : Int)) m n).yld i H x H' → g x (wipe σ vs) H' fun σ2 H2 => wipe σ2 vs = wipe σ vs ∧ tYes σ2 H2 fun b H3 =>
        if b = true then te σ2 H3 fun y H4 => ∃ acc, H4 D = some (.lst acc) ∧ acc.length < sizeLine ∧ Nx (upd H4 D (.lst (acc ++ [y]))) else Nx H3) := by
  refine lc_it walk_rangeC (Pv := fun j H => Ext H1 H ∧ ∃ done : List Int, H D = some (.lst (done.map V.int)) ∧ done.length = j ∧ done ++ every m (3 + pl + j * m) ns = every m (3 + pl) ns)
    ⟨Ext.new hD, [], upd_same, rfl, by rw [Nat.zero_mul]; rfl⟩ (fun _ _ _ _ => trivial) ?_ ?_
  · rintro j x H H' hj ⟨hE, done, eD, hl, eg⟩ ⟨rfl, rfl⟩
    have h1 := hin j hj
    have h2 : 3 + pl + j * m < ns.length := by omega
    have e : (3 + (pl : Int) + j * m).toNat = 3 + pl + j * m := by omega
    refine hs j _ _ ns[3 + pl + j * m] (atI_of (by omega) ?_) (hE.sqL hS) ⟨_, eD, ?_, hE.upd hD, done ++ [ns[3 + pl + j * m]], ?_, by rw [List.length_append, hl]; rfl, ?_⟩
    · rw [e, List.getElem?_map, List.getElem?_eq_getElem h2]
      rfl
    · rw [List.length_map, hl]
      exact Nat.lt_of_lt_of_le (by omega : _ < 1001) (by decide : 1001 ≤ sizeLine)
    · rw [upd_same, List.map_append]
      rfl
    · rw [← eg, every_in m hm _ ns h2, List.append_assoc]
      have e2 : 3 + pl + (j + 1) * m = 3 + pl + j * m + m := by rw [Nat.succ_mul]; omega
      rw [e2]
      rfl
  · rintro H ⟨hE, done, eD, hl, eg⟩
    rw [every_out m _ ns (by omega), List.append_nil] at eg
    rw [eg] at eD
    exact hd H hE eD

theorem read_loop (S : Ev) {a : Addr} {ns : List Int} {H : Hp} {Q : VK} {m s : Int} (hS : SqL S.K H a (ns.map V.int)) (h63 : ns.length ≤ 63) (em : m = lawMany ns) (es : s = lawScale ns)
    (q : ∀ H' p, Ext H H' → New2 S.K H H' p ((lawPiece ns).map fun v => v.map noteD) → Q (.ref p) H') :
    tp_loop S { nx := fun _ H' => Q .non H', rt := Q } [some (.ref a), some (.int m), some (.int s), none, none, none, none, none, none] H := by
  have hm := lawMany_b ns
  have hsc := lawScale_b ns
  rw [← em] at hm
  rw [← es] at hsc
  obtain ⟨k, rfl⟩ : ∃ k : Nat, m = k := ⟨m.toNat, by omega⟩
  have ek : (lawMany ns).toNat = k := by omega
  refine ⟨Nat.zero_le _, fun P hP => ⟨.int k, rfl, k, rfl, by omega, by omega, for_it (walk_range (lo := 0) (n := k)) (fun i σ H' => ∃ y4 y5 y6 y7 y8, σ = [some (.ref a), some (.int k), some (.int s), some (.ref P), y4, y5, y6, y7, y8] ∧ Ext H H' ∧ New2 S.K H H' P (((List.range i).map (lawVoice ns)).map fun v => v.map noteD))
    ⟨_, _, _, _, _, rfl, Ext.new hP, [], upd_same, hP, by simp, by simp, trivial⟩ (fun _ _ _ _ _ => trivial) ?_ ?_⟩⟩
  · rintro i x σ H1 H1' hi ⟨y4, y5, y6, y7, y8, rfl, x1, n1⟩ ⟨rfl, ex⟩
    have ex' : x = .int i := by rw [ex]; show V.int (0 + (i : Int)) = _; rw [Int.zero_add]
    subst ex'
    have hS1 := x1.sqL hS
    obtain ⟨n, e1, hin, hout, hle⟩ := size_step (a := 3 + (i : Int)) (b := ns.length) (c := k) (by omega)
    have hmin : (if (63 : Int) < (ns.length : Int) then (63 : Int) else (ns.length : Int)) = ns.length := if_neg (by omega)
    refine ⟨.int i, rfl, 3, i, rfl, rfl, .ref a, rfl, .ref a, (ns.map V.int).length, rfl, .inl ⟨_, hS1, rfl⟩, _, 63, rfl, .int k, rfl, 3 + (i : Int), ns.length, k, n, ?_, rgC_step (by omega) (by omega) (by omega) e1 hle, ?_⟩
    · show [V.int (3 + (i : Int)), V.int (if (63 : Int) < ((ns.map V.int).length : Int) then (63 : Int) else ((ns.map V.int).length : Int)), V.int k] = _
      rw [List.length_map, hmin]
    intro N hN
    refine lc_every (pl := i) (g := gName 8) (te := tOp (rIxL S.K) (tVar 0) (tVar 8)) (vs := [8]) (σ := [some (V.ref a), some (V.int k), some (V.int s), some (V.ref P), some (V.int i), y5, y6, y7, y8]) hN hS1 h63 (by omega) hin hout (by omega) (fun j H' R v ha hS' r => ⟨rfl, _, rfl, _, rfl, a, _, _, _, rfl, rfl, hS', ha, r⟩) fun H2 x2 eN => ?_
    have hS2 := x2.sqL hS1
    refine ⟨_, rfl, a, ns, 2, rfl, hS2, h63, rfl, by decide, .int i, rfl, 5, i, rfl, rfl, cmulL _ _ (by decide), _, _, rfl, rfl, ?_⟩
    refine ⟨_, rfl, a, ns, 1, rfl, hS2, h63, rfl, by decide, _, 1600, rfl, rfl, cdv _ _ (by decide) (by decide), .int i, rfl, _, rfl, a, ns, 2, rfl, hS2, h63, rfl, by decide, _, 401, rfl, rfl, cdv _ _ (by decide) (by decide), i, _, rfl, rfl, cmulL _ _ (by omega), _, _, rfl, rfl, _, 5, rfl, rfl, (by decide : (5 : Int) ≠ 0), .int s, rfl, _, s, rfl, rfl, cmulR _ _ (by omega), ?_⟩
    obtain ⟨as, eP, _⟩ := n1.ex
    have eP2 := x2.lst eP
    refine ⟨_, rfl, .inl ⟨rfl, _, SqL.of eP2⟩, _, rfl, _, rfl, _, rfl, _, 401, rfl, rfl, (by decide : (401 : Int) ≠ 0), _, 200, rfl, rfl, _, rfl, N, every k (3 + i) ns, _, _, s, rfl, SqL.of eN, Nat.le_trans (every_len _ _ _) h63, rfl, rfl, rfl, fun H3 b ys x3 nb eb hA => ?_⟩
    obtain ⟨acc, ea, hl, n3⟩ := New2.snoc x1 n1 (x2.trans x3) (x2.free nb) eb hA
    rw [List.length_map, List.length_range] at hl
    refine ⟨P, acc, .ref b, rfl, rfl, ea, by rw [hl]; exact Nat.lt_of_lt_of_le (by omega : _ < 1001) (by decide : 1001 ≤ sizeLine), ?_⟩
    refine ⟨_, _, _, _, _, rfl, (x1.trans (x2.trans x3)).upd hP, ?_⟩
    rw [List.range_succ, List.map_append]
    have ev : lawNotes s ((((ns.getD 1 0).fdiv 1600) + (i : Int) * (ns.getD 2 0).fdiv 401).fmod 5 * s, (ns.getD 2 0 - 5 * (i : Int)).fmod 401 - 200) (every k (3 + i) ns) = lawVoice ns i := by
      unfold lawVoice cell
      rw [ek, es]
    rw [show List.map (lawVoice ns) [i] = [lawVoice ns i] from rfl, ← ev]
    exact n3
  · rintro σ H1 ⟨y4, y5, y6, y7, y8, rfl, x1, n1⟩
    refine ⟨_, rfl, q H1 P x1 ?_⟩
    unfold lawPiece
    rw [ek]
    exact n1

theorem pure_law_piece (S : Ev) (vs : List V) (H : Hp) (Q : VK) (E : XK) (h : sp_law_piece S vs H Q E) : t_law_piece S E { nx := fun _ H' => Q .non H', rt := Q } (start N_law_piece vs) H := by
  obtain ⟨x, rfl⟩ := args1 (len_law_piece S vs H Q E h)
  obtain ⟨a, ns, rfl, hS, h63, q⟩ := h
  have two : ∀ m : Int, m = lawMany ns → tp_scale S { nx := fun _ H' => Q .non H', rt := Q } [some (.ref a), some (.int m), none, none, none, none, none, none, none] H := by
    intro m em
    refine ⟨_, rfl, a, ns, 1, rfl, hS, h63, rfl, by decide, _, 8, rfl, rfl, (by decide : (8 : Int) ≠ 0), rfl, _, rfl, ?_⟩
    by_cases c : (ns.getD 1 0).fmod 8 = 1
    · refine iteT' (decide_eq_true (congrArg V.int c)) ?_
      refine ⟨_, rfl, a, ns, 1, rfl, hS, h63, rfl, by decide, _, 8, rfl, rfl, cdv _ _ (by decide) (by decide), _, 200, rfl, rfl, (by decide : (200 : Int) ≠ 0), 1, _, rfl, rfl, ?_⟩
      exact read_loop S hS h63 em (by unfold lawScale cell; rw [if_pos c]; rfl) q
    · refine iteF' (decide_eq_false fun z => c (by injection z)) ?_
      exact read_loop S hS h63 em (by unfold lawScale cell; rw [if_neg c]) q
  refine ⟨_, rfl, a, ns, 0, rfl, hS, h63, rfl, by decide, _, 4, rfl, rfl, (by decide : (4 : Int) ≠ 0), 1, _, rfl, rfl, ?_⟩
  refine ⟨_, rfl, a, ns, 0, rfl, hS, h63, rfl, by decide, _, 4, rfl, rfl, cdv _ _ (by decide) (by decide), _, 8, rfl, rfl, (by decide : (8 : Int) ≠ 0), rfl, _, rfl, ?_⟩
  by_cases c : ((ns.getD 0 0).fdiv 4).fmod 8 = 1
  · refine iteT' (decide_eq_true (congrArg V.int c)) ?_
    refine ⟨_, rfl, a, ns, 0, rfl, hS, h63, rfl, by decide, _, 32, rfl, rfl, cdv _ _ (by decide) (by decide), _, 2, rfl, rfl, (by decide : (2 : Int) ≠ 0), 5, _, rfl, rfl, ?_⟩
    exact two _ (by unfold lawMany cell; rw [if_pos c]; rfl)
  · refine iteF' (decide_eq_false fun z => c (by injection z)) ?_
    exact two _ (by unfold lawMany cell; rw [if_neg c]; rfl)
end VW
set_option Elab.async false
set_option linter.all false
set_option maxRecDepth 100000
set_option maxHeartbeats 4000000
namespace VW
open PySem PySem.Spec PyProof.Rows L2 GxR

/-- nothing is wished of what the clause does not catch -/
theorem takesNo {X : Cx} : Takes X (fun _ _ _ _ => False) := fun u s' x => by
  obtain ⟨a, B, sI, pins', σ', H', cls, d, _, _, _, _, _, _, _, _, h⟩ := x
  exact h.elim
/-- isinstance(e, c), e what the clause has caught: of an own class, without arguments of its own -/
def rIsX (K : PySem.W.Frag) (a : Addr) (cls : Value) (d : Option Addr) : List V → Hp → VK → Prop := fun xs H Q => ∃ D, cls = .ref D ∧ d = none ∧ L2.ExcC K D ∧ rIsE K D a xs H Q
theorem call_isX {X : Cx} {a : Addr} {oe : Obj} {cls : Value} {d : Option Addr} {pn : List (Addr × Obj)} (hz : Zc cls d oe) (hf : ∃ vs, oe.data = .fields vs) : CallR (X.suite a ((a, oe) :: pn)) (.builtin "isinstance") (rIsX X.K a cls d) := by
  intro pins s σ H xs us Q I r h
  obtain ⟨D, rfl, rfl, C, h⟩ := h
  exact call_isE (X := X) C hz hf pins s σ H xs us Q I r h
end VW
set_option Elab.async false
set_option linter.all false
set_option maxRecDepth 100000
set_option maxHeartbeats 4000000
namespace VW
open PySem PySem.Spec PyProof.Rows L2 GxR

/-! ### what is compared whole -/
mutual
def D.py : D → PyData
  | .non => .none
  | .bl b => .bool b
  | .int i => .int i
  | .str x => .str x
  | .tup ds => .tuple (D.pys ds)
  | .lst ds => .list (D.pys ds)
  | .dic => .dict []
def D.pys : List D → List PyData
  | [] => []
  | d :: r => d.py :: D.pys r
end
mutual
/-- no dict, at most so deep -/
def D.flat : D → Nat → Bool
  | .non, _ => true
  | .bl _, _ => true
  | .int _, _ => true
  | .str x, _ => (PyData.str x).canLay0
  | .tup ds, n => match n with | 0 => false | n + 1 => D.flats ds n
  | .lst ds, n => match n with | 0 => false | n + 1 => D.flats ds n
  | .dic, _ => false
def D.flats : List D → Nat → Bool
  | [], _ => true
  | d :: r, n => d.flat n && D.flats r n
end
section
variable {K : PySem.W.Frag} {H : Hp}
mutual
theorem At.dp : ∀ (d : D) (n : Nat) (v : V), d.flat n = true → At K H v d → Dp K H v d.py
  | .non, _, _, _, h => by cases h; exact .non
  | .bl b, _, _, _, h => by cases h; exact .bl b
  | .int i, _, _, _, h => by cases h; exact .int i
  | .str x, _, _, _, h => by cases h; exact .str x
  | .dic, _, _, f, _ => by cases f
  | .tup ds, 0, _, f, _ => by cases f
  | .lst ds, 0, _, f, _ => by cases f
  | .tup ds, n + 1, _, f, h => by
    cases h with
    | tup hs ha => exact .tup hs (AtAll.dp ds n _ f ha)
  | .lst ds, n + 1, _, f, h => by
    cases h with
    | lst hs ha => exact .lst hs (AtAll.dp ds n _ f ha)
theorem AtAll.dp : ∀ (ds : List D) (n : Nat) (vs : List V), D.flats ds n = true → AtAll K H vs ds → DpAll K H vs (D.pys ds)
  | [], _, _, _, h => by cases h; exact .nil
  | d :: r, n, _, f, h => by
    have f' : d.flat n = true ∧ D.flats r n = true := by unfold D.flats at f; simpa using f
    cases h with
    | cons h1 h2 => exact .cons (At.dp d n _ f'.1 h1) (AtAll.dp r n _ f'.2 h2)
end
end
mutual
theorem D.flat_lay : ∀ (d : D) (n : Nat), d.flat n = true → d.py.canLay0 = true ∧ d.py.depth ≤ n
  | .non, _, _ => ⟨by simp only [D.py, PyData.canLay0], by simp only [D.py, PyData.depth]; exact Nat.zero_le _⟩
  | .bl b, _, _ => ⟨by simp only [D.py, PyData.canLay0], by simp only [D.py, PyData.depth]; exact Nat.zero_le _⟩
  | .int i, _, _ => ⟨by simp only [D.py, PyData.canLay0], by simp only [D.py, PyData.depth]; exact Nat.zero_le _⟩
  | .str x, _, f => ⟨by simpa only [D.py, D.flat] using f, by simp only [D.py, PyData.depth]; exact Nat.zero_le _⟩
  | .dic, _, f => by cases f
  | .tup ds, 0, f => by cases f
  | .lst ds, 0, f => by cases f
  | .tup ds, n + 1, f => by
    have := D.flats_lay ds n f
    exact ⟨by simp only [D.py, PyData.canLay0]; exact this.1, by simp only [D.py, PyData.depth]; exact Nat.succ_le_succ this.2⟩
  | .lst ds, n + 1, f => by
    have := D.flats_lay ds n f
    exact ⟨by simp only [D.py, PyData.canLay0]; exact this.1, by simp only [D.py, PyData.depth]; exact Nat.succ_le_succ this.2⟩
theorem D.flats_lay : ∀ (ds : List D) (n : Nat), D.flats ds n = true → PyData.canLayAll0 (D.pys ds) = true ∧ PyData.depthAll (D.pys ds) ≤ n
  | [], _, _ => ⟨by simp only [D.pys, PyData.canLayAll0], by simp only [D.pys, PyData.depthAll]; exact Nat.zero_le _⟩
  | d :: r, n, f => by
    have f' : d.flat n = true ∧ D.flats r n = true := by unfold D.flats at f; simpa using f
    have h1 := D.flat_lay d n f'.1
    have h2 := D.flats_lay r n f'.2
    exact ⟨by simp only [D.pys, PyData.canLayAll0, h1.1, h2.1, Bool.and_self], by simp only [D.pys, PyData.depthAll]; exact Nat.max_le.mpr ⟨h1.2, h2.2⟩⟩
end
theorem D.flat_shaped {d : D} {n : Nat} (h : d.flat n = true) (hn : n ≤ 64) : SeqAt.shaped d.py = true := by
  have := D.flat_lay d n h
  unfold SeqAt.shaped
  rw [this.1, Bool.true_and, decide_eq_true (Nat.le_trans this.2 hn)]
theorem D.flat_refl {d : D} {n : Nat} (h : d.flat n = true) : PyData.eqv d.py d.py = true := SeqAt.eqv_refl d.py (D.flat_lay d n h).1
theorem D.flats_all {ds : List D} {n : Nat} (h : ∀ d ∈ ds, d.flat n = true) : D.flats ds n = true := by
  induction ds with
  | nil => rfl
  | cons d r ih =>
    unfold D.flats
    rw [h d List.mem_cons_self, ih fun e he => h e (List.mem_cons_of_mem _ he)]
    rfl
/-- the same data compared -/
theorem eqD_same {K : PySem.W.Frag} {H : Hp} {x y : V} {d : D} {n : Nat} {Q : VK} (hf : d.flat n = true) (hn : n ≤ 64) (hx : At K H x d) (hy : At K H y d) (q : Q (.bl true) H) : rEqD K x y H Q :=
  ⟨d.py, d.py, At.dp d n x hf hx, At.dp d n y hf hy, D.flat_shaped hf hn, D.flat_shaped hf hn, by rw [D.flat_refl hf]; exact q⟩
/-- a list against the empty one -/
theorem eqD_nil {K : PySem.W.Frag} {H : Hp} {x y : V} {ds : List D} {n : Nat} {Q : VK} (hf : D.flats ds n = true) (hn : n < 64) (hx : At K H x (.lst ds)) (hy : At K H y (.lst [])) (q : Q (.bl ds.isEmpty) H) : rEqD K x y H Q := by
  have f1 : (D.lst ds).flat (n + 1) = true := hf
  refine ⟨(D.lst ds).py, (D.lst []).py, At.dp _ (n + 1) x f1 hx, At.dp _ 1 y rfl hy, D.flat_shaped f1 hn, D.flat_shaped (n := 1) rfl (by decide), ?_⟩
  have e : PyData.eqv (D.lst ds).py (D.lst []).py = ds.isEmpty := by
    cases ds with
    | nil => simp only [D.py, D.pys, PyData.eqv, PyData.eqvAll]; rfl
    | cons d r => simp only [D.py, D.pys, PyData.eqv, PyData.eqvAll]; rfl
  rw [e]
  exact q
end VW
set_option Elab.async false
set_option linter.all false
set_option maxRecDepth 100000
set_option maxHeartbeats 4000000
namespace VW
open PySem PySem.Spec PyProof.Rows L2 GxR

/-- the end of a law whose defs hold tables of code objects -/
theorem walk_tabs {l : PySem.W.OpenLaw} {n k : Nat} {q : Program} {loose : List Str} {XP : (Str → Option Value) → Heap → Prop} {YP : World → Heap → Prop} {d : DefRec} {K : Params → PySem.W.Frag} {CX : World → CXT} {x : Str} (xs : List Str)
    (hn : l.most = some n) (hn2 : n ≤ sizeLine) (hdf : d.params.defaults = []) (hr : Room k callerA) (hrec : xs.all (fun y => (recsOf q).any fun e => e.name == y) = true) (hY : ∀ (w : World) (h : Heap), YP w h → (K w.params).In h)
    (F : ∀ (w : World) (mg : Str → Option Value) (fa : Addr) (h : Heap), (K w.params).In h → h.Ns mainGlobals mg → mg d.name = some (.ref fa) →
      (∀ y, y ∈ xs → ∀ c P, PySem.W.tabIn (K w.params) y = some (c, P) → PySem.W.CodeHd h c P ∧ h.get? P = some { cls := .none, data := .fields #[] }) → LamX.LawAtS l w (K w.params) (CX w) k n x mg fa h)
    (hCX : ∀ (w : World) (H : Hp) (s : Shared) (e : Value) (s' : Shared), CX w [] H s (fun _ _ _ => False) e s' → False) :
    PySem.W.WalkO q loose XP YP l.row.toRowW d [] (fun f vs => PySem.call f vs) := by
  refine Att.attach_callB hn hdf fun w s₀ s₁ mg mb fa o pm cd doc a vs ns G Y ho hd hcd hmg hobj hints hlen hbits hg => ?_
  have KX := hY w _ Y
  obtain ⟨fd, cs, sp, hT, nT, C, hb, hsp, hF⟩ := F w mg fa _ KX G.T.g hmg fun y hy c P e => by
    have h1 := List.all_eq_true.mp hrec y hy
    cases hf : (recsOf q).find? (fun e => e.name == y) with
    | none =>
      obtain ⟨dL, hm, hn1⟩ := List.any_eq_true.mp h1
      exact absurd hn1 (List.find?_eq_none.mp hf dL hm)
    | some dL => exact PySem.W.tab_of G.T KX hf e
  exact LamX.law_callTs KX G.T.g G.T.b G.T.builtins G.T.nolimit hg hT nT C G.T.bmain hobj hints (Nat.le_trans hlen hn2) hr hF hb (fun H hH hS => hsp H a ns hlen hbits hH hS) fun H e s' => hCX w H s₁ e s'
theorem tab_ofL {base : Heap} {mg : Str → Option Value} {c P : Addr} (t : LamX.TabB base mg c P) : TabB base mg c P := ⟨t.code, t.bm, t.gP⟩
theorem tabIn_of {K : PySem.W.Frag} {x : Str} {f c P : Addr} {oc od osl fd e dd vs sl} (h1 : PySem.W.nsIn K mainGlobals x = some (some (.ref f))) (h2 : K.lookup f = some ⟨oc, od, .func fd, osl⟩) (h3 : fd.code = .ref c) (h4 : K.lookup c = some ⟨e, dd, .fields vs, sl⟩) (h5 : vs[11]? = some (.ref P)) :
    PySem.W.tabIn K x = some (c, P) := by
  unfold PySem.W.tabIn
  rw [h1]
  dsimp only
  rw [h2]
  dsimp only
  rw [h3]
  dsimp only
  rw [h4]
  dsimp only
  rw [h5]
abbrev mkEv (K : PySem.W.Frag) (Pn Pp cWeave cPiece cNumber cTheme cEntry cRange cUneven cClash cText : Addr) : Ev :=
  { K := K, Ps := [Pn, Pp], Pn := Pn, Pp := Pp, hPn := List.mem_cons_self, hPp := List.mem_cons_of_mem _ List.mem_cons_self, cWeave := cWeave, cPiece := cPiece, cNumber := cNumber, cTheme := cTheme, cEntry := cEntry, cRange := cRange, cUneven := cUneven, cClash := cClash, cText := cText }
theorem kit_self {K : PySem.W.Frag} {D : Addr} : PySem.W.kitOne K (.ref D) (.ref D) = some true := by
  unfold PySem.W.kitOne
  exact if_pos (by simp)
theorem kit_not {K : PySem.W.Frag} {D C : Addr} (hd : PySem.W.hasDictIn K C = true) (ht : PySem.W.typeIn K (.ref C) = some (.type "type")) (hs : PySem.W.subIn K (.ref D) (.ref C) = some false) (hn : D ≠ C) : PySem.W.kitOne K (.ref D) (.ref C) = some false := by
  obtain ⟨cd, hc, _⟩ := PySem.W.any_some hd
  unfold PySem.W.kitOne
  rw [if_neg (by simpa using hn)]
  unfold PySem.W.kitCls
  dsimp only
  rw [if_pos (by rw [hc, ht]; rfl)]
  exact hs
theorem kit_val {K : PySem.W.Frag} {D : Addr} (hs : PySem.W.subIn K (.ref D) (.type "ValueError") = some true) : PySem.W.kitOne K (.ref D) (.type "ValueError") = some true := by
  unfold PySem.W.kitOne
  split
  · rfl
  · unfold PySem.W.kitCls
    dsimp only
    rw [if_pos (by decide +kernel)]
    exact hs
end VW
set_option Elab.async false
set_option linter.all false
set_option maxRecDepth 100000
set_option maxHeartbeats 4000000
namespace VW
open PySem PySem.Spec PyProof.Rows L2 GxR

/-! ### a def that is called where an exception is held, and looks at it -/
/-- what such a def promises: of the exception at a, of the class cls -/
abbrev SpE := Addr → Value → Option Addr → Sp
structure FnE (P : Program) (w : World) (K : PySem.W.Frag) (mg : Str → Option Value) (base : Heap) (k : Nat) (f : Addr) (fd : FuncData) (ps : List Str) (sp : SpE) : Prop where
  len : ∀ a cls d vs H Q, sp a cls d vs H Q E0 → vs.length = ps.length
  run : ∀ (A : Around) (fo : List Env) (s : Shared) (H : Hp) (us : List Value) (vs : List V) (Q : VK) (p : Addr × Obj) (cls : Value) (d : Option Addr),
    L2H.RoomH k A → L2H.PinOk fo H s p → Zc cls d p.2 → (∃ ws, p.2.data = .fields ws) → Env0 P w K mg base A fo s H → BindsTo s fd ⟨us, []⟩ (ps.zip us) → Vals vs us → sp p.1 cls d vs H Q E0 →
    codeAny (model P w) A (.call (.ref f) ⟨us, []⟩) (CR CX0 fo P w H s Q E0) s
structure OwnE (P : Program) (w : World) (K : PySem.W.Frag) (mg : Str → Option Value) (base : Heap) (k : Nat) (x : Str) (ps : List Str) (sp : SpE) : Prop where
  ex : ∃ (f : Addr) (fd : FuncData), mg x = some (.ref f) ∧ PySem.W.keepIn K (.ref f) = true ∧ FnE P w K mg base k f fd ps sp ∧ Binds K fd ps []
section
variable {P : Program} {w : World} {K : PySem.W.Frag} {mg : Str → Option Value} {base : Heap}
theorem ownE {x : Str} {st : Stmt} {f c : Addr} {fd : FuncData} {N ps : List Str} {k : Nat} {sp : SpE} (F : FunC K x x st f c fd) (hm : mg x = some (.ref f)) (S : FnScope N ps (defScope st))
    (hb : ∀ (kV doc pm : Value) (an : Option Addr) (cdv ct : Value) (us : List Value), us.length = ps.length → bindArgs (PySem.W.fnOf x x (defArgs st) (defBody st) (defScope st) .none kV doc pm an cdv ct) ⟨us, []⟩ = pure (ps.zip us))
    (len : ∀ a cls d vs H Q, sp a cls d vs H Q E0 → vs.length = ps.length)
    (hbody : ∀ (A : Around) (fo : List Env) (s : Shared) (H : Hp) (vs : List V) (Q : VK) (p : Addr × Obj) (cls : Value) (d : Option Addr), Zc cls d p.2 → (∃ ws, p.2.data = .fields ws) → L2H.RoomH k (A.deeper (envOfC x (defScope st) s.heap.objs.size f (.ref c))) → sp p.1 cls d vs H Q E0 →
      ∃ t, PSs (L2H.cxH CX0 P w K mg base N x (defScope st) f (.ref c) A fo s H E0 p) (defBody st) t ∧ t { nx := fun _ H' => Q .non H', rt := Q } (start N vs) H) :
    OwnE P w K mg base (k + 1) x ps sp := by
  obtain ⟨⟨oc, od, kV, doc, pm, an, ct, osl, rfl, lk, hcd⟩, kp⟩ := F
  refine ⟨f, _, hm, kp, ⟨len, fun A fo s H us vs Q p cls d room pin hz hf en bt rv h => ?_⟩, .all (hb kV doc pm an (.ref c) ct)⟩
  have n := len _ _ _ _ _ _ h
  have inS : K.In s.heap := e_in en
  have noL : s.heap.NoLimit := e_lim en
  have kinds : ∀ y, y ∈ ps.zip us → (defScope st).names.lookup y.1 = some .local ∨ ((defScope st).names.lookup y.1 = some .cell ∧ ((cellsFrom (s.heap.objs.size + 1) (defScope st).names []).lookup y.1).isSome = true) := by
    rintro ⟨y, u⟩ hy
    have hp := (List.of_mem_zip hy).1
    cases S.par y hp with
    | inl q => exact Or.inl q
    | inr q => exact Or.inr ⟨q, PySem.W.cellsFrom_some _ _ _ (.inl q)⟩
  refine codeAny_call_function room.depth (inS _ _ lk) rfl S.co S.gen rfl (PySem.W.codeRec_of inS hcd) (bt _ _ _ _ ?_)
  refine wpAny_newFunctionEnv_cells S.kind kinds fun env he s1 x1 => ?_
  subst he
  refine ⟨noL.keeps x1.toInCall.keep, codeAny_func ?_⟩
  obtain ⟨t, ht, hq⟩ := hbody A fo s H vs Q p cls d hz hf (room.deeper _) h
  have I0 := L2H.inv_startH (CX := CX0) (E := E0) (N := N) (qual := x) (f := f) (cd := .ref c) S pin en n rv x1
  refine wpAny_mono (ht.run [] s1 _ H _ I0 hq) (fun fl s2 h2 => ?_) fun e s2 h2 => h2
  cases fl with
  | ret u =>
    obtain ⟨v, σ2, H2, J, r2, q2⟩ := h2
    exact ⟨v, H2, J.os, J.bare, J.base, J.hok, r2, q2⟩
  | next =>
    obtain ⟨σ2, H2, J, q2⟩ := h2
    exact ⟨V.non, H2, J.os, J.bare, J.base, J.hok, rfl, q2⟩
  | brk =>
    obtain ⟨_, _, _, q2⟩ := h2
    cases q2
  | cont =>
    obtain ⟨_, _, _, q2⟩ := h2
    cases q2
where
  e_in {A : Around} {fo : List Env} {s : Shared} {H : Hp} (en : Env0 P w K mg base A fo s H) : K.In s.heap := PySem.W.Frag.In.keeps en.mod.kin fun b o z => (en.bs b o z).1
  e_lim {A : Around} {fo : List Env} {s : Shared} {H : Hp} (en : Env0 P w K mg base A fo s H) : s.heap.NoLimit := en.mod.nolimit.keeps fun b o z => (en.bs b o z).1
end
def tCallE (sp : SpE) (a : Addr) (cls : Value) (d : Option Addr) (t : TA) : TE := fun σ H Q => t σ H fun vs H1 => sp a cls d vs H1 Q E0
/-- f(..) in an except suite, f such a def -/
theorem pe_callE {X : Cx} {a : Addr} {oe : Obj} {cls : Value} {d : Option Addr} {pn : List (Addr × Obj)} {k : Nat} {ps : List Str} {sp : SpE} {x : Str} {p pos : Pos} {e : Expr} {es : List Expr} {t : TA} (hz : Zc cls d oe) (hf : ∃ vs, oe.data = .fields vs)
    (G : OwnE X.prog X.w X.K X.mg X.base k x ps sp) (hr : L2H.RoomH k (X.A.mark (some (.ref a)))) (ha : PA (X.suite a ((a, oe) :: pn)) (e :: es) t) (hg : Gl X x := by rfl)
    (hdb : (x == ("__debug__" : Str)) = false := by decide) (he : starEach (e :: es) X.env = (false, eval e X.env) :: starEach es X.env := by rfl) (hpl : (backTo pos (starEach es X.env)).any (·.1) = false := by rfl) :
    PE (X.suite a ((a, oe) :: pn)) (.Call (.Name x p) (e :: es) [] pos) (tCallE sp a cls d t) := by
  obtain ⟨f, fd, hm, hk, F, b⟩ := G.ex
  refine ⟨fun pins s σ H Q I h => ?_⟩
  refine wpAny_Call_Name_kw (ld_glob (X := X.suite a ((a, oe) :: pn)) I hg hm ?_ hdb)
  refine PySem.W.callWith_K (h₀ := X.base) I.ok.mod.kin hk (thn (ha.run pos pins s σ H _ I h) ?_) he hpl
  rintro us s1 ⟨vs, H1, I1, rv, q⟩
  refine ⟨I1.kIn, ?_⟩
  have hl : us.length = ps.length := (rv.length).symm.trans (F.len _ _ _ _ _ _ q)
  have bt := b s1 us I1.kIn (by rw [List.append_nil]; exact hl)
  rw [List.append_nil] at bt
  obtain ⟨g1, g2, g3, g4, g5⟩ := I1.pin (a, oe) (List.mem_append_left _ List.mem_cons_self)
  have pin : L2H.PinOk X.stack H1 s1 (a, oe) := ⟨g1, g2, fun hm => by
    cases List.mem_cons.mp (I1.stkSub a hm) with
    | inl z => exact g3 z
    | inr z => exact g4 z, g5⟩
  refine wpAny_call (codeAny_mono (F.run _ X.stack s1 H1 us vs Q (a, oe) cls d hr pin hz hf I1.env0 bt rv q) ?_)
  intro r s2 h2
  cases r with
  | error e2 => exact (show False from h2).elim
  | ok fl =>
    cases fl with
    | ret u => exact I1.after h2
    | next => exact (show False from h2).elim
    | brk => exact (show False from h2).elim
    | cont => exact (show False from h2).elim
/-- isinstance(e, c) in such a def -/
theorem call_isP {X : Cx} {p : Addr × Obj} {cls : Value} {d : Option Addr} (hp : p ∈ X.pn) (hz : Zc cls d p.2) (hf : ∃ vs, p.2.data = .fields vs) : CallR X (.builtin "isinstance") (rIsX X.K p.1 cls d) := by
  intro pins s σ H xs us Q I r h
  obtain ⟨D, rfl, rfl, C, c, cv, b, rfl, hcv, e, q⟩ := h
  obtain ⟨a, ⟨oc, od, oda, osl⟩⟩ := p
  obtain ⟨vs, hv⟩ := hf
  obtain ⟨z1, z2⟩ := hz
  dsimp only at z1 z2 hv
  subst z1 z2 hv
  cases r with
  | cons r1 r2 =>
    cases r2 with
    | cons r2 r3 =>
      cases r3
      cases r1
      cases hcv _ r2
      have at_ : PySem.W.InstAt s.heap a _ D none := ⟨(I.pin _ (List.mem_append_left _ hp)).1, rfl, rfl, trivial⟩
      refine PySem.W.kia_one (PySem.W.handS_kitx_exc (K := X.K) C.hg C.hk C.hs C.hd C.ha C.hn C.ht C.hm) I.kIn
        at_ e (by intro z; cases z) fun tk => ?_
      exact ⟨.bl b, H, I.kept (t' := tk) fun _ _ z => z, rfl, q⟩
end VW
set_option Elab.async false
set_option linter.all false
set_option maxRecDepth 100000
set_option maxHeartbeats 4000000
namespace VW
open PySem PySem.Spec PyProof.Rows L2 GxR

/-- a text none or one times -/
abbrev kMulS : R2 := fun x y H Q => ∃ (i : Str) (k : Int), x = .str i ∧ y = .int k ∧ (k = 0 ∨ k = 1) ∧ Q (.str (if k = 1 then i else Str.empty)) H
theorem op_mulS {X : Cx} : OpR X (binaryOp .Mult) kMulS := by
  intro pins s σ H x y v u Q I rx ry h
  obtain ⟨i, k, rfl, rfl, hk, q⟩ := h
  obtain ⟨t1, rfl⟩ := rx
  obtain ⟨t2, rfl⟩ := ry
  have ok : MulOk i k := by
    rcases hk with e | e <;> subst e
    · exact ⟨by decide, fun z => absurd (by decide) z, fun z => absurd (by decide) z⟩
    · exact ⟨by decide, fun _ z => absurd (show ((1 : Int) == 1 || i.length == 0) = true from rfl) (by rw [z]; decide), fun _ z => absurd (show ((1 : Int) == 1 || i.length == 0) = true from rfl) (by rw [z]; decide)⟩
  refine SB.mul ok fun t3 tk => ⟨.str (Txt.mul i k), H, I.tok _, ⟨_, rfl⟩, ?_⟩
  have e : Txt.mul i k = if k = 1 then i else Str.empty := by
    rcases hk with e | e <;> subst e
    · rfl
    · unfold Txt.mul
      rw [if_neg (by decide), if_pos (show ((1 : Int) == 1 || i.length == 0) = true from rfl), if_pos rfl]
  rw [e]
  exact q
/-- in a suite the room of the def is room enough -/
theorem roomS {k : Nat} {A : Around} {a : Addr} (r : Room k A) : L2H.RoomH k (A.mark (some (.ref a))) := ⟨(L2H.roomH_of r).dp, (L2H.roomH_of r).un⟩
theorem frX_blk {X : Cx} {fe : Env} {fo : List Env} {L : Addr} {s : Shared} {H : Hp} {scope : Scope} {cl : List (Str × Addr)} {C : Addr} {fp : List Addr} {xe : Value → Shared → Prop} (h : FrX X fe fo L) : FrX (blkX X s H scope (compEnvC scope cl C X.env) fp xe) fe fo L := ⟨h.stk, h.f1, h.f2⟩
end VW
set_option Elab.async false
set_option linter.all false
set_option maxRecDepth 100000
set_option maxHeartbeats 4000000
namespace VW
open PySem PySem.Spec PyProof.Rows L2 GxR
theorem noteD_flat (n : Nt) : (noteD n).flat 1 = true := rfl
theorem voiceD_flat (v : List Nt) : (voiceD v).flat 2 = true := D.flats_all (ds := v.map noteD) fun d hd => by
  obtain ⟨n, _, rfl⟩ := List.mem_map.mp hd
  exact noteD_flat n
theorem pieceD_flat (p : List (List Nt)) : (pieceD p).flat 3 = true := D.flats_all (ds := p.map voiceD) fun d hd => by
  obtain ⟨n, _, rfl⟩ := List.mem_map.mp hd
  exact voiceD_flat n
theorem ints_flat (ns : List Int) : D.flats (ns.map D.int) 0 = true := D.flats_all fun d hd => by
  obtain ⟨n, _, rfl⟩ := List.mem_map.mp hd
  rfl

theorem take_one {α : Type} {l : List α} {i : Nat} {x : α} (h : l[i]? = some x) : l.take (i + 1) = l.take i ++ [x] := by
  rw [List.take_succ, h]
  rfl

theorem relRef {C : Addr} : ∀ u, RelV (.ref C) u → u = .ref C := fun u r => by cases r; rfl
theorem relTy {n : String} : ∀ u, RelV (.ty n) u → u = .type n := fun u r => by cases r; rfl
theorem noteD_inj (n m : Nt) (h : noteD n = noteD m) : n = m := by
  have : asNote (noteD n) = asNote (noteD m) := by rw [h]
  rw [asNote_noteD, asNote_noteD] at this
  injection this
theorem voiceD_inj (v w : List Nt) (h : voiceD v = voiceD w) : v = w := by
  unfold voiceD at h
  injection h with h
  exact (List.map_inj_right noteD_inj).mp h
theorem pieceD_inj {p q : List (List Nt)} (h : pieceD p = pieceD q) : p = q := by
  unfold pieceD at h
  injection h with h
  exact (List.map_inj_right voiceD_inj).mp h
theorem at2 (x y : V) (n : Int) : atI [x, y] (n.fmod 2) = some (if n.fmod 2 = 0 then x else y) := by
  have h := md n (m := 2) (by decide)
  generalize n.fmod 2 = z at h
  have : z = 0 ∨ z = 1 := by omega
  rcases this with e | e <;> subst e <;> rfl
theorem at_int2 (x y : Int) (n : Int) : ∃ t : Int, atI [V.int x, V.int y] (n.fmod 2) = some (V.int t) := by
  rw [at2]
  split
  · exact ⟨x, rfl⟩
  · exact ⟨y, rfl⟩
theorem at_mod {ts : List Int} (n : Int) (h : 0 < ts.length) : ∃ t : Int, atI (ts.map V.int) (n.fmod (ts.length : Int)) = some (V.int t) := by
  have hz := md n (m := (ts.length : Int)) (by omega)
  generalize n.fmod (ts.length : Int) = z at hz
  have hk : z.toNat < ts.length := by omega
  refine ⟨ts[z.toNat], atI_of hz.1 ?_⟩
  rw [List.getElem?_map, List.getElem?_eq_getElem hk]
  rfl

theorem kit_list {K : PySem.W.Frag} : PySem.W.kitOne K (.type "list") (.type "list") = some true := isi_list (.lst [])
end VW
set_option Elab.async false
set_option linter.all false
set_option maxRecDepth 100000
set_option maxHeartbeats 4000000
namespace VW
open PySem PySem.Spec PyProof.Rows L2 GxR

theorem rest6_sc (z sc : Int) (h : 1 ≤ sc ∧ sc ≤ 200) : 0 ≤ rest6 z * sc ∧ rest6 z * sc ≤ 600 := by
  unfold rest6
  split
  · omega
  · split <;> omega
theorem long_sc (z sc : Int) (h : 1 ≤ sc ∧ sc ≤ 200) (hz : 0 ≤ z ∧ z < 4) : 1 ≤ (1 + z) * sc ∧ (1 + z) * sc ≤ 800 := by
  have : z = 0 ∨ z = 1 ∨ z = 2 ∨ z = 3 := by omega
  rcases this with e | e | e | e <;> subst e <;> omega
theorem okFrom_law (sc : Int) (hsc : 1 ≤ sc ∧ sc ≤ 200) : ∀ (ns : List Int) (e t p : Int), 0 ≤ e → e ≤ t → t + 1400 * ns.length ≤ 100000 → okFrom e (lawNotes sc (t, p) ns) = true
  | [], _, _, _, _, _, _ => by unfold lawNotes okFrom; rfl
  | n :: r, e, t, p, he, het, hb => by
    have h1 := rest6_sc (n.fmod 6) sc hsc
    have h2 := long_sc ((n.fdiv 6).fmod 4) sc hsc (md _ (by decide))
    have h3 := md (p + jump4 (n.fdiv 24) + 200) (m := 401) (by decide)
    rw [List.length_cons] at hb
    have hb' : t + 1400 * ((r.length : Int) + 1) ≤ 100000 := by omega
    rw [lawNotes_cons]
    have ih := okFrom_law sc hsc r (t + rest6 (n.fmod 6) * sc + (1 + (n.fdiv 6).fmod 4) * sc) (t + rest6 (n.fmod 6) * sc + (1 + (n.fdiv 6).fmod 4) * sc) ((p + jump4 (n.fdiv 24) + 200).fmod 401 - 200) (by omega) (by omega) (by omega)
    show (okNote (lawNote sc (t, p) n) && decide (e ≤ t + rest6 (n.fmod 6) * sc) && okFrom (t + rest6 (n.fmod 6) * sc + (1 + (n.fdiv 6).fmod 4) * sc) _) = true
    have ih' : okFrom (t + rest6 (n.fmod 6) * sc + (1 + (n.fdiv 6).fmod 4) * sc) (lawNotes sc (lawStep sc (t, p) n) r) = true := ih
    rw [ih', Bool.and_true, decide_eq_true (by omega), Bool.and_true]
    show (decide (0 ≤ t + rest6 (n.fmod 6) * sc) && decide (1 ≤ (1 + (n.fdiv 6).fmod 4) * sc) && decide (t + rest6 (n.fmod 6) * sc + (1 + (n.fdiv 6).fmod 4) * sc ≤ 100000) && decide (-200 ≤ (p + jump4 (n.fdiv 24) + 200).fmod 401 - 200) && decide ((p + jump4 (n.fdiv 24) + 200).fmod 401 - 200 ≤ 200)) = true
    rw [decide_eq_true (by omega), decide_eq_true (by omega), decide_eq_true (by omega), decide_eq_true (by omega), decide_eq_true (by omega)]
    rfl
theorem okVoice_law (ns : List Int) (h63 : ns.length ≤ 63) (pl : Nat) : okVoice (lawVoice ns pl) = true := by
  have hsc := lawScale_b ns
  unfold okVoice lawVoice
  have h5 := md ((cell ns 1).fdiv 1600 + pl * (cell ns 2).fdiv 401) (m := 5) (by decide)
  generalize ((cell ns 1).fdiv 1600 + pl * (cell ns 2).fdiv 401).fmod 5 = z at h5
  have hz : 0 ≤ z * lawScale ns ∧ z * lawScale ns ≤ 800 := by
    have : z = 0 ∨ z = 1 ∨ z = 2 ∨ z = 3 ∨ z = 4 := by omega
    rcases this with e | e | e | e | e <;> subst e <;> omega
  have hl := every_len (lawMany ns).toNat (3 + pl) ns
  exact okFrom_law _ hsc _ 0 _ _ (by omega) (by omega) (by omega)
theorem lawNotes_len (sc : Int) : ∀ (ns : List Int) (st : Int × Int), (lawNotes sc st ns).length = ns.length
  | [], _ => by unfold lawNotes; rfl
  | n :: r, st => by rw [lawNotes_cons, List.length_cons, List.length_cons, lawNotes_len sc r]
theorem lawVoice_len (ns : List Int) (h63 : ns.length ≤ 63) (pl : Nat) : (lawVoice ns pl).length ≤ 63 := by
  unfold lawVoice
  rw [lawNotes_len]
  exact Nat.le_trans (every_len _ _ _) h63
theorem lawPiece_len (ns : List Int) : 1 ≤ (lawPiece ns).length ∧ (lawPiece ns).length ≤ 6 := by
  have := lawMany_b ns
  unfold lawPiece
  rw [List.length_map, List.length_range]
  omega
theorem okPiece_law (ns : List Int) (h63 : ns.length ≤ 63) : okPiece (lawPiece ns) = true := by
  have h := lawPiece_len ns
  unfold okPiece
  rw [decide_eq_true h.1, decide_eq_true h.2, Bool.true_and, Bool.true_and]
  refine List.all_eq_true.mpr fun v hv => ?_
  unfold lawPiece at hv
  obtain ⟨pl, _, rfl⟩ := List.mem_map.mp hv
  exact okVoice_law ns h63 pl
theorem lawPiece_voice (ns : List Int) (h63 : ns.length ≤ 63) {v : List Nt} (hv : v ∈ lawPiece ns) : v.length ≤ 63 := by
  unfold lawPiece at hv
  obtain ⟨pl, _, rfl⟩ := List.mem_map.mp hv
  exact lawVoice_len ns h63 pl
end VW
set_option Elab.async false
set_option linter.all false
set_option maxRecDepth 100000
set_option maxHeartbeats 4000000
namespace VW
open PySem PySem.Spec PyProof.Rows L2 GxR

/-- what isinstance says of a refusal, of all nine classes -/
structure KitW (S : Ev) (D : Addr) (n r u p t e c x : Bool) : Prop where
  cl : L2.ExcC S.K D
  val : PySem.W.kitOne S.K (.ref D) (.type "ValueError") = some true
  n : PySem.W.kitOne S.K (.ref D) (.ref S.cNumber) = some n
  r : PySem.W.kitOne S.K (.ref D) (.ref S.cRange) = some r
  u : PySem.W.kitOne S.K (.ref D) (.ref S.cUneven) = some u
  p : PySem.W.kitOne S.K (.ref D) (.ref S.cPiece) = some p
  t : PySem.W.kitOne S.K (.ref D) (.ref S.cTheme) = some t
  e : PySem.W.kitOne S.K (.ref D) (.ref S.cEntry) = some e
  c : PySem.W.kitOne S.K (.ref D) (.ref S.cClash) = some c
  x : PySem.W.kitOne S.K (.ref D) (.ref S.cText) = some x
  exm : PySem.W.exmOne S.K (.ref D) (.ref S.cWeave) = some true
/-- a text where it holds -/
def tif (b : Bool) (s : Str) : Str := if (if b then (1 : Int) else 0) = 1 then s else Str.empty
def wordOf (n r u p t e c x : Bool) : Str :=
  ((((PySem.Str.ofString "" ++ tif n (PySem.Str.ofString "number")) ++ tif r (PySem.Str.ofString "range") ++ tif u (PySem.Str.ofString "uneven")) ++ tif p (PySem.Str.ofString "piece") ++ tif t (PySem.Str.ofString "theme")) ++ tif e (PySem.Str.ofString "entry") ++ tif c (PySem.Str.ofString "clash")) ++ tif x (PySem.Str.ofString "text")
def spe_law_word (S : Ev) : SpE := fun a cls d vs H Q _ => match vs with
  | [y] => y = .ref a ∧ d = none ∧ ∃ D n r u p t e c x, cls = .ref D ∧ KitW S D n r u p t e c x ∧ ∀ H', Ext H H' → Q (.str (wordOf n r u p t e c x)) H'
  | _ => False
theorem len_law_word (S : Ev) (a : Addr) (cls : Value) (d : Option Addr) (vs : List V) (H : Hp) (Q : VK) (h : spe_law_word S a cls d vs H Q E0) : vs.length = ["e"].length := by rcases vs with _ | ⟨a, _ | ⟨b, r⟩⟩ <;> first | rfl | exact h.elim

/-! ### what the moving defs promise -/
/-- a note more, or a refusal -/
def sp_note (S : Ev) : Sp := fun vs H Q E => match vs with
  | [x, y, z] => ∃ s l p, x = .int s ∧ y = .int l ∧ z = .int p ∧ S.T H ∧ (okNote (s, l, p) = true → ∀ H' t, Ext H H' → At S.K H' (.ref t) (noteD (s, l, p)) → Q (.ref t) H') ∧ (okNote (s, l, p) = false → ∀ H', Ext H H' → E (.ref S.cRange) none H')
  | _ => False
theorem len_note (S : Ev) (vs : List V) (H : Hp) (Q : VK) (E : XK) (h : sp_note S vs H Q E) : vs.length = ["a", "b", "c"].length := by rcases vs with _ | ⟨a, _ | ⟨b, _ | ⟨c, _ | ⟨d, r⟩⟩⟩⟩ <;> first | rfl | exact h.elim
def allOk (f : Nt → Nt) (pc : List (List Nt)) : Prop := ∀ v, v ∈ pc → ∀ n, n ∈ v → okNote (f n) = true
def mapP (f : Nt → Nt) (pc : List (List Nt)) : List (List Nt) := pc.map fun v => v.map f
def mvN (i j : Int) (n : Nt) : Nt := (n.1 + i, n.2.1, n.2.2 + j)
def sp_moved (S : Ev) : Sp := fun vs H Q E => match vs with
  | [x, y, z] => S.T H ∧ ∃ d d1 d2, At S.K H x d ∧ At S.K H y d1 ∧ At S.K H z d2 ∧
      (∀ pc i j, d = pieceD pc → okPiece pc = true → d1 = .int i → d2 = .int j → allOk (mvN i j) pc → ∀ H' p, Ext H H' → New2 S.K H H' p ((mapP (mvN i j) pc).map fun v => v.map noteD) → Q (.ref p) H') ∧
      (∀ pc i j, d = pieceD pc → okPiece pc = true → d1 = .int i → d2 = .int j → ¬ allOk (mvN i j) pc → ∀ H', Ext H H' → E (.ref S.cRange) none H') ∧
      (isPiece d = true → d1.whole = false ∨ d2.whole = false → ∀ H', Ext H H' → E (.ref S.cNumber) none H') ∧ (isPiece d = false → ∀ H', Ext H H' → E (.ref S.cPiece) none H')
  | _ => False
theorem len_moved (S : Ev) (vs : List V) (H : Hp) (Q : VK) (E : XK) (h : sp_moved S vs H Q E) : vs.length = ["a", "b", "c"].length := by rcases vs with _ | ⟨a, _ | ⟨b, _ | ⟨c, _ | ⟨d, r⟩⟩⟩⟩ <;> first | rfl | exact h.elim

/-! ### what the law's own defs promise -/
def sp_law_is_note (S : Ev) : Sp := fun vs H Q _ => match vs with
  | [x] => ∃ n, At S.K H x (noteD n) ∧ Q (.bl (okNote n)) H
  | _ => False
theorem len_law_is_note (S : Ev) (vs : List V) (H : Hp) (Q : VK) (E : XK) (h : sp_law_is_note S vs H Q E) : vs.length = ["a"].length := by rcases vs with _ | ⟨a, _ | ⟨b, r⟩⟩ <;> first | rfl | exact h.elim
def small (pc : List (List Nt)) : Prop := pc.length ≤ 6 ∧ ∀ v, v ∈ pc → v.length ≤ 63
def sp_law_same (S : Ev) : Sp := fun vs H Q _ => match vs with
  | [x, y] => ∃ pc, At S.K H x (pieceD pc) ∧ At S.K H y (pieceD pc) ∧ small pc ∧ ∀ H', Ext H H' → Q (.bl true) H'
  | _ => False
theorem len_law_same (S : Ev) (vs : List V) (H : Hp) (Q : VK) (E : XK) (h : sp_law_same S vs H Q E) : vs.length = ["a", "b"].length := by rcases vs with _ | ⟨a, _ | ⟨b, _ | ⟨c, r⟩⟩⟩ <;> first | rfl | exact h.elim
def sp_law_own (S : Ev) : Sp := fun vs H Q _ => match vs with
  | [x, y, z] => ∃ (H00 H0 : Hp) (p q : Addr) (pc1 pc : List (List Nt)), x = .ref p ∧ y = .ref q ∧ Ext H00 H0 ∧ Ext H0 H ∧ New2 S.K H00 H0 q (pc.map fun v => v.map noteD) ∧ New2 S.K H0 H p (pc1.map fun v => v.map noteD) ∧ At S.K H0 z (pieceD pc) ∧ small pc1 ∧ small pc ∧ ∀ H', Ext H00 H' → Q (.bl true) H'
  | _ => False
theorem len_law_own (S : Ev) (vs : List V) (H : Hp) (Q : VK) (E : XK) (h : sp_law_own S vs H Q E) : vs.length = ["a", "b", "c"].length := by rcases vs with _ | ⟨a, _ | ⟨b, _ | ⟨c, _ | ⟨d, r⟩⟩⟩⟩ <;> first | rfl | exact h.elim
abbrev KitN (S : Ev) : Prop := KitW S S.cNumber true false false false false false false false
abbrev KitR (S : Ev) : Prop := KitW S S.cRange false true false false false false false false
abbrev KitU (S : Ev) : Prop := KitW S S.cUneven false false true false false false false false
end VW
set_option Elab.async false
set_option linter.all false
set_option maxRecDepth 100000
set_option maxHeartbeats 4000000
namespace VW
open PySem PySem.Spec PyProof.Rows L2 GxR
abbrev N_note : List Str := ["start", "long", "pitch", "note"]
def t_note (S : Ev) (E : XK) : TS :=
  (tSeq (tAsg (tTup (tCons (tVar 0) (tCons (tVar 1) (tCons (tVar 2) tNil)))) (gName 3))
      (tSeq (tIfS (tNot (tB (tCall (sp_is_note S) [] E0 (tCons (tVar 3) tNil)))) (fun _ _ H => E (.ref S.cRange) none H) tNext)
      (tRet (tVar 3))))

abbrev N_moved : List Str := ["piece", "later", "higher", "voices", "voice", "start", "long", "pitch"]
def t_moved (S : Ev) (E : XK) : TS :=
  (tSeq (tAsg (tCall (sp_good S) [] E (tCons (tVar 0) tNil)) (gName 3))
      (tSeq (tDrop (tCall (sp_require_whole S) [] E (tCons (tVar 1) tNil)))
      (tSeq (tDrop (tCall (sp_require_whole S) [] E (tCons (tVar 2) tNil)))
      (tRet (tLc (iList S.K (tVar 3)) (gName 4) tYes (tLc (iList S.K (tVar 4)) (gTup S.K 3 (gCons (gName 5) (gCons (gName 6) (gCons (gName 7) gNil)))) tYes (tCall (sp_note S) [] E (tCons (tOp kAdd (tVar 5) (tVar 1)) (tCons (tVar 6) (tCons (tOp kAdd (tVar 7) (tVar 2)) tNil)))) [5, 6, 7]) [4])))))

abbrev N_law_is_note : List Str := ["_law_note"]
def t_law_is_note (S : Ev) (E : XK) : TS :=
  (tRet (tAndV (tOp kGe (tOp (rIxT S.K) (tVar 0) (tC (.int 0))) (tC (.int 0))) (tAndV (tOp kGe (tOp (rIxT S.K) (tVar 0) (tC (.int 1))) (tC (.int 1))) (tAndV (tOp kLe (tOp kAdd (tOp (rIxT S.K) (tVar 0) (tC (.int 0))) (tOp (rIxT S.K) (tVar 0) (tC (.int 1)))) (tC (.int 100000))) (tChain kLe kLe (tUn kNeg (tC (.int 200))) (tOp (rIxT S.K) (tVar 0) (tC (.int 2))) (tC (.int 200)))))))

abbrev N_law_same : List Str := ["_law_told", "_law_due", "_law_voice", "_law_other", "_law_note", "_law_one", "_law_part"]
def t_law_same (S : Ev) (E : XK) : TS :=
  (tSeq (tIfS (tOr (tNot (tB (tCB (rIsi S.K) (tCons (tVar 0) (tCons (tC (.ty "list")) tNil))))) (tTest (tOp rNe (tCB (kLen S.K) (tCons (tVar 0) tNil)) (tCB (kLen S.K) (tCons (tVar 1) tNil))))) (tRet (tC (.bl false))) tNext)
      (tSeq (tFor (iZip S.K (tCons (tVar 0) (tCons (tVar 1) tNil))) (gTup S.K 2 (gCons (gName 2) (gCons (gName 3) gNil))) (tSeq (tIfS (tOr (tNot (tB (tCB (rIsi S.K) (tCons (tVar 2) (tCons (tC (.ty "list")) tNil))))) (tTest (tOp rNe (tCB (kLen S.K) (tCons (tVar 2) tNil)) (tCB (kLen S.K) (tCons (tVar 3) tNil))))) (tRet (tC (.bl false))) tNext)
      (tFor (iZip S.K (tCons (tVar 2) (tCons (tVar 3) tNil))) (gTup S.K 2 (gCons (gName 4) (gCons (gName 5) gNil))) (tIfS (tOr (tNot (tB (tCB (rIsi S.K) (tCons (tVar 4) (tCons (tC (.ty "tuple")) tNil))))) (tOr (tTest (tOp kGt (tCB (kLen S.K) (tCons (tLc (iTup S.K (tVar 4)) (gName 6) (tNot (tB (tCall (sp_law_whole S) [] E0 (tCons (tVar 6) tNil)))) (tVar 6) [6]) tNil)) (tC (.int 0)))) (tTest (tOp (rNeD S.K) (tVar 4) (tVar 5))))) (tRet (tC (.bl false))) tNext))))
      (tRet (tC (.bl true)))))

abbrev N_law_word : List Str := ["_law_e", "_law_word_here"]
def t_law_word (S : Ev) (a : Addr) (cls : Value) (d : Option Addr) : TS :=
  (tSeq (tAsg (tOp kAddS (tOp (rIxL S.K) (tLst (tCons (tC (.str (PySem.Str.ofString ""))) (tCons (tC (.str (PySem.Str.ofString "bare "))) tNil))) (tCB kInt1 (tCons (tNotV (tCB (rIsX S.K a cls d) (tCons (tVar 0) (tCons (tC (.ty "ValueError")) tNil)))) tNil))) (tOp kMulS (tC (.str (PySem.Str.ofString "number"))) (tCB kInt1 (tCons (tCB (rIsX S.K a cls d) (tCons (tVar 0) (tCons (tC (.ref S.cNumber)) tNil))) tNil)))) (gName 1))
      (tSeq (tAsg (tOp kAddS (tOp kAddS (tVar 1) (tOp kMulS (tC (.str (PySem.Str.ofString "range"))) (tCB kInt1 (tCons (tCB (rIsX S.K a cls d) (tCons (tVar 0) (tCons (tC (.ref S.cRange)) tNil))) tNil)))) (tOp kMulS (tC (.str (PySem.Str.ofString "uneven"))) (tCB kInt1 (tCons (tCB (rIsX S.K a cls d) (tCons (tVar 0) (tCons (tC (.ref S.cUneven)) tNil))) tNil)))) (gName 1))
      (tSeq (tAsg (tOp kAddS (tOp kAddS (tVar 1) (tOp kMulS (tC (.str (PySem.Str.ofString "piece"))) (tCB kInt1 (tCons (tCB (rIsX S.K a cls d) (tCons (tVar 0) (tCons (tC (.ref S.cPiece)) tNil))) tNil)))) (tOp kMulS (tC (.str (PySem.Str.ofString "theme"))) (tCB kInt1 (tCons (tCB (rIsX S.K a cls d) (tCons (tVar 0) (tCons (tC (.ref S.cTheme)) tNil))) tNil)))) (gName 1))
      (tSeq (tAsg (tOp kAddS (tOp kAddS (tVar 1) (tOp kMulS (tC (.str (PySem.Str.ofString "entry"))) (tCB kInt1 (tCons (tCB (rIsX S.K a cls d) (tCons (tVar 0) (tCons (tC (.ref S.cEntry)) tNil))) tNil)))) (tOp kMulS (tC (.str (PySem.Str.ofString "clash"))) (tCB kInt1 (tCons (tCB (rIsX S.K a cls d) (tCons (tVar 0) (tCons (tC (.ref S.cClash)) tNil))) tNil)))) (gName 1))
      (tRet (tOp kAddS (tVar 1) (tOp kMulS (tC (.str (PySem.Str.ofString "text"))) (tCB kInt1 (tCons (tCB (rIsX S.K a cls d) (tCons (tVar 0) (tCons (tC (.ref S.cText)) tNil))) tNil)))))))))

abbrev N_law_own : List Str := ["_law_later", "_law_told", "_law_due", "_law_voice"]
def t_law_own (S : Ev) (E : XK) : TS :=
  (tSeq (tFor (iList S.K (tVar 0)) (gName 3) (tDrop (tBM S.K "list" rAppend (tVar 3) (tCons (tTup (tCons (tC (.int 0)) (tCons (tC (.int 0)) (tCons (tC (.int 0)) tNil)))) tNil))))
      (tSeq (tIfS (tTest (tOp (rNeD S.K) (tVar 1) (tVar 2))) (tRet (tC (.bl false))) tNext)
      (tSeq (tFor (iList S.K (tVar 1)) (gName 3) (tDrop (tBM S.K "list" rAppend (tVar 3) (tCons (tTup (tCons (tC (.int 0)) (tCons (tC (.int 0)) (tCons (tC (.int 0)) tNil)))) tNil))))
      (tRet (tC (.bl true))))))
end VW
set_option Elab.async false
set_option linter.all false
set_option maxRecDepth 100000
set_option maxHeartbeats 4000000
namespace VW
open PySem PySem.Spec PyProof.Rows L2 GxR

theorem pure_note (S : Ev) (vs : List V) (H : Hp) (Q : VK) (E : XK) (h : sp_note S vs H Q E) : t_note S E { nx := fun _ H' => Q .non H', rt := Q } (start N_note vs) H := by
  obtain ⟨x, y, z, rfl⟩ := args3 (len_note S vs H Q E h)
  obtain ⟨s, l, p, rfl, rfl, rfl, hT, q1, q2⟩ := h
  refine ⟨_, rfl, _, rfl, _, rfl, (by decide : 3 ≤ sizeLine), fun t ht => ?_⟩
  have x1 : Ext H (upd H t (.tup [.int s, .int l, .int p])) := Ext.new ht
  have hA : At S.K (upd H t (.tup [.int s, .int l, .int p])) (.ref t) (noteD (s, l, p)) := .tup (.inl (.inl upd_same)) (.cons (.int _) (.cons (.int _) (.cons (.int _) .nil)))
  refine ⟨_, rfl, x1.tabs hT, _, hA, fun H2 x2 => ⟨_, rfl, ?_⟩⟩
  have e : isNote (noteD (s, l, p)) = okNote (s, l, p) := rfl
  cases ho : okNote (s, l, p) with
  | true => exact iteF' (by rw [e, ho]; rfl) ⟨_, rfl, q1 ho H2 t (x1.trans x2) (At.ext x2 _ _ hA)⟩
  | false => exact iteT' (by rw [e, ho]; rfl) (q2 ho H2 (x1.trans x2))

/-- a comprehension over notes whose elements are notes -/
theorem lc_notesD {K : PySem.W.Frag} {a : Addr} {xs : List V} {v : List Nt} {g : TG} {te : TE} {vs : List Nat} {σ : L2.St} {H1 : Hp} {D : Addr} {Qd : Hp → Prop} (f : Nt → Nt) (ok : Nt → Prop) (hD : H1 D = none) (hz : v.length ≤ 200000) (hS : SqL K H1 a xs) (hA : AtAll K H1 xs (v.map noteD))
    (hs : ∀ (n : Nt) (x : V) (H' : Hp) (R : VK), n ∈ v → Ext H1 H' → At K H' x (noteD n) → (ok n → ∀ t H4, At K H4 (.ref t) (noteD (f n)) → Ext H' H4 → R (.ref t) H4) →
      g x (wipe σ vs) H' fun σ2 H2 => wipe σ2 vs = wipe σ vs ∧ te σ2 H2 R)
    (hd : ∀ H' ys, Ext H1 H' → (∀ n, n ∈ v → ok n) → H' D = some (.lst ys) → AtAll K H' ys ((v.map f).map noteD) → Qd H') :
    ∃ W : Nat → Nat → Hp → Prop, (∃ m, W 0 m (upd H1 D (.lst []))) ∧ ∀ i m H, W i m H →
      ((Itl K a).stop i H ∧ Qd H) ∨ ((Itl K a).go i H ∧ ∃ Nx : Hp → Prop, (∀ H', Nx H' → ∃ m', m' < m ∧ W (i + 1) m' H') ∧ ∀ x H', (Itl K a).yld i H x H' → g x (wipe σ vs) H' fun σ2 H2 => wipe σ2 vs = wipe σ vs ∧ tYes σ2 H2 fun b H3 =>
        if b = true then te σ2 H3 fun y H4 => ∃ acc, H4 D = some (.lst acc) ∧ acc.length < sizeLine ∧ Nx (upd H4 D (.lst (acc ++ [y]))) else Nx H3) := by
  have hlen := hA.length
  rw [List.length_map] at hlen
  refine lc_list (Pv := fun i H => Ext H1 H ∧ ∃ ys, H D = some (.lst ys) ∧ AtAll K H ys (((v.take i).map f).map noteD) ∧ ∀ n, n ∈ v.take i → ok n) ⟨Ext.new hD, [], upd_same, .nil, by simp⟩ (fun i H _ h => h.1.sqL hS) ?_ ?_
  · rintro i x H hx ⟨hE, ys, eD, hY, hok⟩
    obtain ⟨dy, hdy, hAy⟩ := hA.get hx
    rw [List.getElem?_map] at hdy
    cases hv : v[i]? with
    | none => rw [hv] at hdy; cases hdy
    | some n =>
      rw [hv] at hdy
      cases hdy
      have hi : i < v.length := (List.getElem?_eq_some_iff.mp hv).1
      refine hs n x H _ (List.mem_of_getElem? hv) hE (At.ext hE _ _ hAy) fun o t H4 ht x4 => ⟨ys, x4.lst eD, ?_, (hE.trans x4).upd hD, ys ++ [.ref t], upd_same, ?_, ?_⟩
      · rw [hY.length, List.length_map, List.length_map, List.length_take]
        exact Nat.lt_of_lt_of_le (by omega : _ < 200001) (by decide : 200001 ≤ sizeLine)
      · rw [take_one hv, List.map_append, List.map_append]
        exact AtAll.append ((AtAll.ext x4 _ _ hY).notes_upd (x4.lst eD)) (.cons (At.note_upd (x4.lst eD) ht) .nil)
      · intro m hm
        rw [take_one hv] at hm
        rcases List.mem_append.mp hm with q | q
        · exact hok m q
        · rw [List.mem_singleton.mp q]; exact o
  · rintro H ⟨hE, ys, eD, hY, hok⟩
    rw [hlen, List.take_length] at hY hok
    exact hd H ys hE hok eD hY
/-- a comprehension that cannot go to its end -/
theorem lc_failD {K : PySem.W.Frag} {a : Addr} {xs : List V} {g : TG} {te : TE} {vs : List Nat} {σ : L2.St} {H1 : Hp} {D : Addr} {Qd : Hp → Prop} (good : Nat → Prop) (hD : H1 D = none) (hz : xs.length ≤ 1000) (hS : SqL K H1 a xs) (hnot : ¬ ∀ i, i < xs.length → good i)
    (hs : ∀ (i : Nat) (x : V) (H' : Hp) (R : VK), xs[i]? = some x → Ext H1 H' → (good i → ∀ y H4, Ext H' H4 → R y H4) → g x (wipe σ vs) H' fun σ2 H2 => wipe σ2 vs = wipe σ vs ∧ te σ2 H2 R) :
    ∃ W : Nat → Nat → Hp → Prop, (∃ m, W 0 m (upd H1 D (.lst []))) ∧ ∀ i m H, W i m H →
      ((Itl K a).stop i H ∧ Qd H) ∨ ((Itl K a).go i H ∧ ∃ Nx : Hp → Prop, (∀ H', Nx H' → ∃ m', m' < m ∧ W (i + 1) m' H') ∧ ∀ x H', (Itl K a).yld i H x H' → g x (wipe σ vs) H' fun σ2 H2 => wipe σ2 vs = wipe σ vs ∧ tYes σ2 H2 fun b H3 =>
        if b = true then te σ2 H3 fun y H4 => ∃ acc, H4 D = some (.lst acc) ∧ acc.length < sizeLine ∧ Nx (upd H4 D (.lst (acc ++ [y]))) else Nx H3) := by
  refine lc_list (Pv := fun i H => Ext H1 H ∧ ∃ ys, H D = some (.lst ys) ∧ ys.length = i ∧ ∀ j, j < i → good j) ⟨Ext.new hD, [], upd_same, rfl, fun j hj => absurd hj (Nat.not_lt_zero j)⟩ (fun i H _ h => h.1.sqL hS) ?_ ?_
  · rintro i x H hx ⟨hE, ys, eD, hl, hok⟩
    have hi : i < xs.length := (List.getElem?_eq_some_iff.mp hx).1
    refine hs i x H _ hx hE fun o y H4 x4 => ⟨ys, x4.lst eD, ?_, (hE.trans x4).upd hD, ys ++ [y], upd_same, by rw [List.length_append, hl]; rfl, ?_⟩
    · rw [hl]
      exact Nat.lt_of_lt_of_le (by omega : _ < 1001) (by decide : 1001 ≤ sizeLine)
    · intro j hj
      by_cases e : j < i
      · exact hok j e
      · have : j = i := by omega
        rw [this]; exact o
  · rintro H ⟨hE, ys, eD, hl, hok⟩
    exact absurd hok hnot
theorem okVoice_len : ∀ (v : List Nt) (e : Int), okFrom e v = true → e + v.length ≤ 100000 + 0 ∨ v = []
  | [], _, _ => .inr rfl
  | n :: r, e, h => by
    have h' : (okNote n && decide (e ≤ n.1) && okFrom (n.1 + n.2.1) r) = true := h
    simp only [Bool.and_eq_true, decide_eq_true_eq] at h'
    obtain ⟨⟨h1, h2⟩, h3⟩ := h'
    unfold okNote at h1
    simp only [Bool.and_eq_true, decide_eq_true_eq] at h1
    refine .inl ?_
    rw [List.length_cons]
    rcases okVoice_len r _ h3 with q | q
    · omega
    · rw [q]; simp; omega
theorem okPiece_voice {pc : List (List Nt)} (ok : okPiece pc = true) {v : List Nt} (hv : v ∈ pc) : v.length ≤ 200000 := by
  unfold okPiece at ok
  simp only [Bool.and_eq_true] at ok
  have h := List.all_eq_true.mp ok.2 v hv
  rcases okVoice_len v 0 h with q | q
  · omega
  · rw [q]; simp
theorem D.whole_or {d : D} : d.whole = false ∨ ∃ i, d = .int i := by
  cases h : d.whole with
  | false => exact .inl rfl
  | true => exact .inr (D.whole_int h)

theorem pure_moved (S : Ev) (vs : List V) (H : Hp) (Q : VK) (E : XK) (h : sp_moved S vs H Q E) : t_moved S E { nx := fun _ H' => Q .non H', rt := Q } (start N_moved vs) H := by
  obtain ⟨x, y, z, rfl⟩ := args3 (len_moved S vs H Q E h)
  obtain ⟨hT, d, d1, d2, hx, hy, hz, q1, q2, q3, q4⟩ := h
  refine ⟨x, rfl, hT, d, hx, fun pc ed ok H2 p x2 n2 => ?_, fun hd H' x2 => q4 hd H' x2⟩
  have isP : isPiece d = true := by rw [ed, isPiece_D]; exact ok
  refine ⟨y, rfl, d1, At.ext x2 _ _ hy, fun w1 => ?_, fun w1 => q3 isP (.inl w1) H2 x2⟩
  refine ⟨z, rfl, d2, At.ext x2 _ _ hz, fun w2 => ?_, fun w2 => q3 isP (.inr w2) H2 x2⟩
  obtain ⟨i, e1⟩ := D.whole_int w1
  obtain ⟨j, e2⟩ := D.whole_int w2
  subst e1 e2
  have e1 := hy.isInt
  have e2 := hz.isInt
  subst e1 e2
  have hp := okPiece_len ok
  obtain ⟨pa, xs, e, hS, hA⟩ := At.piece n2.piece
  cases e
  have hl := hA.length
  rw [List.length_map] at hl
  -- one voice, from the heap H3 on
  have voice : ∀ (v : List Nt) (b : Addr) (ys : List V) (H3 : Hp) (R : VK), v ∈ pc → Ext H2 H3 → SqL S.K H3 b ys → AtAll S.K H3 ys (v.map noteD) →
      (∀ n, n ∈ v → okNote (mvN i j n) = false → ∀ H', Ext H3 H' → E (.ref S.cRange) none H') →
      (∀ D H' zs, H3 D = none → Ext H3 H' → (∀ n, n ∈ v → okNote (mvN i j n) = true) → H' D = some (.lst zs) → AtAll S.K H' zs ((v.map (mvN i j)).map noteD) → R (.ref D) H') →
      tLc (iList S.K (tVar 4)) (gTup S.K 3 (gCons (gName 5) (gCons (gName 6) (gCons (gName 7) gNil)))) tYes (tCall (sp_note S) [] E (tCons (tOp kAdd (tVar 5) (tVar 1)) (tCons (tVar 6) (tCons (tOp kAdd (tVar 7) (tVar 2)) tNil)))) [5, 6, 7]
        [some x, some (.int i), some (.int j), some (.ref p), some (.ref b), none, none, none] H3 R := by
    intro v b ys H3 R hv x3 hb hB bad k
    refine ⟨_, rfl, b, rfl, ⟨ys, hb⟩, fun D hD => lc_notesD (mvN i j) (fun n => okNote (mvN i j n) = true) (g := gTup S.K 3 (gCons (gName 5) (gCons (gName 6) (gCons (gName 7) gNil)))) (te := tCall (sp_note S) [] E (tCons (tOp kAdd (tVar 5) (tVar 1)) (tCons (tVar 6) (tCons (tOp kAdd (tVar 7) (tVar 2)) tNil)))) (vs := [5, 6, 7])
      (σ := [some x, some (.int i), some (.int j), some (.ref p), some (.ref b), none, none, none]) hD (okPiece_voice ok hv) hb hB ?_ fun H' zs x4 o eD hZ => k D H' zs hD x4 o eD hZ⟩
    intro n y H' R hn x4 hAn kk
    obtain ⟨c, rfl, hc⟩ := hAn.note
    refine ⟨c, _, rfl, hc, rfl, .int n.1, _, rfl, .int n.2.1, _, rfl, .int n.2.2, _, rfl, rfl, rfl, ?_⟩
    refine ⟨_, rfl, _, rfl, n.1, i, rfl, rfl, _, rfl, _, rfl, _, rfl, n.2.2, j, rfl, rfl, _, _, _, rfl, rfl, rfl, (x2.trans (x3.trans x4)).tabs hT, fun o H5 t x5 ht => ?_, fun o H5 x5 => ?_⟩
    · exact kk o t H5 ht x5
    · exact bad n hn o H5 (x4.trans x5)
  by_cases hall : allOk (mvN i j) pc
  · refine ⟨_, rfl, p, rfl, ⟨xs, hS⟩, fun D hD => lc_rowsD (g := gName 4) (te := tLc (iList S.K (tVar 4)) (gTup S.K 3 (gCons (gName 5) (gCons (gName 6) (gCons (gName 7) gNil)))) tYes (tCall (sp_note S) [] E (tCons (tOp kAdd (tVar 5) (tVar 1)) (tCons (tVar 6) (tCons (tOp kAdd (tVar 7) (tVar 2)) tNil)))) [5, 6, 7]) (vs := [4])
      (σ := [some x, some (.int i), some (.int j), some (.ref p), none, none, none, none]) (xs := xs) hD (mapP (mvN i j) pc) (by unfold mapP; rw [List.length_map, hl]) (by omega) hS ?_ fun H' x3 n3 => q1 pc i j ed ok rfl rfl hall H' D (x2.trans x3) ⟨?_⟩⟩
    · intro k y r H3 R hy' hr x3 kk
      obtain ⟨dy, hdy, hAy⟩ := hA.get hy'
      rw [List.getElem?_map] at hdy
      unfold mapP at hr
      rw [List.getElem?_map] at hr
      cases hv : pc[k]? with
      | none => rw [hv] at hdy; cases hdy
      | some v =>
        rw [hv] at hdy hr
        cases hdy
        cases hr
        have hvm := List.mem_of_getElem? hv
        obtain ⟨b, ys, rfl, hb, hB⟩ := At.list (At.ext x3 _ _ hAy)
        refine ⟨rfl, voice v b ys H3 R hvm x3 hb hB (fun n hn o => absurd (hall v hvm n hn) (by rw [o]; decide)) fun D2 H' zs hD2 x4 _ eD hZ => kk D2 zs H' eD hD2 x4 hZ⟩
    · obtain ⟨as, g1, g2, g3, g4, g5⟩ := n3.ex
      exact ⟨as, g1, x2.free g2, g3, fun a ha => x2.free (g4 a ha), g5⟩
  · refine ⟨_, rfl, p, rfl, ⟨xs, hS⟩, fun D hD => lc_failD (g := gName 4) (te := tLc (iList S.K (tVar 4)) (gTup S.K 3 (gCons (gName 5) (gCons (gName 6) (gCons (gName 7) gNil)))) tYes (tCall (sp_note S) [] E (tCons (tOp kAdd (tVar 5) (tVar 1)) (tCons (tVar 6) (tCons (tOp kAdd (tVar 7) (tVar 2)) tNil)))) [5, 6, 7]) (vs := [4])
      (σ := [some x, some (.int i), some (.int j), some (.ref p), none, none, none, none]) (xs := xs) (fun k => ∀ v, pc[k]? = some v → ∀ n, n ∈ v → okNote (mvN i j n) = true) hD (by omega) hS (fun all => hall fun v hv n hn => ?_) ?_⟩
    · obtain ⟨k, hk, ek⟩ := List.mem_iff_getElem.mp hv
      exact all k (by omega) v (by rw [List.getElem?_eq_getElem hk, ek]) n hn
    · intro k y H3 R hy' x3 kk
      obtain ⟨dy, hdy, hAy⟩ := hA.get hy'
      rw [List.getElem?_map] at hdy
      cases hv : pc[k]? with
      | none => rw [hv] at hdy; cases hdy
      | some v =>
        rw [hv] at hdy
        cases hdy
        have hvm := List.mem_of_getElem? hv
        obtain ⟨b, ys, rfl, hb, hB⟩ := At.list (At.ext x3 _ _ hAy)
        refine ⟨rfl, voice v b ys H3 R hvm x3 hb hB (fun n hn o H' x4 => q2 pc i j ed ok rfl rfl hall H' (x2.trans (x3.trans x4))) fun D2 H' zs hD2 x4 o eD hZ => kk (fun w hw => ?_) _ H' x4⟩
        rw [hv] at hw
        cases hw
        exact o
end VW
set_option Elab.async false
set_option linter.all false
set_option maxRecDepth 100000
set_option maxHeartbeats 8000000
namespace VW
open PySem PySem.Spec PyProof.Rows L2 GxR

theorem pure_law_is_note (S : Ev) (vs : List V) (H : Hp) (Q : VK) (E : XK) (h : sp_law_is_note S vs H Q E) : t_law_is_note S E { nx := fun _ H' => Q .non H', rt := Q } (start N_law_is_note vs) H := by
  obtain ⟨x, rfl⟩ := args1 (len_law_is_note S vs H Q E h)
  obtain ⟨n, hx, q⟩ := h
  obtain ⟨c, rfl, hc⟩ := hx.note
  have eN : okNote n = (decide (0 ≤ n.1) && decide (1 ≤ n.2.1) && decide (n.1 + n.2.1 ≤ 100000) && decide (-200 ≤ n.2.2) && decide (n.2.2 ≤ 200)) := rfl
  rw [eN] at q
  refine ⟨_, rfl, c, _, 0, .int n.1, rfl, rfl, hc, rfl, n.1, 0, rfl, rfl, _, rfl, ?_⟩
  by_cases e1 : 0 ≤ n.1
  · rw [decide_eq_true e1] at q ⊢
    refine iteT ⟨_, rfl, c, _, 1, .int n.2.1, rfl, rfl, hc, rfl, n.2.1, 1, rfl, rfl, _, rfl, ?_⟩
    by_cases e2 : 1 ≤ n.2.1
    · rw [decide_eq_true e2] at q ⊢
      refine iteT ⟨_, rfl, c, _, 0, .int n.1, rfl, rfl, hc, rfl, _, rfl, c, _, 1, .int n.2.1, rfl, rfl, hc, rfl, n.1, n.2.1, rfl, rfl, _, 100000, rfl, rfl, _, rfl, ?_⟩
      by_cases e3 : n.1 + n.2.1 ≤ 100000
      · rw [decide_eq_true e3] at q ⊢
        refine iteT ⟨200, rfl, _, rfl, c, _, 2, .int n.2.2, rfl, rfl, hc, rfl, -200, n.2.2, rfl, rfl, _, rfl, ?_⟩
        by_cases e4 : -200 ≤ n.2.2
        · rw [decide_eq_true e4] at q ⊢
          exact iteT ⟨n.2.2, 200, rfl, rfl, q⟩
        · rw [decide_eq_false e4] at q ⊢
          exact iteF q
      · rw [decide_eq_false e3] at q ⊢
        exact iteF q
    · rw [decide_eq_false e2] at q ⊢
      exact iteF q
  · rw [decide_eq_false e1] at q ⊢
    exact iteF q

theorem at_bool (b : Bool) (x y : V) : atI [x, y] (if b = true then 1 else 0) = some (if b = true then y else x) := by cases b <;> rfl
theorem b01 (b : Bool) : (if b = true then (1 : Int) else 0) = 0 ∨ (if b = true then (1 : Int) else 0) = 1 := by cases b <;> simp
theorem tif_len (b : Bool) (s : Str) : (tif b s).length ≤ s.length := by
  unfold tif
  cases b
  · exact Nat.zero_le _
  · exact Nat.le_refl _
theorem str_app_len (s t : Str) : (s ++ t).length = s.length + t.length := by
  show (s.cps ++ t.cps).size = s.cps.size + t.cps.size
  exact Array.size_append
theorem pure_law_word (S : Ev) (a : Addr) (cls : Value) (d : Option Addr) (vs : List V) (H : Hp) (Q : VK) (h : spe_law_word S a cls d vs H Q E0) : t_law_word S a cls d { nx := fun _ H' => Q .non H', rt := Q } (start N_law_word vs) H := by
  obtain ⟨y, rfl⟩ := args1 (len_law_word S a cls d vs H Q h)
  obtain ⟨rfl, rfl, D, n, r, u, p, t, e, c, x, rfl, k, q⟩ := h
  have lim : ∀ m, m ≤ 1000 → m ≤ sizeLine := fun m h => Nat.le_trans h (by decide)
  have ask : ∀ {H : Hp} {C : Addr} {b : Bool} {Q : VK}, PySem.W.kitOne S.K (.ref D) (.ref C) = some b → Q (.bl b) H → rIsX S.K a (.ref D) none [.ref a, .ref C] H Q := fun {H C b Q} hk q => ⟨D, rfl, rfl, k.cl, .ref C, .ref C, b, rfl, relRef, hk, q⟩
  have l0 : (PySem.Str.ofString "").length = 0 := by decide +kernel
  have l1 : (PySem.Str.ofString "number").length = 6 := by decide +kernel
  have l2 : (PySem.Str.ofString "range").length = 5 := by decide +kernel
  have l3 : (PySem.Str.ofString "uneven").length = 6 := by decide +kernel
  have l4 : (PySem.Str.ofString "piece").length = 5 := by decide +kernel
  have l5 : (PySem.Str.ofString "theme").length = 5 := by decide +kernel
  have l6 : (PySem.Str.ofString "entry").length = 5 := by decide +kernel
  have l7 : (PySem.Str.ofString "clash").length = 5 := by decide +kernel
  have l8 : (PySem.Str.ofString "text").length = 4 := by decide +kernel
  have m1 := tif_len n (PySem.Str.ofString "number")
  have m2 := tif_len r (PySem.Str.ofString "range")
  have m3 := tif_len u (PySem.Str.ofString "uneven")
  have m4 := tif_len p (PySem.Str.ofString "piece")
  have m5 := tif_len t (PySem.Str.ofString "theme")
  have m6 := tif_len e (PySem.Str.ofString "entry")
  have m7 := tif_len c (PySem.Str.ofString "clash")
  have m8 := tif_len x (PySem.Str.ofString "text")
  refine ⟨(by decide : 2 ≤ sizeLine), fun b hb => ?_⟩
  have x1 : Ext H (upd H b (.lst [.str (PySem.Str.ofString ""), .str (PySem.Str.ofString "bare ")])) := Ext.new hb
  refine ⟨_, rfl, ⟨D, rfl, rfl, k.cl, .ty "ValueError", .type "ValueError", true, rfl, relTy, k.val, true, rfl, .inr ⟨false, rfl, b, _, 0, .str (PySem.Str.ofString ""), rfl, rfl, .of upd_same, rfl, ?_⟩⟩⟩
  refine ⟨_, rfl, ask k.n (.inr ⟨n, rfl, _, _, rfl, rfl, b01 n, ?_⟩)⟩
  refine ⟨_, tif n (PySem.Str.ofString "number"), rfl, rfl, lim _ (by omega), ?_⟩
  refine ⟨_, rfl, _, rfl, ask k.r (.inr ⟨r, rfl, _, _, rfl, rfl, b01 r, ?_⟩)⟩
  refine ⟨_, tif r (PySem.Str.ofString "range"), rfl, rfl, lim _ (by simp only [str_app_len]; omega), ?_⟩
  refine ⟨_, rfl, ask k.u (.inr ⟨u, rfl, _, _, rfl, rfl, b01 u, ?_⟩)⟩
  refine ⟨_, tif u (PySem.Str.ofString "uneven"), rfl, rfl, lim _ (by simp only [str_app_len]; omega), ?_⟩
  refine ⟨_, rfl, _, rfl, ask k.p (.inr ⟨p, rfl, _, _, rfl, rfl, b01 p, ?_⟩)⟩
  refine ⟨_, tif p (PySem.Str.ofString "piece"), rfl, rfl, lim _ (by simp only [str_app_len]; omega), ?_⟩
  refine ⟨_, rfl, ask k.t (.inr ⟨t, rfl, _, _, rfl, rfl, b01 t, ?_⟩)⟩
  refine ⟨_, tif t (PySem.Str.ofString "theme"), rfl, rfl, lim _ (by simp only [str_app_len]; omega), ?_⟩
  refine ⟨_, rfl, _, rfl, ask k.e (.inr ⟨e, rfl, _, _, rfl, rfl, b01 e, ?_⟩)⟩
  refine ⟨_, tif e (PySem.Str.ofString "entry"), rfl, rfl, lim _ (by simp only [str_app_len]; omega), ?_⟩
  refine ⟨_, rfl, ask k.c (.inr ⟨c, rfl, _, _, rfl, rfl, b01 c, ?_⟩)⟩
  refine ⟨_, tif c (PySem.Str.ofString "clash"), rfl, rfl, lim _ (by simp only [str_app_len]; omega), ?_⟩
  refine ⟨_, rfl, _, rfl, ask k.x (.inr ⟨x, rfl, _, _, rfl, rfl, b01 x, ?_⟩)⟩
  refine ⟨_, tif x (PySem.Str.ofString "text"), rfl, rfl, lim _ (by simp only [str_app_len]; omega), ?_⟩
  exact q _ x1
theorem word_number : wordOf true false false false false false false false = PySem.Str.ofString "number" := by decide +kernel
theorem word_range : wordOf false true false false false false false false = PySem.Str.ofString "range" := by decide +kernel
theorem word_uneven : wordOf false false true false false false false false = PySem.Str.ofString "uneven" := by decide +kernel
theorem word_piece : wordOf false false false true false false false false = PySem.Str.ofString "piece" := by decide +kernel
end VW
set_option Elab.async false
set_option linter.all false
set_option maxRecDepth 100000
set_option maxHeartbeats 8000000
namespace VW
open PySem PySem.Spec PyProof.Rows L2 GxR

theorem neD_same {K : PySem.W.Frag} {H : Hp} {x y : V} {d : D} {n : Nat} {Q : VK} (hf : d.flat n = true) (hn : n ≤ 64) (hx : At K H x d) (hy : At K H y d) (q : Q (.bl false) H) : rNeD K x y H Q :=
  ⟨d.py, d.py, At.dp d n x hf hx, At.dp d n y hf hy, D.flat_shaped hf hn, D.flat_shaped hf hn, by rw [D.flat_refl hf]; exact q⟩
theorem neD_nil {K : PySem.W.Frag} {H : Hp} {x y : V} {ds : List D} {n : Nat} {Q : VK} (hf : D.flats ds n = true) (hn : n < 64) (hx : At K H x (.lst ds)) (hy : At K H y (.lst [])) (q : Q (.bl (!ds.isEmpty)) H) : rNeD K x y H Q := by
  have f1 : (D.lst ds).flat (n + 1) = true := hf
  refine ⟨(D.lst ds).py, (D.lst []).py, At.dp _ (n + 1) x f1 hx, At.dp _ 1 y rfl hy, D.flat_shaped f1 hn, D.flat_shaped (n := 1) rfl (by decide), ?_⟩
  have e : PyData.eqv (D.lst ds).py (D.lst []).py = ds.isEmpty := by
    cases ds with
    | nil => simp only [D.py, D.pys, PyData.eqv, PyData.eqvAll]; rfl
    | cons d r => simp only [D.py, D.pys, PyData.eqv, PyData.eqvAll]; rfl
  rw [e]
  exact q
theorem kit_tuple {K : PySem.W.Frag} : PySem.W.kitOne K (.type "tuple") (.type "tuple") = some true := isi_tuple (.tup [])
theorem ne_len {m n : Nat} (h : m = n) : (!decide (V.int (m : Int) = V.int (n : Int))) = false := by rw [h, decide_eq_true rfl]; rfl
theorem pair_upd {H : Hp} {U : Addr} {o : HO} (hU : H U = none) : Ext H (upd H U o) := Ext.new hU

/-- two notes looked at -/
def ts_note (S : Ev) : TS := (tIfS (tOr (tNot (tB (tCB (rIsi S.K) (tCons (tVar 4) (tCons (tC (.ty "tuple")) tNil))))) (tOr (tTest (tOp kGt (tCB (kLen S.K) (tCons (tLc (iTup S.K (tVar 4)) (gName 6) (tNot (tB (tCall (sp_law_whole S) [] E0 (tCons (tVar 6) tNil)))) (tVar 6) [6]) tNil)) (tC (.int 0)))) (tTest (tOp (rNeD S.K) (tVar 4) (tVar 5))))) (tRet (tC (.bl false))) tNext)
theorem read_note (S : Ev) {p p2 b b2 : Addr} {u w : V} {n : Nt} {H : Hp} {D : Ends} (hu : At S.K H u (noteD n)) (hw : At S.K H w (noteD n))
    (k : ∀ H', Ext H H' → D.nx [some (.ref p), some (.ref p2), some (.ref b), some (.ref b2), some u, some w, none] H') : ts_note S D [some (.ref p), some (.ref p2), some (.ref b), some (.ref b2), some u, some w, none] H := by
  obtain ⟨c, rfl, hc⟩ := hu.note
  refine ⟨.ref c, rfl, .ref c, .ty "tuple", .type "tuple", .type "tuple", true, rfl, .ty _, SqT.tyX hc, kit_tuple, _, rfl, iteF ⟨.ref c, rfl, c, rfl, ⟨_, hc⟩, fun Dl hD => ?_⟩⟩
  refine lc_tup (xs := [.int n.1, .int n.2.1, .int n.2.2]) (Pv := fun i H' => Ext H H' ∧ H' Dl = some (.lst [])) ⟨Ext.new hD, upd_same⟩ (fun i H' _ h => h.1.sqT hc) ?_ ?_
  · rintro i y H' hy ⟨x1, eD⟩
    have hi : ∃ z, y = .int z := by
      match i, hy with
      | 0, hy => exact ⟨_, by injection hy with hy; exact hy.symm⟩
      | 1, hy => exact ⟨_, by injection hy with hy; exact hy.symm⟩
      | 2, hy => exact ⟨_, by injection hy with hy; exact hy.symm⟩
    obtain ⟨z, rfl⟩ := hi
    exact ⟨rfl, .int z, rfl, .int z, .int z, _, rfl, iteF ⟨x1, eD⟩⟩
  · rintro H' ⟨x1, eD⟩
    refine ⟨.ref Dl, 0, rfl, .inl ⟨[], .of eD, rfl⟩, 0, 0, rfl, rfl, _, rfl, iteF ⟨_, rfl, _, rfl, ?_⟩⟩
    exact neD_same (noteD_flat n) (by decide) (At.ext x1 _ _ (.tup hc (.cons (.int _) (.cons (.int _) (.cons (.int _) .nil))))) (At.ext x1 _ _ hw) ⟨_, rfl, iteF (k H' x1)⟩
/-- two voices looked at -/
def ts_voice (S : Ev) : TS := (tSeq (tIfS (tOr (tNot (tB (tCB (rIsi S.K) (tCons (tVar 2) (tCons (tC (.ty "list")) tNil))))) (tTest (tOp rNe (tCB (kLen S.K) (tCons (tVar 2) tNil)) (tCB (kLen S.K) (tCons (tVar 3) tNil))))) (tRet (tC (.bl false))) tNext)
      (tFor (iZip S.K (tCons (tVar 2) (tCons (tVar 3) tNil))) (gTup S.K 2 (gCons (gName 4) (gCons (gName 5) gNil))) (ts_note S)))
theorem read_voice (S : Ev) {p p2 : Addr} {u w : V} {v : List Nt} {H : Hp} {D : Ends} {y4 y5 : Option V} (hu : At S.K H u (voiceD v)) (hw : At S.K H w (voiceD v))
    (k : ∀ y4 y5 H', Ext H H' → D.nx [some (.ref p), some (.ref p2), some u, some w, y4, y5, none] H') : ts_voice S D [some (.ref p), some (.ref p2), some u, some w, y4, y5, none] H := by
  obtain ⟨b, xs, rfl, hb, hB⟩ := At.list hu
  obtain ⟨b2, ys, rfl, hb2, hB2⟩ := At.list hw
  have l1 := hB.length
  have l2 := hB2.length
  rw [List.length_map] at l1 l2
  refine ⟨.ref b, rfl, .ref b, .ty "list", .type "list", .type "list", true, rfl, .ty _, SqL.tyX hb, kit_list, _, rfl, iteF ⟨.ref b, rfl, .ref b, _, rfl, .inl ⟨_, hb, rfl⟩, .ref b2, rfl, .ref b2, _, rfl, .inl ⟨_, hb2, rfl⟩, rfl, _, rfl, ?_⟩⟩
  refine iteF' (ne_len (by rw [l1, l2])) ?_
  refine ⟨.ref b, rfl, .ref b2, rfl, b, b2, xs, ys, rfl, hb, hb2, for_it (walk_zip (n := v.length) (xs := xs) (ys := ys) (by rw [l1, l2, Nat.min_self])) (fun i σ H' => ∃ y4 y5, σ = [some (.ref p), some (.ref p2), some (.ref b), some (.ref b2), y4, y5, none] ∧ Ext H H') ⟨_, _, rfl, Ext.refl H⟩
    (fun i σ H' _ ⟨_, _, _, x⟩ => ⟨x.sqL hb, x.sqL hb2⟩) ?_ (fun σ H' ⟨z4, z5, e, x⟩ => by rw [e]; exact k _ _ H' x)⟩
  rintro i x σ H1 H2 hi ⟨z4, z5, rfl, x1⟩ ⟨U, s, t, rfl, hU, rfl, es, et⟩
  have es' : xs[i]? = some s := es
  have et' : ys[i]? = some t := et
  obtain ⟨ds, hds, hAs⟩ := hB.get es'
  obtain ⟨dt, hdt, hAt⟩ := hB2.get et'
  rw [hds] at hdt
  cases hdt
  rw [List.getElem?_map] at hds
  cases hn : v[i]? with
  | none => rw [hn] at hds; cases hds
  | some n =>
    rw [hn] at hds
    cases hds
    have x2 : Ext H1 (upd H1 U (.tup [s, t])) := Ext.new hU
    have x3 := x1.trans x2
    refine ⟨U, _, rfl, .of upd_same, rfl, _, _, rfl, _, _, rfl, rfl, ?_⟩
    exact read_note S (At.ext x3 _ _ hAs) (At.ext x3 _ _ hAt) fun H3 x4 => ⟨_, _, rfl, x3.trans x4⟩
theorem pure_law_same (S : Ev) (vs : List V) (H : Hp) (Q : VK) (E : XK) (h : sp_law_same S vs H Q E) : t_law_same S E { nx := fun _ H' => Q .non H', rt := Q } (start N_law_same vs) H := by
  obtain ⟨x, y, rfl⟩ := args2 (len_law_same S vs H Q E h)
  obtain ⟨pc, hx, hy, hsm, q⟩ := h
  obtain ⟨p, xs, rfl, hp, hP⟩ := At.piece hx
  obtain ⟨p2, ys, rfl, hp2, hP2⟩ := At.piece hy
  have l1 := hP.length
  have l2 := hP2.length
  rw [List.length_map] at l1 l2
  refine ⟨.ref p, rfl, .ref p, .ty "list", .type "list", .type "list", true, rfl, .ty _, SqL.tyX hp, kit_list, _, rfl, iteF ⟨.ref p, rfl, .ref p, _, rfl, .inl ⟨_, hp, rfl⟩, .ref p2, rfl, .ref p2, _, rfl, .inl ⟨_, hp2, rfl⟩, rfl, _, rfl, ?_⟩⟩
  refine iteF' (ne_len (by rw [l1, l2])) ?_
  refine ⟨.ref p, rfl, .ref p2, rfl, p, p2, xs, ys, rfl, hp, hp2, for_it (walk_zip (n := pc.length) (xs := xs) (ys := ys) (by rw [l1, l2, Nat.min_self])) (fun i σ H' => ∃ y2 y3 y4 y5, σ = [some (.ref p), some (.ref p2), y2, y3, y4, y5, none] ∧ Ext H H') ⟨_, _, _, _, rfl, Ext.refl H⟩
    (fun i σ H' _ ⟨_, _, _, _, _, x⟩ => ⟨x.sqL hp, x.sqL hp2⟩) ?_ (fun σ H' ⟨_, _, _, _, e, x⟩ => q H' x)⟩
  rintro i x σ H1 H2 hi ⟨z2, z3, z4, z5, rfl, x1⟩ ⟨U, s, t, rfl, hU, rfl, es, et⟩
  have es' : xs[i]? = some s := es
  have et' : ys[i]? = some t := et
  obtain ⟨ds, hds, hAs⟩ := hP.get es'
  obtain ⟨dt, hdt, hAt⟩ := hP2.get et'
  rw [hds] at hdt
  cases hdt
  rw [List.getElem?_map] at hds
  cases hn : pc[i]? with
  | none => rw [hn] at hds; cases hds
  | some v =>
    rw [hn] at hds
    cases hds
    have x2 : Ext H1 (upd H1 U (.tup [s, t])) := Ext.new hU
    have x3 := x1.trans x2
    refine ⟨U, _, rfl, .of upd_same, rfl, _, _, rfl, _, _, rfl, rfl, ?_⟩
    exact read_voice S (At.ext x3 _ _ hAs) (At.ext x3 _ _ hAt) fun w4 w5 H3 x4 => ⟨_, _, _, _, rfl, x3.trans x4⟩
end VW
set_option Elab.async false
set_option linter.all false
set_option maxRecDepth 100000
set_option maxHeartbeats 8000000
namespace VW
open PySem PySem.Spec PyProof.Rows L2 GxR

theorem Rows.len {K : PySem.W.Frag} {H : Hp} : ∀ {as : List Addr} {rows : List (List Nt)}, Rows K H as (rows.map fun v => v.map noteD) → (∀ v, v ∈ rows → v.length ≤ 63) → ∀ a, a ∈ as → ∃ xs, H a = some (.lst xs) ∧ xs.length ≤ 63
  | [], [], _, _, a, ha => by cases ha
  | b :: as, v :: rows, ⟨⟨xs, e, h⟩, r⟩, hl, a, ha => by
    rcases List.mem_cons.mp ha with z | z
    · subst z
      refine ⟨xs, e, ?_⟩
      rw [h.length, List.length_map]
      exact hl v List.mem_cons_self
    · exact Rows.len r (fun w hw => hl w (List.mem_cons_of_mem _ hw)) a z
  | [], _ :: _, h, _, _, _ => h.elim
  | _ :: _, [], h, _, _, _ => h.elim
/-- each list of a list gets an item more -/
def ts_app (S : Ev) (j : Nat) : TS := (tFor (iList S.K (tVar j)) (gName 3) (tDrop (tBM S.K "list" rAppend (tVar 3) (tCons (tTup (tCons (tC (.int 0)) (tCons (tC (.int 0)) (tCons (tC (.int 0)) tNil)))) tNil))))
theorem read_app (S : Ev) {j : Nat} {p : Addr} {as : List Addr} {v0 v1 v2 : V} {y3 : Option V} {HB H : Hp} {D : Ends} (hj : ∀ y : Option V, ([some v0, some v1, some v2, y] : L2.St)[j]? = some (some (.ref p))) (hx : Ext HB H) (e : H p = some (.lst (as.map V.ref))) (hn : p ∉ as) (h0 : ∀ a, a ∈ as → HB a = none) (hl : ∀ a, a ∈ as → ∃ xs, H a = some (.lst xs) ∧ xs.length ≤ 63) (h6 : as.length ≤ 6)
    (k : ∀ y3 H', Ext HB H' → D.nx [some v0, some v1, some v2, y3] H') : ts_app S j D [some v0, some v1, some v2, y3] H := by
  refine ⟨.ref p, hj _, p, rfl, ⟨_, .of e⟩, for_list (K := S.K) (a := p) (xs := as.map V.ref) (fun i σ H' => ∃ y3, σ = [some v0, some v1, some v2, y3] ∧ Ext HB H' ∧ H' p = some (.lst (as.map V.ref)) ∧ ∀ a, a ∈ as → ∃ xs, H' a = some (.lst xs) ∧ xs.length ≤ 63 + i) ⟨_, rfl, hx, e, hl⟩
    (fun i σ H' _ ⟨_, _, _, e', _⟩ => .of e') ?_ (fun σ H' ⟨y3', e', x', _⟩ => by rw [e']; exact k _ _ x')⟩
  rintro i y σ H' hy ⟨y3', rfl, x1, e1, hl1⟩
  rw [List.getElem?_map] at hy
  cases ha : as[i]? with
  | none => rw [ha] at hy; cases hy
  | some a =>
    rw [ha] at hy
    cases hy
    have hi : i < as.length := (List.getElem?_eq_some_iff.mp ha).1
    have hm := List.mem_of_getElem? ha
    obtain ⟨xs, ea, la⟩ := hl1 a hm
    have np : p ≠ a := fun z => hn (z ▸ hm)
    refine ⟨.ref a, rfl, .inl ⟨rfl, xs, .of ea⟩, (by decide : 3 ≤ sizeLine), fun t ht => ?_⟩
    have x2 : Ext H' (upd H' t (.tup [.int 0, .int 0, .int 0])) := Ext.new ht
    refine ⟨a, xs, .ref t, rfl, rfl, x2.lst ea, Nat.lt_of_lt_of_le (by omega : _ < 1001) (by decide : 1001 ≤ sizeLine), ?_⟩
    refine ⟨_, rfl, (x1.trans x2).upd (h0 a hm), by rw [upd_ne np]; exact x2.lst e1, fun b hb => ?_⟩
    by_cases z : b = a
    · subst z
      exact ⟨_, upd_same, by rw [List.length_append]; show xs.length + 1 ≤ _; omega⟩
    · obtain ⟨zs, ez, lz⟩ := hl1 b hb
      exact ⟨zs, by rw [upd_ne z]; exact x2.lst ez, by omega⟩
theorem pure_law_own (S : Ev) (vs : List V) (H : Hp) (Q : VK) (E : XK) (h : sp_law_own S vs H Q E) : t_law_own S E { nx := fun _ H' => Q .non H', rt := Q } (start N_law_own vs) H := by
  obtain ⟨x, y, z, rfl⟩ := args3 (len_law_own S vs H Q E h)
  obtain ⟨H00, H0, p, q, pc1, pc, rfl, rfl, x0, x1, nq, np, hz, sm1, sm, k⟩ := h
  obtain ⟨as, e1, e2, e3, e4, e5⟩ := np.ex
  obtain ⟨bs, f1, f2, f3, f4, f5⟩ := nq.ex
  have la := e5.length
  have lb := f5.length
  rw [List.length_map] at la lb
  refine read_app S (j := 0) (p := p) (as := as) (fun _ => rfl) x1 e1 (List.nodup_cons.mp e3).1 e4 (e5.len sm1.2) (by rw [la]; exact sm1.1) fun y3 H1 x2 => ?_
  have hq : At S.K H1 (.ref q) (pieceD pc) := At.ext x2 _ _ nq.piece
  refine ⟨.ref q, rfl, z, rfl, neD_same (pieceD_flat pc) (by decide) hq (At.ext x2 _ _ hz) ⟨_, rfl, iteF ?_⟩⟩
  refine read_app S (j := 1) (p := q) (as := bs) (HB := H00) (fun _ => rfl) (x0.trans x2) (x2.lst f1) (List.nodup_cons.mp f3).1 f4 (fun a ha => ?_) (by rw [lb]; exact sm.1) fun y3 H2 x3 => k H2 x3
  obtain ⟨xs, ex, lx⟩ := f5.len sm.2 a ha
  exact ⟨xs, x2.lst ex, lx⟩
end VW
set_option Elab.async false
set_option linter.all false
set_option maxRecDepth 100000
set_option maxHeartbeats 8000000
namespace VW
open PySem PySem.Spec PyProof.Rows L2 GxR
theorem New2.ext {K : PySem.W.Frag} {H0 H H1 : Hp} {p : Addr} {dss : List (List D)} (x : Ext H H1) (h : New2 K H0 H p dss) : New2 K H0 H1 p dss := by
  obtain ⟨as, e1, e2, e3, e4, e5⟩ := h.ex
  exact ⟨as, x.lst e1, e2, e3, e4, e5.ext x⟩
theorem okFrom_zero {v : List Nt} {e : Int} (h : okFrom e v = true) : okFrom 0 v = true := by
  cases v with
  | nil => unfold okFrom; rfl
  | cons n r =>
    have h' : (okNote n && decide (e ≤ n.1) && okFrom (n.1 + n.2.1) r) = true := h
    simp only [Bool.and_eq_true, decide_eq_true_eq] at h'
    obtain ⟨⟨h1, h2⟩, h3⟩ := h'
    show (okNote n && decide (0 ≤ n.1) && okFrom (n.1 + n.2.1) r) = true
    have h4 := h1
    unfold okNote at h4
    simp only [Bool.and_eq_true, decide_eq_true_eq] at h4
    rw [h1, h3, decide_eq_true h4.1.1.1.1]
    rfl
theorem small_map {f : Nt → Nt} {pc : List (List Nt)} (h : small pc) : small (mapP f pc) := by
  unfold mapP
  refine ⟨by rw [List.length_map]; exact h.1, fun w hw => ?_⟩
  obtain ⟨v, hv, rfl⟩ := List.mem_map.mp hw
  rw [List.length_map]
  exact h.2 v hv
theorem at6 (v0 v1 v2 v3 v4 v5 : V) (n : Int) : ∃ v, atI [v0, v1, v2, v3, v4, v5] (n.fmod 6) = some v ∧ v ∈ [v0, v1, v2, v3, v4, v5] := by
  have h := md n (m := 6) (by decide)
  generalize n.fmod 6 = z at h
  have : z = 0 ∨ z = 1 ∨ z = 2 ∨ z = 3 ∨ z = 4 ∨ z = 5 := by omega
  rcases this with e | e | e | e | e | e <;> subst e
  · exact ⟨v0, rfl, by simp⟩
  · exact ⟨v1, rfl, by simp⟩
  · exact ⟨v2, rfl, by simp⟩
  · exact ⟨v3, rfl, by simp⟩
  · exact ⟨v4, rfl, by simp⟩
  · exact ⟨v5, rfl, by simp⟩
theorem str_flat_number : (D.str (PySem.Str.ofString "number")).flat 0 = true := by
  show (PyData.str (PySem.Str.ofString "number")).canLay0 = true
  decide +kernel
theorem str_flat_range : (D.str (PySem.Str.ofString "range")).flat 0 = true := by
  show (PyData.str (PySem.Str.ofString "range")).canLay0 = true
  decide +kernel

/-- a comprehension over notes whose elements are numbers -/
theorem lc_intsD {K : PySem.W.Frag} {a : Addr} {xs : List V} {v : List Nt} {g : TG} {te : TE} {vs : List Nat} {σ : L2.St} {H1 : Hp} {D : Addr} {Qd : Hp → Prop} (f : Nt → Int) (hD : H1 D = none) (hz : v.length ≤ 200000) (hS : SqL K H1 a xs) (hA : AtAll K H1 xs (v.map noteD))
    (hs : ∀ (n : Nt) (x : V) (H' : Hp) (R : VK), n ∈ v → At K H' x (noteD n) → R (.int (f n)) H' → g x (wipe σ vs) H' fun σ2 H2 => wipe σ2 vs = wipe σ vs ∧ te σ2 H2 R)
    (hd : ∀ H', Ext H1 H' → H' D = some (.lst ((v.map f).map V.int)) → Qd H') :
    ∃ W : Nat → Nat → Hp → Prop, (∃ m, W 0 m (upd H1 D (.lst []))) ∧ ∀ i m H, W i m H →
      ((Itl K a).stop i H ∧ Qd H) ∨ ((Itl K a).go i H ∧ ∃ Nx : Hp → Prop, (∀ H', Nx H' → ∃ m', m' < m ∧ W (i + 1) m' H') ∧ ∀ x H', (Itl K a).yld i H x H' → g x (wipe σ vs) H' fun σ2 H2 => wipe σ2 vs = wipe σ vs ∧ tYes σ2 H2 fun b H3 =>
        if b = true then te σ2 H3 fun y H4 => ∃ acc, H4 D = some (.lst acc) ∧ acc.length < sizeLine ∧ Nx (upd H4 D (.lst (acc ++ [y]))) else Nx H3) := by
  have hlen := hA.length
  rw [List.length_map] at hlen
  refine lc_list (Pv := fun i H => Ext H1 H ∧ H D = some (.lst (((v.take i).map f).map V.int))) ⟨Ext.new hD, upd_same⟩ (fun i H _ h => h.1.sqL hS) ?_ ?_
  · rintro i x H hx ⟨hE, eD⟩
    obtain ⟨dy, hdy, hAy⟩ := hA.get hx
    rw [List.getElem?_map] at hdy
    cases hv : v[i]? with
    | none => rw [hv] at hdy; cases hdy
    | some n =>
      rw [hv] at hdy
      cases hdy
      have hi : i < v.length := (List.getElem?_eq_some_iff.mp hv).1
      refine hs n x H _ (List.mem_of_getElem? hv) (At.ext hE _ _ hAy) ⟨_, eD, ?_, hE.upd hD, ?_⟩
      · rw [List.length_map, List.length_map, List.length_take]
        exact Nat.lt_of_lt_of_le (by omega : _ < 200001) (by decide : 200001 ≤ sizeLine)
      · rw [upd_same, take_one hv, List.map_append, List.map_append]
        rfl
  · rintro H ⟨hE, eD⟩
    rw [hlen, List.take_length] at eD
    exact hd H hE eD
theorem at_int3 (x y z : Int) (n : Int) : ∃ t : Int, atI [V.int x, V.int y, V.int z] (n.fmod 3) = some (V.int t) := by
  have h := md n (m := 3) (by decide)
  generalize n.fmod 3 = k at h
  have : k = 0 ∨ k = 1 ∨ k = 2 := by omega
  rcases this with e | e | e <;> subst e
  · exact ⟨x, rfl⟩
  · exact ⟨y, rfl⟩
  · exact ⟨z, rfl⟩
theorem max_of : ∀ (ns : List Int), 0 < ns.length → ∃ m, m ∈ ns ∧ ∀ y, y ∈ ns → y ≤ m
  | [n], _ => ⟨n, by simp, by simp⟩
  | n :: m :: r, _ => by
    obtain ⟨k, hk, hm⟩ := max_of (m :: r) (by simp)
    by_cases h : n ≤ k
    · exact ⟨k, List.mem_cons_of_mem _ hk, fun y hy => by
        rcases List.mem_cons.mp hy with z | z
        · rw [z]; exact h
        · exact hm y z⟩
    · exact ⟨n, List.mem_cons_self, fun y hy => by
        rcases List.mem_cons.mp hy with z | z
        · rw [z]; exact Int.le_refl _
        · exact Int.le_trans (hm y z) (by omega)⟩
theorem notes_flats (ms : List Nt) : D.flats (ms.map noteD) 1 = true := D.flats_all fun d hd => by
  obtain ⟨m, _, rfl⟩ := List.mem_map.mp hd
  exact noteD_flat m
theorem Rows.get {K : PySem.W.Frag} {H : Hp} : ∀ {as : List Addr} {dss : List (List D)} {i : Nat} {a : Addr}, Rows K H as dss → as[i]? = some a → ∃ ds xs, dss[i]? = some ds ∧ H a = some (.lst xs) ∧ AtAll K H xs ds
  | a :: as, ds :: dss, 0, b, ⟨⟨xs, e, h⟩, _⟩, hb => by
    have : a = b := by injection hb
    subst this
    exact ⟨ds, xs, rfl, e, h⟩
  | a :: as, ds :: dss, i + 1, b, ⟨_, r⟩, hb => Rows.get (i := i) r hb
  | [], _, i, b, _, hb => by simp at hb
  | _ :: _, [], _, _, h, _ => h.elim
end VW
set_option Elab.async false
set_option linter.all false
set_option maxRecDepth 100000
set_option maxHeartbeats 4000000
namespace VW
open PySem PySem.Spec PyProof.Rows L2 GxR

theorem DpAll.ints {K : PySem.W.Frag} {H : Hp} : ∀ ns : List Int, DpAll K H (ns.map V.int) (ns.map PyData.int)
  | [] => .nil
  | n :: r => .cons (.int n) (DpAll.ints r)
theorem depth_ints : ∀ ns : List Int, PyData.depthAll (ns.map PyData.int) = 0
  | [] => by simp [PyData.depthAll]
  | n :: r => by simp [PyData.depthAll, PyData.depth, depth_ints r]
/-- max(xs, default=d) of whole numbers -/
def rMaxDef (K : PySem.W.Frag) : List V → List V → Hp → VK → Prop := fun xs zs H Q => ∃ (a : Addr) (ns : List Int) (d : Int), xs = [.ref a] ∧ zs = [.int d] ∧ SqL K H a (ns.map V.int) ∧
  (ns = [] → Q (.int d) H) ∧ ∀ n r, ns = n :: r → Q (.int (r.foldl max n)) H
theorem reads_int {h : Heap} {v : Value} {i : Int} {bs : List Addr} (r : Reads h v (.int i) bs) : ∃ t, v = .int i t := by
  cases r
  exact ⟨_, rfl⟩
theorem cr_maxDef {X : Cx} (hu : X.A.units + 64 < cLine) (hc : X.calm = true) : CallRK X (.builtin "max") [PySem.Str.ofString "default"] (rMaxDef X.K) := by
  intro pins s σ H xs zs us ws Q I r rz h
  obtain ⟨a, ns, d, rfl, rfl, hs, q0, q1⟩ := h
  obtain ⟨its, rv, hl, _⟩ := I.list hs
  rw [Vals.ref1 r]
  cases rz with
  | cons r1 r2 =>
    cases r2
    obtain ⟨t, rfl⟩ := r1
    obtain ⟨as, hr⟩ := Dp.readsAll I (ns.map PyData.int) _ its (DpAll.ints ns) rv
    have hal : PySem.W.AlikeAll (ns.map PyData.int) := ⟨fun x hx y hy => by
      obtain ⟨i, _, rfl⟩ := List.mem_map.mp hx
      obtain ⟨j, _, rfl⟩ := List.mem_map.mp hy
      rfl, fun x hx => by
      obtain ⟨i, _, rfl⟩ := List.mem_map.mp hx
      intro z
      cases z⟩
    refine PySem.W.max_list_default (I.ok.hd hc) hl.isList (by simpa using hr) hal (by rw [depth_ints]; omega) (fun e h' tk hk => ?_) fun y ys i v h' tk bs e hv hm hk => ?_
    · have : ns = [] := by cases ns with
        | nil => rfl
        | cons _ _ => cases e
      exact ⟨.int d, H, I.kept hk, ⟨_, rfl⟩, q0 this⟩
    · cases ns with
      | nil => cases e
      | cons n r =>
        rw [List.map_cons] at e
        injection e with e1 e2
        subst e1 e2
        rw [PySem.W.maxD_ints] at hm
        obtain ⟨t', rfl⟩ := reads_int hm
        exact ⟨.int _, H, I.kept hk, ⟨_, rfl⟩, q1 n r rfl⟩
abbrev kTuple (K : PySem.W.Frag) : List V → Hp → VK → Prop := fun xs H Q => ∃ p ys, xs = [.ref p] ∧ ((SqL K H p ys ∧ ∀ l, H l = none → Q (.ref l) (upd H l (.tup ys))) ∨ (SqT K H p ys ∧ Q (.ref p) H))
end VW
set_option Elab.async false
set_option linter.all false
set_option maxRecDepth 100000
set_option maxHeartbeats 2000000
namespace VW
open PySem PySem.Spec PyProof.Rows L2 GxR

/-- an expression, a test that is never reached -/
theorem pe_never {X : Cx} {e : Expr} : PE X e (fun _ _ _ => False) := ⟨fun _ _ _ _ _ _ h => h.elim⟩
theorem pt_never {X : Cx} {e : Expr} : PT X e (fun _ _ _ => False) := ⟨fun _ _ _ _ _ _ h => h.elim⟩
/-! ### a def that goes by another name -/
section
variable {P : Program} {w : World} {K : PySem.W.Frag} {mg : Str → Option Value} {base : Heap}
/-- a def that raises nothing: by its body's rules and their reading -/
theorem own0' {x y : Str} {st : Stmt} {f c : Addr} {fd : FuncData} {N ps : List Str} {k : Nat} {sp : Sp} (F : FunC K x x st f c fd) (hm : mg y = some (.ref f)) (S : FnScope N ps (defScope st))
    (hb : ∀ (kV doc pm : Value) (an : Option Addr) (cdv ct : Value) (us : List Value), us.length = ps.length → bindArgs (PySem.W.fnOf x x (defArgs st) (defBody st) (defScope st) .none kV doc pm an cdv ct) ⟨us, []⟩ = pure (ps.zip us))
    (len : ∀ vs H Q E, sp vs H Q E → vs.length = ps.length)
    (hbody : ∀ (A : Around) (outer : List Env) (s : Shared) (H : Hp) (vs : List V) (Q : VK) (E : XK), Room k (A.deeper (envOfC x (defScope st) s.heap.objs.size f (.ref c))) → sp vs H Q E →
      ∃ t, PSs (cxOf CX0 P w K mg base N x (defScope st) f (.ref c) A outer s H E).nox (defBody st) t ∧ t { nx := fun _ H' => Q .non H', rt := Q } (start N vs) H) :
    Own P w K mg base CX0 (k + 1) y ps sp := by
  obtain ⟨⟨oc, od, kV, doc, pm, an, ct, osl, rfl, lk, hcd⟩, kp⟩ := F
  refine ⟨f, _, hm, kp, fn_of lk hcd S len fun A outer s H vs Q E hr hsp => ?_, .all (hb kV doc pm an (.ref c) ct)⟩
  obtain ⟨t, h, q⟩ := hbody A outer s H vs Q E hr hsp
  exact ⟨t, h.nox, q⟩
/-- a def that may raise -/
theorem ownX' {x y : Str} {st : Stmt} {f c : Addr} {fd : FuncData} {N ps : List Str} {k : Nat} {sp : Sp} (F : FunC K x x st f c fd) (hm : mg y = some (.ref f)) (S : FnScope N ps (defScope st))
    (hb : ∀ (kV doc pm : Value) (an : Option Addr) (cdv ct : Value) (us : List Value), us.length = ps.length → bindArgs (PySem.W.fnOf x x (defArgs st) (defBody st) (defScope st) .none kV doc pm an cdv ct) ⟨us, []⟩ = pure (ps.zip us))
    (len : ∀ vs H Q E, sp vs H Q E → vs.length = ps.length)
    (hbody : ∀ (A : Around) (outer : List Env) (s : Shared) (H : Hp) (vs : List V) (Q : VK) (E : XK), Room k (A.deeper (envOfC x (defScope st) s.heap.objs.size f (.ref c))) → sp vs H Q E →
      ∃ t, PSs (cxOf (L2.CX P w) P w K mg base N x (defScope st) f (.ref c) A outer s H E) (defBody st) t ∧ t { nx := fun _ H' => Q .non H', rt := Q } (start N vs) H) :
    Own P w K mg base (L2.CX P w) (k + 1) y ps sp := by
  obtain ⟨⟨oc, od, kV, doc, pm, an, ct, osl, rfl, lk, hcd⟩, kp⟩ := F
  exact ⟨f, _, hm, kp, fn_of lk hcd S len hbody, .all (hb kV doc pm an (.ref c) ct)⟩
end
/-- sep.join(xs) -/
def rJoin (K : PySem.W.Frag) : V → List V → Hp → VK → Prop := fun x xs H Q => ∃ a p ys, x = V.str a ∧ xs = [V.ref p] ∧ (SqL K H p (List.map V.str ys) ∨ SqT K H p (List.map V.str ys)) ∧
  (List.map (fun x => x.length) ys).sum + ys.length * a.length ≤ 16777216 ∧ Q (V.str (Txt.join a ys)) H
end VW
set_option Elab.async false
set_option linter.all false
set_option maxRecDepth 100000
set_option maxHeartbeats 8000000
namespace VW
open PySem PySem.Spec PyProof.Rows L2 GxR
theorem AtAll.reverse {K : PySem.W.Frag} {H : Hp} : ∀ {vs : List V} {ds : List D}, AtAll K H vs ds → AtAll K H vs.reverse ds.reverse
  | _, _, .nil => .nil
  | _, _, .cons h t => by
    rw [List.reverse_cons, List.reverse_cons]
    exact AtAll.append t.reverse (.cons h .nil)
/-- a comprehension over voices whose elements are new voices, if all goes well -/
theorem lc_voicesD {K : PySem.W.Frag} {a : Addr} {xs : List V} {g : TG} {te : TE} {vs : List Nat} {σ : L2.St} {H1 : Hp} {D : Addr} {Qd : Hp → Prop} (rows : List (List Nt)) (gv : List Nt → List Nt) (okV : List Nt → Prop) (hD : H1 D = none) (hz : rows.length ≤ 1000) (hS : SqL K H1 a xs) (hA : AtAll K H1 xs (rows.map voiceD))
    (hs : ∀ (v : List Nt) (b : Addr) (ys : List V) (H' : Hp) (R : VK), v ∈ rows → Ext H1 H' → SqL K H' b ys → AtAll K H' ys (v.map noteD) → (okV v → ∀ D2 H4 zs, H' D2 = none → Ext H' H4 → H4 D2 = some (.lst zs) → AtAll K H4 zs ((gv v).map noteD) → R (.ref D2) H4) →
      g (.ref b) (wipe σ vs) H' fun σ2 H2 => wipe σ2 vs = wipe σ vs ∧ te σ2 H2 R)
    (hd : ∀ H', Ext H1 H' → (∀ v, v ∈ rows → okV v) → New2 K H1 H' D ((rows.map gv).map fun v => v.map noteD) → Qd H') :
    ∃ W : Nat → Nat → Hp → Prop, (∃ m, W 0 m (upd H1 D (.lst []))) ∧ ∀ i m H, W i m H →
      ((Itl K a).stop i H ∧ Qd H) ∨ ((Itl K a).go i H ∧ ∃ Nx : Hp → Prop, (∀ H', Nx H' → ∃ m', m' < m ∧ W (i + 1) m' H') ∧ ∀ x H', (Itl K a).yld i H x H' → g x (wipe σ vs) H' fun σ2 H2 => wipe σ2 vs = wipe σ vs ∧ tYes σ2 H2 fun b H3 =>
        if b = true then te σ2 H3 fun y H4 => ∃ acc, H4 D = some (.lst acc) ∧ acc.length < sizeLine ∧ Nx (upd H4 D (.lst (acc ++ [y]))) else Nx H3) := by
  have hlen := hA.length
  rw [List.length_map] at hlen
  refine lc_list (Pv := fun i H => Ext H1 H ∧ New2 K H1 H D (((rows.take i).map gv).map fun v => v.map noteD) ∧ ∀ v, v ∈ rows.take i → okV v) ⟨Ext.new hD, ⟨[], upd_same, hD, by simp, by simp, trivial⟩, by simp⟩ (fun i H _ h => h.1.sqL hS) ?_ ?_
  · rintro i x H hx ⟨hE, hN, hok⟩
    obtain ⟨dy, hdy, hAy⟩ := hA.get hx
    rw [List.getElem?_map] at hdy
    cases hv : rows[i]? with
    | none => rw [hv] at hdy; cases hdy
    | some v =>
      rw [hv] at hdy
      cases hdy
      have hi : i < rows.length := (List.getElem?_eq_some_iff.mp hv).1
      obtain ⟨b, ys, rfl, hb, hB⟩ := At.list (At.ext hE _ _ hAy)
      refine hs v b ys H _ (List.mem_of_getElem? hv) hE hb hB fun o D2 H4 zs hD2 x4 eD hZ => ?_
      obtain ⟨acc, ea, la, n4⟩ := New2.snoc hE hN x4 hD2 eD hZ
      refine ⟨acc, ea, ?_, (hE.trans x4).upd hD, ?_, ?_⟩
      · rw [la, List.length_map, List.length_take]
        exact Nat.lt_of_lt_of_le (by omega : _ < 1001) (by decide : 1001 ≤ sizeLine)
      · rw [take_one hv, List.map_append]
        exact n4
      · intro w hw
        rw [take_one hv] at hw
        rcases List.mem_append.mp hw with q | q
        · exact hok w q
        · rw [List.mem_singleton.mp q]; exact o
  · rintro H ⟨hE, hN, hok⟩
    rw [hlen, List.take_length] at hN hok
    exact hd H hE hok hN
theorem New2.old {K : PySem.W.Frag} {H0 H1 H : Hp} {p : Addr} {dss : List (List D)} (x : Ext H0 H1) (h : New2 K H1 H p dss) : New2 K H0 H p dss := by
  obtain ⟨as, e1, e2, e3, e4, e5⟩ := h.ex
  exact ⟨as, e1, x.free e2, e3, fun a ha => x.free (e4 a ha), e5⟩

theorem okFrom_iff : ∀ (v : List Nt) (e : Int), okFrom e v = true ↔ (∀ n, n ∈ v → okNote n = true) ∧ (∀ n, n ∈ v → e ≤ n.1) ∧ v.Pairwise (fun m n => m.1 + m.2.1 ≤ n.1)
  | [], e => by simp [okFrom]
  | n :: r, e => by
    have ih := okFrom_iff r (n.1 + n.2.1)
    have un : okFrom e (n :: r) = (okNote n && decide (e ≤ n.1) && okFrom (n.1 + n.2.1) r) := rfl
    rw [un, Bool.and_eq_true, Bool.and_eq_true, decide_eq_true_eq, ih, List.pairwise_cons]
    constructor
    · rintro ⟨⟨h1, h2⟩, h3, h4, h5⟩
      have h6 := h1
      unfold okNote at h6
      simp only [Bool.and_eq_true, decide_eq_true_eq] at h6
      refine ⟨fun m hm => ?_, fun m hm => ?_, h4, h5⟩
      · rcases List.mem_cons.mp hm with z | z
        · rw [z]; exact h1
        · exact h3 m z
      · rcases List.mem_cons.mp hm with z | z
        · rw [z]; exact h2
        · have := h4 m z
          omega
    · rintro ⟨h1, h2, h3, h4⟩
      exact ⟨⟨h1 n List.mem_cons_self, h2 n List.mem_cons_self⟩, fun m hm => h1 m (List.mem_cons_of_mem _ hm), h3, h4⟩
theorem okNote_0 {n : Nt} (h : okNote n = true) : 0 ≤ n.1 := by
  unfold okNote at h
  simp only [Bool.and_eq_true, decide_eq_true_eq] at h
  exact h.1.1.1.1
theorem okPiece_iff {pc : List (List Nt)} : okPiece pc = true ↔ (1 ≤ pc.length ∧ pc.length ≤ 6) ∧ ∀ v, v ∈ pc → okFrom 0 v = true := by
  unfold okPiece
  rw [Bool.and_eq_true, Bool.and_eq_true, decide_eq_true_eq, decide_eq_true_eq, List.all_eq_true]
  rfl
end VW
set_option Elab.async false
set_option linter.all false
set_option maxRecDepth 100000
set_option maxHeartbeats 8000000
namespace VW
open PySem PySem.Spec PyProof.Rows L2 GxR
def miN (i : Int) (n : Nt) : Nt := (n.1, n.2.1, i - n.2.2)
def tuN (i : Int) (n : Nt) : Nt := (i - (n.1 + n.2.1), n.2.1, n.2.2)
def mirP (i : Int) (pc : List (List Nt)) : List (List Nt) := mapP (miN i) pc.reverse
def turP (i : Int) (pc : List (List Nt)) : List (List Nt) := mapP (tuN i) (pc.map List.reverse)
/-- one def of two numbers, refusals and all -/
def spTwo (S : Ev) (f : Int → List (List Nt) → List (List Nt)) (okF : Int → List (List Nt) → Prop) : Sp := fun vs H Q E => match vs with
  | [x, y] => S.T H ∧ ∃ d d1, At S.K H x d ∧ At S.K H y d1 ∧
      (∀ pc i, d = pieceD pc → okPiece pc = true → d1 = .int i → okF i pc → ∀ H' p, Ext H H' → New2 S.K H H' p ((f i pc).map fun v => v.map noteD) → Q (.ref p) H') ∧
      (∀ pc i, d = pieceD pc → okPiece pc = true → d1 = .int i → ¬ okF i pc → ∀ H', Ext H H' → E (.ref S.cRange) none H') ∧
      (isPiece d = true → d1.whole = false → ∀ H', Ext H H' → E (.ref S.cNumber) none H') ∧ (isPiece d = false → ∀ H', Ext H H' → E (.ref S.cPiece) none H')
  | _ => False
theorem lenTwo {S : Ev} {f okF} {vs : List V} {H : Hp} {Q : VK} {E : XK} (h : spTwo S f okF vs H Q E) : vs.length = ["a", "b"].length := by rcases vs with _ | ⟨a, _ | ⟨b, _ | ⟨c, r⟩⟩⟩ <;> first | rfl | exact h.elim
def sp_mirrored (S : Ev) : Sp := spTwo S mirP fun i pc => allOk (miN i) pc
def sp_turned (S : Ev) : Sp := spTwo S turP fun i pc => allOk (tuN i) pc
theorem len_mirrored (S : Ev) (vs : List V) (H : Hp) (Q : VK) (E : XK) (h : sp_mirrored S vs H Q E) : vs.length = ["a", "b"].length := lenTwo h
theorem len_turned (S : Ev) (vs : List V) (H : Hp) (Q : VK) (E : XK) (h : sp_turned S vs H Q E) : vs.length = ["a", "b"].length := lenTwo h
abbrev N_mirrored : List Str := ["piece", "axis", "voices", "voice", "start", "long", "pitch"]
def t_mirrored (S : Ev) (E : XK) : TS :=
  (tSeq (tAsg (tCall (sp_good S) [] E (tCons (tVar 0) tNil)) (gName 2))
      (tSeq (tDrop (tCall (sp_require_whole S) [] E (tCons (tVar 1) tNil)))
      (tRet (tLc (iList S.K (tRevL S.K (tVar 2))) (gName 3) tYes (tLc (iList S.K (tVar 3)) (gTup S.K 3 (gCons (gName 4) (gCons (gName 5) (gCons (gName 6) gNil)))) tYes (tCall (sp_note S) [] E (tCons (tVar 4) (tCons (tVar 5) (tCons (tOp kSub (tVar 1) (tVar 6)) tNil)))) [4, 5, 6]) [3]))))

abbrev N_turned : List Str := ["piece", "end", "voices", "voice", "start", "long", "pitch"]
def t_turned (S : Ev) (E : XK) : TS :=
  (tSeq (tAsg (tCall (sp_good S) [] E (tCons (tVar 0) tNil)) (gName 2))
      (tSeq (tDrop (tCall (sp_require_whole S) [] E (tCons (tVar 1) tNil)))
      (tRet (tLc (iList S.K (tVar 2)) (gName 3) tYes (tLc (iList S.K (tRevL S.K (tVar 3))) (gTup S.K 3 (gCons (gName 4) (gCons (gName 5) (gCons (gName 6) gNil)))) tYes (tCall (sp_note S) [] E (tCons (tOp kSub (tVar 1) (tOp kAdd (tVar 4) (tVar 5))) (tCons (tVar 5) (tCons (tVar 6) tNil)))) [4, 5, 6]) [3]))))

theorem pure_mirrored (S : Ev) (vs : List V) (H : Hp) (Q : VK) (E : XK) (h : sp_mirrored S vs H Q E) : t_mirrored S E { nx := fun _ H' => Q .non H', rt := Q } (start N_mirrored vs) H := by
  obtain ⟨x, y, rfl⟩ := args2 (len_mirrored S vs H Q E h)
  obtain ⟨hT, d, d1, hx, hy, q1, q2, q3, q4⟩ := h
  refine ⟨x, rfl, hT, d, hx, fun pc ed ok H2 p x2 n2 => ?_, fun hd H' x2 => q4 hd H' x2⟩
  have isP : isPiece d = true := by rw [ed, isPiece_D]; exact ok
  refine ⟨y, rfl, d1, At.ext x2 _ _ hy, fun w1 => ?_, fun w1 => q3 isP w1 H2 x2⟩
  obtain ⟨i, e1⟩ := D.whole_int w1
  subst e1
  have e1 := hy.isInt
  subst e1
  have hp := okPiece_len ok
  obtain ⟨pa, xs, e, hS, hA⟩ := At.piece n2.piece
  cases e
  refine ⟨.ref p, rfl, p, xs, rfl, hS, fun r hr => ⟨r, rfl, ⟨_, .of upd_same⟩, fun D hD => ?_⟩⟩
  have x3 : Ext H2 (upd H2 r (.lst xs.reverse)) := Ext.new hr
  have hR : AtAll S.K (upd H2 r (.lst xs.reverse)) xs.reverse (pc.reverse.map voiceD) := by
    rw [List.map_reverse]
    exact (AtAll.ext x3 _ _ hA).reverse
  have x23 := x2.trans x3
  refine lc_voicesD (g := gName 3) (te := tLc (iList S.K (tVar 3)) (gTup S.K 3 (gCons (gName 4) (gCons (gName 5) (gCons (gName 6) gNil)))) tYes (tCall (sp_note S) [] E (tCons (tVar 4) (tCons (tVar 5) (tCons (tOp kSub (tVar 1) (tVar 6)) tNil)))) [4, 5, 6]) (vs := [3])
    (σ := [some x, some (.int i), some (.ref p), none, none, none, none]) pc.reverse (List.map (miN i)) (fun v => ∀ n, n ∈ v → okNote (miN i n) = true) hD (by rw [List.length_reverse]; omega) (.of upd_same) hR ?_ fun H' x4 all n4 => q1 pc i ed ok rfl (fun v hv => all v (List.mem_reverse.mpr hv)) H' D (x23.trans x4) (n4.old x23)
  intro v b ys H3 R hv x4 hb hB k
  have hvm := List.mem_reverse.mp hv
  refine ⟨rfl, _, rfl, b, rfl, ⟨ys, hb⟩, fun D2 hD2 => lc_notesD (miN i) (fun n => okNote (miN i n) = true) (g := gTup S.K 3 (gCons (gName 4) (gCons (gName 5) (gCons (gName 6) gNil)))) (te := tCall (sp_note S) [] E (tCons (tVar 4) (tCons (tVar 5) (tCons (tOp kSub (tVar 1) (tVar 6)) tNil)))) (vs := [4, 5, 6])
      (σ := [some x, some (.int i), some (.ref p), some (.ref b), none, none, none]) hD2 (okPiece_voice ok hvm) hb hB ?_ fun H' zs x5 o eD hZ => k o D2 H' zs hD2 x5 eD hZ⟩
  intro n y H4 R2 hn x5 hAn kk
  obtain ⟨c, rfl, hc⟩ := hAn.note
  refine ⟨c, _, rfl, hc, rfl, .int n.1, _, rfl, .int n.2.1, _, rfl, .int n.2.2, _, rfl, rfl, rfl, ?_⟩
  have x24 := x23.trans (x4.trans x5)
  refine ⟨_, rfl, _, rfl, _, rfl, _, rfl, i, n.2.2, rfl, rfl, _, _, _, rfl, rfl, rfl, x24.tabs hT, fun o H5 t x6 ht => kk o t H5 ht x6, fun o H5 x6 => ?_⟩
  refine q2 pc i ed ok rfl (fun all => ?_) H5 (x24.trans x6)
  have := all v hvm n hn
  rw [show okNote (miN i n) = false from o] at this
  cases this
theorem pure_turned (S : Ev) (vs : List V) (H : Hp) (Q : VK) (E : XK) (h : sp_turned S vs H Q E) : t_turned S E { nx := fun _ H' => Q .non H', rt := Q } (start N_turned vs) H := by
  obtain ⟨x, y, rfl⟩ := args2 (len_turned S vs H Q E h)
  obtain ⟨hT, d, d1, hx, hy, q1, q2, q3, q4⟩ := h
  refine ⟨x, rfl, hT, d, hx, fun pc ed ok H2 p x2 n2 => ?_, fun hd H' x2 => q4 hd H' x2⟩
  have isP : isPiece d = true := by rw [ed, isPiece_D]; exact ok
  refine ⟨y, rfl, d1, At.ext x2 _ _ hy, fun w1 => ?_, fun w1 => q3 isP w1 H2 x2⟩
  obtain ⟨i, e1⟩ := D.whole_int w1
  subst e1
  have e1 := hy.isInt
  subst e1
  have hp := okPiece_len ok
  obtain ⟨pa, xs, e, hS, hA⟩ := At.piece n2.piece
  cases e
  refine ⟨.ref p, rfl, p, rfl, ⟨_, hS⟩, fun D hD => ?_⟩
  have emap : turP i pc = pc.map fun v => v.reverse.map (tuN i) := by
    unfold turP mapP
    rw [List.map_map]
    rfl
  refine lc_voicesD (g := gName 3) (te := tLc (iList S.K (tRevL S.K (tVar 3))) (gTup S.K 3 (gCons (gName 4) (gCons (gName 5) (gCons (gName 6) gNil)))) tYes (tCall (sp_note S) [] E (tCons (tOp kSub (tVar 1) (tOp kAdd (tVar 4) (tVar 5))) (tCons (tVar 5) (tCons (tVar 6) tNil)))) [4, 5, 6]) (vs := [3])
    (σ := [some x, some (.int i), some (.ref p), none, none, none, none]) pc (fun v => v.reverse.map (tuN i)) (fun v => ∀ n, n ∈ v → okNote (tuN i n) = true) hD (by omega) hS hA ?_ fun H' x4 all n4 => q1 pc i ed ok rfl all H' D (x2.trans x4) (by rw [emap]; exact n4.old x2)
  intro v b ys H3 R hvm x4 hb hB k
  refine ⟨rfl, .ref b, rfl, b, ys, rfl, hb, fun r hr => ⟨r, rfl, ⟨_, .of upd_same⟩, fun D2 hD2 => ?_⟩⟩
  have x5 : Ext H3 (upd H3 r (.lst ys.reverse)) := Ext.new hr
  have hR : AtAll S.K (upd H3 r (.lst ys.reverse)) ys.reverse (v.reverse.map noteD) := by
    rw [List.map_reverse]
    exact (AtAll.ext x5 _ _ hB).reverse
  refine lc_notesD (tuN i) (fun n => okNote (tuN i n) = true) (g := gTup S.K 3 (gCons (gName 4) (gCons (gName 5) (gCons (gName 6) gNil)))) (te := tCall (sp_note S) [] E (tCons (tOp kSub (tVar 1) (tOp kAdd (tVar 4) (tVar 5))) (tCons (tVar 5) (tCons (tVar 6) tNil)))) (vs := [4, 5, 6])
      (σ := [some x, some (.int i), some (.ref p), some (.ref b), none, none, none]) hD2 (by rw [List.length_reverse]; exact okPiece_voice ok hvm) (.of upd_same) hR ?_ fun H' zs x6 o eD hZ => k (fun n hn => o n (List.mem_reverse.mpr hn)) D2 H' zs (x5.free hD2) (x5.trans x6) eD hZ
  intro n y H4 R2 hn x6 hAn kk
  have hn' := List.mem_reverse.mp hn
  obtain ⟨c, rfl, hc⟩ := hAn.note
  refine ⟨c, _, rfl, hc, rfl, .int n.1, _, rfl, .int n.2.1, _, rfl, .int n.2.2, _, rfl, rfl, rfl, ?_⟩
  have x26 := x2.trans (x4.trans (x5.trans x6))
  refine ⟨_, rfl, _, rfl, _, rfl, n.1, n.2.1, rfl, rfl, i, _, rfl, rfl, _, rfl, _, rfl, _, _, _, rfl, rfl, rfl, x26.tabs hT, fun o H5 t x7 ht => kk o t H5 ht x7, fun o H5 x7 => ?_⟩
  refine q2 pc i ed ok rfl (fun all => ?_) H5 (x26.trans x7)
  have := all v hvm n hn'
  rw [show okNote (tuN i n) = false from o] at this
  cases this
end VW
set_option Elab.async false
set_option linter.all false
set_option maxRecDepth 100000
set_option maxHeartbeats 8000000
namespace VW
open PySem PySem.Spec PyProof.Rows L2 GxR
abbrev kAbs : List V → Hp → VK → Prop := fun xs H Q => ∃ i, xs = [.int i] ∧ Q (.int (if i < 0 then -i else i)) H
theorem bo_abs : bootBuiltins "abs" = some (.builtin "abs") := by decide +kernel
def stN (t : Int) (n : Nt) : Nt := (n.1 * t, n.2.1 * t, n.2.2)
def shN (t : Int) (n : Nt) : Nt := (n.1.fdiv t, n.2.1.fdiv t, n.2.2)
def evenP (t : Int) (pc : List (List Nt)) : Prop := ∀ v, v ∈ pc → ∀ n, n ∈ v → n.1.fmod t = 0 ∧ n.2.1.fmod t = 0
/-- a number of times -/
def D.times : D → Bool
  | .int i => decide (1 ≤ i) && decide (i ≤ 1000)
  | _ => false
def sp_require_times (S : Ev) : Sp := fun vs H Q E => match vs with
  | [x] => ∃ d, At S.K H x d ∧ (d.times = true → Q .non H) ∧ (d.times = false → E (.ref S.cNumber) none H)
  | _ => False
theorem len_require_times (S : Ev) (vs : List V) (H : Hp) (Q : VK) (E : XK) (h : sp_require_times S vs H Q E) : vs.length = ["a"].length := by rcases vs with _ | ⟨a, _ | ⟨b, r⟩⟩ <;> first | rfl | exact h.elim
def sp_parted (S : Ev) : Sp := fun vs H Q E => match vs with
  | [x, y] => ∃ i t : Int, x = .int i ∧ y = .int t ∧ 1 ≤ t ∧ t ≤ 1000 ∧ (i.fmod t = 0 → Q (.int (i.fdiv t)) H) ∧ (i.fmod t ≠ 0 → E (.ref S.cUneven) none H)
  | _ => False
theorem len_parted (S : Ev) (vs : List V) (H : Hp) (Q : VK) (E : XK) (h : sp_parted S vs H Q E) : vs.length = ["a", "b"].length := by rcases vs with _ | ⟨a, _ | ⟨b, _ | ⟨c, r⟩⟩⟩ <;> first | rfl | exact h.elim
def spTimes (S : Ev) (f : Int → List (List Nt) → List (List Nt)) (okF : Int → List (List Nt) → Prop) (cls : Addr) : Sp := fun vs H Q E => match vs with
  | [x, y] => S.T H ∧ ∃ d d1, At S.K H x d ∧ At S.K H y d1 ∧
      (∀ pc i, d = pieceD pc → okPiece pc = true → d1 = .int i → 1 ≤ i → i ≤ 1000 → okF i pc → ∀ H' p, Ext H H' → New2 S.K H H' p ((f i pc).map fun v => v.map noteD) → Q (.ref p) H') ∧
      (∀ pc i, d = pieceD pc → okPiece pc = true → d1 = .int i → 1 ≤ i → i ≤ 1000 → ¬ okF i pc → ∀ H', Ext H H' → E (.ref cls) none H') ∧
      (isPiece d = true → d1.times = false → ∀ H', Ext H H' → E (.ref S.cNumber) none H') ∧ (isPiece d = false → ∀ H', Ext H H' → E (.ref S.cPiece) none H')
  | _ => False
theorem lenTimes {S : Ev} {f okF cls} {vs : List V} {H : Hp} {Q : VK} {E : XK} (h : spTimes S f okF cls vs H Q E) : vs.length = ["a", "b"].length := by rcases vs with _ | ⟨a, _ | ⟨b, _ | ⟨c, r⟩⟩⟩ <;> first | rfl | exact h.elim
def sp_stretched (S : Ev) : Sp := spTimes S (fun i => mapP (stN i)) (fun i => allOk (stN i)) S.cRange
def sp_shrunk (S : Ev) : Sp := spTimes S (fun i => mapP (shN i)) evenP S.cUneven
theorem len_stretched (S : Ev) (vs : List V) (H : Hp) (Q : VK) (E : XK) (h : sp_stretched S vs H Q E) : vs.length = ["a", "b"].length := lenTimes h
theorem len_shrunk (S : Ev) (vs : List V) (H : Hp) (Q : VK) (E : XK) (h : sp_shrunk S vs H Q E) : vs.length = ["a", "b"].length := lenTimes h
abbrev N_require_times : List Str := ["times"]
def t_require_times (S : Ev) (E : XK) : TS :=
  (tIfS (tOr (tNot (tB (tCall (sp_is_whole S) [] E0 (tCons (tVar 0) tNil)))) (tNot (tTest (tChain kLe kLe (tC (.int 1)) (tVar 0) (tC (.int 1000)))))) (fun _ _ H => E (.ref S.cNumber) none H) tNext)

abbrev N_parted : List Str := ["number", "times"]
def t_parted (S : Ev) (E : XK) : TS :=
  (tSeq (tIfS (tTest (tOp rNe (tOp kMod (tVar 0) (tVar 1)) (tC (.int 0)))) (fun _ _ H => E (.ref S.cUneven) none H) tNext)
      (tRet (tOp kDiv (tVar 0) (tVar 1))))

abbrev N_stretched : List Str := ["piece", "times", "voices", "voice", "start", "long", "pitch"]
def t_stretched (S : Ev) (E : XK) : TS :=
  (tSeq (tAsg (tCall (sp_good S) [] E (tCons (tVar 0) tNil)) (gName 2))
      (tSeq (tDrop (tCall (sp_require_times S) [] E (tCons (tVar 1) tNil)))
      (tRet (tLc (iList S.K (tVar 2)) (gName 3) tYes (tLc (iList S.K (tVar 3)) (gTup S.K 3 (gCons (gName 4) (gCons (gName 5) (gCons (gName 6) gNil)))) tYes (tCall (sp_note S) [] E (tCons (tOp kMul (tVar 4) (tVar 1)) (tCons (tOp kMul (tVar 5) (tVar 1)) (tCons (tVar 6) tNil)))) [4, 5, 6]) [3]))))

abbrev N_shrunk : List Str := ["piece", "times", "voices", "voice", "start", "long", "pitch"]
def t_shrunk (S : Ev) (E : XK) : TS :=
  (tSeq (tAsg (tCall (sp_good S) [] E (tCons (tVar 0) tNil)) (gName 2))
      (tSeq (tDrop (tCall (sp_require_times S) [] E (tCons (tVar 1) tNil)))
      (tRet (tLc (iList S.K (tVar 2)) (gName 3) tYes (tLc (iList S.K (tVar 3)) (gTup S.K 3 (gCons (gName 4) (gCons (gName 5) (gCons (gName 6) gNil)))) tYes (tCall (sp_note S) [] E (tCons (tCall (sp_parted S) [] E (tCons (tVar 4) (tCons (tVar 1) tNil))) (tCons (tCall (sp_parted S) [] E (tCons (tVar 5) (tCons (tVar 1) tNil))) (tCons (tVar 6) tNil)))) [4, 5, 6]) [3]))))

theorem D.times_int {d : D} (h : d.times = true) : ∃ i, d = .int i ∧ 1 ≤ i ∧ i ≤ 1000 := by
  cases d with
  | int i =>
    have h' : (decide (1 ≤ i) && decide (i ≤ 1000)) = true := h
    simp only [Bool.and_eq_true, decide_eq_true_eq] at h'
    exact ⟨i, rfl, h'.1, h'.2⟩
  | _ => cases h
theorem D.times_not {i : Int} (h : (D.int i).times = false) : ¬ (1 ≤ i ∧ i ≤ 1000) := fun z => by
  have h' : (decide (1 ≤ i) && decide (i ≤ 1000)) = false := h
  rw [decide_eq_true z.1, decide_eq_true z.2] at h'
  cases h'
theorem pure_require_times (S : Ev) (vs : List V) (H : Hp) (Q : VK) (E : XK) (h : sp_require_times S vs H Q E) : t_require_times S E { nx := fun _ H' => Q .non H', rt := Q } (start N_require_times vs) H := by
  obtain ⟨x, rfl⟩ := args1 (len_require_times S vs H Q E h)
  obtain ⟨d, hx, q1, q2⟩ := h
  refine ⟨x, rfl, d, hx, _, rfl, ?_⟩
  cases hw : d.whole with
  | false =>
    refine iteT (iteT (q2 ?_))
    cases d <;> first | rfl | cases hw
  | true =>
    obtain ⟨i, ei⟩ := D.whole_int hw
    subst ei
    have ex := hx.isInt
    subst ex
    refine iteF ⟨.int i, rfl, 1, i, rfl, rfl, _, rfl, ?_⟩
    by_cases h1 : 1 ≤ i
    · rw [decide_eq_true h1]
      refine iteT ⟨i, 1000, rfl, rfl, _, rfl, ?_⟩
      by_cases h2 : i ≤ 1000
      · rw [decide_eq_true h2]
        refine iteF (q1 ?_)
        show (decide (1 ≤ i) && decide (i ≤ 1000)) = true
        rw [decide_eq_true h1, decide_eq_true h2]
        rfl
      · rw [decide_eq_false h2]
        refine iteT (q2 ?_)
        show (decide (1 ≤ i) && decide (i ≤ 1000)) = false
        rw [decide_eq_false h2, Bool.and_false]
    · rw [decide_eq_false h1]
      refine iteF ⟨_, rfl, ?_⟩
      refine iteT (q2 ?_)
      show (decide (1 ≤ i) && decide (i ≤ 1000)) = false
      rw [decide_eq_false h1, Bool.false_and]
theorem pure_parted (S : Ev) (vs : List V) (H : Hp) (Q : VK) (E : XK) (h : sp_parted S vs H Q E) : t_parted S E { nx := fun _ H' => Q .non H', rt := Q } (start N_parted vs) H := by
  obtain ⟨x, y, rfl⟩ := args2 (len_parted S vs H Q E h)
  obtain ⟨i, t, rfl, rfl, h1, h2, q1, q2⟩ := h
  refine ⟨.int i, rfl, .int t, rfl, i, t, rfl, rfl, (by show t ≠ 0; omega), rfl, _, rfl, ?_⟩
  by_cases c : i.fmod t = 0
  · refine iteF' ?_ ⟨.int i, rfl, .int t, rfl, i, t, rfl, rfl, cdv _ _ (by omega) (by omega), q1 c⟩
    show (!decide (V.int (i.fmod t) = V.int 0)) = false
    rw [c, decide_eq_true rfl]
    rfl
  · refine iteT' ?_ (q2 c)
    show (!decide (V.int (i.fmod t) = V.int 0)) = true
    rw [decide_eq_false (fun z => c (by injection z))]
    rfl
theorem shN_ok {t : Int} {n : Nt} (h1 : 1 ≤ t) (h2 : t ≤ 1000) (ok : okNote n = true) (a : n.1.fmod t = 0) (b : n.2.1.fmod t = 0) : okNote (shN t n) = true := by
  have o := ok
  unfold okNote at o
  simp only [Bool.and_eq_true, decide_eq_true_eq] at o
  obtain ⟨⟨⟨⟨o1, o2⟩, o3⟩, o4⟩, o5⟩ := o
  have a1 : 0 ≤ n.1 / t := Int.ediv_nonneg o1 (by omega)
  have a2 : n.1 / t ≤ n.1 := Int.ediv_le_self _ o1
  have b1 : 0 ≤ n.2.1 / t := Int.ediv_nonneg (by omega) (by omega)
  have b2 : n.2.1 / t ≤ n.2.1 := Int.ediv_le_self _ (by omega)
  have b3 : 1 ≤ n.2.1 / t := by
    have e := Int.emod_add_mul_ediv n.2.1 t
    rw [Int.fmod_eq_emod_of_nonneg _ (by omega)] at b
    rw [b] at e
    have : n.2.1 / t = 0 ∨ 1 ≤ n.2.1 / t := by omega
    rcases this with z | z
    · rw [z] at e
      omega
    · exact z
  unfold okNote shN
  rw [Int.fdiv_eq_ediv_of_nonneg _ (show 0 ≤ t by omega), Int.fdiv_eq_ediv_of_nonneg _ (show 0 ≤ t by omega)]
  simp only [Bool.and_eq_true, decide_eq_true_eq]
  exact ⟨⟨⟨⟨a1, b3⟩, by omega⟩, o4⟩, o5⟩
theorem okPiece_note {pc : List (List Nt)} (ok : okPiece pc = true) {v : List Nt} (hv : v ∈ pc) {n : Nt} (hn : n ∈ v) : okNote n = true :=
  ((okFrom_iff v 0).mp ((okPiece_iff.mp ok).2 v hv)).1 n hn

theorem pure_stretched (S : Ev) (vs : List V) (H : Hp) (Q : VK) (E : XK) (h : sp_stretched S vs H Q E) : t_stretched S E { nx := fun _ H' => Q .non H', rt := Q } (start N_stretched vs) H := by
  obtain ⟨x, y, rfl⟩ := args2 (len_stretched S vs H Q E h)
  obtain ⟨hT, d, d1, hx, hy, q1, q2, q3, q4⟩ := h
  refine ⟨x, rfl, hT, d, hx, fun pc ed ok H2 p x2 n2 => ?_, fun hd H' x2 => q4 hd H' x2⟩
  have isP : isPiece d = true := by rw [ed, isPiece_D]; exact ok
  refine ⟨y, rfl, d1, At.ext x2 _ _ hy, fun w1 => ?_, fun w1 => q3 isP w1 H2 x2⟩
  obtain ⟨i, e1, i1, i2⟩ := D.times_int w1
  subst e1
  have e1 := hy.isInt
  subst e1
  have hp := okPiece_len ok
  obtain ⟨pa, xs, e, hS, hA⟩ := At.piece n2.piece
  cases e
  refine ⟨.ref p, rfl, p, rfl, ⟨_, hS⟩, fun D hD => ?_⟩
  refine lc_voicesD (g := gName 3) (te := tLc (iList S.K (tVar 3)) (gTup S.K 3 (gCons (gName 4) (gCons (gName 5) (gCons (gName 6) gNil)))) tYes (tCall (sp_note S) [] E (tCons (tOp kMul (tVar 4) (tVar 1)) (tCons (tOp kMul (tVar 5) (tVar 1)) (tCons (tVar 6) tNil)))) [4, 5, 6]) (vs := [3])
    (σ := [some x, some (.int i), some (.ref p), none, none, none, none]) pc (List.map (stN i)) (fun v => ∀ n, n ∈ v → okNote (stN i n) = true) hD (by omega) hS hA ?_ fun H' x4 all n4 => q1 pc i ed ok rfl i1 i2 all H' D (x2.trans x4) (n4.old x2)
  intro v b ys H3 R hvm x4 hb hB k
  refine ⟨rfl, _, rfl, b, rfl, ⟨ys, hb⟩, fun D2 hD2 => lc_notesD (stN i) (fun n => okNote (stN i n) = true) (g := gTup S.K 3 (gCons (gName 4) (gCons (gName 5) (gCons (gName 6) gNil)))) (te := tCall (sp_note S) [] E (tCons (tOp kMul (tVar 4) (tVar 1)) (tCons (tOp kMul (tVar 5) (tVar 1)) (tCons (tVar 6) tNil)))) (vs := [4, 5, 6])
      (σ := [some x, some (.int i), some (.ref p), some (.ref b), none, none, none]) hD2 (okPiece_voice ok hvm) hb hB ?_ fun H' zs x5 o eD hZ => k o D2 H' zs hD2 x5 eD hZ⟩
  intro n y H4 R2 hn x5 hAn kk
  obtain ⟨c, rfl, hc⟩ := hAn.note
  refine ⟨c, _, rfl, hc, rfl, .int n.1, _, rfl, .int n.2.1, _, rfl, .int n.2.2, _, rfl, rfl, rfl, ?_⟩
  have x24 := x2.trans (x4.trans x5)
  refine ⟨_, rfl, _, rfl, n.1, i, rfl, rfl, cmulR _ _ (by omega), _, rfl, _, rfl, n.2.1, i, rfl, rfl, cmulR _ _ (by omega), _, rfl, _, _, _, rfl, rfl, rfl, x24.tabs hT, fun o H5 t x6 ht => kk o t H5 ht x6, fun o H5 x6 => ?_⟩
  refine q2 pc i ed ok rfl i1 i2 (fun all => ?_) H5 (x24.trans x6)
  have := all v hvm n hn
  rw [show okNote (stN i n) = false from o] at this
  cases this
theorem pure_shrunk (S : Ev) (vs : List V) (H : Hp) (Q : VK) (E : XK) (h : sp_shrunk S vs H Q E) : t_shrunk S E { nx := fun _ H' => Q .non H', rt := Q } (start N_shrunk vs) H := by
  obtain ⟨x, y, rfl⟩ := args2 (len_shrunk S vs H Q E h)
  obtain ⟨hT, d, d1, hx, hy, q1, q2, q3, q4⟩ := h
  refine ⟨x, rfl, hT, d, hx, fun pc ed ok H2 p x2 n2 => ?_, fun hd H' x2 => q4 hd H' x2⟩
  have isP : isPiece d = true := by rw [ed, isPiece_D]; exact ok
  refine ⟨y, rfl, d1, At.ext x2 _ _ hy, fun w1 => ?_, fun w1 => q3 isP w1 H2 x2⟩
  obtain ⟨i, e1, i1, i2⟩ := D.times_int w1
  subst e1
  have e1 := hy.isInt
  subst e1
  have hp := okPiece_len ok
  obtain ⟨pa, xs, e, hS, hA⟩ := At.piece n2.piece
  cases e
  refine ⟨.ref p, rfl, p, rfl, ⟨_, hS⟩, fun D hD => ?_⟩
  refine lc_voicesD (g := gName 3) (te := tLc (iList S.K (tVar 3)) (gTup S.K 3 (gCons (gName 4) (gCons (gName 5) (gCons (gName 6) gNil)))) tYes (tCall (sp_note S) [] E (tCons (tCall (sp_parted S) [] E (tCons (tVar 4) (tCons (tVar 1) tNil))) (tCons (tCall (sp_parted S) [] E (tCons (tVar 5) (tCons (tVar 1) tNil))) (tCons (tVar 6) tNil)))) [4, 5, 6]) (vs := [3])
    (σ := [some x, some (.int i), some (.ref p), none, none, none, none]) pc (List.map (shN i)) (fun v => ∀ n, n ∈ v → n.1.fmod i = 0 ∧ n.2.1.fmod i = 0) hD (by omega) hS hA ?_ fun H' x4 all n4 => q1 pc i ed ok rfl i1 i2 all H' D (x2.trans x4) (n4.old x2)
  intro v b ys H3 R hvm x4 hb hB k
  refine ⟨rfl, _, rfl, b, rfl, ⟨ys, hb⟩, fun D2 hD2 => lc_notesD (shN i) (fun n => n.1.fmod i = 0 ∧ n.2.1.fmod i = 0) (g := gTup S.K 3 (gCons (gName 4) (gCons (gName 5) (gCons (gName 6) gNil)))) (te := tCall (sp_note S) [] E (tCons (tCall (sp_parted S) [] E (tCons (tVar 4) (tCons (tVar 1) tNil))) (tCons (tCall (sp_parted S) [] E (tCons (tVar 5) (tCons (tVar 1) tNil))) (tCons (tVar 6) tNil)))) (vs := [4, 5, 6])
      (σ := [some x, some (.int i), some (.ref p), some (.ref b), none, none, none]) hD2 (okPiece_voice ok hvm) hb hB ?_ fun H' zs x5 o eD hZ => k o D2 H' zs hD2 x5 eD hZ⟩
  intro n y H4 R2 hn x5 hAn kk
  obtain ⟨c, rfl, hc⟩ := hAn.note
  refine ⟨c, _, rfl, hc, rfl, .int n.1, _, rfl, .int n.2.1, _, rfl, .int n.2.2, _, rfl, rfl, rfl, ?_⟩
  have x24 := x2.trans (x4.trans x5)
  refine ⟨_, rfl, _, rfl, n.1, i, rfl, rfl, i1, i2, fun g1 => ⟨_, rfl, _, rfl, n.2.1, i, rfl, rfl, i1, i2, fun g2 => ?_, fun g2 => ?_⟩, fun g1 => ?_⟩
  · refine ⟨_, rfl, _, _, _, rfl, rfl, rfl, x24.tabs hT, fun o H5 t x6 ht => kk ⟨g1, g2⟩ t H5 ht x6, fun o H5 x6 => ?_⟩
    have := shN_ok i1 i2 (okPiece_note ok hvm hn) g1 g2
    rw [show okNote (shN i n) = false from o] at this
    cases this
  · exact q2 pc i ed ok rfl i1 i2 (fun all => g2 (all v hvm n hn).2) H4 x24
  · exact q2 pc i ed ok rfl i1 i2 (fun all => g1 (all v hvm n hn).1) H4 x24
end VW
set_option Elab.async false
set_option linter.all false
set_option maxRecDepth 100000
set_option maxHeartbeats 4000000
namespace VW
open PySem PySem.Spec PyProof.Rows L2 GxR
/-- the ends of all notes -/
def endsOf (pc : List (List Nt)) : List Int := pc.flatMap fun v => v.map fun n => n.1 + n.2.1
def lenOf (pc : List (List Nt)) : Int := (endsOf pc).foldl max 0
def sp_length (S : Ev) : Sp := fun vs H Q E => match vs with
  | [x] => S.T H ∧ ∃ d, At S.K H x d ∧ (∀ pc, d = pieceD pc → okPiece pc = true → ∀ H', Ext H H' → Q (.int (lenOf pc)) H') ∧ (isPiece d = false → ∀ H', Ext H H' → E (.ref S.cPiece) none H')
  | _ => False
theorem len_length (S : Ev) (vs : List V) (H : Hp) (Q : VK) (E : XK) (h : sp_length S vs H Q E) : vs.length = ["a"].length := by rcases vs with _ | ⟨a, _ | ⟨b, r⟩⟩ <;> first | rfl | exact h.elim
/-- a def that refuses what is no piece, whatever else it does -/
def spBad1 (S : Ev) : Sp := fun vs H _ E => match vs with
  | [x] => S.T H ∧ ∃ d, At S.K H x d ∧ isPiece d = false ∧ ∀ H', Ext H H' → E (.ref S.cPiece) none H'
  | _ => False
def sp_faultsB (S : Ev) : Sp := spBad1 S
def sp_writtenB (S : Ev) : Sp := spBad1 S
/-- the same, the piece behind a theme -/
def sp_entries_ofB (S : Ev) : Sp := fun vs H _ E => match vs with
  | [t, x] => S.T H ∧ ∃ d, At S.K H x d ∧ isPiece d = false ∧ ∀ H', Ext H H' → E (.ref S.cPiece) none H'
  | _ => False
theorem lenBad1 {S : Ev} {vs : List V} {H : Hp} {Q : VK} {E : XK} (h : spBad1 S vs H Q E) : vs.length = ["a"].length := by rcases vs with _ | ⟨a, _ | ⟨b, r⟩⟩ <;> first | rfl | exact h.elim
theorem len_faultsB (S : Ev) (vs : List V) (H : Hp) (Q : VK) (E : XK) (h : sp_faultsB S vs H Q E) : vs.length = ["a"].length := lenBad1 h
theorem len_writtenB (S : Ev) (vs : List V) (H : Hp) (Q : VK) (E : XK) (h : sp_writtenB S vs H Q E) : vs.length = ["a"].length := lenBad1 h
theorem len_entries_ofB (S : Ev) (vs : List V) (H : Hp) (Q : VK) (E : XK) (h : sp_entries_ofB S vs H Q E) : vs.length = ["a", "b"].length := by rcases vs with _ | ⟨a, _ | ⟨b, _ | ⟨c, r⟩⟩⟩ <;> first | rfl | exact h.elim

/-! ### the law's own -/
def sp_law_is_noteD (S : Ev) : Sp := fun vs H Q _ => match vs with
  | [x] => ∃ d, At S.K H x d ∧ ∀ H', Ext H H' → Q (.bl (isNote d)) H'
  | _ => False
theorem len_law_is_noteD (S : Ev) (vs : List V) (H : Hp) (Q : VK) (E : XK) (h : sp_law_is_noteD S vs H Q E) : vs.length = ["a"].length := by rcases vs with _ | ⟨a, _ | ⟨b, r⟩⟩ <;> first | rfl | exact h.elim
def sp_law_is_piece (S : Ev) : Sp := fun vs H Q _ => match vs with
  | [x] => ∃ d, At S.K H x d ∧ ∀ H', Ext H H' → Q (.bl (isPiece d)) H'
  | _ => False
theorem len_law_is_piece (S : Ev) (vs : List V) (H : Hp) (Q : VK) (E : XK) (h : sp_law_is_piece S vs H Q E) : vs.length = ["a"].length := by rcases vs with _ | ⟨a, _ | ⟨b, r⟩⟩ <;> first | rfl | exact h.elim
def sp_law_odd_note (S : Ev) : Sp := fun vs H Q _ => match vs with
  | [x, y] => ∃ n k, At S.K H x (noteD n) ∧ y = .int k ∧ ∀ v d H', Ext H H' → At S.K H' v d → Q v H'
  | _ => False
theorem len_law_odd_note (S : Ev) (vs : List V) (H : Hp) (Q : VK) (E : XK) (h : sp_law_odd_note S vs H Q E) : vs.length = ["a", "b"].length := by rcases vs with _ | ⟨a, _ | ⟨b, _ | ⟨c, r⟩⟩⟩ <;> first | rfl | exact h.elim
def sp_law_spoilt (S : Ev) : Sp := fun vs H Q _ => match vs with
  | [x, y, z] => ∃ pc w k, At S.K H x (pieceD pc) ∧ okPiece pc = true ∧ small pc ∧ y = .int w ∧ z = .int k ∧ ∀ v d H', Ext H H' → At S.K H' v d → Q v H'
  | _ => False
theorem len_law_spoilt (S : Ev) (vs : List V) (H : Hp) (Q : VK) (E : XK) (h : sp_law_spoilt S vs H Q E) : vs.length = ["a", "b", "c"].length := by rcases vs with _ | ⟨a, _ | ⟨b, _ | ⟨c, _ | ⟨d, r⟩⟩⟩⟩ <;> first | rfl | exact h.elim
def sp_law_asked (S : Ev) : Sp := fun vs H _ E => match vs with
  | [w, x] => S.T H ∧ ∃ i d, w = .int i ∧ At S.K H x d ∧ isPiece d = false ∧ ∀ H', Ext H H' → E (.ref S.cPiece) none H'
  | _ => False
theorem len_law_asked (S : Ev) (vs : List V) (H : Hp) (Q : VK) (E : XK) (h : sp_law_asked S vs H Q E) : vs.length = ["a", "b"].length := by rcases vs with _ | ⟨a, _ | ⟨b, _ | ⟨c, r⟩⟩⟩ <;> first | rfl | exact h.elim
abbrev KitP (S : Ev) : Prop := KitW S S.cPiece false false false true false false false false
def sp_law_refused (S : Ev) : Sp := fun vs H Q _ => match vs with
  | [w, x] => S.T H ∧ KitP S ∧ ∃ i d, w = .int i ∧ At S.K H x d ∧ isPiece d = false ∧ ∀ H', Ext H H' → Q (.bl true) H'
  | _ => False
theorem len_law_refused (S : Ev) (vs : List V) (H : Hp) (Q : VK) (E : XK) (h : sp_law_refused S vs H Q E) : vs.length = ["a", "b"].length := by rcases vs with _ | ⟨a, _ | ⟨b, _ | ⟨c, r⟩⟩⟩ <;> first | rfl | exact h.elim
def sp_law (S : Ev) : Sp := fun vs H Q _ => match vs with
  | [x] => S.T H ∧ KitP S ∧ ∃ (a : Addr) (ns : List Int), x = .ref a ∧ SqL S.K H a (ns.map V.int) ∧ ns.length ≤ 63 ∧ ∀ H', Ext H H' → Q (.bl true) H'
  | _ => False
theorem len_law (S : Ev) (vs : List V) (H : Hp) (Q : VK) (E : XK) (h : sp_law S vs H Q E) : vs.length = ["s"].length := by rcases vs with _ | ⟨a, _ | ⟨b, r⟩⟩ <;> first | rfl | exact h.elim
end VW
set_option Elab.async false
set_option linter.all false
set_option maxRecDepth 100000
set_option maxHeartbeats 4000000
namespace VW
open PySem PySem.Spec PyProof.Rows L2 GxR
abbrev N_length : List Str := ["piece", "voice", "note"]
def t_length (S : Ev) (E : XK) : TS :=
  (tRet (tCKw (rMaxDef S.K) (tCons (tLc2 (iList S.K (tCall (sp_good S) [] E (tCons (tVar 0) tNil))) (gName 1) tYes (iList S.K (tVar 1)) (gName 2) tYes (tCall (sp_end_of S) [] E0 (tCons (tVar 2) tNil)) [1, 2] [2]) tNil) (tCons (tC (.int 0)) tNil)))

abbrev N_law_is_noteD : List Str := ["_law_note", "_law_part"]
def t_law_is_noteD (S : Ev) (E : XK) : TS :=
  (tSeq (tIfS (tOr (tNot (tB (tCB (rIsi S.K) (tCons (tVar 0) (tCons (tC (.ty "tuple")) tNil))))) (tTest (tOp rNe (tCB (kLen S.K) (tCons (tVar 0) tNil)) (tC (.int 3))))) (tRet (tC (.bl false))) tNext)
      (tSeq (tIfS (tTest (tOp kGt (tCB (kLen S.K) (tCons (tLc (iTup S.K (tVar 0)) (gName 1) (tNot (tB (tCall (sp_law_whole S) [] E0 (tCons (tVar 1) tNil)))) (tVar 1) [1]) tNil)) (tC (.int 0)))) (tRet (tC (.bl false))) tNext)
      (tRet (tAndV (tOp kGe (tOp (rIxT S.K) (tVar 0) (tC (.int 0))) (tC (.int 0))) (tAndV (tOp kGe (tOp (rIxT S.K) (tVar 0) (tC (.int 1))) (tC (.int 1))) (tAndV (tOp kLe (tOp kAdd (tOp (rIxT S.K) (tVar 0) (tC (.int 0))) (tOp (rIxT S.K) (tVar 0) (tC (.int 1)))) (tC (.int 100000))) (tChain kLe kLe (tUn kNeg (tC (.int 200))) (tOp (rIxT S.K) (tVar 0) (tC (.int 2))) (tC (.int 200)))))))))

abbrev N_law_is_piece : List Str := ["_law_piece_here", "_law_voice", "_law_time", "_law_note"]
def t_law_is_piece (S : Ev) (E : XK) : TS :=
  (tSeq (tIfS (tOr (tNot (tB (tCB (rIsi S.K) (tCons (tVar 0) (tCons (tC (.ty "list")) tNil))))) (tNot (tTest (tChain kLe kLe (tC (.int 1)) (tCB (kLen S.K) (tCons (tVar 0) tNil)) (tC (.int 6)))))) (tRet (tC (.bl false))) tNext)
      (tSeq (tFor (iList S.K (tVar 0)) (gName 1) (tSeq (tIfS (tNot (tB (tCB (rIsi S.K) (tCons (tVar 1) (tCons (tC (.ty "list")) tNil))))) (tRet (tC (.bl false))) tNext)
      (tSeq (tAsg (tC (.int 0)) (gName 2))
      (tFor (iList S.K (tVar 1)) (gName 3) (tSeq (tIfS (tOr (tNot (tB (tCall (sp_law_is_noteD S) [] E0 (tCons (tVar 3) tNil)))) (tTest (tOp kLt (tOp (rIxT S.K) (tVar 3) (tC (.int 0))) (tVar 2)))) (tRet (tC (.bl false))) tNext)
      (tAsg (tOp kAdd (tOp (rIxT S.K) (tVar 3) (tC (.int 0))) (tOp (rIxT S.K) (tVar 3) (tC (.int 1)))) (gName 2)))))))
      (tRet (tC (.bl true)))))

abbrev N_law_odd_note : List Str := ["_law_note", "_law_number", "_law_more", "_law_at_here", "_law_low", "_law_high", "_law_odd"]
def t_law_odd_note (S : Ev) (E : XK) : TS :=
  (tSeq (tAsg (tOp kDiv (tCB kAbs (tCons (tVar 1) tNil)) (tC (.int 16))) (gName 2))
      (tSeq (tIfS (tTest (tOp kLt (tOp kMod (tVar 1) (tC (.int 16))) (tC (.int 6)))) (tSeq (tAsg (tOp kMod (tVar 1) (tC (.int 3))) (gName 3))
      (tSeq (tAsg (tOp (rIxL S.K) (tLst (tCons (tOp kSub (tUn kNeg (tC (.int 1))) (tVar 2)) (tCons (tOp kSub (tC (.int 0)) (tVar 2)) (tCons (tOp kAdd (tC (.int 201)) (tVar 2)) tNil)))) (tVar 3)) (gName 4))
      (tSeq (tAsg (tOp (rIxL S.K) (tLst (tCons (tC (.int 100000)) (tCons (tC (.int 100001)) (tCons (tOp kSub (tUn kNeg (tC (.int 201))) (tVar 2)) tNil)))) (tVar 3)) (gName 5))
      (tSeq (tAsg (tOp (rIxL S.K) (tLst (tCons (tC (.bl true)) (tCons (tC .non) (tCons (tC (.str (PySem.Str.ofString "1"))) (tCons (tVar 4) (tCons (tVar 5) (tCons (tOp kPow (tC (.int 10)) (tC (.int 9))) (tCons (tLst (tCons (tC (.int 1)) tNil)) (tCons tDNewK (tCons (tC (.bl false)) tNil)))))))))) (tOp kMod (tVar 2) (tC (.int 9)))) (gName 6))
      (tRet (tOp (rCatA S.K) (tOp (rCatA S.K) (tSl (rSlA S.K) (tVar 0) tNoPart (tPart (tVar 3))) (tTup (tCons (tVar 6) tNil))) (tSl (rSlA S.K) (tVar 0) (tPart (tOp kAdd (tVar 3) (tC (.int 1)))) tNoPart))))))) tNext)
      (tSeq (tIfS (tTest (tOp kLt (tOp kMod (tVar 1) (tC (.int 16))) (tC (.int 9)))) (tRet (tOp (rIxL S.K) (tLst (tCons (tCB (kList S.K) (tCons (tVar 0) tNil)) (tCons (tSl (rSlA S.K) (tVar 0) tNoPart (tPart (tC (.int 2)))) (tCons (tOp (rCatA S.K) (tVar 0) (tTup (tCons (tC (.int 0)) tNil))) tNil)))) (tOp kMod (tVar 1) (tC (.int 3))))) tNext)
      (tSeq (tIfS (tTest (tOp kLt (tOp kMod (tVar 1) (tC (.int 16))) (tC (.int 11)))) (tRet (tOp (rIxL S.K) (tLst (tCons (tC .non) (tCons (tC (.str (PySem.Str.ofString "0 1 0"))) tNil))) (tOp kMod (tVar 1) (tC (.int 2))))) tNext)
      (tSeq (tIfS (tTest (tOp kLt (tOp kMod (tVar 1) (tC (.int 16))) (tC (.int 14)))) (tRet (tTup (tCons (tOp kSub (tOp kSub (tOp (rIxT S.K) (tVar 0) (tC (.int 0))) (tC (.int 1))) (tOp kMul (tOp kMod (tVar 2) (tC (.int 3))) (tCB kInt1 (tCons (tOp rEq (tOp kMod (tVar 1) (tC (.int 16))) (tC (.int 11))) tNil)))) (tCons (tOp (rIxT S.K) (tVar 0) (tC (.int 1))) (tCons (tOp (rIxT S.K) (tVar 0) (tC (.int 2))) tNil))))) tNext)
      (tRet (tOp (rIxL S.K) (tLst (tCons (tTup (tCons (tOp kAdd (tOp kSub (tC (.int 100000)) (tOp (rIxT S.K) (tVar 0) (tC (.int 1)))) (tOp kMod (tVar 2) (tC (.int 2)))) (tCons (tOp (rIxT S.K) (tVar 0) (tC (.int 1))) (tCons (tOp (rIxT S.K) (tVar 0) (tC (.int 2))) tNil)))) (tCons (tTup tNil) tNil))) (tOp kMod (tVar 1) (tC (.int 2))))))))))

abbrev N_law_spoilt : List Str := ["_law_piece_here", "_law_way", "_law_number", "_law_at_here", "_law_more", "_law_voice", "_law_odd", "_law_beside", "_law_note"]
def t_law_spoilt (S : Ev) (E : XK) : TS :=
  (tSeq (tAsg (tOp kMod (tVar 2) (tCB (kLen S.K) (tCons (tVar 0) tNil))) (gName 3))
      (tSeq (tAsg (tOp kDiv (tVar 2) (tCB (kLen S.K) (tCons (tVar 0) tNil))) (gName 4))
      (tSeq (tAsg (tOp (rIxL S.K) (tVar 0) (tVar 3)) (gName 5))
      (tSeq (tIfS (tTest (tOp rEq (tVar 1) (tC (.int 0)))) (tRet (tOp (rIxL S.K) (tLst (tCons (tCB (kTuple S.K) (tCons (tVar 0) tNil)) (tCons (tLst tNil) (tCons (tOp rRep (tLst (tCons (tLst tNil) tNil)) (tC (.int 7))) (tCons (tC .non) (tCons (tC (.str (PySem.Str.ofString ""))) (tCons (tC (.int 7)) (tCons (tDisp [((tC (.int 0)), (tLst tNil))]) (tCons (tTup (tCons (tVar 0) tNil)) tNil))))))))) (tOp kMod (tVar 4) (tC (.int 8))))) tNext)
      (tSeq (tIfS (tOr (tTest (tOp rEq (tVar 1) (tC (.int 1)))) (tTest (tOp (rEqD S.K) (tVar 5) (tLst tNil)))) (tSeq (tAsg (tOp (rIxL S.K) (tLst (tCons (tCB (kTuple S.K) (tCons (tVar 5) tNil)) (tCons (tC .non) (tCons (tC (.str (PySem.Str.ofString ""))) (tCons (tC (.int 3)) (tCons (tLst (tCons (tLst tNil) tNil)) tNil)))))) (tOp kMod (tVar 4) (tC (.int 5)))) (gName 6))
      (tRet (tOp rCat (tOp rCat (tSl (rSlL S.K) (tVar 0) tNoPart (tPart (tVar 3))) (tLst (tCons (tVar 6) tNil))) (tSl (rSlL S.K) (tVar 0) (tPart (tOp kAdd (tVar 3) (tC (.int 1)))) tNoPart)))) tNext)
      (tSeq (tAsg (tOp kMod (tVar 4) (tCB (kLen S.K) (tCons (tVar 5) tNil))) (gName 7))
      (tSeq (tAsg (tCall (sp_law_odd_note S) [] E0 (tCons (tOp (rIxL S.K) (tVar 5) (tVar 7)) (tCons (tOp kDiv (tVar 4) (tCB (kLen S.K) (tCons (tVar 5) tNil))) tNil))) (gName 8))
      (tSeq (tAsg (tOp rCat (tOp rCat (tSl (rSlL S.K) (tVar 5) tNoPart (tPart (tVar 7))) (tLst (tCons (tVar 8) tNil))) (tSl (rSlL S.K) (tVar 5) (tPart (tOp kAdd (tVar 7) (tC (.int 1)))) tNoPart)) (gName 5))
      (tRet (tOp rCat (tOp rCat (tSl (rSlL S.K) (tVar 0) tNoPart (tPart (tVar 3))) (tLst (tCons (tVar 5) tNil))) (tSl (rSlL S.K) (tVar 0) (tPart (tOp kAdd (tVar 3) (tC (.int 1)))) tNoPart)))))))))))

abbrev N_law_asked : List Str := ["_law_which", "_law_piece_here"]
def t_law_asked (S : Ev) (E : XK) : TS :=
  (tSeq (tIfS (tTest (tOp rEq (tVar 0) (tC (.int 0)))) (tRet (tCall (sp_good S) [] E (tCons (tVar 1) tNil))) tNext)
      (tSeq (tIfS (tTest (tOp rEq (tVar 0) (tC (.int 1)))) (tRet (tCall (sp_length S) [] E (tCons (tVar 1) tNil))) tNext)
      (tSeq (tIfS (tTest (tOp rEq (tVar 0) (tC (.int 2)))) (tRet (tCall (sp_faultsB S) [] E (tCons (tVar 1) tNil))) tNext)
      (tSeq (tIfS (tTest (tOp rEq (tVar 0) (tC (.int 3)))) (tRet (tCall (sp_writtenB S) [] E (tCons (tVar 1) tNil))) tNext)
      (tSeq (tIfS (tTest (tOp rEq (tVar 0) (tC (.int 4)))) (tRet (tCall (sp_mirrored S) [] E (tCons (tVar 1) (tCons (tC .non) tNil)))) tNext)
      (tSeq (tIfS (tTest (tOp rEq (tVar 0) (tC (.int 5)))) (tRet (tCall (sp_turned S) [] E (tCons (tVar 1) (tCons (tC .non) tNil)))) tNext)
      (tSeq (tIfS (tTest (tOp rEq (tVar 0) (tC (.int 6)))) (tRet (tCall (sp_sounding S) [] E (tCons (tVar 1) (tCons (tC .non) tNil)))) tNext)
      (tSeq (tIfS (tTest (tOp rEq (tVar 0) (tC (.int 7)))) (tRet (tCall (sp_stretched S) [] E (tCons (tVar 1) (tCons (tC (.int 0)) tNil)))) tNext)
      (tSeq (tIfS (tTest (tOp rEq (tVar 0) (tC (.int 8)))) (tRet (tCall (sp_shrunk S) [] E (tCons (tVar 1) (tCons (tC (.int 0)) tNil)))) tNext)
      (tSeq (tIfS (tTest (tOp rEq (tVar 0) (tC (.int 9)))) (tRet (tCall (sp_moved S) [] E (tCons (tVar 1) (tCons (tC .non) (tCons (tC (.int 0)) tNil))))) tNext)
      (tRet (tCall (sp_entries_ofB S) [] E (tCons (tLst tNil) (tCons (tVar 1) tNil))))))))))))))

abbrev N_law_refused : List Str := ["_law_which", "_law_piece_here", "e"]
def t_law_refused (S : Ev) (E : XK) : TS :=
  (tSeq (fun D σ H => (fun W => (tDrop (tCallS (sp_law_asked S) (WE W) (tCons (tVar 0) (tCons (tVar 1) tNil))))) (wAs S.K (.ref S.cWeave) 2 (fun a cls d => (tSeq (tIfS (tOr (tB (tCB (rIsX S.K a cls d) (tCons (tVar 2) (tCons (tC (.ref S.cEntry)) tNil)))) (tOr (tB (tCB (rIsX S.K a cls d) (tCons (tVar 2) (tCons (tC (.ref S.cNumber)) tNil)))) (tOr (tB (tCB (rIsX S.K a cls d) (tCons (tVar 2) (tCons (tC (.ref S.cTheme)) tNil)))) (tB (tCB (rIsX S.K a cls d) (tCons (tVar 2) (tCons (tC (.ref S.cClash)) tNil))))))) (tRet (tC (.bl false))) tNext)
      (tSeq (tIfS (tOr (tB (tCB (rIsX S.K a cls d) (tCons (tVar 2) (tCons (tC (.ref S.cText)) tNil)))) (tOr (tB (tCB (rIsX S.K a cls d) (tCons (tVar 2) (tCons (tC (.ref S.cRange)) tNil)))) (tB (tCB (rIsX S.K a cls d) (tCons (tVar 2) (tCons (tC (.ref S.cUneven)) tNil)))))) (tRet (tC (.bl false))) tNext)
      (tRet (tAndV (tCB (rIsX S.K a cls d) (tCons (tVar 2) (tCons (tC (.ref S.cPiece)) tNil))) (tCB (rIsX S.K a cls d) (tCons (tVar 2) (tCons (tC (.ty "ValueError")) tNil)))))))) (fun _ _ _ _ => False) D) D σ H)
      (tRet (tC (.bl false))))

abbrev N_law : List Str := ["_law_script", "_law_piece_here", "_law_voice", "_law_handed", "_law_number", "_law_way", "_law_wrong", "_law_told", "_law_most", "_law_note", "_law_size"]
def t_law (S : Ev) (E : XK) : TS :=
  (tSeq (tAsg (tCall (sp_law_piece S) [] E0 (tCons (tVar 0) tNil)) (gName 1))
      (tSeq (tAsg (tLc (iList S.K (tVar 1)) (gName 2) tYes (tCB (kList S.K) (tCons (tVar 2) tNil)) [2]) (gName 3))
      (tSeq (tAsg (tOp kMod (tOp kAdd (tOp kAdd (tOp kMul (tCall (sp_law_at S) [] E0 (tCons (tVar 0) (tCons (tC (.int 0)) tNil))) (tC (.int 48271))) (tOp kMul (tCall (sp_law_at S) [] E0 (tCons (tVar 0) (tCons (tC (.int 1)) tNil))) (tC (.int 16807)))) (tCall (sp_law_at S) [] E0 (tCons (tVar 0) (tCons (tC (.int 2)) tNil)))) (tC (.int 1000003))) (gName 4))
      (tSeq (tAsg (tOp kMod (tVar 4) (tC (.int 5))) (gName 5))
      (tSeq (tIfS (tTest (tOp kLt (tVar 5) (tC (.int 4)))) (tSeq (tAsg (tCall (sp_law_spoilt S) [] E0 (tCons (tVar 1) (tCons (tVar 5) (tCons (tOp kDiv (tVar 4) (tC (.int 5))) tNil)))) (gName 6))
      (tIfS (tNot (tB (tCall (sp_law_is_piece S) [] E0 (tCons (tVar 6) tNil)))) (tRet (tAndV (tCall (sp_law_refused S) [] E0 (tCons (tOp kMod (tOp kDiv (tVar 4) (tC (.int 35))) (tC (.int 11))) (tCons (tVar 6) tNil))) (tOp (rEqD S.K) (tVar 1) (tVar 3)))) tNext)) tNext)
      (tSeq (tAsg (tCall (sp_good S) [] E0 (tCons (tVar 3) tNil)) (gName 7))
      (tSeq (tIfS (tOr (tNot (tB (tCB (rIsi S.K) (tCons (tVar 7) (tCons (tC (.ty "list")) tNil))))) (tOr (tTest (tOp (rNeD S.K) (tVar 7) (tVar 1))) (tNot (tB (tCall (sp_law_is_piece S) [] E0 (tCons (tVar 7) tNil)))))) (tRet (tC (.bl false))) tNext)
      (tSeq (tAsg (tC (.int 0)) (gName 8))
      (tSeq (tFor (iList S.K (tVar 1)) (gName 2) (tFor (iList S.K (tVar 2)) (gName 9) (tAsg (tCB kMax2 (tCons (tVar 8) (tCons (tOp kAdd (tOp (rIxT S.K) (tVar 9) (tC (.int 0))) (tOp (rIxT S.K) (tVar 9) (tC (.int 1)))) tNil))) (gName 8))))
      (tSeq (tAsg (tCall (sp_length S) [] E0 (tCons (tVar 3) tNil)) (gName 10))
      (tSeq (tFor (iList S.K (tVar 7)) (gName 2) (tDrop (tBM S.K "list" rAppend (tVar 2) (tCons (tTup (tCons (tC (.int 0)) (tCons (tC (.int 0)) (tCons (tC (.int 0)) tNil)))) tNil))))
      (tSeq (tDrop (tBM S.K "list" rAppend (tVar 7) (tCons (tLst tNil) tNil)))
      (tRet (tAndV (tCall (sp_law_whole S) [] E0 (tCons (tVar 10) tNil)) (tAndV (tOp rEq (tVar 10) (tVar 8)) (tAndV (tOp (rEqD S.K) (tVar 3) (tVar 1)) (tOp (rEqD S.K) (tCall (sp_good S) [] E0 (tCons (tVar 3) tNil)) (tVar 1))))))))))))))))))

abbrev N_faultsB : List Str := ["piece", "voices", "touches", "found", "place", "other", "voice"]
def t_faultsB (S : Ev) (E : XK) : TS :=
  (tSeq (tAsg (tCall (sp_good S) [] E (tCons (tVar 0) tNil)) (gName 1))
      (tSeq tNever
      (tSeq tNever
      (tSeq tNever
      tNever))))

abbrev N_writtenB : List Str := ["piece", "voice"]
def t_writtenB (S : Ev) (E : XK) : TS :=
  (tRet (tM1 (rJoin S.K) (tC (.str (PySem.Str.ofString "\n"))) (tLc (iList S.K (tCall (sp_good S) [] E (tCons (tVar 0) tNil))) (gName 1) tYes (fun _ _ _ => False) [1])))

abbrev N_entries_ofB : List Str := ["theme", "piece", "voices", "forms", "found", "place", "voice", "there", "way", "later", "higher"]
def t_entries_ofB (S : Ev) (E : XK) : TS :=
  (tSeq (tAsg (tCall (sp_good S) [] E (tCons (tVar 1) tNil)) (gName 2))
      (tSeq tNever
      (tSeq tNever
      (tSeq tNever
      tNever))))
end VW
set_option Elab.async false
set_option linter.all false
set_option maxRecDepth 100000
set_option maxHeartbeats 8000000
namespace VW
open PySem PySem.Spec PyProof.Rows L2 GxR

theorem ite_eq {i c : Int} {A B : Prop} (ha : i = c → A) (hb : i ≠ c → B) : if decide (V.int i = V.int c) = true then A else B := by
  by_cases h : i = c
  · rw [if_pos (decide_eq_true (congrArg V.int h))]; exact ha h
  · rw [if_neg (by rw [decide_eq_false (fun z => h (by injection z))]; decide)]; exact hb h
theorem bad_no {d : D} {pc : List (List Nt)} (h : isPiece d = false) (e : d = pieceD pc) (ok : okPiece pc = true) : False := by
  rw [e, isPiece_D, ok] at h
  cases h
theorem pure_law_asked (S : Ev) (vs : List V) (H : Hp) (Q : VK) (E : XK) (h : sp_law_asked S vs H Q E) : t_law_asked S E { nx := fun _ H' => Q .non H', rt := Q } (start N_law_asked vs) H := by
  obtain ⟨w, x, rfl⟩ := args2 (len_law_asked S vs H Q E h)
  obtain ⟨hT, i, d, rfl, hx, bad, q⟩ := h
  have two : ∀ {f okF} {y : V} {d1 : D}, At S.K H y d1 → spTwo S f okF [x, y] H Q E := fun {f okF y d1} hy =>
    ⟨hT, d, d1, hx, hy, fun pc _ e o => (bad_no bad e o).elim, fun pc _ e o => (bad_no bad e o).elim, fun (z : isPiece d = true) => absurd z (by rw [bad]; decide), fun _ => q⟩
  have tim : ∀ {f okF cls} {y : V} {d1 : D}, At S.K H y d1 → spTimes S f okF cls [x, y] H Q E := fun {f okF cls y d1} hy =>
    ⟨hT, d, d1, hx, hy, fun pc _ e o => (bad_no bad e o).elim, fun pc _ e o => (bad_no bad e o).elim, fun (z : isPiece d = true) => absurd z (by rw [bad]; decide), fun _ => q⟩
  refine ⟨.int i, rfl, rfl, _, rfl, ite_eq (fun _ => ⟨x, rfl, hT, d, hx, fun pc e o => (bad_no bad e o).elim, fun _ => q⟩) fun _ => ?_⟩
  refine ⟨.int i, rfl, rfl, _, rfl, ite_eq (fun _ => ⟨x, rfl, hT, d, hx, fun pc e o => (bad_no bad e o).elim, fun _ => q⟩) fun _ => ?_⟩
  refine ⟨.int i, rfl, rfl, _, rfl, ite_eq (fun _ => ⟨x, rfl, hT, d, hx, bad, q⟩) fun _ => ?_⟩
  refine ⟨.int i, rfl, rfl, _, rfl, ite_eq (fun _ => ⟨x, rfl, hT, d, hx, bad, q⟩) fun _ => ?_⟩
  refine ⟨.int i, rfl, rfl, _, rfl, ite_eq (fun _ => ⟨x, rfl, two .non⟩) fun _ => ?_⟩
  refine ⟨.int i, rfl, rfl, _, rfl, ite_eq (fun _ => ⟨x, rfl, two .non⟩) fun _ => ?_⟩
  refine ⟨.int i, rfl, rfl, _, rfl, ite_eq (fun _ => ⟨x, rfl, hT, d, .non, hx, .non, fun pc _ e o => (bad_no bad e o).elim, fun (z : isPiece d = true) => absurd z (by rw [bad]; decide), fun _ => q⟩) fun _ => ?_⟩
  refine ⟨.int i, rfl, rfl, _, rfl, ite_eq (fun _ => ⟨x, rfl, tim (.int 0)⟩) fun _ => ?_⟩
  refine ⟨.int i, rfl, rfl, _, rfl, ite_eq (fun _ => ⟨x, rfl, tim (.int 0)⟩) fun _ => ?_⟩
  refine ⟨.int i, rfl, rfl, _, rfl, ite_eq (fun _ => ⟨x, rfl, hT, d, .non, .int 0, hx, .non, .int 0, fun pc _ _ e o => (bad_no bad e o).elim, fun pc _ _ e o => (bad_no bad e o).elim, fun (z : isPiece d = true) => absurd z (by rw [bad]; decide), fun _ => q⟩) fun _ => ?_⟩
  refine ⟨Nat.zero_le _, fun l hl => ⟨x, rfl, ?_⟩⟩
  have x1 : Ext H (upd H l (.lst [])) := Ext.new hl
  exact ⟨x1.tabs hT, d, At.ext x1 _ _ hx, bad, fun H' x2 => q H' (x1.trans x2)⟩
theorem pure_law_refused (S : Ev) (vs : List V) (H : Hp) (Q : VK) (E : XK) (h : sp_law_refused S vs H Q E) : t_law_refused S E { nx := fun _ H' => Q .non H', rt := Q } (start N_law_refused vs) H := by
  obtain ⟨w, x, rfl⟩ := args2 (len_law_refused S vs H Q E h)
  obtain ⟨hT, k, i, d, rfl, hx, bad, q⟩ := h
  refine ⟨.int i, rfl, x, rfl, hT, i, d, rfl, hx, bad, fun H' x2 => ⟨true, k.exm, fun _ a ha => ?_, fun z => nomatch z⟩⟩
  have no : ∀ {C : Addr} {Q : VK}, PySem.W.kitOne S.K (.ref S.cPiece) (.ref C) = some false → Q (.bl false) H' → rIsX S.K a (.ref S.cPiece) none [.ref a, .ref C] H' Q := fun {C Q} hC q =>
    ⟨S.cPiece, rfl, rfl, k.cl, .ref C, .ref C, false, rfl, relRef, hC, q⟩
  refine ⟨_, rfl, no k.e ⟨_, rfl, iteF ?_⟩⟩
  refine ⟨_, rfl, no k.n ⟨_, rfl, iteF ?_⟩⟩
  refine ⟨_, rfl, no k.t ⟨_, rfl, iteF ?_⟩⟩
  refine ⟨_, rfl, no k.c ⟨_, rfl, iteF ?_⟩⟩
  refine ⟨_, rfl, no k.x ⟨_, rfl, iteF ?_⟩⟩
  refine ⟨_, rfl, no k.r ⟨_, rfl, iteF ?_⟩⟩
  refine ⟨_, rfl, no k.u ⟨_, rfl, iteF ?_⟩⟩
  refine ⟨_, rfl, S.cPiece, rfl, rfl, k.cl, .ref S.cPiece, .ref S.cPiece, true, rfl, relRef, k.p, true, rfl, iteT ?_⟩
  exact ⟨_, rfl, S.cPiece, rfl, rfl, k.cl, .ty "ValueError", .type "ValueError", true, rfl, relTy, k.val, q H' x2⟩
theorem pure_law_is_noteD (S : Ev) (vs : List V) (H : Hp) (Q : VK) (E : XK) (h : sp_law_is_noteD S vs H Q E) : t_law_is_noteD S E { nx := fun _ H' => Q .non H', rt := Q } (start N_law_is_noteD vs) H := by
  obtain ⟨x, rfl⟩ := args1 (len_law_is_noteD S vs H Q E h)
  obtain ⟨d, hx, q⟩ := h
  refine ⟨x, rfl, x, .ty "tuple", .type d.ty, .type "tuple", d.isTup, rfl, .ty _, hx.tyX, isi_tuple d, _, rfl, ?_⟩
  cases ht : d.isTup with
  | false =>
    refine iteT (iteT ?_)
    have e : isNote d = false := isNote_of fun a b c z => by rw [z] at ht; cases ht
    have := q H (Ext.refl H)
    rw [e] at this
    exact this
  | true =>
    refine iteF ?_
    obtain ⟨a, ts, ds, rfl, rfl, hS, hA⟩ : ∃ a ts ds, x = .ref a ∧ d = .tup ds ∧ SqT S.K H a ts ∧ AtAll S.K H ts ds := by
      cases hx with
      | tup hs ha => exact ⟨_, _, _, rfl, rfl, hs, ha⟩
      | non => cases ht
      | bl b => cases ht
      | int i => cases ht
      | str y => cases ht
      | lst _ _ => cases ht
      | dic _ => cases ht
    have hlen := hA.length
    refine ⟨.ref a, rfl, .ref a, ts.length, rfl, .inr ⟨ts, hS, rfl⟩, rfl, _, rfl, ?_⟩
    by_cases h3 : ts.length = 3
    · refine iteF' (by rw [h3]; rfl) ?_
      refine ⟨.ref a, rfl, a, rfl, ⟨ts, hS⟩, fun Dl hDl => ?_⟩
      refine lc_tup (xs := ts) (Pv := fun i H' => Ext H H' ∧ ∃ acc, H' Dl = some (.lst acc) ∧ acc.length ≤ i ∧ (acc.length = 0 ↔ (ds.take i).all D.whole = true)) ⟨Ext.new hDl, [], upd_same, Nat.le_refl _, by simp⟩ (fun i H' _ p => p.1.sqT hS) ?_ ?_
      · rintro i y H' hy ⟨x2, acc, eD, la, hacc⟩
        obtain ⟨dy, hdy, hAy⟩ := hA.get hy
        have hi : i < ts.length := (List.getElem?_eq_some_iff.mp hy).1
        refine ⟨rfl, y, rfl, dy, At.ext x2 _ _ hAy, _, rfl, ?_⟩
        cases hw : dy.whole with
        | true =>
          refine iteF ⟨x2, acc, eD, by omega, ?_⟩
          rw [hacc, take_one hdy, List.all_append]
          simp [hw]
        | false =>
          refine iteT ⟨y, rfl, acc, eD, Nat.lt_of_lt_of_le (by omega : _ < 1001) (by decide : 1001 ≤ sizeLine), x2.upd hDl, acc ++ [y], upd_same, by rw [List.length_append]; show acc.length + 1 ≤ _; omega, ?_⟩
          rw [List.length_append, take_one hdy, List.all_append]
          simp [hw]
      · rintro H' ⟨x2, acc, eD, la, hacc⟩
        rw [hlen, List.take_length] at hacc
        refine ⟨.ref Dl, acc.length, rfl, .inl ⟨acc, .of eD, rfl⟩, (acc.length : Int), 0, rfl, rfl, _, rfl, ?_⟩
        have q' := q H' x2
        by_cases z : acc.length = 0
        · refine iteF' (decide_eq_false (by omega)) ?_
          obtain ⟨s, l, pt, rfl⟩ := all_whole3 (by omega) (hacc.mp z)
          have ets : ts = [.int s, .int l, .int pt] := by
            cases hA with
            | cons k1 hr =>
              cases hr with
              | cons k2 hr =>
                cases hr with
                | cons k3 hr =>
                  cases hr
                  cases k1; cases k2; cases k3
                  rfl
          subst ets
          have hc := x2.sqT hS
          have eN : isNote (.tup [.int s, .int l, .int pt]) = (decide (0 ≤ s) && decide (1 ≤ l) && decide (s + l ≤ 100000) && decide (-200 ≤ pt) && decide (pt ≤ 200)) := rfl
          rw [eN] at q'
          refine ⟨_, rfl, a, _, 0, .int s, rfl, rfl, hc, rfl, s, 0, rfl, rfl, _, rfl, ?_⟩
          by_cases e1 : 0 ≤ s
          · rw [decide_eq_true e1] at q' ⊢
            refine iteT ⟨_, rfl, a, _, 1, .int l, rfl, rfl, hc, rfl, l, 1, rfl, rfl, _, rfl, ?_⟩
            by_cases e2 : 1 ≤ l
            · rw [decide_eq_true e2] at q' ⊢
              refine iteT ⟨_, rfl, a, _, 0, .int s, rfl, rfl, hc, rfl, _, rfl, a, _, 1, .int l, rfl, rfl, hc, rfl, s, l, rfl, rfl, _, 100000, rfl, rfl, _, rfl, ?_⟩
              by_cases e3 : s + l ≤ 100000
              · rw [decide_eq_true e3] at q' ⊢
                refine iteT ⟨200, rfl, _, rfl, a, _, 2, .int pt, rfl, rfl, hc, rfl, -200, pt, rfl, rfl, _, rfl, ?_⟩
                by_cases e4 : -200 ≤ pt
                · rw [decide_eq_true e4] at q' ⊢
                  exact iteT ⟨pt, 200, rfl, rfl, q'⟩
                · rw [decide_eq_false e4] at q' ⊢
                  exact iteF q'
              · rw [decide_eq_false e3] at q' ⊢
                exact iteF q'
            · rw [decide_eq_false e2] at q' ⊢
              exact iteF q'
          · rw [decide_eq_false e1] at q' ⊢
            exact iteF q'
        · refine iteT' (decide_eq_true (by omega)) ?_
          have e : isNote (.tup ds) = false := isNote_of fun a b c w => by
            injection w with w
            exact z (hacc.mpr (by rw [w]; rfl))
          rw [e] at q'
          exact q'
    · have hne : ¬ (V.int (ts.length : Int)) = V.int 3 := fun z => h3 (by injection z with z; omega)
      refine iteT' (by rw [decide_eq_false hne]; rfl) ?_
      have e : isNote (.tup ds) = false := isNote_of fun a b c z => by
        injection z with z
        rw [z] at hlen
        exact h3 (by rw [hlen]; rfl)
      have := q H (Ext.refl H)
      rw [e] at this
      exact this
end VW
set_option Elab.async false
set_option linter.all false
set_option maxRecDepth 100000
set_option maxHeartbeats 8000000
namespace VW
open PySem PySem.Spec PyProof.Rows L2 GxR

/-- turns over a list, whatever is done in a turn -/
theorem turns_list {K : PySem.W.Frag} {a : Addr} {xs : List V} {H0 : Hp} {Qd : Hp → Prop} {B : V → Hp → (Hp → Prop) → Prop} (Pv : Nat → Hp → Prop) (h0 : Pv 0 H0) (hl : ∀ i H, Pv i H → SqL K H a xs)
    (hs : ∀ i x H, xs[i]? = some x → Pv i H → B x H (Pv (i + 1))) (hd : ∀ H, Pv xs.length H → Qd H) :
    ∃ W : Nat → Nat → Hp → Prop, (∃ m, W 0 m H0) ∧ ∀ i m H, W i m H → ((Itl K a).stop i H ∧ Qd H) ∨ ((Itl K a).go i H ∧ ∃ Nx : Hp → Prop, (∀ H', Nx H' → ∃ m', m' < m ∧ W (i + 1) m' H') ∧ ∀ x H', (Itl K a).yld i H x H' → B x H' Nx) := by
  refine ⟨fun i m H => (i ≤ xs.length ∧ m + i = xs.length) ∧ Pv i H, ⟨xs.length, ⟨Nat.zero_le _, rfl⟩, h0⟩, ?_⟩
  rintro i m H ⟨⟨hi, hm⟩, p⟩
  have hS := hl i H p
  have w := walk_list (K := K) (a := a) (xs := xs)
  by_cases c : i < xs.length
  · refine .inr ⟨w.goes i H c hS, Pv (i + 1), fun H' p' => ⟨m - 1, by omega, ⟨by omega, by omega⟩, p'⟩, fun x H' y => ?_⟩
    obtain ⟨e1, e2⟩ := w.yields i H x H' c hS y
    subst e1
    exact hs i x _ e2 p
  · have e : i = xs.length := by omega
    subst e
    exact .inl ⟨w.stops H hS, hd H p⟩
theorem endsOf_snoc (pc : List (List Nt)) (v : List Nt) : endsOf (pc ++ [v]) = endsOf pc ++ v.map fun n => n.1 + n.2.1 := by
  unfold endsOf
  rw [List.flatMap_append]
  simp
theorem foldl_max_0 (n : Int) (r : List Int) (h : 0 ≤ n) : (n :: r).foldl max 0 = r.foldl max n := by
  rw [List.foldl_cons]
  have : max 0 n = n := by omega
  rw [this]
theorem pure_length (S : Ev) (vs : List V) (H : Hp) (Q : VK) (E : XK) (h : sp_length S vs H Q E) : t_length S E { nx := fun _ H' => Q .non H', rt := Q } (start N_length vs) H := by
  obtain ⟨x, rfl⟩ := args1 (len_length S vs H Q E h)
  obtain ⟨hT, d, hx, q1, q2⟩ := h
  refine ⟨x, rfl, hT, d, hx, fun pc ed ok H1 p x1 n1 => ?_, fun bad H' x' => q2 bad H' x'⟩
  obtain ⟨pa, xs, e, hS, hA⟩ := At.piece n1.piece
  cases e
  have hl := hA.length
  rw [List.length_map] at hl
  refine ⟨p, rfl, ⟨_, hS⟩, fun D hD => ?_⟩
  refine turns_list (xs := xs) (fun i H' => Ext H1 H' ∧ H' D = some (.lst ((endsOf (pc.take i)).map V.int)) ∧ (endsOf (pc.take i)).length ≤ 200000 * i) ⟨Ext.new hD, upd_same, Nat.zero_le _⟩ (fun i H' p => p.1.sqL hS) ?_ ?_
  · rintro i y H2 hy ⟨x2, eD, le⟩
    obtain ⟨dy, hdy, hAy⟩ := hA.get hy
    rw [List.getElem?_map] at hdy
    cases hv : pc[i]? with
    | none => rw [hv] at hdy; cases hdy
    | some v =>
      rw [hv] at hdy
      cases hdy
      have hi : i < pc.length := (List.getElem?_eq_some_iff.mp hv).1
      have hp := okPiece_len ok
      have vl := okPiece_voice ok (List.mem_of_getElem? hv)
      obtain ⟨b, ys, rfl, hb, hB⟩ := At.list hAy
      have hlb := hB.length
      rw [List.length_map] at hlb
      refine ⟨rfl, .ref b, rfl, b, rfl, ⟨_, x2.sqL hb⟩, ?_⟩
      refine turns_list (xs := ys) (fun j H' => Ext H1 H' ∧ H' D = some (.lst ((endsOf (pc.take i) ++ (v.take j).map fun n => n.1 + n.2.1).map V.int))) ⟨x2, by rw [eD]; simp⟩ (fun j H' p => p.1.sqL hb) ?_ ?_
      · rintro j z H3 hz ⟨x3, eD3⟩
        obtain ⟨dz, hdz, hAz⟩ := hB.get hz
        rw [List.getElem?_map] at hdz
        cases hn : v[j]? with
        | none => rw [hn] at hdz; cases hdz
        | some n =>
          rw [hn] at hdz
          cases hdz
          have hj : j < v.length := (List.getElem?_eq_some_iff.mp hn).1
          obtain ⟨c, rfl, hc⟩ := (At.ext x3 _ _ hAz).note
          refine ⟨rfl, _, rfl, c, n.1, n.2.1, .int n.2.2, rfl, hc, _, eD3, ?_, x3.upd hD, ?_⟩
          · rw [List.length_map, List.length_append, List.length_map, List.length_take]
            exact Nat.lt_of_lt_of_le (by omega : _ < 2000001) (by decide : 2000001 ≤ sizeLine)
          · rw [upd_same, take_one hn, List.map_append, List.map_append, List.map_append, List.map_append, ← List.append_assoc]
            rfl
      · rintro H3 ⟨x3, eD3⟩
        rw [hlb, List.take_length] at eD3
        refine ⟨x3, ?_, ?_⟩
        · rw [take_one hv, endsOf_snoc]
          exact eD3
        · rw [take_one hv, endsOf_snoc, List.length_append, List.length_map]
          omega
  · rintro H2 ⟨x2, eD, _⟩
    rw [hl, List.take_length] at eD
    have x12 := x1.trans x2
    have qq := q1 pc ed ok H2 x12
    unfold lenOf at qq
    refine ⟨D, endsOf pc, 0, rfl, rfl, .of eD, fun e => ?_, fun n r e => ?_⟩
    · rw [e] at qq
      exact qq
    · rw [e, foldl_max_0 n r ?_] at qq
      · exact qq
      · have hn : n ∈ endsOf pc := by rw [e]; exact List.mem_cons_self
        unfold endsOf at hn
        obtain ⟨v, hv, hm⟩ := List.mem_flatMap.mp hn
        obtain ⟨m, hm2, rfl⟩ := List.mem_map.mp hm
        have := okPiece_note ok hv hm2
        unfold okNote at this
        simp only [Bool.and_eq_true, decide_eq_true_eq] at this
        omega
end VW
set_option Elab.async false
set_option linter.all false
set_option maxRecDepth 100000
set_option maxHeartbeats 8000000
namespace VW
open PySem PySem.Spec PyProof.Rows L2 GxR

theorem pure_law_is_piece (S : Ev) (vs : List V) (H : Hp) (Q : VK) (E : XK) (h : sp_law_is_piece S vs H Q E) : t_law_is_piece S E { nx := fun _ H' => Q .non H', rt := Q } (start N_law_is_piece vs) H := by
  obtain ⟨x, rfl⟩ := args1 (len_law_is_piece S vs H Q E h)
  obtain ⟨d, hx, q⟩ := h
  refine ⟨x, rfl, x, .ty "list", .type d.ty, .type "list", d.isLst, rfl, .ty _, hx.tyX, isi_list d, _, rfl, ?_⟩
  cases ht : d.isLst with
  | false =>
    refine iteT (iteT ?_)
    have e : isPiece d = false := by cases d <;> first | rfl | cases ht
    have := q H (Ext.refl H)
    rw [e] at this
    exact this
  | true =>
    refine iteF ?_
    obtain ⟨a, xs, ds, rfl, rfl, hS, hA⟩ := hx.isLst ht
    have hlen := hA.length
    have eP : isPiece (.lst ds) = (decide (1 ≤ ds.length) && decide (ds.length ≤ 6) && ds.all isVoice) := rfl
    refine ⟨_, rfl, .ref a, xs.length, rfl, .inl ⟨xs, hS, rfl⟩, 1, xs.length, rfl, rfl, _, rfl, ?_⟩
    by_cases h1 : 1 ≤ xs.length
    · rw [decide_eq_true (show (1 : Int) ≤ (xs.length : Int) by omega)]
      refine iteT ⟨xs.length, 6, rfl, rfl, _, rfl, ?_⟩
      by_cases h6 : xs.length ≤ 6
      · rw [decide_eq_true (show (xs.length : Int) ≤ 6 by omega)]
        refine iteF ?_
        -- for each voice
        refine ⟨.ref a, rfl, a, rfl, ⟨_, hS⟩, for_list (K := S.K) (a := a) (xs := xs) (fun i σ H' => ∃ y1 y2 y3, σ = [some (.ref a), y1, y2, y3] ∧ Ext H H' ∧ (ds.take i).all isVoice = true) ⟨_, _, _, rfl, Ext.refl H, by simp⟩ (fun i σ H' _ ⟨_, _, _, _, x, _⟩ => x.sqL hS) ?_ ?_⟩
        · rintro i y σ H1 hy ⟨y1, y2, y3, rfl, x1, all⟩
          obtain ⟨dy, hdy, hAy⟩ := hA.get hy
          have hAy1 := At.ext x1 _ _ hAy
          have no : ∀ {H' : Hp}, Ext H H' → isVoice dy = false → Q (.bl false) H' := fun {H'} x' hv => by
            have := q H' x'
            rw [eP, not_all hdy hv, Bool.and_false] at this
            exact this
          refine ⟨y, rfl, y, .ty "list", .type dy.ty, .type "list", dy.isLst, rfl, .ty _, hAy1.tyX, isi_list dy, _, rfl, ?_⟩
          cases hl : dy.isLst with
          | false => exact iteT (no x1 (by cases dy <;> first | rfl | cases hl))
          | true =>
            refine iteF ?_
            obtain ⟨b, ys, es, rfl, rfl, hb, hB⟩ := hAy.isLst hl
            have hlb := hB.length
            refine ⟨.ref b, rfl, b, rfl, ⟨_, x1.sqL hb⟩, for_list (K := S.K) (a := b) (xs := ys) (fun j σ H' => ∃ e y3, σ = [some (.ref a), some (.ref b), some (.int e), y3] ∧ Ext H H' ∧ voiceFrom 0 es = voiceFrom e (es.drop j)) ⟨0, _, rfl, x1, rfl⟩ (fun j σ H' _ ⟨_, _, _, x, _⟩ => x.sqL hb) ?_ ?_⟩
            · rintro j z σ H2 hz ⟨e, y3, rfl, x2, eq⟩
              obtain ⟨dz, hdz, hAz⟩ := hB.get hz
              rw [drop_at hdz] at eq
              refine ⟨z, rfl, dz, At.ext x2 _ _ hAz, fun H3 x3 => ⟨_, rfl, ?_⟩⟩
              have x23 := x2.trans x3
              cases hn : isNote dz with
              | false =>
                refine iteT (iteT (no x23 ?_))
                show voiceFrom 0 es = false
                rw [eq, voiceFrom_bad hn]
              | true =>
                refine iteF ?_
                obtain ⟨n, e1, ok⟩ := isNote_some hn
                have ed := asNote_some e1
                subst ed
                obtain ⟨c, rfl, hc⟩ := (At.ext x23 _ _ hAz).note
                rw [voiceFrom_cons e1, ok, Bool.true_and] at eq
                refine ⟨_, rfl, c, _, 0, .int n.1, rfl, rfl, hc, rfl, .int e, rfl, n.1, e, rfl, rfl, _, rfl, ?_⟩
                by_cases c1 : n.1 < e
                · rw [decide_eq_true c1]
                  refine iteT (no x23 ?_)
                  show voiceFrom 0 es = false
                  rw [eq, decide_eq_false (by omega), Bool.false_and]
                · rw [decide_eq_false c1]
                  rw [decide_eq_true (by omega), Bool.true_and] at eq
                  exact iteF ⟨_, rfl, c, _, 0, .int n.1, rfl, rfl, hc, rfl, _, rfl, c, _, 1, .int n.2.1, rfl, rfl, hc, rfl, n.1, n.2.1, rfl, rfl, _, _, rfl, x23, eq⟩
            · rintro σ H2 ⟨e, y3, rfl, x2, eq⟩
              rw [hlb, List.drop_length] at eq
              refine ⟨_, _, _, rfl, x2, take_all all hdy ?_⟩
              exact eq
        · rintro σ H1 ⟨y1, y2, y3, rfl, x1, all⟩
          rw [hlen, List.take_length] at all
          have := q H1 x1
          rw [eP, all, decide_eq_true (by omega), decide_eq_true (by omega)] at this
          exact this
      · rw [decide_eq_false (show ¬ (xs.length : Int) ≤ 6 by omega)]
        refine iteT ?_
        have := q H (Ext.refl H)
        rw [eP, decide_eq_false (show ¬ ds.length ≤ 6 by omega), Bool.and_false, Bool.false_and] at this
        exact this
    · rw [decide_eq_false (show ¬ (1 : Int) ≤ (xs.length : Int) by omega)]
      refine iteF ⟨_, rfl, ?_⟩
      refine iteT ?_
      have := q H (Ext.refl H)
      rw [eP, decide_eq_false (show ¬ 1 ≤ ds.length by omega), Bool.false_and, Bool.false_and] at this
      exact this
end VW
set_option Elab.async false
set_option linter.all false
set_option maxRecDepth 100000
set_option maxHeartbeats 8000000
namespace VW
open PySem PySem.Spec PyProof.Rows L2 GxR

theorem cutV_to {xs : List V} {k : Nat} (hi : k ≤ xs.length) : cutV xs none (some (k : Int)) = xs.take k := by
  unfold cutV
  rw [HT.sIx_none, HT.sIx_nat, List.drop_zero, Nat.sub_zero, Nat.min_eq_left hi]
theorem cutV_from {xs : List V} {k : Nat} (hi : k ≤ xs.length) : cutV xs (some (k : Int)) none = xs.drop k := by
  unfold cutV
  rw [HT.sIx_none, HT.sIx_nat, Nat.min_eq_left hi]
  exact List.take_of_length_le (by rw [List.length_drop]; exact Nat.le_refl _)
theorem AtAll.take {K : PySem.W.Frag} {H : Hp} : ∀ {vs : List V} {ds : List D} (k : Nat), AtAll K H vs ds → AtAll K H (vs.take k) (ds.take k)
  | _, _, 0, _ => .nil
  | _, _, k + 1, .nil => .nil
  | _, _, k + 1, .cons h t => .cons h (AtAll.take k t)
theorem AtAll.drop {K : PySem.W.Frag} {H : Hp} : ∀ {vs : List V} {ds : List D} (k : Nat), AtAll K H vs ds → AtAll K H (vs.drop k) (ds.drop k)
  | _, _, 0, h => h
  | _, _, k + 1, .nil => .nil
  | _, _, k + 1, .cons h t => AtAll.drop k t
/-- xs[:i] + [u] + xs[i + 1:] -/
def t_splice (S : Ev) (la lb lc : Nat) : TE := (tOp rCat (tOp rCat (tSl (rSlL S.K) (tVar la) tNoPart (tPart (tVar lb))) (tLst (tCons (tVar lc) tNil))) (tSl (rSlL S.K) (tVar la) (tPart (tOp kAdd (tVar lb) (tC (.int 1)))) tNoPart))
theorem read_splice (S : Ev) {la lb lc : Nat} {σ : L2.St} {l : Addr} {u : V} {i : Nat} {xs : List V} {ds : List D} {d : D} {H : Hp} {Q : VK} (ha : σ[la]? = some (some (.ref l))) (hb : σ[lb]? = some (some (.int i))) (hc : σ[lc]? = some (some u)) (hS : SqL S.K H l xs) (hA : AtAll S.K H xs ds) (hu : At S.K H u d) (hi : i < xs.length) (hz : xs.length ≤ 1000)
    (k : ∀ r H' ws, Ext H H' → H' r = some (.lst ws) → AtAll S.K H' ws (ds.take i ++ [d] ++ ds.drop (i + 1)) → Q (.ref r) H') : t_splice S la lb lc σ H Q := by
  refine ⟨.ref l, ha, .int i, hb, i, rfl, l, xs, rfl, hS, fun s1 hs1 => ?_⟩
  rw [cutV_to (by omega)]
  have x1 : Ext H (upd H s1 (.lst (xs.take i))) := Ext.new hs1
  have f1 : upd H s1 (.lst (xs.take i)) s1 = some (.lst (xs.take i)) := upd_same
  generalize upd H s1 (.lst (xs.take i)) = H1 at *
  refine ⟨u, hc, (by decide : 1 ≤ sizeLine), fun s2 hs2 => ?_⟩
  have x2 : Ext H1 (upd H1 s2 (.lst [u])) := Ext.new hs2
  have f2 : upd H1 s2 (.lst [u]) s2 = some (.lst [u]) := upd_same
  generalize upd H1 s2 (.lst [u]) = H2 at *
  refine ⟨s1, s2, _, _, rfl, rfl, x2.lst f1, f2, ?_, fun s3 hs3 => ?_⟩
  · rw [List.length_take]
    exact Nat.le_trans (by show min i xs.length + 1 ≤ 2000; omega) (by decide : 2000 ≤ sizeLine)
  have x3 : Ext H2 (upd H2 s3 (.lst (xs.take i ++ [u]))) := Ext.new hs3
  have f3 : upd H2 s3 (.lst (xs.take i ++ [u])) s3 = some (.lst (xs.take i ++ [u])) := upd_same
  generalize upd H2 s3 (.lst (xs.take i ++ [u])) = H3 at *
  have x13 := x1.trans (x2.trans x3)
  refine ⟨.ref l, ha, .int i, hb, i, 1, rfl, rfl, ((i + 1 : Nat) : Int), rfl, l, xs, rfl, x13.sqL hS, fun s4 hs4 => ?_⟩
  rw [cutV_from (by omega)]
  have x4 : Ext H3 (upd H3 s4 (.lst (xs.drop (i + 1)))) := Ext.new hs4
  have f4 : upd H3 s4 (.lst (xs.drop (i + 1))) s4 = some (.lst (xs.drop (i + 1))) := upd_same
  generalize upd H3 s4 (.lst (xs.drop (i + 1))) = H4 at *
  refine ⟨s3, s4, _, _, rfl, rfl, x4.lst f3, f4, ?_, fun s5 hs5 => ?_⟩
  · rw [List.length_append, List.length_take, List.length_drop]
    exact Nat.le_trans (by show min i xs.length + 1 + (xs.length - (i + 1)) ≤ 2000; omega) (by decide : 2000 ≤ sizeLine)
  have x15 : Ext H _ := x13.trans (x4.trans (Ext.new hs5 (o := .lst (xs.take i ++ [u] ++ xs.drop (i + 1)))))
  exact k s5 _ _ x15 upd_same (AtAll.append (AtAll.append ((AtAll.ext x15 _ _ hA).take i) (.cons (At.ext x15 _ _ hu) .nil)) ((AtAll.ext x15 _ _ hA).drop (i + 1)))
/-- a note in the place of another, within its time -/
theorem okFrom_put {v : List Nt} {j : Nat} {n n' : Nt} (hv : v[j]? = some n) (ok : okFrom 0 v = true) (h1 : okNote n' = true) (h2 : n.1 ≤ n'.1) (h3 : n'.1 + n'.2.1 ≤ n.1 + n.2.1) : okFrom 0 (v.take j ++ [n'] ++ v.drop (j + 1)) = true := by
  obtain ⟨a1, a2, a3⟩ := (okFrom_iff v 0).mp ok
  have hj : j < v.length := (List.getElem?_eq_some_iff.mp hv).1
  have ev : v = v.take j ++ n :: v.drop (j + 1) := by
    have e1 : v[j] = n := (List.getElem?_eq_some_iff.mp hv).2
    have e2 : v.drop j = n :: v.drop (j + 1) := by rw [List.drop_eq_getElem_cons hj, e1]
    rw [← e2, List.take_append_drop]
  have mt : ∀ m, m ∈ v.take j → m ∈ v := fun m hm => List.mem_of_mem_take hm
  have mdr : ∀ m, m ∈ v.drop (j + 1) → m ∈ v := fun m hm => List.mem_of_mem_drop hm
  rw [ev, List.pairwise_append, List.pairwise_cons] at a3
  obtain ⟨b1, ⟨b2, b3⟩, b4⟩ := a3
  refine (okFrom_iff _ 0).mpr ⟨fun m hm => ?_, fun m hm => ?_, ?_⟩
  · rcases List.mem_append.mp hm with q | q
    · rcases List.mem_append.mp q with q | q
      · exact a1 m (mt m q)
      · rw [List.mem_singleton.mp q]; exact h1
    · exact a1 m (mdr m q)
  · rcases List.mem_append.mp hm with q | q
    · rcases List.mem_append.mp q with q | q
      · exact a2 m (mt m q)
      · rw [List.mem_singleton.mp q]; exact okNote_0 h1
    · exact a2 m (mdr m q)
  · rw [List.append_assoc, List.pairwise_append]
    refine ⟨b1, List.pairwise_cons.mpr ⟨fun m hm => ?_, b3⟩, fun m hm m' hm' => ?_⟩
    · have := b2 m hm
      omega
    · have hm2 : m' = n' ∨ m' ∈ v.drop (j + 1) := by
        rcases List.mem_cons.mp hm' with z | z
        · exact .inl z
        · exact .inr z
      rcases hm2 with z | z
      · rw [z]
        have := b4 m hm n List.mem_cons_self
        omega
      · exact b4 m hm m' (List.mem_cons_of_mem _ z)
theorem okPiece_put {pc : List (List Nt)} {i : Nat} {v v' : List Nt} (hv : pc[i]? = some v) (ok : okPiece pc = true) (h : okFrom 0 v' = true) : okPiece (pc.take i ++ [v'] ++ pc.drop (i + 1)) = true := by
  obtain ⟨a1, a2⟩ := okPiece_iff.mp ok
  have hi : i < pc.length := (List.getElem?_eq_some_iff.mp hv).1
  refine okPiece_iff.mpr ⟨?_, fun u hu => ?_⟩
  · rw [List.length_append, List.length_append, List.length_take, List.length_drop]
    show 1 ≤ min i pc.length + 1 + (pc.length - (i + 1)) ∧ min i pc.length + 1 + (pc.length - (i + 1)) ≤ 6
    omega
  · rcases List.mem_append.mp hu with q | q
    · rcases List.mem_append.mp q with q | q
      · exact a2 u (List.mem_of_mem_take q)
      · rw [List.mem_singleton.mp q]; exact h
    · exact a2 u (List.mem_of_mem_drop q)
theorem small_put {pc : List (List Nt)} {i : Nat} {v v' : List Nt} (hv : pc[i]? = some v) (sm : small pc) (h : v'.length ≤ 63) : small (pc.take i ++ [v'] ++ pc.drop (i + 1)) := by
  have hi : i < pc.length := (List.getElem?_eq_some_iff.mp hv).1
  have s6 := sm.1
  refine ⟨?_, fun u hu => ?_⟩
  · rw [List.length_append, List.length_append, List.length_take, List.length_drop]
    show min i pc.length + 1 + (pc.length - (i + 1)) ≤ 6
    omega
  · rcases List.mem_append.mp hu with q | q
    · rcases List.mem_append.mp q with q | q
      · exact sm.2 u (List.mem_of_mem_take q)
      · rw [List.mem_singleton.mp q]; exact h
    · exact sm.2 u (List.mem_of_mem_drop q)
theorem AtAll.nth {K : PySem.W.Frag} {H : Hp} {vs : List V} {ds : List D} {i : Nat} (h : AtAll K H vs ds) (hi : i < vs.length) : ∃ v d, vs[i]? = some v ∧ ds[i]? = some d ∧ At K H v d := by
  obtain ⟨d, hd, a⟩ := h.get (List.getElem?_eq_getElem hi)
  exact ⟨_, d, List.getElem?_eq_getElem hi, hd, a⟩
end VW
set_option Elab.async false
set_option linter.all false
set_option maxRecDepth 100000
set_option maxHeartbeats 8000000
namespace VW
open PySem PySem.Spec PyProof.Rows L2 GxR

theorem at_mem (L : List V) (n : Int) {m : Int} (hm : m = L.length) (h : 0 < L.length) : ∃ v, atI L (n.fmod m) = some v ∧ v ∈ L := by
  have hz := md n (m := m) (by omega)
  generalize n.fmod m = z at hz
  have hk : z.toNat < L.length := by omega
  exact ⟨_, atI_of hz.1 (List.getElem?_eq_getElem hk), List.getElem_mem hk⟩
/-- some data -/
def Has (K : PySem.W.Frag) (H : Hp) (v : V) : Prop := ∃ d, At K H v d
theorem Has.ext {K : PySem.W.Frag} {H H' : Hp} {v : V} (x : Ext H H') (h : Has K H v) : Has K H' v := let ⟨d, a⟩ := h; ⟨d, At.ext x _ _ a⟩
theorem Has.int {K : PySem.W.Frag} {H : Hp} (i : Int) : Has K H (.int i) := ⟨_, .int i⟩
theorem slA_any {K : PySem.W.Frag} {H : Hp} {a : Addr} {xs : List V} {ds : List D} {lo hi : Option Int} {Q : VK} (hS : SqT K H a xs) (hA : AtAll K H xs ds) (k : ∀ p H' ys es, Ext H H' → SqT K H' p ys → AtAll K H' ys es → ys.length ≤ xs.length → Q (.ref p) H') : rSlA K (.ref a) lo hi H Q := by
  refine ⟨a, xs, rfl, hS, fun _ => k a H xs ds (Ext.refl H) hS hA (Nat.le_refl _), fun _ p hp => ?_⟩
  have x1 : Ext H (upd H p (.tup (cutV xs lo hi))) := Ext.new hp
  refine k p _ (cutV xs lo hi) ((ds.drop (HT.sIx xs.length 0 lo)).take (HT.sIx xs.length xs.length hi - HT.sIx xs.length 0 lo)) x1 (.inl (.inl upd_same)) ?_ (cutV_length xs lo hi)
  unfold cutV
  exact ((AtAll.ext x1 _ _ hA).drop _).take _
theorem catA_any {K : PySem.W.Frag} {H : Hp} {a b : Addr} {xs ys : List V} {ds es : List D} {Q : VK} (hS : SqT K H a xs) (hA : AtAll K H xs ds) (hT : SqT K H b ys) (hB : AtAll K H ys es) (hz : xs.length + ys.length ≤ 1000) (k : ∀ p H' zs fs, Ext H H' → SqT K H' p zs → AtAll K H' zs fs → zs.length ≤ xs.length + ys.length → Q (.ref p) H') : rCatA K (.ref a) (.ref b) H Q := by
  refine ⟨a, b, xs, ys, rfl, rfl, hS, hT, Nat.le_trans hz (by decide), fun _ => k b H ys es (Ext.refl H) hT hB (by omega), fun _ _ => k a H xs ds (Ext.refl H) hS hA (by omega), fun _ _ p hp => ?_⟩
  have x1 : Ext H (upd H p (.tup (xs ++ ys))) := Ext.new hp
  exact k p _ (xs ++ ys) (ds ++ es) x1 (.inl (.inl upd_same)) (AtAll.append (AtAll.ext x1 _ _ hA) (AtAll.ext x1 _ _ hB)) (by rw [List.length_append]; exact Nat.le_refl _)
theorem ite_dec {P : Prop} [Decidable P] {A B : Prop} (ha : P → A) (hb : ¬ P → B) : if decide P = true then A else B := by
  by_cases h : P
  · rw [if_pos (decide_eq_true h)]; exact ha h
  · rw [if_neg (by rw [decide_eq_false h]; decide)]; exact hb h
theorem CPow10 (k : Int) (h0 : 0 ≤ k) (h : k ≤ 1000) : CPow 10 k := ⟨h0, by omega, by decide⟩
theorem pure_law_odd_note (S : Ev) (vs : List V) (H : Hp) (Q : VK) (E : XK) (h : sp_law_odd_note S vs H Q E) : t_law_odd_note S E { nx := fun _ H' => Q .non H', rt := Q } (start N_law_odd_note vs) H := by
  obtain ⟨x, y, rfl⟩ := args2 (len_law_odd_note S vs H Q E h)
  obtain ⟨n, k, hx, rfl, q⟩ := h
  obtain ⟨c, rfl, hc⟩ := hx.note
  have hAc : AtAll S.K H [.int n.1, .int n.2.1, .int n.2.2] [.int n.1, .int n.2.1, .int n.2.2] := .cons (.int _) (.cons (.int _) (.cons (.int _) .nil))
  have q' : ∀ {v : V} {H' : Hp}, Ext H H' → Has S.K H' v → Q v H' := fun {v H'} x h => let ⟨d, a⟩ := h; q v d H' x a
  refine ⟨.int k, rfl, k, rfl, _, 16, rfl, rfl, cdv _ _ (by decide) (by decide), ?_⟩
  refine ⟨.int k, rfl, k, 16, rfl, rfl, (by decide : (16 : Int) ≠ 0), _, 6, rfl, rfl, _, rfl, ite_dec (fun _ => ?_) fun _ => ?_⟩
  · refine ⟨.int k, rfl, k, 3, rfl, rfl, (by decide : (3 : Int) ≠ 0), ?_⟩
    refine ⟨1, rfl, .int _, rfl, _, _, rfl, rfl, .int _, rfl, 0, _, rfl, rfl, .int _, rfl, 201, _, rfl, rfl, (by decide : 3 ≤ sizeLine), fun b1 hb1 => ?_⟩
    obtain ⟨lo, elo⟩ := at_int3 (-1 - (if k < 0 then -k else k).fdiv 16) (0 - (if k < 0 then -k else k).fdiv 16) (201 + (if k < 0 then -k else k).fdiv 16) k
    refine ⟨.int (k.fmod 3), rfl, b1, _, _, .int lo, rfl, rfl, .of upd_same, elo, ?_⟩
    have x1 : Ext H (upd H b1 (.lst [.int (-1 - (if k < 0 then -k else k).fdiv 16), .int (0 - (if k < 0 then -k else k).fdiv 16), .int (201 + (if k < 0 then -k else k).fdiv 16)])) := Ext.new hb1
    refine ⟨201, rfl, .int _, rfl, _, _, rfl, rfl, (by decide : 3 ≤ sizeLine), fun b2 hb2 => ?_⟩
    obtain ⟨hi, ehi⟩ := at_int3 100000 100001 (-201 - (if k < 0 then -k else k).fdiv 16) k
    refine ⟨.int (k.fmod 3), rfl, b2, _, _, .int hi, rfl, rfl, .of upd_same, ehi, ?_⟩
    have x2 := x1.trans (Ext.new hb2 (o := .lst [.int 100000, .int 100001, .int (-201 - (if k < 0 then -k else k).fdiv 16)]))
    refine ⟨.int lo, rfl, .int hi, rfl, 10, 9, rfl, rfl, CPow10 9 (by decide) (by decide), (by decide : 1 ≤ sizeLine), fun b3 hb3 b4 hb4 => ⟨(by decide : 9 ≤ sizeLine), fun b5 hb5 => ?_⟩⟩
    have x3 := x2.trans (Ext.new hb3 (o := .lst [.int 1]))
    have e3 : upd (upd (upd H b1 (.lst [.int (-1 - (if k < 0 then -k else k).fdiv 16), .int (0 - (if k < 0 then -k else k).fdiv 16), .int (201 + (if k < 0 then -k else k).fdiv 16)])) b2 (.lst [.int 100000, .int 100001, .int (-201 - (if k < 0 then -k else k).fdiv 16)])) b3 (.lst [.int 1]) b3 = some (.lst [.int 1]) := upd_same
    generalize upd (upd (upd H b1 (.lst [.int (-1 - (if k < 0 then -k else k).fdiv 16), .int (0 - (if k < 0 then -k else k).fdiv 16), .int (201 + (if k < 0 then -k else k).fdiv 16)])) b2 (.lst [.int 100000, .int 100001, .int (-201 - (if k < 0 then -k else k).fdiv 16)])) b3 (.lst [.int 1]) = H3 at *
    have x4 : Ext H3 (upd H3 b4 (.dK [])) := Ext.new hb4
    have e4 : upd H3 b4 (.dK []) b4 = some (.dK []) := upd_same
    generalize upd H3 b4 (.dK []) = H4 at *
    have x5 : Ext H4 (upd H4 b5 (.lst [.bl true, .non, .str (PySem.Str.ofString "1"), .int lo, .int hi, .int (10 ^ (9 : Int).toNat), .ref b3, .ref b4, .bl false])) := Ext.new hb5
    have e5 : upd H4 b5 (.lst [.bl true, .non, .str (PySem.Str.ofString "1"), .int lo, .int hi, .int (10 ^ (9 : Int).toNat), .ref b3, .ref b4, .bl false]) b5 = some (.lst [.bl true, .non, .str (PySem.Str.ofString "1"), .int lo, .int hi, .int (10 ^ (9 : Int).toNat), .ref b3, .ref b4, .bl false]) := upd_same
    obtain ⟨v, ev, hv⟩ := at_mem [.bl true, .non, .str (PySem.Str.ofString "1"), .int lo, .int hi, .int (10 ^ (9 : Int).toNat), .ref b3, .ref b4, .bl false] ((if k < 0 then -k else k).fdiv 16) (m := 9) rfl (by simp)
    generalize upd H4 b5 (.lst [.bl true, .non, .str (PySem.Str.ofString "1"), .int lo, .int hi, .int (10 ^ (9 : Int).toNat), .ref b3, .ref b4, .bl false]) = H5 at *
    refine ⟨.int _, rfl, _, 9, rfl, rfl, (by decide : (9 : Int) ≠ 0), b5, _, _, v, rfl, rfl, .of e5, ev, ?_⟩
    have hd : Has S.K H5 v := by
      simp only [List.mem_cons, List.mem_nil_iff, or_false] at hv
      rcases hv with e | e | e | e | e | e | e | e | e <;> subst e
      · exact ⟨_, .bl _⟩
      · exact ⟨_, .non⟩
      · exact ⟨_, .str _⟩
      · exact .int _
      · exact .int _
      · exact .int _
      · exact ⟨.lst [.int 1], .lst (.of ((x4.trans x5).lst e3)) (.cons (.int _) .nil)⟩
      · exact ⟨.dic, .dic (x5.keep e4 fun _ z => by cases z)⟩
      · exact ⟨_, .bl _⟩
    obtain ⟨dv, hdv⟩ := hd
    have x05 := x3.trans (x4.trans x5)
    refine ⟨.ref c, rfl, .int (k.fmod 3), rfl, k.fmod 3, rfl, slA_any (x05.sqT hc) (AtAll.ext x05 _ _ hAc) fun p1 H6 ys es x6 hp1 hE1 l1 => ?_⟩
    refine ⟨v, rfl, (by decide : 1 ≤ sizeLine), fun p2 hp2 => ?_⟩
    have x7 : Ext H6 (upd H6 p2 (.tup [v])) := Ext.new hp2
    have l1' : ys.length ≤ 3 := l1
    refine catA_any (x7.sqT hp1) (AtAll.ext x7 _ _ hE1) (.inl (.inl upd_same)) (.cons (At.ext (x6.trans x7) _ _ hdv) .nil) (by show ys.length + 1 ≤ 1000; omega) fun p3 H8 zs fs x8 hp3 hE3 l3 => ?_
    have l3' : zs.length ≤ ys.length + 1 := l3
    have x58 := x6.trans (x7.trans x8)
    have x08 := x05.trans x58
    refine ⟨.ref c, rfl, .int (k.fmod 3), rfl, k.fmod 3, 1, rfl, rfl, _, rfl, ?_⟩
    unfold tNoPart
    refine slA_any (x08.sqT hc) (AtAll.ext x08 _ _ hAc) fun p4 H9 ws gs x9 hp4 hE4 l4 => ?_
    have l4' : ws.length ≤ 3 := l4
    exact catA_any (x9.sqT hp3) (AtAll.ext x9 _ _ hE3) hp4 hE4 (by omega) fun p5 H10 us hs x10 hp5 hE5 _ => q' (x08.trans (x9.trans x10)) ⟨_, .tup hp5 hE5⟩
  refine ⟨.int k, rfl, k, 16, rfl, rfl, (by decide : (16 : Int) ≠ 0), _, 9, rfl, rfl, _, rfl, ite_dec (fun _ => ?_) fun _ => ?_⟩
  · refine ⟨.ref c, rfl, c, _, rfl, .inr hc, fun l hl => ?_⟩
    have x1 : Ext H (upd H l (.lst [.int n.1, .int n.2.1, .int n.2.2])) := Ext.new hl
    have e1 : upd H l (.lst [.int n.1, .int n.2.1, .int n.2.2]) l = some (.lst [.int n.1, .int n.2.1, .int n.2.2]) := upd_same
    generalize upd H l (.lst [.int n.1, .int n.2.1, .int n.2.2]) = H1 at *
    refine ⟨.ref c, rfl, 2, rfl, slA_any (x1.sqT hc) (AtAll.ext x1 _ _ hAc) fun p1 H2 ys es x2 hp1 hE1 _ => ?_⟩
    have x12 := x1.trans x2
    refine ⟨.ref c, rfl, (by decide : 1 ≤ sizeLine), fun p2 hp2 => ?_⟩
    have x3 : Ext H2 (upd H2 p2 (.tup [.int 0])) := Ext.new hp2
    have x13 := x12.trans x3
    refine catA_any (x13.sqT hc) (AtAll.ext x13 _ _ hAc) (.inl (.inl upd_same)) (.cons (.int _) .nil) (by show 3 + 1 ≤ 1000; decide) fun p3 H4 zs fs x4 hp3 hE3 _ => ?_
    refine ⟨(by decide : 3 ≤ sizeLine), fun b hb => ?_⟩
    have x5 : Ext H4 (upd H4 b (.lst [.ref l, .ref p1, .ref p3])) := Ext.new hb
    obtain ⟨v, ev, hv⟩ := at_mem [.ref l, .ref p1, .ref p3] k (m := 3) rfl (by simp)
    refine ⟨.int k, rfl, k, 3, rfl, rfl, (by decide : (3 : Int) ≠ 0), b, _, _, v, rfl, rfl, .of upd_same, ev, ?_⟩
    refine q' (x13.trans (x4.trans x5)) ?_
    simp only [List.mem_cons, List.mem_nil_iff, or_false] at hv
    rcases hv with e | e | e <;> subst e
    · exact ⟨_, .lst (.of ((x2.trans (x3.trans (x4.trans x5))).lst e1)) (.cons (.int _) (.cons (.int _) (.cons (.int _) .nil)))⟩
    · exact ⟨_, .tup ((x3.trans (x4.trans x5)).sqT hp1) (AtAll.ext (x3.trans (x4.trans x5)) _ _ hE1)⟩
    · exact ⟨_, .tup (x5.sqT hp3) (AtAll.ext x5 _ _ hE3)⟩
  refine ⟨.int k, rfl, k, 16, rfl, rfl, (by decide : (16 : Int) ≠ 0), _, 11, rfl, rfl, _, rfl, ite_dec (fun _ => ?_) fun _ => ?_⟩
  · refine ⟨(by decide : 2 ≤ sizeLine), fun b hb => ?_⟩
    obtain ⟨v, ev, hv⟩ := at_mem [.non, .str (PySem.Str.ofString "0 1 0")] k (m := 2) rfl (by simp)
    refine ⟨.int k, rfl, k, 2, rfl, rfl, (by decide : (2 : Int) ≠ 0), b, _, _, v, rfl, rfl, .of upd_same, ev, ?_⟩
    refine q' (Ext.new hb) ?_
    simp only [List.mem_cons, List.mem_nil_iff, or_false] at hv
    rcases hv with e | e <;> subst e
    · exact ⟨_, .non⟩
    · exact ⟨_, .str _⟩
  refine ⟨.int k, rfl, k, 16, rfl, rfl, (by decide : (16 : Int) ≠ 0), _, 14, rfl, rfl, _, rfl, ite_dec (fun _ => ?_) fun _ => ?_⟩
  · have m3 := md ((if k < 0 then -k else k).fdiv 16) (m := 3) (by decide)
    refine ⟨_, rfl, c, _, 0, .int n.1, rfl, rfl, hc, rfl, _, 1, rfl, rfl, .int _, rfl, _, 3, rfl, rfl, (by decide : (3 : Int) ≠ 0), .int k, rfl, k, 16, rfl, rfl, (by decide : (16 : Int) ≠ 0), rfl, .inr ⟨_, rfl, _, _, rfl, rfl, cmulL _ _ ⟨m3.1, by omega⟩, _, _, rfl, rfl, ?_⟩⟩
    refine ⟨_, rfl, c, _, 1, .int n.2.1, rfl, rfl, hc, rfl, _, rfl, c, _, 2, .int n.2.2, rfl, rfl, hc, rfl, (by decide : 3 ≤ sizeLine), fun p hp => ?_⟩
    exact q' (Ext.new hp) ⟨_, .tup (.inl (.inl upd_same)) (.cons (.int _) (.cons (.int _) (.cons (.int _) .nil)))⟩
  · refine ⟨_, rfl, c, _, 1, .int n.2.1, rfl, rfl, hc, rfl, 100000, _, rfl, rfl, .int _, rfl, _, 2, rfl, rfl, (by decide : (2 : Int) ≠ 0), _, _, rfl, rfl, _, rfl, c, _, 1, .int n.2.1, rfl, rfl, hc, rfl, _, rfl, c, _, 2, .int n.2.2, rfl, rfl, hc, rfl, (by decide : 3 ≤ sizeLine), fun p hp => ?_⟩
    obtain ⟨z, ez⟩ : ∃ z : Int, 100000 - n.2.1 + ((if k < 0 then -k else k).fdiv 16).fmod 2 = z := ⟨_, rfl⟩
    have x1 : Ext H (upd H p (.tup [.int (100000 - n.2.1 + ((if k < 0 then -k else k).fdiv 16).fmod 2), .int n.2.1, .int n.2.2])) := Ext.new hp
    have e1 : upd H p (.tup [.int (100000 - n.2.1 + ((if k < 0 then -k else k).fdiv 16).fmod 2), .int n.2.1, .int n.2.2]) p = some (.tup [.int (100000 - n.2.1 + ((if k < 0 then -k else k).fdiv 16).fmod 2), .int n.2.1, .int n.2.2]) := upd_same
    refine ⟨Nat.zero_le _, fun p2 hp2 => ⟨(by decide : 2 ≤ sizeLine), fun b hb => ?_⟩⟩
    have x2 : Ext _ (upd (upd H p (.tup [.int (100000 - n.2.1 + ((if k < 0 then -k else k).fdiv 16).fmod 2), .int n.2.1, .int n.2.2])) p2 (.tup [])) := Ext.new hp2
    have e2 : upd (upd H p (.tup [.int (100000 - n.2.1 + ((if k < 0 then -k else k).fdiv 16).fmod 2), .int n.2.1, .int n.2.2])) p2 (.tup []) p2 = some (.tup []) := upd_same
    have x3 : Ext _ (upd (upd (upd H p (.tup [.int (100000 - n.2.1 + ((if k < 0 then -k else k).fdiv 16).fmod 2), .int n.2.1, .int n.2.2])) p2 (.tup [])) b (.lst [.ref p, .ref p2])) := Ext.new hb
    obtain ⟨v, ev, hv⟩ := at_mem [.ref p, .ref p2] k (m := 2) rfl (by simp)
    refine ⟨.int k, rfl, k, 2, rfl, rfl, (by decide : (2 : Int) ≠ 0), b, _, _, v, rfl, rfl, .of upd_same, ev, ?_⟩
    refine q' (x1.trans (x2.trans x3)) ?_
    simp only [List.mem_cons, List.mem_nil_iff, or_false] at hv
    rcases hv with e | e <;> subst e
    · exact ⟨_, .tup (.inl (.inl ((x2.trans x3).tup e1))) (.cons (.int _) (.cons (.int _) (.cons (.int _) .nil)))⟩
    · exact ⟨_, .tup (.inl (.inl (x3.tup e2))) .nil⟩
end VW
set_option Elab.async false
set_option linter.all false
set_option maxRecDepth 100000
set_option maxHeartbeats 8000000
namespace VW
open PySem PySem.Spec PyProof.Rows L2 GxR

/-- what is no list of voices -/
def tz_none (S : Ev) : TS := (tRet (tOp (rIxL S.K) (tLst (tCons (tCB (kTuple S.K) (tCons (tVar 0) tNil)) (tCons (tLst tNil) (tCons (tOp rRep (tLst (tCons (tLst tNil) tNil)) (tC (.int 7))) (tCons (tC .non) (tCons (tC (.str (PySem.Str.ofString ""))) (tCons (tC (.int 7)) (tCons (tDisp [((tC (.int 0)), (tLst tNil))]) (tCons (tTup (tCons (tVar 0) tNil)) tNil))))))))) (tOp kMod (tVar 4) (tC (.int 8)))))
theorem read_none (S : Ev) {p : Addr} {w k at_ more : Int} {y5 : Option V} {ds : List D} {xs : List V} {H : Hp} {D : Ends} (hS : SqL S.K H p xs) (hA : AtAll S.K H xs ds) (q : ∀ v H', Ext H H' → Has S.K H' v → D.rt v H') :
    tz_none S D [some (.ref p), some (.int w), some (.int k), some (.int at_), some (.int more), y5, none, none, none] H := by
  refine ⟨.ref p, rfl, p, xs, rfl, .inl ⟨hS, fun l1 h1 => ?_⟩⟩
  have x1 : Ext H (upd H l1 (.tup xs)) := Ext.new h1
  have e1 : upd H l1 (.tup xs) l1 = some (.tup xs) := upd_same
  generalize upd H l1 (.tup xs) = H1 at *
  refine ⟨Nat.zero_le _, fun l2 h2 => ?_⟩
  have x2 : Ext H1 (upd H1 l2 (.lst [])) := Ext.new h2
  have e2 : upd H1 l2 (.lst []) l2 = some (.lst []) := upd_same
  generalize upd H1 l2 (.lst []) = H2 at *
  refine ⟨Nat.zero_le _, fun l3 h3 => ?_⟩
  have x3 : Ext H2 (upd H2 l3 (.lst [])) := Ext.new h3
  have e3 : upd H2 l3 (.lst []) l3 = some (.lst []) := upd_same
  generalize upd H2 l3 (.lst []) = H3 at *
  refine ⟨(by decide : 1 ≤ sizeLine), fun l4 h4 => ?_⟩
  have x4 : Ext H3 (upd H3 l4 (.lst [.ref l3])) := Ext.new h4
  have e4 : upd H3 l4 (.lst [.ref l3]) l4 = some (.lst [.ref l3]) := upd_same
  generalize upd H3 l4 (.lst [.ref l3]) = H4 at *
  refine ⟨l4, 7, [.ref l3], rfl, rfl, e4, by decide, by decide, (by decide : 7 ≤ sizeLine), fun l5 h5 => ?_⟩
  have x5 : Ext H4 (upd H4 l5 (.lst (List.replicate (7 : Int).toNat [V.ref l3]).flatten)) := Ext.new h5
  have e5 : upd H4 l5 (.lst (List.replicate (7 : Int).toNat [V.ref l3]).flatten) l5 = some (.lst [.ref l3, .ref l3, .ref l3, .ref l3, .ref l3, .ref l3, .ref l3]) := upd_same
  generalize upd H4 l5 (.lst (List.replicate (7 : Int).toNat [V.ref l3]).flatten) = H5 at *
  refine fun l6 h6 => ⟨Nat.zero_le _, fun l7 h7 => ⟨?_, [(Sum.inl 0, .ref l7)], rfl, by simp, ?_⟩⟩
  · have n67 : l6 ≠ l7 := fun z => by rw [← z, upd_same] at h7; cases h7
    rw [upd_ne n67, upd_same]
  have x6 : Ext H5 (upd (upd (upd H5 l6 (.dK [])) l7 (.lst [])) l6 (.dK (mergeK [] [(Sum.inl 0, V.ref l7)]))) := ((Ext.new h6).trans (Ext.new h7)).upd h6
  have e6 : upd (upd (upd H5 l6 (.dK [])) l7 (.lst [])) l6 (.dK (mergeK [] [(Sum.inl 0, V.ref l7)])) l6 = some (.dK (mergeK [] [(Sum.inl 0, V.ref l7)])) := upd_same
  generalize upd (upd (upd H5 l6 (.dK [])) l7 (.lst [])) l6 (.dK (mergeK [] [(Sum.inl 0, V.ref l7)])) = H6 at *
  refine ⟨.ref p, rfl, (by decide : 1 ≤ sizeLine), fun l8 h8 => ⟨(by decide : 8 ≤ sizeLine), fun b hb => ?_⟩⟩
  have x8 : Ext H6 (upd H6 l8 (.tup [.ref p])) := Ext.new h8
  have e8 : upd H6 l8 (.tup [.ref p]) l8 = some (.tup [.ref p]) := upd_same
  generalize upd H6 l8 (.tup [.ref p]) = H8 at *
  have x9 : Ext H8 (upd H8 b (.lst [.ref l1, .ref l2, .ref l5, .non, .str (PySem.Str.ofString ""), .int 7, .ref l6, .ref l8])) := Ext.new hb
  obtain ⟨v, ev, hv⟩ := at_mem [.ref l1, .ref l2, .ref l5, .non, .str (PySem.Str.ofString ""), .int 7, .ref l6, .ref l8] more (m := 8) rfl (by simp)
  refine ⟨.int more, rfl, more, 8, rfl, rfl, (by decide : (8 : Int) ≠ 0), b, _, _, v, rfl, rfl, .of upd_same, ev, ?_⟩
  have y8 := x8.trans x9
  have y6 := x6.trans y8
  have y5 := x5.trans y6
  have y4 := x4.trans y5
  have y3 := x3.trans y4
  have y2 := x2.trans y3
  refine q v _ (x1.trans y2) ?_
  simp only [List.mem_cons, List.mem_nil_iff, or_false] at hv
  rcases hv with e | e | e | e | e | e | e | e <;> subst e
  · exact ⟨_, .tup (.inl (.inl (y2.tup e1))) (AtAll.ext (x1.trans y2) _ _ hA)⟩
  · exact ⟨_, .lst (.of (y3.lst e2)) .nil⟩
  · have a3 := At.lst (K := S.K) (.of (y4.lst e3)) .nil
    exact ⟨_, .lst (.of (y6.lst e5)) (.cons a3 (.cons a3 (.cons a3 (.cons a3 (.cons a3 (.cons a3 (.cons a3 .nil)))))))⟩
  · exact ⟨_, .non⟩
  · exact ⟨_, .str _⟩
  · exact .int _
  · exact ⟨.dic, .dic (y8.keep e6 fun _ z => by cases z)⟩
  · exact ⟨_, .tup (.inl (.inl (x9.tup e8))) (.cons (.lst ((x1.trans y2).sqL hS) (AtAll.ext (x1.trans y2) _ _ hA)) .nil)⟩
/-- what is no voice -/
def tz_odd (S : Ev) : TE := (tOp (rIxL S.K) (tLst (tCons (tCB (kTuple S.K) (tCons (tVar 5) tNil)) (tCons (tC .non) (tCons (tC (.str (PySem.Str.ofString ""))) (tCons (tC (.int 3)) (tCons (tLst (tCons (tLst tNil) tNil)) tNil)))))) (tOp kMod (tVar 4) (tC (.int 5))))
theorem read_oddv (S : Ev) {p b : Addr} {w k at_ more : Int} {ds : List D} {ys : List V} {H : Hp} {Q : VK} (hb : SqL S.K H b ys) (hB : AtAll S.K H ys ds) (q : ∀ v H', Ext H H' → Has S.K H' v → Q v H') :
    tz_odd S [some (.ref p), some (.int w), some (.int k), some (.int at_), some (.int more), some (.ref b), none, none, none] H Q := by
  refine ⟨.ref b, rfl, b, ys, rfl, .inl ⟨hb, fun l1 h1 => ?_⟩⟩
  have x1 : Ext H (upd H l1 (.tup ys)) := Ext.new h1
  have e1 : upd H l1 (.tup ys) l1 = some (.tup ys) := upd_same
  generalize upd H l1 (.tup ys) = H1 at *
  refine ⟨Nat.zero_le _, fun l2 h2 => ?_⟩
  have x2 : Ext H1 (upd H1 l2 (.lst [])) := Ext.new h2
  have e2 : upd H1 l2 (.lst []) l2 = some (.lst []) := upd_same
  generalize upd H1 l2 (.lst []) = H2 at *
  refine ⟨(by decide : 1 ≤ sizeLine), fun l3 h3 => ⟨(by decide : 5 ≤ sizeLine), fun c hc => ?_⟩⟩
  have x3 : Ext H2 (upd H2 l3 (.lst [.ref l2])) := Ext.new h3
  have e3 : upd H2 l3 (.lst [.ref l2]) l3 = some (.lst [.ref l2]) := upd_same
  generalize upd H2 l3 (.lst [.ref l2]) = H3 at *
  have x4 : Ext H3 (upd H3 c (.lst [.ref l1, .non, .str (PySem.Str.ofString ""), .int 3, .ref l3])) := Ext.new hc
  obtain ⟨v, ev, hv⟩ := at_mem [.ref l1, .non, .str (PySem.Str.ofString ""), .int 3, .ref l3] more (m := 5) rfl (by simp)
  refine ⟨.int more, rfl, more, 5, rfl, rfl, (by decide : (5 : Int) ≠ 0), c, _, _, v, rfl, rfl, .of upd_same, ev, ?_⟩
  have y3 := x3.trans x4
  have y2 := x2.trans y3
  refine q v _ (x1.trans y2) ?_
  simp only [List.mem_cons, List.mem_nil_iff, or_false] at hv
  rcases hv with e | e | e | e | e <;> subst e
  · exact ⟨_, .tup (.inl (.inl (y2.tup e1))) (AtAll.ext (x1.trans y2) _ _ hB)⟩
  · exact ⟨_, .non⟩
  · exact ⟨_, .str _⟩
  · exact .int _
  · exact ⟨_, .lst (.of (x4.lst e3)) (.cons (.lst (.of (y3.lst e2)) .nil) .nil)⟩
def tz_rest (S : Ev) : TS := (tSeq (tIfS (tOr (tTest (tOp rEq (tVar 1) (tC (.int 1)))) (tTest (tOp (rEqD S.K) (tVar 5) (tLst tNil)))) (tSeq (tAsg (tz_odd S) (gName 6)) (tRet (t_splice S 0 3 6))) tNext)
      (tSeq (tAsg (tOp kMod (tVar 4) (tCB (kLen S.K) (tCons (tVar 5) tNil))) (gName 7))
      (tSeq (tAsg (tCall (sp_law_odd_note S) [] E0 (tCons (tOp (rIxL S.K) (tVar 5) (tVar 7)) (tCons (tOp kDiv (tVar 4) (tCB (kLen S.K) (tCons (tVar 5) tNil))) tNil))) (gName 8))
      (tSeq (tAsg (t_splice S 5 7 8) (gName 5))
      (tRet (t_splice S 0 3 5))))))
theorem read_rest (S : Ev) {p b : Addr} {w k more : Int} {i : Nat} {pc : List (List Nt)} {v : List Nt} {xs ys : List V} {H : Hp} {Q : VK} (hS : SqL S.K H p xs) (hA : AtAll S.K H xs (pc.map voiceD)) (hb : SqL S.K H b ys) (hB : AtAll S.K H ys (v.map noteD)) (hi : i < xs.length) (hx6 : xs.length ≤ 6) (v63 : v.length ≤ 63)
    (q' : ∀ (v : V) (H' : Hp), Ext H H' → Has S.K H' v → Q v H') :
    tz_rest S { nx := fun _ H' => Q .non H', rt := Q } [some (.ref p), some (.int w), some (.int k), some (.int i), some (.int more), some (.ref b), none, none, none] H := by
  have hlb := hB.length
  rw [List.length_map] at hlb
  have bad : ∀ H1, Ext H H1 → (tSeq (tAsg (tz_odd S) (gName 6)) (tRet (t_splice S 0 3 6))) { nx := fun _ H' => Q .non H', rt := Q } [some (.ref p), some (.int w), some (.int k), some (.int i), some (.int more), some (.ref b), none, none, none] H1 := by
    intro H1 x1
    refine read_oddv S (p := p) (w := w) (k := k) (at_ := i) (x1.sqL hb) (AtAll.ext x1 _ _ hB) fun u H2 x2 hu => ?_
    obtain ⟨du, hdu⟩ := hu
    have x12 := x1.trans x2
    refine read_splice S (la := 0) (lb := 3) (lc := 6) rfl rfl rfl (x12.sqL hS) (AtAll.ext x12 _ _ hA) hdu hi (by omega) fun r H3 ws x3 er hW => ?_
    exact q' _ _ (x12.trans x3) ⟨_, .lst (.of er) hW⟩
  refine ⟨.int w, rfl, rfl, _, rfl, ite_eq (fun _ => iteT (bad H (Ext.refl H))) fun _ => ?_⟩
  refine ⟨.ref b, rfl, Nat.zero_le _, fun e he => ?_⟩
  have x1 : Ext H (upd H e (.lst [])) := Ext.new he
  refine eqD_nil (notes_flats v) (by decide) (.lst (x1.sqL hb) (AtAll.ext x1 _ _ hB)) (.lst (.of upd_same) .nil) ⟨_, rfl, ?_⟩
  generalize upd H e (.lst []) = H1 at *
  rcases v with _ | ⟨n0, vr⟩
  · exact iteT (bad H1 x1)
  refine iteF ?_
  have hb1 := x1.sqL hb
  have hB1 := AtAll.ext x1 _ _ hB
  have hyl : 0 < ys.length := by rw [hlb]; simp
  have mj := md more (m := (ys.length : Int)) (by omega)
  obtain ⟨j, ej⟩ : ∃ j : Nat, more.fmod (ys.length : Int) = j := ⟨(more.fmod (ys.length : Int)).toNat, by omega⟩
  have hj : j < ys.length := by omega
  obtain ⟨yv, dn, f1, f2, hyv⟩ := hB1.nth hj
  rw [List.getElem?_map] at f2
  cases hn : (n0 :: vr)[j]? with
  | none => rw [hn] at f2; cases f2
  | some n =>
    rw [hn] at f2
    cases f2
    refine ⟨.int more, rfl, .ref b, rfl, .ref b, ys.length, rfl, .inl ⟨_, hb1, rfl⟩, more, ys.length, rfl, rfl, (by show (ys.length : Int) ≠ 0; omega), ?_⟩
    refine ⟨.ref b, rfl, .int (more.fmod (ys.length : Int)), rfl, b, ys, more.fmod (ys.length : Int), yv, rfl, rfl, hb1, atI_of mj.1 (by rw [ej]; exact f1), .int more, rfl, .ref b, rfl, .ref b, ys.length, rfl, .inl ⟨_, hb1, rfl⟩, more, ys.length, rfl, rfl, cdv _ _ (by omega) (by omega), n, _, hyv, rfl, fun u du H2 x2 hu => ?_⟩
    have x12 := x1.trans x2
    refine read_splice S (la := 5) (lb := 7) (lc := 8) (i := j) rfl (by rw [← ej]; rfl) rfl (x2.sqL hb1) (AtAll.ext x2 _ _ hB1) hu hj (by omega) fun r H3 ws x3 er hW => ?_
    have x13 := x12.trans x3
    refine read_splice S (la := 0) (lb := 3) (lc := 5) (i := i) rfl rfl rfl (x13.sqL hS) (AtAll.ext x13 _ _ hA) (.lst (.of er) hW) hi (by omega) fun r2 H4 zs x4 er2 hZ => ?_
    exact q' _ _ (x13.trans x4) ⟨_, .lst (.of er2) hZ⟩
theorem pure_law_spoilt (S : Ev) (vs : List V) (H : Hp) (Q : VK) (E : XK) (h : sp_law_spoilt S vs H Q E) : t_law_spoilt S E { nx := fun _ H' => Q .non H', rt := Q } (start N_law_spoilt vs) H := by
  obtain ⟨x, y, z, rfl⟩ := args3 (len_law_spoilt S vs H Q E h)
  obtain ⟨pc, w, k, hx, ok, sm, rfl, rfl, q⟩ := h
  have q' : ∀ (v : V) (H' : Hp), Ext H H' → Has S.K H' v → Q v H' := fun v H' x h => let ⟨d, a⟩ := h; q v d H' x a
  obtain ⟨p, xs, rfl, hS, hA⟩ := At.piece hx
  have hl := hA.length
  rw [List.length_map] at hl
  have hp := okPiece_len ok
  have mi := md k (m := (xs.length : Int)) (by omega)
  obtain ⟨i, ei⟩ : ∃ i : Nat, k.fmod (xs.length : Int) = i := ⟨(k.fmod (xs.length : Int)).toNat, by omega⟩
  have hi : i < xs.length := by omega
  obtain ⟨xv, dv, e1, e2, hxv⟩ := hA.nth hi
  rw [List.getElem?_map] at e2
  cases hv : pc[i]? with
  | none => rw [hv] at e2; cases e2
  | some v =>
    rw [hv] at e2
    cases e2
    have v63 := sm.2 v (List.mem_of_getElem? hv)
    obtain ⟨b, ys, rfl, hb, hB⟩ := At.list hxv
    have hlb := hB.length
    rw [List.length_map] at hlb
    refine ⟨.int k, rfl, .ref p, rfl, .ref p, xs.length, rfl, .inl ⟨_, hS, rfl⟩, k, xs.length, rfl, rfl, (by show (xs.length : Int) ≠ 0; omega), ?_⟩
    refine ⟨.int k, rfl, .ref p, rfl, .ref p, xs.length, rfl, .inl ⟨_, hS, rfl⟩, k, xs.length, rfl, rfl, cdv _ _ (by omega) (by omega), ?_⟩
    refine ⟨.ref p, rfl, .int (k.fmod (xs.length : Int)), rfl, p, xs, k.fmod (xs.length : Int), .ref b, rfl, rfl, hS, atI_of mi.1 (by rw [ei]; exact e1), ?_⟩
    refine ⟨.int w, rfl, rfl, _, rfl, ite_eq (fun _ => ?_) fun _ => ?_⟩
    · exact read_none S (w := w) (k := k) (at_ := k.fmod (xs.length : Int)) (more := k.fdiv (xs.length : Int)) hS hA q'
    have fin := read_rest S (w := w) (k := k) (more := k.fdiv (xs.length : Int)) (i := i) hS hA hb hB hi (by omega) v63 q'
    rw [← ei] at fin
    exact fin
end VW
set_option Elab.async false
set_option linter.all false
set_option maxRecDepth 100000
set_option maxHeartbeats 8000000
namespace VW
open PySem PySem.Spec PyProof.Rows L2 GxR

theorem max2 (i j : Int) : (if j > i then j else i) = max i j := by
  by_cases h : j > i
  · rw [if_pos h]; omega
  · rw [if_neg h]; omega
def Sk (a p hd : Addr) (n w : Int) (y2 y6 y7 y8 y9 y10 : Option V) : L2.St := [some (.ref a), some (.ref p), y2, some (.ref hd), some (.int n), some (.int w), y6, y7, y8, y9, y10]
def tk_most (S : Ev) : TS := (tFor (iList S.K (tVar 1)) (gName 2) (tFor (iList S.K (tVar 2)) (gName 9) (tAsg (tCB kMax2 (tCons (tVar 8) (tCons (tOp kAdd (tOp (rIxT S.K) (tVar 9) (tC (.int 0))) (tOp (rIxT S.K) (tVar 9) (tC (.int 1)))) tNil))) (gName 8))))
theorem read_most (S : Ev) {a p hd : Addr} {n w : Int} {y2 y6 y7 : Option V} {pc : List (List Nt)} {H : Hp} {D : Ends} (hP : At S.K H (.ref p) (pieceD pc))
    (k : ∀ y2 y9, D.nx (Sk a p hd n w y2 y6 y7 (some (.int (lenOf pc))) y9 none) H) : tk_most S D (Sk a p hd n w y2 y6 y7 (some (.int 0)) none none) H := by
  obtain ⟨pa, xs, e, hS, hA⟩ := At.piece hP
  cases e
  have hl := hA.length
  rw [List.length_map] at hl
  refine ⟨.ref p, rfl, p, rfl, ⟨_, hS⟩, for_list (K := S.K) (a := p) (xs := xs) (fun i σ H' => ∃ (y2 y9 : Option V), σ = Sk a p hd n w y2 y6 y7 (some (.int ((endsOf (pc.take i)).foldl max 0))) y9 none ∧ H' = H) ⟨_, _, rfl, rfl⟩ (fun i σ H' _ ⟨_, _, _, e⟩ => by rw [e]; exact hS) ?_ (fun σ H' ⟨y2, y9, e1, e2⟩ => by
    rw [hl, List.take_length] at e1
    rw [e1, e2]
    exact k y2 y9)⟩
  rintro i y σ H' hy ⟨y2, y9, rfl, rfl⟩
  obtain ⟨dy, hdy, hAy⟩ := hA.get hy
  rw [List.getElem?_map] at hdy
  cases hv : pc[i]? with
  | none => rw [hv] at hdy; cases hdy
  | some v =>
    rw [hv] at hdy
    cases hdy
    obtain ⟨b, ys, rfl, hb, hB⟩ := At.list hAy
    have hlb := hB.length
    rw [List.length_map] at hlb
    refine ⟨.ref b, rfl, b, rfl, ⟨_, hb⟩, for_list (K := S.K) (a := b) (xs := ys) (fun j σ H1 => ∃ y9, σ = Sk a p hd n w (some (.ref b)) y6 y7 (some (.int ((endsOf (pc.take i) ++ (v.take j).map fun n => n.1 + n.2.1).foldl max 0))) y9 none ∧ H1 = H') ⟨_, by rw [List.take_zero, List.map_nil, List.append_nil]; rfl, rfl⟩ (fun j σ H1 _ ⟨_, _, e⟩ => by rw [e]; exact hb) ?_ (fun σ H1 ⟨y9, e1, e2⟩ => by
      rw [hlb, List.take_length] at e1
      refine ⟨some (.ref b), y9, ?_, e2⟩
      rw [take_one hv, endsOf_snoc]
      exact e1)⟩
    rintro j z σ H1 hz ⟨y9, rfl, rfl⟩
    obtain ⟨dz, hdz, hAz⟩ := hB.get hz
    rw [List.getElem?_map] at hdz
    cases hn : v[j]? with
    | none => rw [hn] at hdz; cases hdz
    | some m =>
      rw [hn] at hdz
      cases hdz
      obtain ⟨c, rfl, hc⟩ := hAz.note
      refine ⟨.int _, rfl, _, rfl, c, _, 0, .int m.1, rfl, rfl, hc, rfl, _, rfl, c, _, 1, .int m.2.1, rfl, rfl, hc, rfl, m.1, m.2.1, rfl, rfl, _, m.1 + m.2.1, rfl, ?_⟩
      rw [max2]
      refine ⟨some (.ref c), ?_, rfl⟩
      have ef : (endsOf (pc.take i) ++ (v.take (j + 1)).map fun n => n.1 + n.2.1).foldl max 0 = max ((endsOf (pc.take i) ++ (v.take j).map fun n => n.1 + n.2.1).foldl max 0) (m.1 + m.2.1) := by
        rw [take_one hn, List.map_append, ← List.append_assoc, List.foldl_append]
        rfl
      rw [ef]
      rfl
def tk_app (S : Ev) : TS := (tFor (iList S.K (tVar 7)) (gName 2) (tDrop (tBM S.K "list" rAppend (tVar 2) (tCons (tTup (tCons (tC (.int 0)) (tCons (tC (.int 0)) (tCons (tC (.int 0)) tNil)))) tNil))))
theorem read_app7 (S : Ev) {a p hd r : Addr} {as : List Addr} {n w : Int} {y2 y6 y8 y9 y10 : Option V} {HB H : Hp} {D : Ends} (hx : Ext HB H) (e : H r = some (.lst (as.map V.ref))) (hn : r ∉ as) (h0 : ∀ a, a ∈ as → HB a = none) (hl : ∀ a, a ∈ as → ∃ xs, H a = some (.lst xs) ∧ xs.length ≤ 63) (h6 : as.length ≤ 6)
    (k : ∀ y2 H', Ext HB H' → H' r = some (.lst (as.map V.ref)) → D.nx (Sk a p hd n w y2 y6 (some (.ref r)) y8 y9 y10) H') : tk_app S D (Sk a p hd n w y2 y6 (some (.ref r)) y8 y9 y10) H := by
  refine ⟨.ref r, rfl, r, rfl, ⟨_, .of e⟩, for_list (K := S.K) (a := r) (xs := as.map V.ref) (fun i σ H' => ∃ y2, σ = Sk a p hd n w y2 y6 (some (.ref r)) y8 y9 y10 ∧ Ext HB H' ∧ H' r = some (.lst (as.map V.ref)) ∧ ∀ a, a ∈ as → ∃ xs, H' a = some (.lst xs) ∧ xs.length ≤ 63 + i) ⟨_, rfl, hx, e, hl⟩
    (fun i σ H' _ ⟨_, _, _, e', _⟩ => .of e') ?_ (fun σ H' ⟨y2', e', x', er, _⟩ => by rw [e']; exact k _ _ x' er)⟩
  rintro i y σ H' hy ⟨y2', rfl, x1, e1, hl1⟩
  rw [List.getElem?_map] at hy
  cases ha : as[i]? with
  | none => rw [ha] at hy; cases hy
  | some b =>
    rw [ha] at hy
    cases hy
    have hi : i < as.length := (List.getElem?_eq_some_iff.mp ha).1
    have hm := List.mem_of_getElem? ha
    obtain ⟨xs, ea, la⟩ := hl1 b hm
    have np : r ≠ b := fun z => hn (z ▸ hm)
    refine ⟨.ref b, rfl, .inl ⟨rfl, xs, .of ea⟩, (by decide : 3 ≤ sizeLine), fun t ht => ?_⟩
    have x2 : Ext H' (upd H' t (.tup [.int 0, .int 0, .int 0])) := Ext.new ht
    refine ⟨b, xs, .ref t, rfl, rfl, x2.lst ea, Nat.lt_of_lt_of_le (by omega : _ < 1001) (by decide : 1001 ≤ sizeLine), ?_⟩
    refine ⟨_, rfl, (x1.trans x2).upd (h0 b hm), by rw [upd_ne np]; exact x2.lst e1, fun c hc => ?_⟩
    by_cases z : c = b
    · subst z
      exact ⟨_, upd_same, by rw [List.length_append]; show xs.length + 1 ≤ _; omega⟩
    · obtain ⟨zs, ez, lz⟩ := hl1 c hc
      exact ⟨zs, by rw [upd_ne z]; exact x2.lst ez, by omega⟩
def tk_tail (S : Ev) : TS := (tSeq (tAsg (tCall (sp_good S) [] E0 (tCons (tVar 3) tNil)) (gName 7))
      (tSeq (tIfS (tOr (tNot (tB (tCB (rIsi S.K) (tCons (tVar 7) (tCons (tC (.ty "list")) tNil))))) (tOr (tTest (tOp (rNeD S.K) (tVar 7) (tVar 1))) (tNot (tB (tCall (sp_law_is_piece S) [] E0 (tCons (tVar 7) tNil)))))) (tRet (tC (.bl false))) tNext)
      (tSeq (tAsg (tC (.int 0)) (gName 8))
      (tSeq (tk_most S)
      (tSeq (tAsg (tCall (sp_length S) [] E0 (tCons (tVar 3) tNil)) (gName 10))
      (tSeq (tk_app S)
      (tSeq (tDrop (tBM S.K "list" rAppend (tVar 7) (tCons (tLst tNil) tNil)))
      (tRet (tAndV (tCall (sp_law_whole S) [] E0 (tCons (tVar 10) tNil)) (tAndV (tOp rEq (tVar 10) (tVar 8)) (tAndV (tOp (rEqD S.K) (tVar 3) (tVar 1)) (tOp (rEqD S.K) (tCall (sp_good S) [] E0 (tCons (tVar 3) tNil)) (tVar 1)))))))))))))
theorem read_tail (S : Ev) {a p hd : Addr} {n w : Int} {y2 y6 : Option V} {pc : List (List Nt)} {H : Hp} {Q : VK} (hT : S.T H) (hP : At S.K H (.ref p) (pieceD pc)) (hH : At S.K H (.ref hd) (pieceD pc)) (ok : okPiece pc = true) (sm : small pc) (q : ∀ H', Ext H H' → Q (.bl true) H') :
    tk_tail S { nx := fun _ H' => Q .non H', rt := Q } (Sk a p hd n w y2 y6 none none none none) H := by
  have bad : ∀ {H' : Hp} {C : Prop}, isPiece (pieceD pc) = false → C := fun {H' C} z => by rw [isPiece_D, ok] at z; cases z
  refine ⟨.ref hd, rfl, hT, pieceD pc, hH, fun pc' e _ H1 r x1 n1 => ?_, fun z => bad (H' := H) z⟩
  have e' := pieceD_inj e
  subst e'
  obtain ⟨as, e1, e2, e3, e4, e5⟩ := n1.ex
  have la := e5.length
  rw [List.length_map] at la
  have s6 := sm.1
  refine ⟨.ref r, rfl, .ref r, .ty "list", .type "list", .type "list", true, rfl, .ty _, SqL.tyX (.of e1), kit_list, _, rfl, iteF ⟨.ref r, rfl, .ref p, rfl, ?_⟩⟩
  refine neD_same (pieceD_flat pc) (by decide) n1.piece (At.ext x1 _ _ hP) ⟨_, rfl, iteF ?_⟩
  refine ⟨.ref r, rfl, pieceD pc, n1.piece, fun H2 x2 => ⟨_, rfl, iteF' (by rw [isPiece_D, ok]; rfl) ?_⟩⟩
  have x12 := x1.trans x2
  refine read_most S (At.ext x12 _ _ hP) fun z2 z9 => ?_
  refine ⟨.ref hd, rfl, x12.tabs hT, pieceD pc, At.ext x12 _ _ hH, fun pc' e _ H3 x3 => ?_, fun z => bad (H' := H) z⟩
  have e' := pieceD_inj e
  subst e'
  have x13 := x12.trans x3
  refine read_app7 S (as := as) x13 ((x2.trans x3).lst e1) (List.nodup_cons.mp e3).1 e4 (fun b hb => ?_) (by omega) fun z2' H4 x4 er => ?_
  · obtain ⟨xs, ex, lx⟩ := e5.len sm.2 b hb
    exact ⟨xs, (x2.trans x3).lst ex, lx⟩
  refine ⟨.ref r, rfl, .inl ⟨rfl, _, .of er⟩, Nat.zero_le _, fun l hl => ?_⟩
  have x5 : Ext H4 (upd H4 l (.lst [])) := Ext.new hl
  refine ⟨r, _, .ref l, rfl, rfl, x5.lst er, ?_, ?_⟩
  · rw [List.length_map]
    exact Nat.lt_of_lt_of_le (by omega : _ < 1001) (by decide : 1001 ≤ sizeLine)
  have x6 : Ext H (upd (upd H4 l (.lst [])) r (.lst (as.map V.ref ++ [.ref l]))) := (x4.trans x5).upd e2
  generalize upd (upd H4 l (.lst [])) r (.lst (as.map V.ref ++ [.ref l])) = H6 at *
  refine ⟨.int (lenOf pc), rfl, .int (lenOf pc), .int _, true, rfl, iteT ⟨.int (lenOf pc), rfl, .int (lenOf pc), rfl, rfl, _, rfl, iteT' (decide_eq_true rfl) ⟨.ref hd, rfl, .ref p, rfl, ?_⟩⟩⟩
  refine eqD_same (pieceD_flat pc) (by decide) (At.ext x6 _ _ hH) (At.ext x6 _ _ hP) ⟨true, rfl, iteT ?_⟩
  refine ⟨.ref hd, rfl, x6.tabs hT, pieceD pc, At.ext x6 _ _ hH, fun pc' e _ H7 r2 x7 n7 => ?_, fun z => bad (H' := H) z⟩
  have e' := pieceD_inj e
  subst e'
  have x67 := x6.trans x7
  exact ⟨.ref p, rfl, eqD_same (pieceD_flat pc) (by decide) n7.piece (At.ext x67 _ _ hP) (q H7 x67)⟩
theorem pure_law (S : Ev) (vs : List V) (H : Hp) (Q : VK) (E : XK) (h : sp_law S vs H Q E) : t_law S E { nx := fun _ H' => Q .non H', rt := Q } (start N_law vs) H := by
  obtain ⟨x, rfl⟩ := args1 (len_law S vs H Q E h)
  obtain ⟨hT, kp, a, ns, rfl, hS, h63, q⟩ := h
  refine ⟨_, rfl, a, ns, rfl, hS, h63, fun H1 p x1 n1 => ?_⟩
  have ok := okPiece_law ns h63
  have h6 := okPiece_len ok
  have sm : small (lawPiece ns) := ⟨h6.2, fun v hv => lawPiece_voice ns h63 hv⟩
  generalize lawPiece ns = pc at *
  have hP := n1.piece
  obtain ⟨pa, xs, e, hPS, hA⟩ := At.piece hP
  cases e
  have hl := hA.length
  rw [List.length_map] at hl
  refine ⟨.ref p, rfl, p, rfl, ⟨xs, hPS⟩, fun hd hhd => lc_rowsD (g := gName 2) (te := tCB (kList S.K) (tCons (tVar 2) tNil)) (vs := [2]) (σ := [some (.ref a), some (.ref p), none, none, none, none, none, none, none, none, none]) (xs := xs) hhd pc hl.symm (by omega) hPS ?_ fun H2 x2 n2 => ?_⟩
  · intro i y r H' R hy hr x3 k
    obtain ⟨dy, hdy, hAy⟩ := hA.get hy
    rw [List.getElem?_map, hr] at hdy
    cases hdy
    obtain ⟨b, ys, rfl, hb, hB⟩ := At.list (At.ext x3 _ _ hAy)
    refine ⟨rfl, _, rfl, b, ys, rfl, .inl hb, fun l hl' => ?_⟩
    exact k l ys _ upd_same hl' (Ext.new hl') (AtAll.ext (Ext.new hl') _ _ hB)
  have hH := n2.piece
  have x12 := x1.trans x2
  have hP2 := At.ext x2 _ _ hP
  have hS2 := x12.sqL hS
  have hT2 := x12.tabs hT
  refine ⟨_, rfl, a, ns, 0, rfl, hS2, h63, rfl, by decide, _, 48271, rfl, rfl, cmulR _ _ (by decide), _, rfl, a, ns, 1, rfl, hS2, h63, rfl, by decide, _, 16807, rfl, rfl, cmulR _ _ (by decide), _, _, rfl, rfl, _, rfl, a, ns, 2, rfl, hS2, h63, rfl, by decide, _, _, rfl, rfl, _, 1000003, rfl, rfl, (by decide : (1000003 : Int) ≠ 0), ?_⟩
  refine ⟨_, rfl, (ns.getD 0 0 * 48271 + ns.getD 1 0 * 16807 + ns.getD 2 0).fmod 1000003, 5, rfl, rfl, (by decide : (5 : Int) ≠ 0), ?_⟩
  refine ⟨_, rfl, ((ns.getD 0 0 * 48271 + ns.getD 1 0 * 16807 + ns.getD 2 0).fmod 1000003).fmod 5, 4, rfl, rfl, _, rfl, ite_dec (fun _ => ?_) fun _ => ?_⟩
  · refine ⟨.ref p, rfl, _, rfl, _, rfl, (ns.getD 0 0 * 48271 + ns.getD 1 0 * 16807 + ns.getD 2 0).fmod 1000003, 5, rfl, rfl, cdv _ _ (by decide) (by decide), pc, _, _, hP2, ok, sm, rfl, rfl, fun v d H3 x3 hv => ?_⟩
    refine ⟨v, rfl, d, hv, fun H4 x4 => ⟨_, rfl, ?_⟩⟩
    have x34 := x3.trans x4
    have x14 := x12.trans x34
    cases hp : isPiece d with
    | true =>
      refine iteF ?_
      exact read_tail S (n := (ns.getD 0 0 * 48271 + ns.getD 1 0 * 16807 + ns.getD 2 0).fmod 1000003) (w := ((ns.getD 0 0 * 48271 + ns.getD 1 0 * 16807 + ns.getD 2 0).fmod 1000003).fmod 5) (y6 := some v) (x14.tabs hT) (At.ext x34 _ _ hP2) (At.ext x34 _ _ hH) ok sm fun H' x' => q H' (x14.trans x')
    | false =>
      refine iteT ?_
      refine ⟨_, rfl, (ns.getD 0 0 * 48271 + ns.getD 1 0 * 16807 + ns.getD 2 0).fmod 1000003, 35, rfl, rfl, cdv _ _ (by decide) (by decide), _, 11, rfl, rfl, (by decide : (11 : Int) ≠ 0), v, rfl, x14.tabs hT, kp, _, d, rfl, At.ext x4 _ _ hv, hp, fun H5 x5 => ⟨true, rfl, iteT ⟨.ref p, rfl, .ref hd, rfl, ?_⟩⟩⟩
      have x35 := x34.trans x5
      exact eqD_same (pieceD_flat pc) (by decide) (At.ext x35 _ _ hP2) (At.ext x35 _ _ hH) (q H5 (x12.trans x35))
  · exact read_tail S (n := (ns.getD 0 0 * 48271 + ns.getD 1 0 * 16807 + ns.getD 2 0).fmod 1000003) (w := ((ns.getD 0 0 * 48271 + ns.getD 1 0 * 16807 + ns.getD 2 0).fmod 1000003).fmod 5) (y6 := none) hT2 hP2 hH ok sm fun H' x' => q H' (x12.trans x')
end VW
set_option Elab.async false
set_option linter.all false
set_option maxRecDepth 100000
set_option maxHeartbeats 4000000
namespace VW
open PySem PySem.Spec PyProof.Rows L2 GxR

theorem pure_faultsB (S : Ev) (vs : List V) (H : Hp) (Q : VK) (E : XK) (h : sp_faultsB S vs H Q E) : t_faultsB S E { nx := fun _ H' => Q .non H', rt := Q } (start N_faultsB vs) H := by
  obtain ⟨x, rfl⟩ := args1 (len_faultsB S vs H Q E h)
  obtain ⟨hT, d, hx, bad, q2⟩ := h
  exact ⟨x, rfl, hT, d, hx, fun pc ed ok H1 p x1 n1 => (bad_no bad ed ok).elim, fun _ H' x' => q2 H' x'⟩
theorem pure_writtenB (S : Ev) (vs : List V) (H : Hp) (Q : VK) (E : XK) (h : sp_writtenB S vs H Q E) : t_writtenB S E { nx := fun _ H' => Q .non H', rt := Q } (start N_writtenB vs) H := by
  obtain ⟨x, rfl⟩ := args1 (len_writtenB S vs H Q E h)
  obtain ⟨hT, d, hx, bad, q2⟩ := h
  exact ⟨⟨_, rfl⟩, x, rfl, hT, d, hx, fun pc ed ok H1 p x1 n1 => (bad_no bad ed ok).elim, fun _ H' x' => q2 H' x'⟩
theorem pure_entries_ofB (S : Ev) (vs : List V) (H : Hp) (Q : VK) (E : XK) (h : sp_entries_ofB S vs H Q E) : t_entries_ofB S E { nx := fun _ H' => Q .non H', rt := Q } (start N_entries_ofB vs) H := by
  obtain ⟨y, x, rfl⟩ := args2 (len_entries_ofB S vs H Q E h)
  obtain ⟨hT, d, hx, bad, q2⟩ := h
  exact ⟨x, rfl, hT, d, hx, fun pc ed ok H1 p x1 n1 => (bad_no bad ed ok).elim, fun _ H' x' => q2 H' x'⟩
end VW
set_option Elab.async false
set_option linter.all false
set_option maxRecDepth 100000
set_option maxHeartbeats 4000000
namespace VW
open PySem PySem.Spec PyProof.Rows L2 GxR
def top (i : Nat) : Stmt := PySem.Challenge.pw_voiceweave_k01_what_is_a_piece.main.body.getD i (.Pass ⟨0, 0, 0, 0⟩)
abbrev s_is_whole : Stmt := top 14
theorem sc_is_whole : FnScope N_is_whole ["number"] (defScope s_is_whole) := ⟨rfl, rfl, rfl, by decide +kernel, rfl, by decide +kernel, by decide +kernel⟩
theorem own_is_whole {P : Program} {w : World} {mg : Str → Option Value} {base : Heap} {f c : Addr} {fd : FuncData} (S : Ev) (B : Bl mg) (Z : Nums mg) (F : FunC S.K "is_whole" "is_whole" s_is_whole f c fd) (hm : mg "is_whole" = some (.ref f)) :
    Own P w S.K mg base CX0 1 "is_whole" ["number"] (sp_is_whole S) := by
  refine own0 F hm sc_is_whole (fun _ _ _ _ _ _ us hl => match us, hl with | [_], _ => rfl) (len_is_whole S) (fun A outer s H vs Q E hr h => ⟨t_is_whole S E, ?_, pure_is_whole S vs H Q E h⟩)
  exact (pss_one (ps_ret (pe_and (pe_callB call_isi (by rfl) B.isinstance bo_isinstance (pa_cons (pv 0) (pa_cons (pe_tyInt B) pa_nil))) (pe_one (pe_not (pe_callB call_isi (by rfl) B.isinstance bo_isinstance (pa_cons (pv 0) (pa_cons (pe_tyBool B) pa_nil))))))))

abbrev s_require_whole : Stmt := top 15
theorem sc_require_whole : FnScope N_require_whole ["number"] (defScope s_require_whole) := ⟨rfl, rfl, rfl, by decide +kernel, rfl, by decide +kernel, by decide +kernel⟩
theorem own_require_whole {P : Program} {w : World} {mg : Str → Option Value} {base : Heap} {f c : Addr} {fd : FuncData} (S : Ev) (B : Bl mg) (Z : Nums mg) (F : FunC S.K "require_whole" "require_whole" s_require_whole f c fd) (hm : mg "require_whole" = some (.ref f))
    (G_is_whole : Own P w S.K mg base CX0 1 "is_whole" ["number"] (sp_is_whole S))
    (X_BadNumber : ExcC S.K mg "BadNumber" S.cNumber) :
    Own P w S.K mg base (L2.CX P w) 2 "require_whole" ["number"] (sp_require_whole S) := by
  refine ownX F hm sc_require_whole (fun _ _ _ _ _ _ us hl => match us, hl with | [_], _ => rfl) (len_require_whole S) (fun A outer s H vs Q E hr h => ⟨t_require_whole S E, ?_, pure_require_whole S vs H Q E h⟩)
  exact (pss_one (ps_if (pt_not (pt_val (pe_own0 G_is_whole (hr.mono (by decide)) (pa_cons (pv 0) pa_nil)))) (pss_one (ps_raiseC rfl X_BadNumber takes_def)) pss_nil))

abbrev s_end_of : Stmt := top 16
theorem sc_end_of : FnScope N_end_of ["note"] (defScope s_end_of) := ⟨rfl, rfl, rfl, by decide +kernel, rfl, by decide +kernel, by decide +kernel⟩
theorem own_end_of {P : Program} {w : World} {mg : Str → Option Value} {base : Heap} {f c : Addr} {fd : FuncData} (S : Ev) (B : Bl mg) (Z : Nums mg) (F : FunC S.K "end_of" "end_of" s_end_of f c fd) (hm : mg "end_of" = some (.ref f)) :
    Own P w S.K mg base CX0 1 "end_of" ["note"] (sp_end_of S) := by
  refine own0 F hm sc_end_of (fun _ _ _ _ _ _ us hl => match us, hl with | [_], _ => rfl) (len_end_of S) (fun A outer s H vs Q E hr h => ⟨t_end_of S E, ?_, pure_end_of S vs H Q E h⟩)
  exact (pss_cons (ps_asg (pv 0) (pg_tup rfl (pgs_cons (pg_name (i := 1) (sc_end_of).nd rfl (Or.inl rfl)) (pgs_cons (pg_name (i := 2) (sc_end_of).nd rfl (Or.inl rfl)) (pgs_cons (pg_name (i := 3) (sc_end_of).nd rfl (Or.inl rfl)) pgs_nil)))))
      (pss_one (ps_ret (pe_op op_add (pv 1) (pv 2)))))

abbrev s_is_note : Stmt := top 17
theorem sc_is_note : FnScope N_is_note ["note"] (defScope s_is_note) := ⟨rfl, rfl, rfl, by decide +kernel, rfl, by decide +kernel, by decide +kernel⟩
theorem own_is_note {P : Program} {w : World} {mg : Str → Option Value} {base : Heap} {f c : Addr} {fd : FuncData} (S : Ev) (B : Bl mg) (Z : Nums mg) (F : FunC S.K "is_note" "is_note" s_is_note f c fd) (hm : mg "is_note" = some (.ref f))
    (G_is_whole : Own P w S.K mg base CX0 1 "is_whole" ["number"] (sp_is_whole S))
    (TB : TabB base mg c S.Pn) :
    Own P w S.K mg base CX0 3 "is_note" ["note"] (sp_is_note S) := by
  refine own0 F hm sc_is_note (fun _ _ _ _ _ _ us hl => match us, hl with | [_], _ => rfl) (len_is_note S) (fun A outer s H vs Q E hr h => ⟨t_is_note S E, ?_, pure_is_note S vs H Q E h⟩)
  exact (pss_cons (ps_if (PW.pt (pw_or (pt_not (pt_val (pe_callB call_isi (by rfl) B.isinstance bo_isinstance (pa_cons (pv 0) (pa_cons (pe_tyTuple B) pa_nil))))) (pw_or1 (pt_cmpR op_ne (pe_callB call_len (by rfl) B.len bo_len (pa_cons (pv 0) pa_nil)) pe_int (nomark _))))) (pss_one (ps_ret pe_bl)) pss_nil)
      (pss_cons (ps_if (pt_not (pt_val (pe_allG (own := [("part", 5)]) (k := 1) (hr.mono (by decide)) rfl (sc_is_note).nd (by rfl) B.all TB rfl (pi_tup (pv 0)) ⟨(blkOk_by (own := [("part", 5)]) (N := N_is_note) (sc := (defScope (s_is_note))) (by decide +kernel)), rfl, by decide +kernel, by decide +kernel⟩ (fun _ _ _ _ _ _ _ => (pg_name (i := 5) (sc_is_note).nd rfl (Or.inl rfl))) (fun _ _ _ _ _ _ _ => (pe_own0 G_is_whole (Room.mono (gArd_room (k := 1) (hr.mono (by decide))) (by decide)) (pa_cons (pv 5) pa_nil)))))) (pss_one (ps_ret pe_bl)) pss_nil)
      (pss_cons (ps_asg (pv 0) (pg_tup rfl (pgs_cons (pg_name (i := 1) (sc_is_note).nd rfl (Or.inl rfl)) (pgs_cons (pg_name (i := 2) (sc_is_note).nd rfl (Or.inl rfl)) (pgs_cons (pg_name (i := 3) (sc_is_note).nd rfl (Or.inl rfl)) pgs_nil)))))
      (pss_cons (ps_set (i := 4) (sc_is_note).nd rfl (Or.inl rfl) (pe_and (pe_cmpR op_ge (pv 1) pe_int (nomark _)) (pe_and (pe_cmpR op_ge (pv 2) pe_int (nomark _)) (pe_one (pe_cmpR op_le (pe_op op_add (pv 1) (pv 2)) (pe_num Z.GREATEST_END) (nomark _))))))
      (pss_one (ps_ret (pe_and (pv 4) (pe_one (pe_chain op_le op_le (pe_un un_neg (pe_num Z.PITCH_REACH)) (pv 3) (pe_num Z.PITCH_REACH))))))))))

abbrev s_is_voice : Stmt := top 18
theorem sc_is_voice : FnScope N_is_voice ["voice"] (defScope s_is_voice) := ⟨rfl, rfl, rfl, by decide +kernel, rfl, by decide +kernel, by decide +kernel⟩
theorem own_is_voice {P : Program} {w : World} {mg : Str → Option Value} {base : Heap} {f c : Addr} {fd : FuncData} (S : Ev) (B : Bl mg) (Z : Nums mg) (F : FunC S.K "is_voice" "is_voice" s_is_voice f c fd) (hm : mg "is_voice" = some (.ref f))
    (G_end_of : Own P w S.K mg base CX0 1 "end_of" ["note"] (sp_end_of S))
    (G_is_note : Own P w S.K mg base CX0 3 "is_note" ["note"] (sp_is_note S)) :
    Own P w S.K mg base CX0 4 "is_voice" ["voice"] (sp_is_voice S) := by
  refine own0 F hm sc_is_voice (fun _ _ _ _ _ _ us hl => match us, hl with | [_], _ => rfl) (len_is_voice S) (fun A outer s H vs Q E hr h => ⟨t_is_voice S E, ?_, pure_is_voice S vs H Q E h⟩)
  exact (pss_cons (ps_if (pt_not (pt_val (pe_callB call_isi (by rfl) B.isinstance bo_isinstance (pa_cons (pv 0) (pa_cons (pe_tyList B) pa_nil))))) (pss_one (ps_ret pe_bl)) pss_nil)
      (pss_cons (ps_set (i := 1) (sc_is_voice).nd rfl (Or.inl rfl) pe_int)
      (pss_cons (ps_for PassesOwn.never rfl (pi_list (pv 0)) (pg_name (i := 2) (sc_is_voice).nd rfl (Or.inl rfl)) (pss_cons (ps_if (PW.pt (pw_or (pt_not (pt_val (pe_own0 G_is_note (hr.mono (by decide)) (pa_cons (pv 2) pa_nil)))) (pw_or1 (pt_cmpR op_lt (pe_ix ix_tup (pv 2) pe_int (fun _ _ => rfl)) (pv 1) (nomark _))))) (pss_one (ps_ret pe_bl)) pss_nil)
      (pss_one (ps_set (i := 1) (sc_is_voice).nd rfl (Or.inl rfl) (pe_own0 G_end_of (hr.mono (by decide)) (pa_cons (pv 2) pa_nil))))))
      (pss_one (ps_ret pe_bl)))))

abbrev s_is_piece : Stmt := top 19
theorem sc_is_piece : FnScope N_is_piece ["piece"] (defScope s_is_piece) := ⟨rfl, rfl, rfl, by decide +kernel, rfl, by decide +kernel, by decide +kernel⟩
theorem own_is_piece {P : Program} {w : World} {mg : Str → Option Value} {base : Heap} {f c : Addr} {fd : FuncData} (S : Ev) (B : Bl mg) (Z : Nums mg) (F : FunC S.K "is_piece" "is_piece" s_is_piece f c fd) (hm : mg "is_piece" = some (.ref f))
    (G_is_voice : Own P w S.K mg base CX0 4 "is_voice" ["voice"] (sp_is_voice S))
    (TB : TabB base mg c S.Pp) :
    Own P w S.K mg base CX0 6 "is_piece" ["piece"] (sp_is_piece S) := by
  refine own0 F hm sc_is_piece (fun _ _ _ _ _ _ us hl => match us, hl with | [_], _ => rfl) (len_is_piece S) (fun A outer s H vs Q E hr h => ⟨t_is_piece S E, ?_, pure_is_piece S vs H Q E h⟩)
  exact (pss_cons (ps_if (PW.pt (pw_or (pt_not (pt_val (pe_callB call_isi (by rfl) B.isinstance bo_isinstance (pa_cons (pv 0) (pa_cons (pe_tyList B) pa_nil))))) (pw_or1 (pt_not (pt_chain op_le op_le pe_int (pe_callB call_len (by rfl) B.len bo_len (pa_cons (pv 0) pa_nil)) (pe_num Z.MOST_VOICES)))))) (pss_one (ps_ret pe_bl)) pss_nil)
      (pss_one (ps_ret (pe_allG (own := [("voice", 1)]) (k := 4) (hr.mono (by decide)) rfl (sc_is_piece).nd (by rfl) B.all TB rfl (pi_list (pv 0)) ⟨(blkOk_by (own := [("voice", 1)]) (N := N_is_piece) (sc := (defScope (s_is_piece))) (by decide +kernel)), rfl, by decide +kernel, by decide +kernel⟩ (fun _ _ _ _ _ _ _ => (pg_name (i := 1) (sc_is_piece).nd rfl (Or.inl rfl))) (fun _ _ _ _ _ _ _ => (pe_own0 G_is_voice (Room.mono (gArd_room (k := 4) (hr.mono (by decide))) (by decide)) (pa_cons (pv 1) pa_nil)))))))

abbrev s_good : Stmt := top 20
theorem sc_good : FnScope N_good ["piece"] (defScope s_good) := ⟨rfl, rfl, rfl, by decide +kernel, rfl, by decide +kernel, by decide +kernel⟩
theorem own_good {P : Program} {w : World} {mg : Str → Option Value} {base : Heap} {f c : Addr} {fd : FuncData} (S : Ev) (B : Bl mg) (Z : Nums mg) (F : FunC S.K "good" "good" s_good f c fd) (hm : mg "good" = some (.ref f))
    (G_is_piece : Own P w S.K mg base CX0 6 "is_piece" ["piece"] (sp_is_piece S))
    (X_BadPiece : ExcC S.K mg "BadPiece" S.cPiece) :
    Own P w S.K mg base (L2.CX P w) 7 "good" ["piece"] (sp_good S) := by
  refine ownX F hm sc_good (fun _ _ _ _ _ _ us hl => match us, hl with | [_], _ => rfl) (len_good S) (fun A outer s H vs Q E hr h => ⟨t_good S E, ?_, pure_good S vs H Q E h⟩)
  exact (pss_cons (ps_if (pt_not (pt_val (pe_own0 G_is_piece (hr.mono (by decide)) (pa_cons (pv 0) pa_nil)))) (pss_one (ps_raiseC rfl X_BadPiece takes_def)) pss_nil)
      (pss_one (ps_ret (pe_lc (own := [("voice", 1)]) rfl (sc_good).nd (pi_list (pv 0)) (blkOk_by (own := [("voice", 1)]) (N := N_good) (sc := (defScope (s_good))) (by decide +kernel)) (fun _ _ _ _ _ => (pg_name (i := 1) (sc_good).nd rfl (Or.inl rfl))) (fun _ _ _ _ _ => pts_nil) (fun _ _ _ _ _ => (pe_callTy call_list_of (by rfl) B.list bo_list (pa_cons (pv 1) pa_nil)))))))

abbrev s_length : Stmt := top 21
theorem sc_length : FnScope N_length ["piece"] (defScope s_length) := ⟨rfl, rfl, rfl, by decide +kernel, rfl, by decide +kernel, by decide +kernel⟩
theorem own_length {P : Program} {w : World} {mg : Str → Option Value} {base : Heap} {f c : Addr} {fd : FuncData} (S : Ev) (B : Bl mg) (Z : Nums mg) (F : FunC S.K "length" "length" s_length f c fd) (hm : mg "length" = some (.ref f))
    (G_end_of : Own P w S.K mg base CX0 1 "end_of" ["note"] (sp_end_of S))
    (G_good : Own P w S.K mg base (L2.CX P w) 7 "good" ["piece"] (sp_good S)) :
    Own P w S.K mg base (L2.CX P w) 8 "length" ["piece"] (sp_length S) := by
  refine ownX F hm sc_length (fun _ _ _ _ _ _ us hl => match us, hl with | [_], _ => rfl) (len_length S) (fun A outer s H vs Q E hr h => ⟨t_length S E, ?_, pure_length S vs H Q E h⟩)
  exact (pss_one (ps_ret (pe_callBK (cr_maxDef hr.units rfl) (by rfl) B.max bo_max (pa_cons (pe_lc2 (own := [("voice", 1), ("note", 2)]) (vs1 := [2]) rfl (sc_length).nd (pi_list (pe_own G_good (hr.mono (by decide)) (passes_call takes_def (fun _ _ _ _ z => z)) (pa_cons (pv 0) pa_nil))) (blkOk_by (own := [("voice", 1), ("note", 2)]) (N := N_length) (sc := (defScope (s_length))) (by decide +kernel)) (by decide) (fun _ _ _ _ _ => (pg_name (i := 1) (sc_length).nd rfl (Or.inl rfl))) (fun _ _ _ _ _ => pts_nil) (fun _ _ _ _ _ => (pi_list (pv 1))) (fun _ _ _ _ _ => (pg_name (i := 2) (sc_length).nd rfl (Or.inl rfl))) (fun _ _ _ _ _ => pts_nil) (fun _ _ _ _ _ => (pe_own0 G_end_of (hr.mono (by decide)) (pa_cons (pv 2) pa_nil)))) pa_nil) (pk_cons pe_int pk_nil))))

abbrev s_note : Stmt := top 46
theorem sc_note : FnScope N_note ["start", "long", "pitch"] (defScope s_note) := ⟨rfl, rfl, rfl, by decide +kernel, rfl, by decide +kernel, by decide +kernel⟩
theorem own_note {P : Program} {w : World} {mg : Str → Option Value} {base : Heap} {f c : Addr} {fd : FuncData} (S : Ev) (B : Bl mg) (Z : Nums mg) (F : FunC S.K "_note" "_note" s_note f c fd) (hm : mg "_note" = some (.ref f))
    (G_is_note : Own P w S.K mg base CX0 3 "is_note" ["note"] (sp_is_note S))
    (X_OutOfRange : ExcC S.K mg "OutOfRange" S.cRange) :
    Own P w S.K mg base (L2.CX P w) 4 "_note" ["start", "long", "pitch"] (sp_note S) := by
  refine ownX F hm sc_note (fun _ _ _ _ _ _ us hl => match us, hl with | [_, _, _], _ => rfl) (len_note S) (fun A outer s H vs Q E hr h => ⟨t_note S E, ?_, pure_note S vs H Q E h⟩)
  exact (pss_cons (ps_set (i := 3) (sc_note).nd rfl (Or.inl rfl) (pe_tup (pa_cons (pv 0) (pa_cons (pv 1) (pa_cons (pv 2) pa_nil)))))
      (pss_cons (ps_if (pt_not (pt_val (pe_own0 G_is_note (hr.mono (by decide)) (pa_cons (pv 3) pa_nil)))) (pss_one (ps_raiseC rfl X_OutOfRange takes_def)) pss_nil)
      (pss_one (ps_ret (pv 3)))))

abbrev s_require_times : Stmt := top 49
theorem sc_require_times : FnScope N_require_times ["times"] (defScope s_require_times) := ⟨rfl, rfl, rfl, by decide +kernel, rfl, by decide +kernel, by decide +kernel⟩
theorem own_require_times {P : Program} {w : World} {mg : Str → Option Value} {base : Heap} {f c : Addr} {fd : FuncData} (S : Ev) (B : Bl mg) (Z : Nums mg) (F : FunC S.K "_require_times" "_require_times" s_require_times f c fd) (hm : mg "_require_times" = some (.ref f))
    (G_is_whole : Own P w S.K mg base CX0 1 "is_whole" ["number"] (sp_is_whole S))
    (X_BadNumber : ExcC S.K mg "BadNumber" S.cNumber)
    (z_MOST_TIMES : ∃ t, mg "MOST_TIMES" = some (.int 1000 t)) :
    Own P w S.K mg base (L2.CX P w) 2 "_require_times" ["times"] (sp_require_times S) := by
  refine ownX F hm sc_require_times (fun _ _ _ _ _ _ us hl => match us, hl with | [_], _ => rfl) (len_require_times S) (fun A outer s H vs Q E hr h => ⟨t_require_times S E, ?_, pure_require_times S vs H Q E h⟩)
  exact (pss_one (ps_if (PW.pt (pw_or (pt_not (pt_val (pe_own0 G_is_whole (hr.mono (by decide)) (pa_cons (pv 0) pa_nil)))) (pw_or1 (pt_not (pt_chain op_le op_le pe_int (pv 0) (pe_num z_MOST_TIMES)))))) (pss_one (ps_raiseC rfl X_BadNumber takes_def)) pss_nil))

abbrev s_parted : Stmt := top 47
theorem sc_parted : FnScope N_parted ["number", "times"] (defScope s_parted) := ⟨rfl, rfl, rfl, by decide +kernel, rfl, by decide +kernel, by decide +kernel⟩
theorem own_parted {P : Program} {w : World} {mg : Str → Option Value} {base : Heap} {f c : Addr} {fd : FuncData} (S : Ev) (B : Bl mg) (Z : Nums mg) (F : FunC S.K "_parted" "_parted" s_parted f c fd) (hm : mg "parted_moving" = some (.ref f))
    (X_Uneven : ExcC S.K mg "Uneven" S.cUneven) :
    Own P w S.K mg base (L2.CX P w) 1 "parted_moving" ["number", "times"] (sp_parted S) := by
  refine ownX' F hm sc_parted (fun _ _ _ _ _ _ us hl => match us, hl with | [_, _], _ => rfl) (len_parted S) (fun A outer s H vs Q E hr h => ⟨t_parted S E, ?_, pure_parted S vs H Q E h⟩)
  exact (pss_cons (ps_if (pt_cmpR op_ne (pe_op op_modN (pv 0) (pv 1)) pe_int (nomark _)) (pss_one (ps_raiseC rfl X_Uneven takes_def)) pss_nil)
      (pss_one (ps_ret (pe_op op_fdivN (pv 0) (pv 1)))))

abbrev s_moved : Stmt := top 41
theorem sc_moved : FnScope N_moved ["piece", "later", "higher"] (defScope s_moved) := ⟨rfl, rfl, rfl, by decide +kernel, rfl, by decide +kernel, by decide +kernel⟩
theorem own_moved {P : Program} {w : World} {mg : Str → Option Value} {base : Heap} {f c : Addr} {fd : FuncData} (S : Ev) (B : Bl mg) (Z : Nums mg) (F : FunC S.K "moved" "moved" s_moved f c fd) (hm : mg "moved" = some (.ref f))
    (G_note : Own P w S.K mg base (L2.CX P w) 4 "_note" ["start", "long", "pitch"] (sp_note S))
    (G_good : Own P w S.K mg base (L2.CX P w) 7 "good" ["piece"] (sp_good S))
    (G_require_whole : Own P w S.K mg base (L2.CX P w) 2 "require_whole" ["number"] (sp_require_whole S)) :
    Own P w S.K mg base (L2.CX P w) 8 "moved" ["piece", "later", "higher"] (sp_moved S) := by
  refine ownX F hm sc_moved (fun _ _ _ _ _ _ us hl => match us, hl with | [_, _, _], _ => rfl) (len_moved S) (fun A outer s H vs Q E hr h => ⟨t_moved S E, ?_, pure_moved S vs H Q E h⟩)
  exact (pss_cons (ps_set (i := 3) (sc_moved).nd rfl (Or.inl rfl) (pe_own G_good (hr.mono (by decide)) (passes_call takes_def (fun _ _ _ _ z => z)) (pa_cons (pv 0) pa_nil)))
      (pss_cons (ps_expr (pe_own G_require_whole (hr.mono (by decide)) (passes_call takes_def (fun _ _ _ _ z => z)) (pa_cons (pv 1) pa_nil)))
      (pss_cons (ps_expr (pe_own G_require_whole (hr.mono (by decide)) (passes_call takes_def (fun _ _ _ _ z => z)) (pa_cons (pv 2) pa_nil)))
      (pss_one (ps_ret (pe_lcX (own := [("voice", 4)]) rfl (sc_moved).nd frX_def takesF_def (pi_list (pv 3)) (blkOk_by (own := [("voice", 4)]) (N := N_moved) (sc := (defScope (s_moved))) (by decide +kernel)) (fun _ _ _ _ _ _ => (pg_name (i := 4) (sc_moved).nd rfl (Or.inl rfl))) (fun _ _ _ _ _ _ tk1 => pts_nil) (fun _ _ _ _ _ _ tk1 => (pe_lcX (own := [("start", 5), ("long", 6), ("pitch", 7)]) rfl (sc_moved).nd (frX_blk frX_def) tk1 (pi_list (pv 4)) (blkOk_by (own := [("start", 5), ("long", 6), ("pitch", 7)]) (N := N_moved) (sc := (relS ({ kind := .function, names := [(PySem.Str.ofString ".0", .local), (PySem.Str.ofString "voice", .local), (PySem.Str.ofString "higher", .free), (PySem.Str.ofString "later", .free)], isGenerator := false, isCoroutine := false, more := [] } : Scope) (defScope (s_moved)))) (by decide +kernel)) (fun _ _ _ _ _ _ => (pg_tup rfl (pgs_cons (pg_name (i := 5) (sc_moved).nd rfl (Or.inl rfl)) (pgs_cons (pg_name (i := 6) (sc_moved).nd rfl (Or.inl rfl)) (pgs_cons (pg_name (i := 7) (sc_moved).nd rfl (Or.inl rfl)) pgs_nil))))) (fun _ _ _ _ _ _ tk2 => pts_nil) (fun _ _ _ _ _ _ tk2 => (pe_own G_note (hr.mono (by decide)) (TakesF.passes tk2) (pa_cons (pe_op op_add (pv 5) (pv 1)) (pa_cons (pv 6) (pa_cons (pe_op op_add (pv 7) (pv 2)) pa_nil)))))))))))))

abbrev s_mirrored : Stmt := top 42
theorem sc_mirrored : FnScope N_mirrored ["piece", "axis"] (defScope s_mirrored) := ⟨rfl, rfl, rfl, by decide +kernel, rfl, by decide +kernel, by decide +kernel⟩
theorem own_mirrored {P : Program} {w : World} {mg : Str → Option Value} {base : Heap} {f c : Addr} {fd : FuncData} (S : Ev) (B : Bl mg) (Z : Nums mg) (F : FunC S.K "mirrored" "mirrored" s_mirrored f c fd) (hm : mg "mirrored" = some (.ref f))
    (G_note : Own P w S.K mg base (L2.CX P w) 4 "_note" ["start", "long", "pitch"] (sp_note S))
    (G_good : Own P w S.K mg base (L2.CX P w) 7 "good" ["piece"] (sp_good S))
    (G_require_whole : Own P w S.K mg base (L2.CX P w) 2 "require_whole" ["number"] (sp_require_whole S)) :
    Own P w S.K mg base (L2.CX P w) 8 "mirrored" ["piece", "axis"] (sp_mirrored S) := by
  refine ownX F hm sc_mirrored (fun _ _ _ _ _ _ us hl => match us, hl with | [_, _], _ => rfl) (len_mirrored S) (fun A outer s H vs Q E hr h => ⟨t_mirrored S E, ?_, pure_mirrored S vs H Q E h⟩)
  exact (pss_cons (ps_set (i := 2) (sc_mirrored).nd rfl (Or.inl rfl) (pe_own G_good (hr.mono (by decide)) (passes_call takes_def (fun _ _ _ _ z => z)) (pa_cons (pv 0) pa_nil)))
      (pss_cons (ps_expr (pe_own G_require_whole (hr.mono (by decide)) (passes_call takes_def (fun _ _ _ _ z => z)) (pa_cons (pv 1) pa_nil)))
      (pss_one (ps_ret (pe_lcX (own := [("voice", 3)]) rfl (sc_mirrored).nd frX_def takesF_def (pi_list (pe_revL (pv 2))) (blkOk_by (own := [("voice", 3)]) (N := N_mirrored) (sc := (defScope (s_mirrored))) (by decide +kernel)) (fun _ _ _ _ _ _ => (pg_name (i := 3) (sc_mirrored).nd rfl (Or.inl rfl))) (fun _ _ _ _ _ _ tk1 => pts_nil) (fun _ _ _ _ _ _ tk1 => (pe_lcX (own := [("start", 4), ("long", 5), ("pitch", 6)]) rfl (sc_mirrored).nd (frX_blk frX_def) tk1 (pi_list (pv 3)) (blkOk_by (own := [("start", 4), ("long", 5), ("pitch", 6)]) (N := N_mirrored) (sc := (relS ({ kind := .function, names := [(PySem.Str.ofString ".0", .local), (PySem.Str.ofString "voice", .local), (PySem.Str.ofString "axis", .free)], isGenerator := false, isCoroutine := false, more := [] } : Scope) (defScope (s_mirrored)))) (by decide +kernel)) (fun _ _ _ _ _ _ => (pg_tup rfl (pgs_cons (pg_name (i := 4) (sc_mirrored).nd rfl (Or.inl rfl)) (pgs_cons (pg_name (i := 5) (sc_mirrored).nd rfl (Or.inl rfl)) (pgs_cons (pg_name (i := 6) (sc_mirrored).nd rfl (Or.inl rfl)) pgs_nil))))) (fun _ _ _ _ _ _ tk2 => pts_nil) (fun _ _ _ _ _ _ tk2 => (pe_own G_note (hr.mono (by decide)) (TakesF.passes tk2) (pa_cons (pv 4) (pa_cons (pv 5) (pa_cons (pe_op op_sub (pv 1) (pv 6)) pa_nil))))))))))))

abbrev s_turned : Stmt := top 43
theorem sc_turned : FnScope N_turned ["piece", "end"] (defScope s_turned) := ⟨rfl, rfl, rfl, by decide +kernel, rfl, by decide +kernel, by decide +kernel⟩
theorem own_turned {P : Program} {w : World} {mg : Str → Option Value} {base : Heap} {f c : Addr} {fd : FuncData} (S : Ev) (B : Bl mg) (Z : Nums mg) (F : FunC S.K "turned" "turned" s_turned f c fd) (hm : mg "turned" = some (.ref f))
    (G_note : Own P w S.K mg base (L2.CX P w) 4 "_note" ["start", "long", "pitch"] (sp_note S))
    (G_good : Own P w S.K mg base (L2.CX P w) 7 "good" ["piece"] (sp_good S))
    (G_require_whole : Own P w S.K mg base (L2.CX P w) 2 "require_whole" ["number"] (sp_require_whole S)) :
    Own P w S.K mg base (L2.CX P w) 8 "turned" ["piece", "end"] (sp_turned S) := by
  refine ownX F hm sc_turned (fun _ _ _ _ _ _ us hl => match us, hl with | [_, _], _ => rfl) (len_turned S) (fun A outer s H vs Q E hr h => ⟨t_turned S E, ?_, pure_turned S vs H Q E h⟩)
  exact (pss_cons (ps_set (i := 2) (sc_turned).nd rfl (Or.inl rfl) (pe_own G_good (hr.mono (by decide)) (passes_call takes_def (fun _ _ _ _ z => z)) (pa_cons (pv 0) pa_nil)))
      (pss_cons (ps_expr (pe_own G_require_whole (hr.mono (by decide)) (passes_call takes_def (fun _ _ _ _ z => z)) (pa_cons (pv 1) pa_nil)))
      (pss_one (ps_ret (pe_lcX (own := [("voice", 3)]) rfl (sc_turned).nd frX_def takesF_def (pi_list (pv 2)) (blkOk_by (own := [("voice", 3)]) (N := N_turned) (sc := (defScope (s_turned))) (by decide +kernel)) (fun _ _ _ _ _ _ => (pg_name (i := 3) (sc_turned).nd rfl (Or.inl rfl))) (fun _ _ _ _ _ _ tk1 => pts_nil) (fun _ _ _ _ _ _ tk1 => (pe_lcX (own := [("start", 4), ("long", 5), ("pitch", 6)]) rfl (sc_turned).nd (frX_blk frX_def) tk1 (pi_list (pe_revL (pv 3))) (blkOk_by (own := [("start", 4), ("long", 5), ("pitch", 6)]) (N := N_turned) (sc := (relS ({ kind := .function, names := [(PySem.Str.ofString ".0", .local), (PySem.Str.ofString "voice", .local), (PySem.Str.ofString "end", .free)], isGenerator := false, isCoroutine := false, more := [] } : Scope) (defScope (s_turned)))) (by decide +kernel)) (fun _ _ _ _ _ _ => (pg_tup rfl (pgs_cons (pg_name (i := 4) (sc_turned).nd rfl (Or.inl rfl)) (pgs_cons (pg_name (i := 5) (sc_turned).nd rfl (Or.inl rfl)) (pgs_cons (pg_name (i := 6) (sc_turned).nd rfl (Or.inl rfl)) pgs_nil))))) (fun _ _ _ _ _ _ tk2 => pts_nil) (fun _ _ _ _ _ _ tk2 => (pe_own G_note (hr.mono (by decide)) (TakesF.passes tk2) (pa_cons (pe_op op_sub (pv 1) (pe_op op_add (pv 4) (pv 5))) (pa_cons (pv 5) (pa_cons (pv 6) pa_nil))))))))))))

abbrev s_stretched : Stmt := top 44
theorem sc_stretched : FnScope N_stretched ["piece", "times"] (defScope s_stretched) := ⟨rfl, rfl, rfl, by decide +kernel, rfl, by decide +kernel, by decide +kernel⟩
theorem own_stretched {P : Program} {w : World} {mg : Str → Option Value} {base : Heap} {f c : Addr} {fd : FuncData} (S : Ev) (B : Bl mg) (Z : Nums mg) (F : FunC S.K "stretched" "stretched" s_stretched f c fd) (hm : mg "stretched" = some (.ref f))
    (G_note : Own P w S.K mg base (L2.CX P w) 4 "_note" ["start", "long", "pitch"] (sp_note S))
    (G_require_times : Own P w S.K mg base (L2.CX P w) 2 "_require_times" ["times"] (sp_require_times S))
    (G_good : Own P w S.K mg base (L2.CX P w) 7 "good" ["piece"] (sp_good S)) :
    Own P w S.K mg base (L2.CX P w) 8 "stretched" ["piece", "times"] (sp_stretched S) := by
  refine ownX F hm sc_stretched (fun _ _ _ _ _ _ us hl => match us, hl with | [_, _], _ => rfl) (len_stretched S) (fun A outer s H vs Q E hr h => ⟨t_stretched S E, ?_, pure_stretched S vs H Q E h⟩)
  exact (pss_cons (ps_set (i := 2) (sc_stretched).nd rfl (Or.inl rfl) (pe_own G_good (hr.mono (by decide)) (passes_call takes_def (fun _ _ _ _ z => z)) (pa_cons (pv 0) pa_nil)))
      (pss_cons (ps_expr (pe_own G_require_times (hr.mono (by decide)) (passes_call takes_def (fun _ _ _ _ z => z)) (pa_cons (pv 1) pa_nil)))
      (pss_one (ps_ret (pe_lcX (own := [("voice", 3)]) rfl (sc_stretched).nd frX_def takesF_def (pi_list (pv 2)) (blkOk_by (own := [("voice", 3)]) (N := N_stretched) (sc := (defScope (s_stretched))) (by decide +kernel)) (fun _ _ _ _ _ _ => (pg_name (i := 3) (sc_stretched).nd rfl (Or.inl rfl))) (fun _ _ _ _ _ _ tk1 => pts_nil) (fun _ _ _ _ _ _ tk1 => (pe_lcX (own := [("start", 4), ("long", 5), ("pitch", 6)]) rfl (sc_stretched).nd (frX_blk frX_def) tk1 (pi_list (pv 3)) (blkOk_by (own := [("start", 4), ("long", 5), ("pitch", 6)]) (N := N_stretched) (sc := (relS ({ kind := .function, names := [(PySem.Str.ofString ".0", .local), (PySem.Str.ofString "voice", .local), (PySem.Str.ofString "times", .free)], isGenerator := false, isCoroutine := false, more := [] } : Scope) (defScope (s_stretched)))) (by decide +kernel)) (fun _ _ _ _ _ _ => (pg_tup rfl (pgs_cons (pg_name (i := 4) (sc_stretched).nd rfl (Or.inl rfl)) (pgs_cons (pg_name (i := 5) (sc_stretched).nd rfl (Or.inl rfl)) (pgs_cons (pg_name (i := 6) (sc_stretched).nd rfl (Or.inl rfl)) pgs_nil))))) (fun _ _ _ _ _ _ tk2 => pts_nil) (fun _ _ _ _ _ _ tk2 => (pe_own G_note (hr.mono (by decide)) (TakesF.passes tk2) (pa_cons (pe_op op_mul (pv 4) (pv 1)) (pa_cons (pe_op op_mul (pv 5) (pv 1)) (pa_cons (pv 6) pa_nil))))))))))))

abbrev s_shrunk : Stmt := top 45
theorem sc_shrunk : FnScope N_shrunk ["piece", "times"] (defScope s_shrunk) := ⟨rfl, rfl, rfl, by decide +kernel, rfl, by decide +kernel, by decide +kernel⟩
theorem own_shrunk {P : Program} {w : World} {mg : Str → Option Value} {base : Heap} {f c : Addr} {fd : FuncData} (S : Ev) (B : Bl mg) (Z : Nums mg) (F : FunC S.K "shrunk" "shrunk" s_shrunk f c fd) (hm : mg "shrunk" = some (.ref f))
    (G_note : Own P w S.K mg base (L2.CX P w) 4 "_note" ["start", "long", "pitch"] (sp_note S))
    (G_require_times : Own P w S.K mg base (L2.CX P w) 2 "_require_times" ["times"] (sp_require_times S))
    (G_good : Own P w S.K mg base (L2.CX P w) 7 "good" ["piece"] (sp_good S))
    (G_parted : Own P w S.K mg base (L2.CX P w) 1 "parted_moving" ["number", "times"] (sp_parted S)) :
    Own P w S.K mg base (L2.CX P w) 8 "shrunk" ["piece", "times"] (sp_shrunk S) := by
  refine ownX F hm sc_shrunk (fun _ _ _ _ _ _ us hl => match us, hl with | [_, _], _ => rfl) (len_shrunk S) (fun A outer s H vs Q E hr h => ⟨t_shrunk S E, ?_, pure_shrunk S vs H Q E h⟩)
  exact (pss_cons (ps_set (i := 2) (sc_shrunk).nd rfl (Or.inl rfl) (pe_own G_good (hr.mono (by decide)) (passes_call takes_def (fun _ _ _ _ z => z)) (pa_cons (pv 0) pa_nil)))
      (pss_cons (ps_expr (pe_own G_require_times (hr.mono (by decide)) (passes_call takes_def (fun _ _ _ _ z => z)) (pa_cons (pv 1) pa_nil)))
      (pss_one (ps_ret (pe_lcX (own := [("voice", 3)]) rfl (sc_shrunk).nd frX_def takesF_def (pi_list (pv 2)) (blkOk_by (own := [("voice", 3)]) (N := N_shrunk) (sc := (defScope (s_shrunk))) (by decide +kernel)) (fun _ _ _ _ _ _ => (pg_name (i := 3) (sc_shrunk).nd rfl (Or.inl rfl))) (fun _ _ _ _ _ _ tk1 => pts_nil) (fun _ _ _ _ _ _ tk1 => (pe_lcX (own := [("start", 4), ("long", 5), ("pitch", 6)]) rfl (sc_shrunk).nd (frX_blk frX_def) tk1 (pi_list (pv 3)) (blkOk_by (own := [("start", 4), ("long", 5), ("pitch", 6)]) (N := N_shrunk) (sc := (relS ({ kind := .function, names := [(PySem.Str.ofString ".0", .local), (PySem.Str.ofString "voice", .local), (PySem.Str.ofString "times", .free)], isGenerator := false, isCoroutine := false, more := [] } : Scope) (defScope (s_shrunk)))) (by decide +kernel)) (fun _ _ _ _ _ _ => (pg_tup rfl (pgs_cons (pg_name (i := 4) (sc_shrunk).nd rfl (Or.inl rfl)) (pgs_cons (pg_name (i := 5) (sc_shrunk).nd rfl (Or.inl rfl)) (pgs_cons (pg_name (i := 6) (sc_shrunk).nd rfl (Or.inl rfl)) pgs_nil))))) (fun _ _ _ _ _ _ tk2 => pts_nil) (fun _ _ _ _ _ _ tk2 => (pe_own G_note (hr.mono (by decide)) (TakesF.passes tk2) (pa_cons (pe_own G_parted (hr.mono (by decide)) (TakesF.passes tk2) (pa_cons (pv 4) (pa_cons (pv 1) pa_nil))) (pa_cons (pe_own G_parted (hr.mono (by decide)) (TakesF.passes tk2) (pa_cons (pv 5) (pa_cons (pv 1) pa_nil))) (pa_cons (pv 6) pa_nil))))))))))))

abbrev s_pitch_at : Stmt := top 23
theorem sc_pitch_at : FnScope N_pitch_at ["voice", "time"] (defScope s_pitch_at) := ⟨rfl, rfl, rfl, by decide +kernel, rfl, by decide +kernel, by decide +kernel⟩
theorem own_pitch_at {P : Program} {w : World} {mg : Str → Option Value} {base : Heap} {f c : Addr} {fd : FuncData} (S : Ev) (B : Bl mg) (Z : Nums mg) (F : FunC S.K "_pitch_at" "_pitch_at" s_pitch_at f c fd) (hm : mg "_pitch_at" = some (.ref f))
    (G_end_of : Own P w S.K mg base CX0 1 "end_of" ["note"] (sp_end_of S)) :
    Own P w S.K mg base CX0 2 "_pitch_at" ["voice", "time"] (sp_pitch_at S) := by
  refine own0 F hm sc_pitch_at (fun _ _ _ _ _ _ us hl => match us, hl with | [_, _], _ => rfl) (len_pitch_at S) (fun A outer s H vs Q E hr h => ⟨t_pitch_at S E, ?_, pure_pitch_at S vs H Q E h⟩)
  exact (pss_cons (ps_for PassesOwn.never rfl (pi_list (pv 0)) (pg_name (i := 2) (sc_pitch_at).nd rfl (Or.inl rfl)) (pss_one (ps_if (pt_chain op_le op_lt (pe_ix ix_tup (pv 2) pe_int (fun _ _ => rfl)) (pv 1) (pe_own0 G_end_of (hr.mono (by decide)) (pa_cons (pv 2) pa_nil))) (pss_one (ps_ret (pe_ix ix_tup (pv 2) pe_int (fun _ _ => rfl)))) pss_nil)))
      (pss_one (ps_ret pe_non)))

abbrev s_sounding : Stmt := top 22
theorem sc_sounding : FnScope N_sounding ["piece", "time"] (defScope s_sounding) := ⟨rfl, rfl, rfl, by decide +kernel, rfl, by decide +kernel, by decide +kernel⟩
theorem own_sounding {P : Program} {w : World} {mg : Str → Option Value} {base : Heap} {f c : Addr} {fd : FuncData} (S : Ev) (B : Bl mg) (Z : Nums mg) (F : FunC S.K "sounding" "sounding" s_sounding f c fd) (hm : mg "sounding" = some (.ref f))
    (G_pitch_at : Own P w S.K mg base CX0 2 "_pitch_at" ["voice", "time"] (sp_pitch_at S))
    (G_good : Own P w S.K mg base (L2.CX P w) 7 "good" ["piece"] (sp_good S))
    (G_require_whole : Own P w S.K mg base (L2.CX P w) 2 "require_whole" ["number"] (sp_require_whole S)) :
    Own P w S.K mg base (L2.CX P w) 8 "sounding" ["piece", "time"] (sp_sounding S) := by
  refine ownX F hm sc_sounding (fun _ _ _ _ _ _ us hl => match us, hl with | [_, _], _ => rfl) (len_sounding S) (fun A outer s H vs Q E hr h => ⟨t_sounding S E, ?_, pure_sounding S vs H Q E h⟩)
  exact (pss_cons (ps_set (i := 2) (sc_sounding).nd rfl (Or.inl rfl) (pe_own G_good (hr.mono (by decide)) (passes_call takes_def (fun _ _ _ _ z => z)) (pa_cons (pv 0) pa_nil)))
      (pss_cons (ps_expr (pe_own G_require_whole (hr.mono (by decide)) (passes_call takes_def (fun _ _ _ _ z => z)) (pa_cons (pv 1) pa_nil)))
      (pss_one (ps_ret (pe_lc (own := [("voice", 3)]) rfl (sc_sounding).nd (pi_list (pv 2)) (blkOk_by (own := [("voice", 3)]) (N := N_sounding) (sc := (defScope (s_sounding))) (by decide +kernel)) (fun _ _ _ _ _ => (pg_name (i := 3) (sc_sounding).nd rfl (Or.inl rfl))) (fun _ _ _ _ _ => pts_nil) (fun _ _ _ _ _ => (pe_own0 G_pitch_at (hr.mono (by decide)) (pa_cons (pv 3) (pa_cons (pv 1) pa_nil)))))))))

abbrev s_faultsB : Stmt := top 29
theorem sc_faultsB : FnScope N_faultsB ["piece"] (defScope s_faultsB) := ⟨rfl, rfl, rfl, by decide +kernel, rfl, by decide +kernel, by decide +kernel⟩
theorem own_faultsB {P : Program} {w : World} {mg : Str → Option Value} {base : Heap} {f c : Addr} {fd : FuncData} (S : Ev) (B : Bl mg) (Z : Nums mg) (F : FunC S.K "faults" "faults" s_faultsB f c fd) (hm : mg "faults" = some (.ref f))
    (G_good : Own P w S.K mg base (L2.CX P w) 7 "good" ["piece"] (sp_good S)) :
    Own P w S.K mg base (L2.CX P w) 9 "faults" ["piece"] (sp_faultsB S) := by
  refine ownX F hm sc_faultsB (fun _ _ _ _ _ _ us hl => match us, hl with | [_], _ => rfl) (len_faultsB S) (fun A outer s H vs Q E hr h => ⟨t_faultsB S E, ?_, pure_faultsB S vs H Q E h⟩)
  exact (pss_cons (ps_set (i := 1) (sc_faultsB).nd rfl (Or.inl rfl) (pe_own G_good (hr.mono (by decide)) (passes_call takes_def (fun _ _ _ _ z => z)) (pa_cons (pv 0) pa_nil)))
      (pss_cons ps_never
      (pss_cons ps_never
      (pss_cons ps_never
      (pss_one ps_never)))))

abbrev s_writtenB : Stmt := top 51
theorem sc_writtenB : FnScope N_writtenB ["piece"] (defScope s_writtenB) := ⟨rfl, rfl, rfl, by decide +kernel, rfl, by decide +kernel, by decide +kernel⟩
theorem own_writtenB {P : Program} {w : World} {mg : Str → Option Value} {base : Heap} {f c : Addr} {fd : FuncData} (S : Ev) (B : Bl mg) (Z : Nums mg) (F : FunC S.K "written" "written" s_writtenB f c fd) (hm : mg "written" = some (.ref f))
    (G_good : Own P w S.K mg base (L2.CX P w) 7 "good" ["piece"] (sp_good S)) :
    Own P w S.K mg base (L2.CX P w) 9 "written" ["piece"] (sp_writtenB S) := by
  refine ownX F hm sc_writtenB (fun _ _ _ _ _ _ us hl => match us, hl with | [_], _ => rfl) (len_writtenB S) (fun A outer s H vs Q E hr h => ⟨t_writtenB S E, ?_, pure_writtenB S vs H Q E h⟩)
  exact (pss_one (ps_ret (pe_join pe_str (pe_lc (own := [("voice", 1)]) rfl (sc_writtenB).nd (pi_list (pe_own G_good (hr.mono (by decide)) (passes_call takes_def (fun _ _ _ _ z => z)) (pa_cons (pv 0) pa_nil))) (blkOk_by (own := [("voice", 1)]) (N := N_writtenB) (sc := (defScope (s_writtenB))) (by decide +kernel)) (fun _ _ _ _ _ => (pg_name (i := 1) (sc_writtenB).nd rfl (Or.inl rfl))) (fun _ _ _ _ _ => pts_nil) (fun _ _ _ _ _ => pe_never)))))

abbrev s_entries_ofB : Stmt := top 55
theorem sc_entries_ofB : FnScope N_entries_ofB ["theme", "piece"] (defScope s_entries_ofB) := ⟨rfl, rfl, rfl, by decide +kernel, rfl, by decide +kernel, by decide +kernel⟩
theorem own_entries_ofB {P : Program} {w : World} {mg : Str → Option Value} {base : Heap} {f c : Addr} {fd : FuncData} (S : Ev) (B : Bl mg) (Z : Nums mg) (F : FunC S.K "entries_of" "entries_of" s_entries_ofB f c fd) (hm : mg "entries_of" = some (.ref f))
    (G_good : Own P w S.K mg base (L2.CX P w) 7 "good" ["piece"] (sp_good S)) :
    Own P w S.K mg base (L2.CX P w) 9 "entries_of" ["theme", "piece"] (sp_entries_ofB S) := by
  refine ownX F hm sc_entries_ofB (fun _ _ _ _ _ _ us hl => match us, hl with | [_, _], _ => rfl) (len_entries_ofB S) (fun A outer s H vs Q E hr h => ⟨t_entries_ofB S E, ?_, pure_entries_ofB S vs H Q E h⟩)
  exact (pss_cons (ps_set (i := 2) (sc_entries_ofB).nd rfl (Or.inl rfl) (pe_own G_good (hr.mono (by decide)) (passes_call takes_def (fun _ _ _ _ z => z)) (pa_cons (pv 1) pa_nil)))
      (pss_cons ps_never
      (pss_cons ps_never
      (pss_cons ps_never
      (pss_one ps_never)))))

abbrev s_law_at : Stmt := top 60
theorem sc_law_at : FnScope N_law_at ["_law_script", "_law_k"] (defScope s_law_at) := ⟨rfl, rfl, rfl, by decide +kernel, rfl, by decide +kernel, by decide +kernel⟩
theorem own_law_at {P : Program} {w : World} {mg : Str → Option Value} {base : Heap} {f c : Addr} {fd : FuncData} (S : Ev) (B : Bl mg) (Z : Nums mg) (F : FunC S.K "_law_at" "_law_at" s_law_at f c fd) (hm : mg "_law_at" = some (.ref f)) :
    Own P w S.K mg base CX0 1 "_law_at" ["_law_script", "_law_k"] (sp_law_at S) := by
  refine own0 F hm sc_law_at (fun _ _ _ _ _ _ us hl => match us, hl with | [_, _], _ => rfl) (len_law_at S) (fun A outer s H vs Q E hr h => ⟨t_law_at S E, ?_, pure_law_at S vs H Q E h⟩)
  exact (pss_cons (ps_if (pt_cmpR op_lt (pv 1) (pe_callB call_len (by rfl) B.len bo_len (pa_cons (pv 0) pa_nil)) (nomark _)) (pss_one (ps_ret (pe_ix ix_list (pv 0) (pv 1) (fun _ _ => rfl)))) pss_nil)
      (pss_one (ps_ret pe_int)))

abbrev s_law_whole : Stmt := top 61
theorem sc_law_whole : FnScope N_law_whole ["_law_thing"] (defScope s_law_whole) := ⟨rfl, rfl, rfl, by decide +kernel, rfl, by decide +kernel, by decide +kernel⟩
theorem own_law_whole {P : Program} {w : World} {mg : Str → Option Value} {base : Heap} {f c : Addr} {fd : FuncData} (S : Ev) (B : Bl mg) (Z : Nums mg) (F : FunC S.K "_law_whole" "_law_whole" s_law_whole f c fd) (hm : mg "_law_whole" = some (.ref f)) :
    Own P w S.K mg base CX0 1 "_law_whole" ["_law_thing"] (sp_law_whole S) := by
  refine own0 F hm sc_law_whole (fun _ _ _ _ _ _ us hl => match us, hl with | [_], _ => rfl) (len_law_whole S) (fun A outer s H vs Q E hr h => ⟨t_law_whole S E, ?_, pure_law_whole S vs H Q E h⟩)
  exact (pss_one (ps_ret (pe_and (pe_callB call_isi (by rfl) B.isinstance bo_isinstance (pa_cons (pv 0) (pa_cons (pe_tyInt B) pa_nil))) (pe_one (pe_not (pe_callB call_isi (by rfl) B.isinstance bo_isinstance (pa_cons (pv 0) (pa_cons (pe_tyBool B) pa_nil))))))))

abbrev s_law_notes : Stmt := top 62
theorem sc_law_notes : FnScope N_law_notes ["_law_numbers", "_law_time", "_law_pitch", "_law_scale"] (defScope s_law_notes) := ⟨rfl, rfl, rfl, by decide +kernel, rfl, by decide +kernel, by decide +kernel⟩
theorem own_law_notes {P : Program} {w : World} {mg : Str → Option Value} {base : Heap} {f c : Addr} {fd : FuncData} (S : Ev) (B : Bl mg) (Z : Nums mg) (F : FunC S.K "_law_notes" "_law_notes" s_law_notes f c fd) (hm : mg "_law_notes" = some (.ref f)) :
    Own P w S.K mg base CX0 1 "_law_notes" ["_law_numbers", "_law_time", "_law_pitch", "_law_scale"] (sp_law_notes S) := by
  refine own0 F hm sc_law_notes (fun _ _ _ _ _ _ us hl => match us, hl with | [_, _, _, _], _ => rfl) (len_law_notes S) (fun A outer s H vs Q E hr h => ⟨t_law_notes S E, ?_, pure_law_notes S vs H Q E h⟩)
  exact (pss_cons (ps_set (i := 4) (sc_law_notes).nd rfl (Or.inl rfl) (pe_lst pa_nil))
      (pss_cons (ps_for PassesOwn.never rfl (pi_list (pv 0)) (pg_name (i := 5) (sc_law_notes).nd rfl (Or.inl rfl)) (pss_cons (ps_set (i := 6) (sc_law_notes).nd rfl (Or.inl rfl) (pe_op op_fdivN (pv 5) pe_int))
      (pss_cons (ps_set (i := 1) (sc_law_notes).nd rfl (Or.inl rfl) (pe_op op_add (pv 1) (pe_op op_mul (pe_ix ix_list (pe_lst (pa_cons pe_int (pa_cons pe_int (pa_cons pe_int (pa_cons pe_int (pa_cons pe_int (pa_cons pe_int pa_nil))))))) (pe_op op_modN (pv 5) pe_int) (fun _ _ => rfl)) (pv 3))))
      (pss_cons (ps_set (i := 7) (sc_law_notes).nd rfl (Or.inl rfl) (pe_ix ix_list (pe_lst (pa_cons (pe_op op_sub (pe_op op_modN (pe_op op_fdivN (pv 6) pe_int) pe_int) pe_int) (pa_cons (pe_op op_sub (pe_op op_modN (pe_op op_fdivN (pv 6) pe_int) pe_int) pe_int) (pa_cons (pe_op op_sub (pe_op op_modN (pe_op op_fdivN (pv 6) pe_int) pe_int) pe_int) (pa_cons (pe_op op_sub (pe_op op_modN (pe_op op_fdivN (pv 6) pe_int) pe_int) pe_int) pa_nil))))) (pe_op op_modN (pv 6) pe_int) (fun _ _ => rfl)))
      (pss_cons (ps_set (i := 2) (sc_law_notes).nd rfl (Or.inl rfl) (pe_op op_sub (pe_op op_modN (pe_op op_add (pe_op op_add (pv 2) (pv 7)) pe_int) pe_int) pe_int))
      (pss_cons (ps_expr (pe_bm PySem.F.plainAttrs_list PySem.F.slot_list_append PySem.F.type_list_append mt_append (pv 4) (pa_cons (pe_tup (pa_cons (pv 1) (pa_cons (pe_op op_mul (pe_op op_add pe_int (pe_op op_modN (pe_op op_fdivN (pv 5) pe_int) pe_int)) (pv 3)) (pa_cons (pv 2) pa_nil)))) pa_nil)))
      (pss_one (ps_set (i := 1) (sc_law_notes).nd rfl (Or.inl rfl) (pe_op op_add (pv 1) (pe_op op_mul (pe_op op_add pe_int (pe_op op_modN (pe_op op_fdivN (pv 5) pe_int) pe_int)) (pv 3)))))))))))
      (pss_one (ps_ret (pv 4)))))

abbrev s_law_piece : Stmt := top 63
theorem sc_law_piece : FnScope N_law_piece ["_law_script"] (defScope s_law_piece) := ⟨rfl, rfl, rfl, by decide +kernel, rfl, by decide +kernel, by decide +kernel⟩
theorem own_law_piece {P : Program} {w : World} {mg : Str → Option Value} {base : Heap} {f c : Addr} {fd : FuncData} (S : Ev) (B : Bl mg) (Z : Nums mg) (F : FunC S.K "_law_piece" "_law_piece" s_law_piece f c fd) (hm : mg "_law_piece" = some (.ref f))
    (G_law_at : Own P w S.K mg base CX0 1 "_law_at" ["_law_script", "_law_k"] (sp_law_at S))
    (G_law_notes : Own P w S.K mg base CX0 1 "_law_notes" ["_law_numbers", "_law_time", "_law_pitch", "_law_scale"] (sp_law_notes S)) :
    Own P w S.K mg base CX0 2 "_law_piece" ["_law_script"] (sp_law_piece S) := by
  refine own0 F hm sc_law_piece (fun _ _ _ _ _ _ us hl => match us, hl with | [_], _ => rfl) (len_law_piece S) (fun A outer s H vs Q E hr h => ⟨t_law_piece S E, ?_, pure_law_piece S vs H Q E h⟩)
  exact (pss_cons (ps_set (i := 1) (sc_law_piece).nd rfl (Or.inl rfl) (pe_op op_add pe_int (pe_op op_modN (pe_own0 G_law_at (hr.mono (by decide)) (pa_cons (pv 0) (pa_cons pe_int pa_nil))) pe_int)))
      (pss_cons (ps_if (pt_cmpR op_eq (pe_op op_modN (pe_op op_fdivN (pe_own0 G_law_at (hr.mono (by decide)) (pa_cons (pv 0) (pa_cons pe_int pa_nil))) pe_int) pe_int) pe_int (nomark _)) (pss_one (ps_set (i := 1) (sc_law_piece).nd rfl (Or.inl rfl) (pe_op op_add pe_int (pe_op op_modN (pe_op op_fdivN (pe_own0 G_law_at (hr.mono (by decide)) (pa_cons (pv 0) (pa_cons pe_int pa_nil))) pe_int) pe_int)))) pss_nil)
      (pss_cons (ps_set (i := 2) (sc_law_piece).nd rfl (Or.inl rfl) pe_int)
      (pss_cons (ps_if (pt_cmpR op_eq (pe_op op_modN (pe_own0 G_law_at (hr.mono (by decide)) (pa_cons (pv 0) (pa_cons pe_int pa_nil))) pe_int) pe_int (nomark _)) (pss_one (ps_set (i := 2) (sc_law_piece).nd rfl (Or.inl rfl) (pe_op op_add pe_int (pe_op op_modN (pe_op op_fdivN (pe_own0 G_law_at (hr.mono (by decide)) (pa_cons (pv 0) (pa_cons pe_int pa_nil))) pe_int) pe_int)))) pss_nil)
      (pss_cons (ps_set (i := 3) (sc_law_piece).nd rfl (Or.inl rfl) (pe_lst pa_nil))
      (pss_cons (ps_for PassesOwn.never rfl (pi_range1 rfl B.range (pa_cons (pv 1) pa_nil)) (pg_name (i := 4) (sc_law_piece).nd rfl (Or.inl rfl)) (pss_cons (ps_setLc (i := 5) (own := [("_law_k", 8)]) rfl (sc_law_piece).nd rfl rfl (sw_true rfl rfl rfl (by decide +kernel)) (pi_range3 rfl B.range (pa_cons (pe_op op_add pe_int (pv 4)) (pa_cons (pe_callB (call_min2 rfl) (by rfl) B.min bo_min (pa_cons (pe_callB call_len (by rfl) B.len bo_len (pa_cons (pv 0) pa_nil)) (pa_cons pe_int pa_nil))) (pa_cons (pv 1) pa_nil)))) (blkOk_by (own := [("_law_k", 8)]) (N := N_law_piece) (sc := (defScope (s_law_piece))) (by decide +kernel)) (fun _ _ _ _ _ => (pg_name (i := 8) (sc_law_piece).nd rfl (Or.inl rfl))) (fun _ _ _ _ _ => pts_nil) (fun _ _ _ _ _ => (pe_ix ix_list (pv 0) (pv 8) (fun _ _ => rfl))))
      (pss_cons (ps_set (i := 6) (sc_law_piece).nd rfl (Or.inl rfl) (pe_op op_sub (pe_own0 G_law_at (hr.mono (by decide)) (pa_cons (pv 0) (pa_cons pe_int pa_nil))) (pe_op op_mul pe_int (pv 4))))
      (pss_cons (ps_set (i := 7) (sc_law_piece).nd rfl (Or.inl rfl) (pe_op op_mul (pe_op op_modN (pe_op op_add (pe_op op_fdivN (pe_own0 G_law_at (hr.mono (by decide)) (pa_cons (pv 0) (pa_cons pe_int pa_nil))) pe_int) (pe_op op_mul (pv 4) (pe_op op_fdivN (pe_own0 G_law_at (hr.mono (by decide)) (pa_cons (pv 0) (pa_cons pe_int pa_nil))) pe_int))) pe_int) (pv 2)))
      (pss_one (ps_expr (pe_bm PySem.F.plainAttrs_list PySem.F.slot_list_append PySem.F.type_list_append mt_append (pv 3) (pa_cons (pe_own0 G_law_notes (hr.mono (by decide)) (pa_cons (pv 5) (pa_cons (pv 7) (pa_cons (pe_op op_sub (pe_op op_modN (pv 6) pe_int) pe_int) (pa_cons (pv 2) pa_nil))))) pa_nil))))))))
      (pss_one (ps_ret (pv 3)))))))))

abbrev s_law_is_noteD : Stmt := top 64
theorem sc_law_is_noteD : FnScope N_law_is_noteD ["_law_note"] (defScope s_law_is_noteD) := ⟨rfl, rfl, rfl, by decide +kernel, rfl, by decide +kernel, by decide +kernel⟩
theorem own_law_is_noteD {P : Program} {w : World} {mg : Str → Option Value} {base : Heap} {f c : Addr} {fd : FuncData} (S : Ev) (B : Bl mg) (Z : Nums mg) (F : FunC S.K "_law_is_note" "_law_is_note" s_law_is_noteD f c fd) (hm : mg "_law_is_note" = some (.ref f))
    (G_law_whole : Own P w S.K mg base CX0 1 "_law_whole" ["_law_thing"] (sp_law_whole S)) :
    Own P w S.K mg base CX0 2 "_law_is_note" ["_law_note"] (sp_law_is_noteD S) := by
  refine own0 F hm sc_law_is_noteD (fun _ _ _ _ _ _ us hl => match us, hl with | [_], _ => rfl) (len_law_is_noteD S) (fun A outer s H vs Q E hr h => ⟨t_law_is_noteD S E, ?_, pure_law_is_noteD S vs H Q E h⟩)
  exact (pss_cons (ps_if (PW.pt (pw_or (pt_not (pt_val (pe_callB call_isi (by rfl) B.isinstance bo_isinstance (pa_cons (pv 0) (pa_cons (pe_tyTuple B) pa_nil))))) (pw_or1 (pt_cmpR op_ne (pe_callB call_len (by rfl) B.len bo_len (pa_cons (pv 0) pa_nil)) pe_int (nomark _))))) (pss_one (ps_ret pe_bl)) pss_nil)
      (pss_cons (ps_if (pt_cmpR op_gt (pe_callB call_len (by rfl) B.len bo_len (pa_cons (pe_lc (own := [("_law_part", 1)]) rfl (sc_law_is_noteD).nd (pi_tup (pv 0)) (blkOk_by (own := [("_law_part", 1)]) (N := N_law_is_noteD) (sc := (defScope (s_law_is_noteD))) (by decide +kernel)) (fun _ _ _ _ _ => (pg_name (i := 1) (sc_law_is_noteD).nd rfl (Or.inl rfl))) (fun _ _ _ _ _ => (pts_one (pt_not (pt_val (pe_own0 G_law_whole (hr.mono (by decide)) (pa_cons (pv 1) pa_nil)))))) (fun _ _ _ _ _ => (pv 1))) pa_nil)) pe_int (nomark _)) (pss_one (ps_ret pe_bl)) pss_nil)
      (pss_one (ps_ret (pe_and (pe_cmpR op_ge (pe_ix ix_tup (pv 0) pe_int (fun _ _ => rfl)) pe_int (nomark _)) (pe_and (pe_cmpR op_ge (pe_ix ix_tup (pv 0) pe_int (fun _ _ => rfl)) pe_int (nomark _)) (pe_and (pe_cmpR op_le (pe_op op_add (pe_ix ix_tup (pv 0) pe_int (fun _ _ => rfl)) (pe_ix ix_tup (pv 0) pe_int (fun _ _ => rfl))) pe_int (nomark _)) (pe_one (pe_chain op_le op_le (pe_un un_neg pe_int) (pe_ix ix_tup (pv 0) pe_int (fun _ _ => rfl)) pe_int)))))))))

abbrev s_law_is_piece : Stmt := top 65
theorem sc_law_is_piece : FnScope N_law_is_piece ["_law_piece_here"] (defScope s_law_is_piece) := ⟨rfl, rfl, rfl, by decide +kernel, rfl, by decide +kernel, by decide +kernel⟩
theorem own_law_is_piece {P : Program} {w : World} {mg : Str → Option Value} {base : Heap} {f c : Addr} {fd : FuncData} (S : Ev) (B : Bl mg) (Z : Nums mg) (F : FunC S.K "_law_is_piece" "_law_is_piece" s_law_is_piece f c fd) (hm : mg "_law_is_piece" = some (.ref f))
    (G_law_is_noteD : Own P w S.K mg base CX0 2 "_law_is_note" ["_law_note"] (sp_law_is_noteD S)) :
    Own P w S.K mg base CX0 3 "_law_is_piece" ["_law_piece_here"] (sp_law_is_piece S) := by
  refine own0 F hm sc_law_is_piece (fun _ _ _ _ _ _ us hl => match us, hl with | [_], _ => rfl) (len_law_is_piece S) (fun A outer s H vs Q E hr h => ⟨t_law_is_piece S E, ?_, pure_law_is_piece S vs H Q E h⟩)
  exact (pss_cons (ps_if (PW.pt (pw_or (pt_not (pt_val (pe_callB call_isi (by rfl) B.isinstance bo_isinstance (pa_cons (pv 0) (pa_cons (pe_tyList B) pa_nil))))) (pw_or1 (pt_not (pt_chain op_le op_le pe_int (pe_callB call_len (by rfl) B.len bo_len (pa_cons (pv 0) pa_nil)) pe_int))))) (pss_one (ps_ret pe_bl)) pss_nil)
      (pss_cons (ps_for PassesOwn.never rfl (pi_list (pv 0)) (pg_name (i := 1) (sc_law_is_piece).nd rfl (Or.inl rfl)) (pss_cons (ps_if (pt_not (pt_val (pe_callB call_isi (by rfl) B.isinstance bo_isinstance (pa_cons (pv 1) (pa_cons (pe_tyList B) pa_nil))))) (pss_one (ps_ret pe_bl)) pss_nil)
      (pss_cons (ps_set (i := 2) (sc_law_is_piece).nd rfl (Or.inl rfl) pe_int)
      (pss_one (ps_for PassesOwn.never rfl (pi_list (pv 1)) (pg_name (i := 3) (sc_law_is_piece).nd rfl (Or.inl rfl)) (pss_cons (ps_if (PW.pt (pw_or (pt_not (pt_val (pe_own0 G_law_is_noteD (hr.mono (by decide)) (pa_cons (pv 3) pa_nil)))) (pw_or1 (pt_cmpR op_lt (pe_ix ix_tup (pv 3) pe_int (fun _ _ => rfl)) (pv 2) (nomark _))))) (pss_one (ps_ret pe_bl)) pss_nil)
      (pss_one (ps_set (i := 2) (sc_law_is_piece).nd rfl (Or.inl rfl) (pe_op op_add (pe_ix ix_tup (pv 3) pe_int (fun _ _ => rfl)) (pe_ix ix_tup (pv 3) pe_int (fun _ _ => rfl)))))))))))
      (pss_one (ps_ret pe_bl))))

abbrev s_law_odd_note : Stmt := top 66
theorem sc_law_odd_note : FnScope N_law_odd_note ["_law_note", "_law_number"] (defScope s_law_odd_note) := ⟨rfl, rfl, rfl, by decide +kernel, rfl, by decide +kernel, by decide +kernel⟩
theorem own_law_odd_note {P : Program} {w : World} {mg : Str → Option Value} {base : Heap} {f c : Addr} {fd : FuncData} (S : Ev) (B : Bl mg) (Z : Nums mg) (F : FunC S.K "_law_odd_note" "_law_odd_note" s_law_odd_note f c fd) (hm : mg "_law_odd_note" = some (.ref f))
    (b_abs : mg "abs" = none) :
    Own P w S.K mg base CX0 1 "_law_odd_note" ["_law_note", "_law_number"] (sp_law_odd_note S) := by
  refine own0 F hm sc_law_odd_note (fun _ _ _ _ _ _ us hl => match us, hl with | [_, _], _ => rfl) (len_law_odd_note S) (fun A outer s H vs Q E hr h => ⟨t_law_odd_note S E, ?_, pure_law_odd_note S vs H Q E h⟩)
  exact (pss_cons (ps_set (i := 2) (sc_law_odd_note).nd rfl (Or.inl rfl) (pe_op op_fdivN (pe_callB call_abs (by rfl) b_abs bo_abs (pa_cons (pv 1) pa_nil)) pe_int))
      (pss_cons (ps_if (pt_cmpR op_lt (pe_op op_modN (pv 1) pe_int) pe_int (nomark _)) (pss_cons (ps_set (i := 3) (sc_law_odd_note).nd rfl (Or.inl rfl) (pe_op op_modN (pv 1) pe_int))
      (pss_cons (ps_set (i := 4) (sc_law_odd_note).nd rfl (Or.inl rfl) (pe_ix ix_list (pe_lst (pa_cons (pe_op op_sub (pe_un un_neg pe_int) (pv 2)) (pa_cons (pe_op op_sub pe_int (pv 2)) (pa_cons (pe_op op_add pe_int (pv 2)) pa_nil)))) (pv 3) (fun _ _ => rfl)))
      (pss_cons (ps_set (i := 5) (sc_law_odd_note).nd rfl (Or.inl rfl) (pe_ix ix_list (pe_lst (pa_cons pe_int (pa_cons pe_int (pa_cons (pe_op op_sub (pe_un un_neg pe_int) (pv 2)) pa_nil)))) (pv 3) (fun _ _ => rfl)))
      (pss_cons (ps_set (i := 6) (sc_law_odd_note).nd rfl (Or.inl rfl) (pe_ix ix_list (pe_lst (pa_cons pe_bl (pa_cons pe_non (pa_cons pe_str (pa_cons (pv 4) (pa_cons (pv 5) (pa_cons (pe_op op_pow pe_int pe_int) (pa_cons (pe_lst (pa_cons pe_int pa_nil)) (pa_cons pe_dnewK (pa_cons pe_bl pa_nil)))))))))) (pe_op op_modN (pv 2) pe_int) (fun _ _ => rfl)))
      (pss_one (ps_ret (pe_op op_catA (pe_op op_catA (pe_slice sl_tupA (pv 0) po_none (po_some (pv 3))) (pe_tup (pa_cons (pv 6) pa_nil))) (pe_slice sl_tupA (pv 0) (po_some (pe_op op_add (pv 3) pe_int)) po_none)))))))) pss_nil)
      (pss_cons (ps_if (pt_cmpR op_lt (pe_op op_modN (pv 1) pe_int) pe_int (nomark _)) (pss_one (ps_ret (pe_ix ix_list (pe_lst (pa_cons (pe_callTy call_list_of (by rfl) B.list bo_list (pa_cons (pv 0) pa_nil)) (pa_cons (pe_slice sl_tupA (pv 0) po_none (po_some pe_int)) (pa_cons (pe_op op_catA (pv 0) (pe_tup (pa_cons pe_int pa_nil))) pa_nil)))) (pe_op op_modN (pv 1) pe_int) (fun _ _ => rfl)))) pss_nil)
      (pss_cons (ps_if (pt_cmpR op_lt (pe_op op_modN (pv 1) pe_int) pe_int (nomark _)) (pss_one (ps_ret (pe_ix ix_list (pe_lst (pa_cons pe_non (pa_cons pe_str pa_nil))) (pe_op op_modN (pv 1) pe_int) (fun _ _ => rfl)))) pss_nil)
      (pss_cons (ps_if (pt_cmpR op_lt (pe_op op_modN (pv 1) pe_int) pe_int (nomark _)) (pss_one (ps_ret (pe_tup (pa_cons (pe_op op_sub (pe_op op_sub (pe_ix ix_tup (pv 0) pe_int (fun _ _ => rfl)) pe_int) (pe_op op_mul (pe_op op_modN (pv 2) pe_int) (pe_callTy call_int1 (by rfl) B.int bo_int (pa_cons (pe_cmpR op_eq (pe_op op_modN (pv 1) pe_int) pe_int (nomark _)) pa_nil)))) (pa_cons (pe_ix ix_tup (pv 0) pe_int (fun _ _ => rfl)) (pa_cons (pe_ix ix_tup (pv 0) pe_int (fun _ _ => rfl)) pa_nil)))))) pss_nil)
      (pss_one (ps_ret (pe_ix ix_list (pe_lst (pa_cons (pe_tup (pa_cons (pe_op op_add (pe_op op_sub pe_int (pe_ix ix_tup (pv 0) pe_int (fun _ _ => rfl))) (pe_op op_modN (pv 2) pe_int)) (pa_cons (pe_ix ix_tup (pv 0) pe_int (fun _ _ => rfl)) (pa_cons (pe_ix ix_tup (pv 0) pe_int (fun _ _ => rfl)) pa_nil)))) (pa_cons (pe_tup pa_nil) pa_nil))) (pe_op op_modN (pv 1) pe_int) (fun _ _ => rfl)))))))))

abbrev s_law_spoilt : Stmt := top 67
theorem sc_law_spoilt : FnScope N_law_spoilt ["_law_piece_here", "_law_way", "_law_number"] (defScope s_law_spoilt) := ⟨rfl, rfl, rfl, by decide +kernel, rfl, by decide +kernel, by decide +kernel⟩
theorem own_law_spoilt {P : Program} {w : World} {mg : Str → Option Value} {base : Heap} {f c : Addr} {fd : FuncData} (S : Ev) (B : Bl mg) (Z : Nums mg) (F : FunC S.K "_law_spoilt" "_law_spoilt" s_law_spoilt f c fd) (hm : mg "_law_spoilt" = some (.ref f))
    (G_law_odd_note : Own P w S.K mg base CX0 1 "_law_odd_note" ["_law_note", "_law_number"] (sp_law_odd_note S)) :
    Own P w S.K mg base CX0 2 "_law_spoilt" ["_law_piece_here", "_law_way", "_law_number"] (sp_law_spoilt S) := by
  refine own0 F hm sc_law_spoilt (fun _ _ _ _ _ _ us hl => match us, hl with | [_, _, _], _ => rfl) (len_law_spoilt S) (fun A outer s H vs Q E hr h => ⟨t_law_spoilt S E, ?_, pure_law_spoilt S vs H Q E h⟩)
  exact (pss_cons (ps_set (i := 3) (sc_law_spoilt).nd rfl (Or.inl rfl) (pe_op op_modN (pv 2) (pe_callB call_len (by rfl) B.len bo_len (pa_cons (pv 0) pa_nil))))
      (pss_cons (ps_set (i := 4) (sc_law_spoilt).nd rfl (Or.inl rfl) (pe_op op_fdivN (pv 2) (pe_callB call_len (by rfl) B.len bo_len (pa_cons (pv 0) pa_nil))))
      (pss_cons (ps_set (i := 5) (sc_law_spoilt).nd rfl (Or.inl rfl) (pe_ix ix_list (pv 0) (pv 3) (fun _ _ => rfl)))
      (pss_cons (ps_if (pt_cmpR op_eq (pv 1) pe_int (nomark _)) (pss_one (ps_ret (pe_ix ix_list (pe_lst (pa_cons (pe_callTy call_tuple_of (by rfl) B.tuple bo_tuple (pa_cons (pv 0) pa_nil)) (pa_cons (pe_lst pa_nil) (pa_cons (pe_op op_rep (pe_lst (pa_cons (pe_lst pa_nil) pa_nil)) pe_int) (pa_cons pe_non (pa_cons pe_str (pa_cons pe_int (pa_cons (pe_disp (pps_cons pe_int (pe_lst pa_nil) pps_nil) (by rfl) (by rfl) (by decide) (by decide)) (pa_cons (pe_tup (pa_cons (pv 0) pa_nil)) pa_nil))))))))) (pe_op op_modN (pv 4) pe_int) (fun _ _ => rfl)))) pss_nil)
      (pss_cons (ps_if (PW.pt (pw_or (pt_cmpR op_eq (pv 1) pe_int (nomark _)) (pw_or1 (pt_cmpR (op_eqD hr.units) (pv 5) (pe_lst pa_nil) (nomark _))))) (pss_cons (ps_set (i := 6) (sc_law_spoilt).nd rfl (Or.inl rfl) (pe_ix ix_list (pe_lst (pa_cons (pe_callTy call_tuple_of (by rfl) B.tuple bo_tuple (pa_cons (pv 5) pa_nil)) (pa_cons pe_non (pa_cons pe_str (pa_cons pe_int (pa_cons (pe_lst (pa_cons (pe_lst pa_nil) pa_nil)) pa_nil)))))) (pe_op op_modN (pv 4) pe_int) (fun _ _ => rfl)))
      (pss_one (ps_ret (pe_op op_cat (pe_op op_cat (pe_slice sl_list (pv 0) po_none (po_some (pv 3))) (pe_lst (pa_cons (pv 6) pa_nil))) (pe_slice sl_list (pv 0) (po_some (pe_op op_add (pv 3) pe_int)) po_none))))) pss_nil)
      (pss_cons (ps_set (i := 7) (sc_law_spoilt).nd rfl (Or.inl rfl) (pe_op op_modN (pv 4) (pe_callB call_len (by rfl) B.len bo_len (pa_cons (pv 5) pa_nil))))
      (pss_cons (ps_set (i := 8) (sc_law_spoilt).nd rfl (Or.inl rfl) (pe_own0 G_law_odd_note (hr.mono (by decide)) (pa_cons (pe_ix ix_list (pv 5) (pv 7) (fun _ _ => rfl)) (pa_cons (pe_op op_fdivN (pv 4) (pe_callB call_len (by rfl) B.len bo_len (pa_cons (pv 5) pa_nil))) pa_nil))))
      (pss_cons (ps_set (i := 5) (sc_law_spoilt).nd rfl (Or.inl rfl) (pe_op op_cat (pe_op op_cat (pe_slice sl_list (pv 5) po_none (po_some (pv 7))) (pe_lst (pa_cons (pv 8) pa_nil))) (pe_slice sl_list (pv 5) (po_some (pe_op op_add (pv 7) pe_int)) po_none)))
      (pss_one (ps_ret (pe_op op_cat (pe_op op_cat (pe_slice sl_list (pv 0) po_none (po_some (pv 3))) (pe_lst (pa_cons (pv 5) pa_nil))) (pe_slice sl_list (pv 0) (po_some (pe_op op_add (pv 3) pe_int)) po_none))))))))))))

abbrev s_law_asked : Stmt := top 68
theorem sc_law_asked : FnScope N_law_asked ["_law_which", "_law_piece_here"] (defScope s_law_asked) := ⟨rfl, rfl, rfl, by decide +kernel, rfl, by decide +kernel, by decide +kernel⟩
theorem own_law_asked {P : Program} {w : World} {mg : Str → Option Value} {base : Heap} {f c : Addr} {fd : FuncData} (S : Ev) (B : Bl mg) (Z : Nums mg) (F : FunC S.K "_law_asked" "_law_asked" s_law_asked f c fd) (hm : mg "_law_asked" = some (.ref f))
    (G_entries_ofB : Own P w S.K mg base (L2.CX P w) 9 "entries_of" ["theme", "piece"] (sp_entries_ofB S))
    (G_faultsB : Own P w S.K mg base (L2.CX P w) 9 "faults" ["piece"] (sp_faultsB S))
    (G_good : Own P w S.K mg base (L2.CX P w) 7 "good" ["piece"] (sp_good S))
    (G_length : Own P w S.K mg base (L2.CX P w) 8 "length" ["piece"] (sp_length S))
    (G_mirrored : Own P w S.K mg base (L2.CX P w) 8 "mirrored" ["piece", "axis"] (sp_mirrored S))
    (G_moved : Own P w S.K mg base (L2.CX P w) 8 "moved" ["piece", "later", "higher"] (sp_moved S))
    (G_shrunk : Own P w S.K mg base (L2.CX P w) 8 "shrunk" ["piece", "times"] (sp_shrunk S))
    (G_sounding : Own P w S.K mg base (L2.CX P w) 8 "sounding" ["piece", "time"] (sp_sounding S))
    (G_stretched : Own P w S.K mg base (L2.CX P w) 8 "stretched" ["piece", "times"] (sp_stretched S))
    (G_turned : Own P w S.K mg base (L2.CX P w) 8 "turned" ["piece", "end"] (sp_turned S))
    (G_writtenB : Own P w S.K mg base (L2.CX P w) 9 "written" ["piece"] (sp_writtenB S)) :
    Own P w S.K mg base (L2.CX P w) 10 "_law_asked" ["_law_which", "_law_piece_here"] (sp_law_asked S) := by
  refine ownX F hm sc_law_asked (fun _ _ _ _ _ _ us hl => match us, hl with | [_, _], _ => rfl) (len_law_asked S) (fun A outer s H vs Q E hr h => ⟨t_law_asked S E, ?_, pure_law_asked S vs H Q E h⟩)
  exact (pss_cons (ps_if (pt_cmpR op_eq (pv 0) pe_int (nomark _)) (pss_one (ps_ret (pe_own G_good (hr.mono (by decide)) (passes_call takes_def (fun _ _ _ _ z => z)) (pa_cons (pv 1) pa_nil)))) pss_nil)
      (pss_cons (ps_if (pt_cmpR op_eq (pv 0) pe_int (nomark _)) (pss_one (ps_ret (pe_own G_length (hr.mono (by decide)) (passes_call takes_def (fun _ _ _ _ z => z)) (pa_cons (pv 1) pa_nil)))) pss_nil)
      (pss_cons (ps_if (pt_cmpR op_eq (pv 0) pe_int (nomark _)) (pss_one (ps_ret (pe_own G_faultsB (hr.mono (by decide)) (passes_call takes_def (fun _ _ _ _ z => z)) (pa_cons (pv 1) pa_nil)))) pss_nil)
      (pss_cons (ps_if (pt_cmpR op_eq (pv 0) pe_int (nomark _)) (pss_one (ps_ret (pe_own G_writtenB (hr.mono (by decide)) (passes_call takes_def (fun _ _ _ _ z => z)) (pa_cons (pv 1) pa_nil)))) pss_nil)
      (pss_cons (ps_if (pt_cmpR op_eq (pv 0) pe_int (nomark _)) (pss_one (ps_ret (pe_own G_mirrored (hr.mono (by decide)) (passes_call takes_def (fun _ _ _ _ z => z)) (pa_cons (pv 1) (pa_cons pe_non pa_nil))))) pss_nil)
      (pss_cons (ps_if (pt_cmpR op_eq (pv 0) pe_int (nomark _)) (pss_one (ps_ret (pe_own G_turned (hr.mono (by decide)) (passes_call takes_def (fun _ _ _ _ z => z)) (pa_cons (pv 1) (pa_cons pe_non pa_nil))))) pss_nil)
      (pss_cons (ps_if (pt_cmpR op_eq (pv 0) pe_int (nomark _)) (pss_one (ps_ret (pe_own G_sounding (hr.mono (by decide)) (passes_call takes_def (fun _ _ _ _ z => z)) (pa_cons (pv 1) (pa_cons pe_non pa_nil))))) pss_nil)
      (pss_cons (ps_if (pt_cmpR op_eq (pv 0) pe_int (nomark _)) (pss_one (ps_ret (pe_own G_stretched (hr.mono (by decide)) (passes_call takes_def (fun _ _ _ _ z => z)) (pa_cons (pv 1) (pa_cons pe_int pa_nil))))) pss_nil)
      (pss_cons (ps_if (pt_cmpR op_eq (pv 0) pe_int (nomark _)) (pss_one (ps_ret (pe_own G_shrunk (hr.mono (by decide)) (passes_call takes_def (fun _ _ _ _ z => z)) (pa_cons (pv 1) (pa_cons pe_int pa_nil))))) pss_nil)
      (pss_cons (ps_if (pt_cmpR op_eq (pv 0) pe_int (nomark _)) (pss_one (ps_ret (pe_own G_moved (hr.mono (by decide)) (passes_call takes_def (fun _ _ _ _ z => z)) (pa_cons (pv 1) (pa_cons pe_non (pa_cons pe_int pa_nil)))))) pss_nil)
      (pss_one (ps_ret (pe_own G_entries_ofB (hr.mono (by decide)) (passes_call takes_def (fun _ _ _ _ z => z)) (pa_cons (pe_lst pa_nil) (pa_cons (pv 1) pa_nil)))))))))))))))

abbrev s_law_refused : Stmt := top 69
theorem sc_law_refused : FnScope N_law_refused ["_law_which", "_law_piece_here"] (defScope s_law_refused) := ⟨rfl, rfl, rfl, by decide +kernel, rfl, by decide +kernel, by decide +kernel⟩
theorem own_law_refused {P : Program} {w : World} {mg : Str → Option Value} {base : Heap} {f c : Addr} {fd : FuncData} (S : Ev) (B : Bl mg) (Z : Nums mg) (F : FunC S.K "_law_refused" "_law_refused" s_law_refused f c fd) (hm : mg "_law_refused" = some (.ref f))
    (G_law_asked : Own P w S.K mg base (L2.CX P w) 10 "_law_asked" ["_law_which", "_law_piece_here"] (sp_law_asked S))
    (g_BadEntry : mg "BadEntry" = some (.ref S.cEntry))
    (g_BadNumber : mg "BadNumber" = some (.ref S.cNumber))
    (g_BadPiece : mg "BadPiece" = some (.ref S.cPiece))
    (g_BadTheme : mg "BadTheme" = some (.ref S.cTheme))
    (g_Clash : mg "Clash" = some (.ref S.cClash))
    (g_NoText : mg "NoText" = some (.ref S.cText))
    (g_OutOfRange : mg "OutOfRange" = some (.ref S.cRange))
    (g_Uneven : mg "Uneven" = some (.ref S.cUneven))
    (g_WeaveError : mg "WeaveError" = some (.ref S.cWeave)) :
    Own P w S.K mg base CX0 11 "_law_refused" ["_law_which", "_law_piece_here"] (sp_law_refused S) := by
  refine own0 F hm sc_law_refused (fun _ _ _ _ _ _ us hl => match us, hl with | [_, _], _ => rfl) (len_law_refused S) (fun A outer s H vs Q E hr h => ⟨t_law_refused S E, ?_, pure_law_refused S vs H Q E h⟩)
  exact (pss_cons (ps_try_as (i := 2) (tb := fun W => (tDrop (tCallS (sp_law_asked S) (WE W) (tCons (tVar 0) (tCons (tVar 1) tNil))))) (ts := fun a cls d => (tSeq (tIfS (tOr (tB (tCB (rIsX S.K a cls d) (tCons (tVar 2) (tCons (tC (.ref S.cEntry)) tNil)))) (tOr (tB (tCB (rIsX S.K a cls d) (tCons (tVar 2) (tCons (tC (.ref S.cNumber)) tNil)))) (tOr (tB (tCB (rIsX S.K a cls d) (tCons (tVar 2) (tCons (tC (.ref S.cTheme)) tNil)))) (tB (tCB (rIsX S.K a cls d) (tCons (tVar 2) (tCons (tC (.ref S.cClash)) tNil))))))) (tRet (tC (.bl false))) tNext)
      (tSeq (tIfS (tOr (tB (tCB (rIsX S.K a cls d) (tCons (tVar 2) (tCons (tC (.ref S.cText)) tNil)))) (tOr (tB (tCB (rIsX S.K a cls d) (tCons (tVar 2) (tCons (tC (.ref S.cRange)) tNil)))) (tB (tCB (rIsX S.K a cls d) (tCons (tVar 2) (tCons (tC (.ref S.cUneven)) tNil)))))) (tRet (tC (.bl false))) tNext)
      (tRet (tAndV (tCB (rIsX S.K a cls d) (tCons (tVar 2) (tCons (tC (.ref S.cPiece)) tNil))) (tCB (rIsX S.K a cls d) (tCons (tVar 2) (tCons (tC (.ty "ValueError")) tNil)))))))) rfl rfl (sc_law_refused).nd rfl rfl ⟨rfl, by decide, .inl g_WeaveError⟩ takesNo (fun W pn xe tk _ => (pss_one (ps_expr (pe_ownS G_law_asked (hr.mono (by decide)) tk (pa_cons (pv 0) (pa_cons (pv 1) pa_nil)))))) (fun a oe cls d pn hz hf => (pss_cons (ps_if (PW.pt (pw_or (pt_val (pe_callB (call_isX hz hf) (by rfl) B.isinstance bo_isinstance (pa_cons (pv 2) (pa_cons (pe_glob rfl g_BadEntry rfl) pa_nil)))) (pw_or (pt_val (pe_callB (call_isX hz hf) (by rfl) B.isinstance bo_isinstance (pa_cons (pv 2) (pa_cons (pe_glob rfl g_BadNumber rfl) pa_nil)))) (pw_or (pt_val (pe_callB (call_isX hz hf) (by rfl) B.isinstance bo_isinstance (pa_cons (pv 2) (pa_cons (pe_glob rfl g_BadTheme rfl) pa_nil)))) (pw_or1 (pt_val (pe_callB (call_isX hz hf) (by rfl) B.isinstance bo_isinstance (pa_cons (pv 2) (pa_cons (pe_glob rfl g_Clash rfl) pa_nil))))))))) (pss_one (ps_ret pe_bl)) pss_nil)
      (pss_cons (ps_if (PW.pt (pw_or (pt_val (pe_callB (call_isX hz hf) (by rfl) B.isinstance bo_isinstance (pa_cons (pv 2) (pa_cons (pe_glob rfl g_NoText rfl) pa_nil)))) (pw_or (pt_val (pe_callB (call_isX hz hf) (by rfl) B.isinstance bo_isinstance (pa_cons (pv 2) (pa_cons (pe_glob rfl g_OutOfRange rfl) pa_nil)))) (pw_or1 (pt_val (pe_callB (call_isX hz hf) (by rfl) B.isinstance bo_isinstance (pa_cons (pv 2) (pa_cons (pe_glob rfl g_Uneven rfl) pa_nil)))))))) (pss_one (ps_ret pe_bl)) pss_nil)
      (pss_one (ps_ret (pe_and (pe_callB (call_isX hz hf) (by rfl) B.isinstance bo_isinstance (pa_cons (pv 2) (pa_cons (pe_glob rfl g_BadPiece rfl) pa_nil))) (pe_one (pe_callB (call_isX hz hf) (by rfl) B.isinstance bo_isinstance (pa_cons (pv 2) (pa_cons (pe_tyVE B) pa_nil)))))))))))
      (pss_one (ps_ret pe_bl)))

abbrev s_law : Stmt := top 70
theorem sc_law : FnScope N_law ["_law_script"] (defScope s_law) := ⟨rfl, rfl, rfl, by decide +kernel, rfl, by decide +kernel, by decide +kernel⟩
theorem ok_law {P : Program} {w : World} {mg : Str → Option Value} {base : Heap} {f c : Addr} {fd : FuncData} (S : Ev) (B : Bl mg) (Z : Nums mg) (F : FunC S.K "law" "law" s_law f c fd)
    (G_law_at : Own P w S.K mg base CX0 1 "_law_at" ["_law_script", "_law_k"] (sp_law_at S))
    (G_law_is_piece : Own P w S.K mg base CX0 3 "_law_is_piece" ["_law_piece_here"] (sp_law_is_piece S))
    (G_law_piece : Own P w S.K mg base CX0 2 "_law_piece" ["_law_script"] (sp_law_piece S))
    (G_law_refused : Own P w S.K mg base CX0 11 "_law_refused" ["_law_which", "_law_piece_here"] (sp_law_refused S))
    (G_law_spoilt : Own P w S.K mg base CX0 2 "_law_spoilt" ["_law_piece_here", "_law_way", "_law_number"] (sp_law_spoilt S))
    (G_law_whole : Own P w S.K mg base CX0 1 "_law_whole" ["_law_thing"] (sp_law_whole S))
    (G_good : Own P w S.K mg base (L2.CX P w) 7 "good" ["piece"] (sp_good S))
    (G_length : Own P w S.K mg base (L2.CX P w) 8 "length" ["piece"] (sp_length S)) :
    FnOk P w S.K mg base CX0 12 f fd ["_law_script"] (sp_law S) := by
  refine ok0 F sc_law (fun _ _ _ _ _ _ us hl => match us, hl with | [_], _ => rfl) (len_law S) (fun A outer s H vs Q E hr h => ⟨t_law S E, ?_, pure_law S vs H Q E h⟩)
  exact (pss_cons (ps_set (i := 1) (sc_law).nd rfl (Or.inl rfl) (pe_own0 G_law_piece (hr.mono (by decide)) (pa_cons (pv 0) pa_nil)))
      (pss_cons (ps_setLc (i := 3) (own := [("_law_voice", 2)]) rfl (sc_law).nd rfl rfl (sw_true rfl rfl rfl (by decide +kernel)) (pi_list (pv 1)) (blkOk_by (own := [("_law_voice", 2)]) (N := N_law) (sc := (defScope (s_law))) (by decide +kernel)) (fun _ _ _ _ _ => (pg_name (i := 2) (sc_law).nd rfl (Or.inl rfl))) (fun _ _ _ _ _ => pts_nil) (fun _ _ _ _ _ => (pe_callTy call_list_of (by rfl) B.list bo_list (pa_cons (pv 2) pa_nil))))
      (pss_cons (ps_set (i := 4) (sc_law).nd rfl (Or.inl rfl) (pe_op op_modN (pe_op op_add (pe_op op_add (pe_op op_mul (pe_own0 G_law_at (hr.mono (by decide)) (pa_cons (pv 0) (pa_cons pe_int pa_nil))) pe_int) (pe_op op_mul (pe_own0 G_law_at (hr.mono (by decide)) (pa_cons (pv 0) (pa_cons pe_int pa_nil))) pe_int)) (pe_own0 G_law_at (hr.mono (by decide)) (pa_cons (pv 0) (pa_cons pe_int pa_nil)))) pe_int))
      (pss_cons (ps_set (i := 5) (sc_law).nd rfl (Or.inl rfl) (pe_op op_modN (pv 4) pe_int))
      (pss_cons (ps_if (pt_cmpR op_lt (pv 5) pe_int (nomark _)) (pss_cons (ps_set (i := 6) (sc_law).nd rfl (Or.inl rfl) (pe_own0 G_law_spoilt (hr.mono (by decide)) (pa_cons (pv 1) (pa_cons (pv 5) (pa_cons (pe_op op_fdivN (pv 4) pe_int) pa_nil)))))
      (pss_one (ps_if (pt_not (pt_val (pe_own0 G_law_is_piece (hr.mono (by decide)) (pa_cons (pv 6) pa_nil)))) (pss_one (ps_ret (pe_and (pe_own0 G_law_refused (hr.mono (by decide)) (pa_cons (pe_op op_modN (pe_op op_fdivN (pv 4) pe_int) pe_int) (pa_cons (pv 6) pa_nil))) (pe_one (pe_cmpR (op_eqD hr.units) (pv 1) (pv 3) (nomark _)))))) pss_nil))) pss_nil)
      (pss_cons (ps_set (i := 7) (sc_law).nd rfl (Or.inl rfl) (pe_own G_good (hr.mono (by decide)) passL (pa_cons (pv 3) pa_nil)))
      (pss_cons (ps_if (PW.pt (pw_or (pt_not (pt_val (pe_callB call_isi (by rfl) B.isinstance bo_isinstance (pa_cons (pv 7) (pa_cons (pe_tyList B) pa_nil))))) (pw_or (pt_cmpR (op_neD hr.units) (pv 7) (pv 1) (nomark _)) (pw_or1 (pt_not (pt_val (pe_own0 G_law_is_piece (hr.mono (by decide)) (pa_cons (pv 7) pa_nil)))))))) (pss_one (ps_ret pe_bl)) pss_nil)
      (pss_cons (ps_set (i := 8) (sc_law).nd rfl (Or.inl rfl) pe_int)
      (pss_cons (ps_for PassesOwn.never rfl (pi_list (pv 1)) (pg_name (i := 2) (sc_law).nd rfl (Or.inl rfl)) (pss_one (ps_for PassesOwn.never rfl (pi_list (pv 2)) (pg_name (i := 9) (sc_law).nd rfl (Or.inl rfl)) (pss_one (ps_set (i := 8) (sc_law).nd rfl (Or.inl rfl) (pe_callB (call_max2 rfl) (by rfl) B.max bo_max (pa_cons (pv 8) (pa_cons (pe_op op_add (pe_ix ix_tup (pv 9) pe_int (fun _ _ => rfl)) (pe_ix ix_tup (pv 9) pe_int (fun _ _ => rfl))) pa_nil))))))))
      (pss_cons (ps_set (i := 10) (sc_law).nd rfl (Or.inl rfl) (pe_own G_length (hr.mono (by decide)) passL (pa_cons (pv 3) pa_nil)))
      (pss_cons (ps_for PassesOwn.never rfl (pi_list (pv 7)) (pg_name (i := 2) (sc_law).nd rfl (Or.inl rfl)) (pss_one (ps_expr (pe_bm PySem.F.plainAttrs_list PySem.F.slot_list_append PySem.F.type_list_append mt_append (pv 2) (pa_cons (pe_tup (pa_cons pe_int (pa_cons pe_int (pa_cons pe_int pa_nil)))) pa_nil)))))
      (pss_cons (ps_expr (pe_bm PySem.F.plainAttrs_list PySem.F.slot_list_append PySem.F.type_list_append mt_append (pv 7) (pa_cons (pe_lst pa_nil) pa_nil)))
      (pss_one (ps_ret (pe_and (pe_own0 G_law_whole (hr.mono (by decide)) (pa_cons (pv 10) pa_nil)) (pe_and (pe_cmpR op_eq (pv 10) (pv 8) (nomark _)) (pe_and (pe_cmpR (op_eqD hr.units) (pv 3) (pv 1) (nomark _)) (pe_one (pe_cmpR (op_eqD hr.units) (pe_own G_good (hr.mono (by decide)) passL (pa_cons (pv 3) pa_nil)) (pv 1) (nomark _))))))))))))))))))))

/-- all facts of the row together: the law keeps its promise -/
theorem all_facts {l : PySem.W.OpenLaw} {w : World} {K : PySem.W.Frag} {mg : Str → Option Value} {h : Heap} {fa : Addr} {Pn Pp cWeave cPiece cNumber cTheme cEntry cRange cUneven cClash cText : Addr} (KX : K.In h) (G : h.Ns mainGlobals mg) (hfa : mg "law" = some (.ref fa))
    (T : ∀ y, y ∈ (["is_note", "is_piece"] : List Str) → ∀ c P, PySem.W.tabIn K y = some (c, P) → PySem.W.CodeHd h c P ∧ h.get? P = some { cls := .none, data := .fields #[] })
    (x_BadEntry : PySem.W.nsIn K mainGlobals "BadEntry" = some (some (.ref cEntry)))
    (x_BadNumber : PySem.W.nsIn K mainGlobals "BadNumber" = some (some (.ref cNumber)))
    (x_BadPiece : PySem.W.nsIn K mainGlobals "BadPiece" = some (some (.ref cPiece)))
    (x_BadTheme : PySem.W.nsIn K mainGlobals "BadTheme" = some (some (.ref cTheme)))
    (x_Clash : PySem.W.nsIn K mainGlobals "Clash" = some (some (.ref cClash)))
    (x_NoText : PySem.W.nsIn K mainGlobals "NoText" = some (some (.ref cText)))
    (x_OutOfRange : PySem.W.nsIn K mainGlobals "OutOfRange" = some (some (.ref cRange)))
    (x_Uneven : PySem.W.nsIn K mainGlobals "Uneven" = some (some (.ref cUneven)))
    (x_WeaveError : PySem.W.nsIn K mainGlobals "WeaveError" = some (some (.ref cWeave)))
    (xx_BadNumber : PySem.W.excIn K cNumber [.type "ValueError", .type "Exception", .type "BaseException", .type "object"] "ValueError.__new__" = true)
    (xk_BadNumber : PySem.W.keepIn K (.ref cNumber) = true)
    (xb_BadNumber : PySem.W.subIn K (.ref cNumber) (.type "BaseException") = some true)
    (xt_BadNumber : PySem.W.typeIn K (.ref cNumber) = some (.type "type"))
    (xx_BadPiece : PySem.W.excIn K cPiece [.type "ValueError", .type "Exception", .type "BaseException", .type "object"] "ValueError.__new__" = true)
    (xk_BadPiece : PySem.W.keepIn K (.ref cPiece) = true)
    (xb_BadPiece : PySem.W.subIn K (.ref cPiece) (.type "BaseException") = some true)
    (xt_BadPiece : PySem.W.typeIn K (.ref cPiece) = some (.type "type"))
    (xx_OutOfRange : PySem.W.excIn K cRange [.type "ValueError", .type "Exception", .type "BaseException", .type "object"] "ValueError.__new__" = true)
    (xk_OutOfRange : PySem.W.keepIn K (.ref cRange) = true)
    (xb_OutOfRange : PySem.W.subIn K (.ref cRange) (.type "BaseException") = some true)
    (xt_OutOfRange : PySem.W.typeIn K (.ref cRange) = some (.type "type"))
    (xx_Uneven : PySem.W.excIn K cUneven [.type "ValueError", .type "Exception", .type "BaseException", .type "object"] "ValueError.__new__" = true)
    (xk_Uneven : PySem.W.keepIn K (.ref cUneven) = true)
    (xb_Uneven : PySem.W.subIn K (.ref cUneven) (.type "BaseException") = some true)
    (xt_Uneven : PySem.W.typeIn K (.ref cUneven) = some (.type "type"))
    (yg_BadPiece : PySem.W.findIn K (.ref cPiece) "__getattribute__" = some (some (.builtin "BaseException.__getattribute__")))
    (yk_BadPiece : PySem.W.findIn K (.ref cPiece) "__getattr__" = some none)
    (yd_BadPiece : PySem.W.hasDictIn K cPiece = true)
    (ya_BadPiece : PySem.W.findIn K (.ref cPiece) "__class__" = some (some (.builtin "object.__class__")))
    (ym_BadPiece : PySem.W.mroIn K cPiece (.type "object") = some true)
    (yv_BadPiece : PySem.W.subIn K (.ref cPiece) (.type "ValueError") = some true)
    (ys_BadPiece_BadNumber : PySem.W.subIn K (.ref cPiece) (.ref cNumber) = some false)
    (yq_BadPiece_BadNumber : cPiece ≠ cNumber)
    (ys_BadPiece_OutOfRange : PySem.W.subIn K (.ref cPiece) (.ref cRange) = some false)
    (yq_BadPiece_OutOfRange : cPiece ≠ cRange)
    (ys_BadPiece_Uneven : PySem.W.subIn K (.ref cPiece) (.ref cUneven) = some false)
    (yq_BadPiece_Uneven : cPiece ≠ cUneven)
    (ys_BadPiece_BadTheme : PySem.W.subIn K (.ref cPiece) (.ref cTheme) = some false)
    (yq_BadPiece_BadTheme : cPiece ≠ cTheme)
    (ys_BadPiece_BadEntry : PySem.W.subIn K (.ref cPiece) (.ref cEntry) = some false)
    (yq_BadPiece_BadEntry : cPiece ≠ cEntry)
    (ys_BadPiece_Clash : PySem.W.subIn K (.ref cPiece) (.ref cClash) = some false)
    (yq_BadPiece_Clash : cPiece ≠ cClash)
    (ys_BadPiece_NoText : PySem.W.subIn K (.ref cPiece) (.ref cText) = some false)
    (yq_BadPiece_NoText : cPiece ≠ cText)
    (ye_BadPiece : PySem.W.subIn K (.ref cPiece) (.ref cWeave) = some true)
    (zd_BadEntry : PySem.W.hasDictIn K cEntry = true)
    (zt_BadEntry : PySem.W.typeIn K (.ref cEntry) = some (.type "type"))
    (zd_BadNumber : PySem.W.hasDictIn K cNumber = true)
    (zt_BadNumber : PySem.W.typeIn K (.ref cNumber) = some (.type "type"))
    (zd_BadTheme : PySem.W.hasDictIn K cTheme = true)
    (zt_BadTheme : PySem.W.typeIn K (.ref cTheme) = some (.type "type"))
    (zd_Clash : PySem.W.hasDictIn K cClash = true)
    (zt_Clash : PySem.W.typeIn K (.ref cClash) = some (.type "type"))
    (zd_NoText : PySem.W.hasDictIn K cText = true)
    (zt_NoText : PySem.W.typeIn K (.ref cText) = some (.type "type"))
    (zd_OutOfRange : PySem.W.hasDictIn K cRange = true)
    (zt_OutOfRange : PySem.W.typeIn K (.ref cRange) = some (.type "type"))
    (zd_Uneven : PySem.W.hasDictIn K cUneven = true)
    (zt_Uneven : PySem.W.typeIn K (.ref cUneven) = some (.type "type"))
    (zd_WeaveError : PySem.W.hasDictIn K cWeave = true)
    (zt_WeaveError : PySem.W.typeIn K (.ref cWeave) = some (.type "type"))
    (zb_WeaveError : PySem.W.subIn K (.ref cWeave) (.type "BaseException") = some true)
    (yn : PySem.W.specialIn K (.builtin "object.__class__") "__get__" = some (some (.builtin "getset_descriptor.__get__")))
    (yt : PySem.W.takesIn K (.builtin "object.__class__") = some true)
    (b_isinstance : PySem.W.nsIn K mainGlobals "isinstance" = some none)
    (b_len : PySem.W.nsIn K mainGlobals "len" = some none)
    (b_max : PySem.W.nsIn K mainGlobals "max" = some none)
    (b_min : PySem.W.nsIn K mainGlobals "min" = some none)
    (b_sorted : PySem.W.nsIn K mainGlobals "sorted" = some none)
    (b_all : PySem.W.nsIn K mainGlobals "all" = some none)
    (b_any : PySem.W.nsIn K mainGlobals "any" = some none)
    (b_int : PySem.W.nsIn K mainGlobals "int" = some none)
    (b_bool : PySem.W.nsIn K mainGlobals "bool" = some none)
    (b_str : PySem.W.nsIn K mainGlobals "str" = some none)
    (b_list : PySem.W.nsIn K mainGlobals "list" = some none)
    (b_tuple : PySem.W.nsIn K mainGlobals "tuple" = some none)
    (b_range : PySem.W.nsIn K mainGlobals "range" = some none)
    (b_zip : PySem.W.nsIn K mainGlobals "zip" = some none)
    (b_enumerate : PySem.W.nsIn K mainGlobals "enumerate" = some none)
    (b_ValueError : PySem.W.nsIn K mainGlobals "ValueError" = some none)
    (b_abs : PySem.W.nsIn K mainGlobals "abs" = some none)
    {t_MOST_TIMES : Tok} (n_MOST_TIMES : PySem.W.nsIn K mainGlobals "MOST_TIMES" = some (some (.int 1000 t_MOST_TIMES)))
    {t_GREATEST_END : Tok} (n_GREATEST_END : PySem.W.nsIn K mainGlobals "GREATEST_END" = some (some (.int 100000 t_GREATEST_END)))
    {t_PITCH_REACH : Tok} (n_PITCH_REACH : PySem.W.nsIn K mainGlobals "PITCH_REACH" = some (some (.int 200 t_PITCH_REACH)))
    {t_MOST_VOICES : Tok} (n_MOST_VOICES : PySem.W.nsIn K mainGlobals "MOST_VOICES" = some (some (.int 6 t_MOST_VOICES)))
    {f_is_whole : Addr} (m_is_whole : PySem.W.nsIn K mainGlobals "is_whole" = some (some (.ref f_is_whole)))
    {oc_is_whole : Value} {od_is_whole an_is_whole : Option Addr} {osl_is_whole : Array (Option Value)} {kV_is_whole doc_is_whole pm_is_whole ct_is_whole : Value} {c_is_whole : Addr} (l_is_whole : K.lookup f_is_whole = some ⟨oc_is_whole, od_is_whole, .func (PySem.W.fnOf "is_whole" "is_whole" (defArgs s_is_whole) (defBody s_is_whole) (defScope s_is_whole) .none kV_is_whole doc_is_whole pm_is_whole an_is_whole (.ref c_is_whole) ct_is_whole), osl_is_whole⟩)
    (c_is_whole_ : PySem.W.codeIn K (.ref c_is_whole) "is_whole" = true)
    (k_is_whole : PySem.W.keepIn K (.ref f_is_whole) = true)
    {f_require_whole : Addr} (m_require_whole : PySem.W.nsIn K mainGlobals "require_whole" = some (some (.ref f_require_whole)))
    {oc_require_whole : Value} {od_require_whole an_require_whole : Option Addr} {osl_require_whole : Array (Option Value)} {kV_require_whole doc_require_whole pm_require_whole ct_require_whole : Value} {c_require_whole : Addr} (l_require_whole : K.lookup f_require_whole = some ⟨oc_require_whole, od_require_whole, .func (PySem.W.fnOf "require_whole" "require_whole" (defArgs s_require_whole) (defBody s_require_whole) (defScope s_require_whole) .none kV_require_whole doc_require_whole pm_require_whole an_require_whole (.ref c_require_whole) ct_require_whole), osl_require_whole⟩)
    (c_require_whole_ : PySem.W.codeIn K (.ref c_require_whole) "require_whole" = true)
    (k_require_whole : PySem.W.keepIn K (.ref f_require_whole) = true)
    {f_end_of : Addr} (m_end_of : PySem.W.nsIn K mainGlobals "end_of" = some (some (.ref f_end_of)))
    {oc_end_of : Value} {od_end_of an_end_of : Option Addr} {osl_end_of : Array (Option Value)} {kV_end_of doc_end_of pm_end_of ct_end_of : Value} {c_end_of : Addr} (l_end_of : K.lookup f_end_of = some ⟨oc_end_of, od_end_of, .func (PySem.W.fnOf "end_of" "end_of" (defArgs s_end_of) (defBody s_end_of) (defScope s_end_of) .none kV_end_of doc_end_of pm_end_of an_end_of (.ref c_end_of) ct_end_of), osl_end_of⟩)
    (c_end_of_ : PySem.W.codeIn K (.ref c_end_of) "end_of" = true)
    (k_end_of : PySem.W.keepIn K (.ref f_end_of) = true)
    {f_is_note : Addr} (m_is_note : PySem.W.nsIn K mainGlobals "is_note" = some (some (.ref f_is_note)))
    {oc_is_note : Value} {od_is_note an_is_note : Option Addr} {osl_is_note : Array (Option Value)} {kV_is_note doc_is_note pm_is_note ct_is_note : Value} {c_is_note : Addr} (l_is_note : K.lookup f_is_note = some ⟨oc_is_note, od_is_note, .func (PySem.W.fnOf "is_note" "is_note" (defArgs s_is_note) (defBody s_is_note) (defScope s_is_note) .none kV_is_note doc_is_note pm_is_note an_is_note (.ref c_is_note) ct_is_note), osl_is_note⟩)
    (c_is_note_ : PySem.W.codeIn K (.ref c_is_note) "is_note" = true)
    (k_is_note : PySem.W.keepIn K (.ref f_is_note) = true)
    {f_is_voice : Addr} (m_is_voice : PySem.W.nsIn K mainGlobals "is_voice" = some (some (.ref f_is_voice)))
    {oc_is_voice : Value} {od_is_voice an_is_voice : Option Addr} {osl_is_voice : Array (Option Value)} {kV_is_voice doc_is_voice pm_is_voice ct_is_voice : Value} {c_is_voice : Addr} (l_is_voice : K.lookup f_is_voice = some ⟨oc_is_voice, od_is_voice, .func (PySem.W.fnOf "is_voice" "is_voice" (defArgs s_is_voice) (defBody s_is_voice) (defScope s_is_voice) .none kV_is_voice doc_is_voice pm_is_voice an_is_voice (.ref c_is_voice) ct_is_voice), osl_is_voice⟩)
    (c_is_voice_ : PySem.W.codeIn K (.ref c_is_voice) "is_voice" = true)
    (k_is_voice : PySem.W.keepIn K (.ref f_is_voice) = true)
    {f_is_piece : Addr} (m_is_piece : PySem.W.nsIn K mainGlobals "is_piece" = some (some (.ref f_is_piece)))
    {oc_is_piece : Value} {od_is_piece an_is_piece : Option Addr} {osl_is_piece : Array (Option Value)} {kV_is_piece doc_is_piece pm_is_piece ct_is_piece : Value} {c_is_piece : Addr} (l_is_piece : K.lookup f_is_piece = some ⟨oc_is_piece, od_is_piece, .func (PySem.W.fnOf "is_piece" "is_piece" (defArgs s_is_piece) (defBody s_is_piece) (defScope s_is_piece) .none kV_is_piece doc_is_piece pm_is_piece an_is_piece (.ref c_is_piece) ct_is_piece), osl_is_piece⟩)
    (c_is_piece_ : PySem.W.codeIn K (.ref c_is_piece) "is_piece" = true)
    (k_is_piece : PySem.W.keepIn K (.ref f_is_piece) = true)
    {f_good : Addr} (m_good : PySem.W.nsIn K mainGlobals "good" = some (some (.ref f_good)))
    {oc_good : Value} {od_good an_good : Option Addr} {osl_good : Array (Option Value)} {kV_good doc_good pm_good ct_good : Value} {c_good : Addr} (l_good : K.lookup f_good = some ⟨oc_good, od_good, .func (PySem.W.fnOf "good" "good" (defArgs s_good) (defBody s_good) (defScope s_good) .none kV_good doc_good pm_good an_good (.ref c_good) ct_good), osl_good⟩)
    (c_good_ : PySem.W.codeIn K (.ref c_good) "good" = true)
    (k_good : PySem.W.keepIn K (.ref f_good) = true)
    {f_length : Addr} (m_length : PySem.W.nsIn K mainGlobals "length" = some (some (.ref f_length)))
    {oc_length : Value} {od_length an_length : Option Addr} {osl_length : Array (Option Value)} {kV_length doc_length pm_length ct_length : Value} {c_length : Addr} (l_length : K.lookup f_length = some ⟨oc_length, od_length, .func (PySem.W.fnOf "length" "length" (defArgs s_length) (defBody s_length) (defScope s_length) .none kV_length doc_length pm_length an_length (.ref c_length) ct_length), osl_length⟩)
    (c_length_ : PySem.W.codeIn K (.ref c_length) "length" = true)
    (k_length : PySem.W.keepIn K (.ref f_length) = true)
    {f_note : Addr} (m_note : PySem.W.nsIn K mainGlobals "_note" = some (some (.ref f_note)))
    {oc_note : Value} {od_note an_note : Option Addr} {osl_note : Array (Option Value)} {kV_note doc_note pm_note ct_note : Value} {c_note : Addr} (l_note : K.lookup f_note = some ⟨oc_note, od_note, .func (PySem.W.fnOf "_note" "_note" (defArgs s_note) (defBody s_note) (defScope s_note) .none kV_note doc_note pm_note an_note (.ref c_note) ct_note), osl_note⟩)
    (c_note_ : PySem.W.codeIn K (.ref c_note) "_note" = true)
    (k_note : PySem.W.keepIn K (.ref f_note) = true)
    {f_require_times : Addr} (m_require_times : PySem.W.nsIn K mainGlobals "_require_times" = some (some (.ref f_require_times)))
    {oc_require_times : Value} {od_require_times an_require_times : Option Addr} {osl_require_times : Array (Option Value)} {kV_require_times doc_require_times pm_require_times ct_require_times : Value} {c_require_times : Addr} (l_require_times : K.lookup f_require_times = some ⟨oc_require_times, od_require_times, .func (PySem.W.fnOf "_require_times" "_require_times" (defArgs s_require_times) (defBody s_require_times) (defScope s_require_times) .none kV_require_times doc_require_times pm_require_times an_require_times (.ref c_require_times) ct_require_times), osl_require_times⟩)
    (c_require_times_ : PySem.W.codeIn K (.ref c_require_times) "_require_times" = true)
    (k_require_times : PySem.W.keepIn K (.ref f_require_times) = true)
    {f_parted : Addr} (m_parted : PySem.W.nsIn K mainGlobals "parted_moving" = some (some (.ref f_parted)))
    {oc_parted : Value} {od_parted an_parted : Option Addr} {osl_parted : Array (Option Value)} {kV_parted doc_parted pm_parted ct_parted : Value} {c_parted : Addr} (l_parted : K.lookup f_parted = some ⟨oc_parted, od_parted, .func (PySem.W.fnOf "_parted" "_parted" (defArgs s_parted) (defBody s_parted) (defScope s_parted) .none kV_parted doc_parted pm_parted an_parted (.ref c_parted) ct_parted), osl_parted⟩)
    (c_parted_ : PySem.W.codeIn K (.ref c_parted) "_parted" = true)
    (k_parted : PySem.W.keepIn K (.ref f_parted) = true)
    {f_moved : Addr} (m_moved : PySem.W.nsIn K mainGlobals "moved" = some (some (.ref f_moved)))
    {oc_moved : Value} {od_moved an_moved : Option Addr} {osl_moved : Array (Option Value)} {kV_moved doc_moved pm_moved ct_moved : Value} {c_moved : Addr} (l_moved : K.lookup f_moved = some ⟨oc_moved, od_moved, .func (PySem.W.fnOf "moved" "moved" (defArgs s_moved) (defBody s_moved) (defScope s_moved) .none kV_moved doc_moved pm_moved an_moved (.ref c_moved) ct_moved), osl_moved⟩)
    (c_moved_ : PySem.W.codeIn K (.ref c_moved) "moved" = true)
    (k_moved : PySem.W.keepIn K (.ref f_moved) = true)
    {f_mirrored : Addr} (m_mirrored : PySem.W.nsIn K mainGlobals "mirrored" = some (some (.ref f_mirrored)))
    {oc_mirrored : Value} {od_mirrored an_mirrored : Option Addr} {osl_mirrored : Array (Option Value)} {kV_mirrored doc_mirrored pm_mirrored ct_mirrored : Value} {c_mirrored : Addr} (l_mirrored : K.lookup f_mirrored = some ⟨oc_mirrored, od_mirrored, .func (PySem.W.fnOf "mirrored" "mirrored" (defArgs s_mirrored) (defBody s_mirrored) (defScope s_mirrored) .none kV_mirrored doc_mirrored pm_mirrored an_mirrored (.ref c_mirrored) ct_mirrored), osl_mirrored⟩)
    (c_mirrored_ : PySem.W.codeIn K (.ref c_mirrored) "mirrored" = true)
    (k_mirrored : PySem.W.keepIn K (.ref f_mirrored) = true)
    {f_turned : Addr} (m_turned : PySem.W.nsIn K mainGlobals "turned" = some (some (.ref f_turned)))
    {oc_turned : Value} {od_turned an_turned : Option Addr} {osl_turned : Array (Option Value)} {kV_turned doc_turned pm_turned ct_turned : Value} {c_turned : Addr} (l_turned : K.lookup f_turned = some ⟨oc_turned, od_turned, .func (PySem.W.fnOf "turned" "turned" (defArgs s_turned) (defBody s_turned) (defScope s_turned) .none kV_turned doc_turned pm_turned an_turned (.ref c_turned) ct_turned), osl_turned⟩)
    (c_turned_ : PySem.W.codeIn K (.ref c_turned) "turned" = true)
    (k_turned : PySem.W.keepIn K (.ref f_turned) = true)
    {f_stretched : Addr} (m_stretched : PySem.W.nsIn K mainGlobals "stretched" = some (some (.ref f_stretched)))
    {oc_stretched : Value} {od_stretched an_stretched : Option Addr} {osl_stretched : Array (Option Value)} {kV_stretched doc_stretched pm_stretched ct_stretched : Value} {c_stretched : Addr} (l_stretched : K.lookup f_stretched = some ⟨oc_stretched, od_stretched, .func (PySem.W.fnOf "stretched" "stretched" (defArgs s_stretched) (defBody s_stretched) (defScope s_stretched) .none kV_stretched doc_stretched pm_stretched an_stretched (.ref c_stretched) ct_stretched), osl_stretched⟩)
    (c_stretched_ : PySem.W.codeIn K (.ref c_stretched) "stretched" = true)
    (k_stretched : PySem.W.keepIn K (.ref f_stretched) = true)
    {f_shrunk : Addr} (m_shrunk : PySem.W.nsIn K mainGlobals "shrunk" = some (some (.ref f_shrunk)))
    {oc_shrunk : Value} {od_shrunk an_shrunk : Option Addr} {osl_shrunk : Array (Option Value)} {kV_shrunk doc_shrunk pm_shrunk ct_shrunk : Value} {c_shrunk : Addr} (l_shrunk : K.lookup f_shrunk = some ⟨oc_shrunk, od_shrunk, .func (PySem.W.fnOf "shrunk" "shrunk" (defArgs s_shrunk) (defBody s_shrunk) (defScope s_shrunk) .none kV_shrunk doc_shrunk pm_shrunk an_shrunk (.ref c_shrunk) ct_shrunk), osl_shrunk⟩)
    (c_shrunk_ : PySem.W.codeIn K (.ref c_shrunk) "shrunk" = true)
    (k_shrunk : PySem.W.keepIn K (.ref f_shrunk) = true)
    {f_pitch_at : Addr} (m_pitch_at : PySem.W.nsIn K mainGlobals "_pitch_at" = some (some (.ref f_pitch_at)))
    {oc_pitch_at : Value} {od_pitch_at an_pitch_at : Option Addr} {osl_pitch_at : Array (Option Value)} {kV_pitch_at doc_pitch_at pm_pitch_at ct_pitch_at : Value} {c_pitch_at : Addr} (l_pitch_at : K.lookup f_pitch_at = some ⟨oc_pitch_at, od_pitch_at, .func (PySem.W.fnOf "_pitch_at" "_pitch_at" (defArgs s_pitch_at) (defBody s_pitch_at) (defScope s_pitch_at) .none kV_pitch_at doc_pitch_at pm_pitch_at an_pitch_at (.ref c_pitch_at) ct_pitch_at), osl_pitch_at⟩)
    (c_pitch_at_ : PySem.W.codeIn K (.ref c_pitch_at) "_pitch_at" = true)
    (k_pitch_at : PySem.W.keepIn K (.ref f_pitch_at) = true)
    {f_sounding : Addr} (m_sounding : PySem.W.nsIn K mainGlobals "sounding" = some (some (.ref f_sounding)))
    {oc_sounding : Value} {od_sounding an_sounding : Option Addr} {osl_sounding : Array (Option Value)} {kV_sounding doc_sounding pm_sounding ct_sounding : Value} {c_sounding : Addr} (l_sounding : K.lookup f_sounding = some ⟨oc_sounding, od_sounding, .func (PySem.W.fnOf "sounding" "sounding" (defArgs s_sounding) (defBody s_sounding) (defScope s_sounding) .none kV_sounding doc_sounding pm_sounding an_sounding (.ref c_sounding) ct_sounding), osl_sounding⟩)
    (c_sounding_ : PySem.W.codeIn K (.ref c_sounding) "sounding" = true)
    (k_sounding : PySem.W.keepIn K (.ref f_sounding) = true)
    {f_faultsB : Addr} (m_faultsB : PySem.W.nsIn K mainGlobals "faults" = some (some (.ref f_faultsB)))
    {oc_faultsB : Value} {od_faultsB an_faultsB : Option Addr} {osl_faultsB : Array (Option Value)} {kV_faultsB doc_faultsB pm_faultsB ct_faultsB : Value} {c_faultsB : Addr} (l_faultsB : K.lookup f_faultsB = some ⟨oc_faultsB, od_faultsB, .func (PySem.W.fnOf "faults" "faults" (defArgs s_faultsB) (defBody s_faultsB) (defScope s_faultsB) .none kV_faultsB doc_faultsB pm_faultsB an_faultsB (.ref c_faultsB) ct_faultsB), osl_faultsB⟩)
    (c_faultsB_ : PySem.W.codeIn K (.ref c_faultsB) "faults" = true)
    (k_faultsB : PySem.W.keepIn K (.ref f_faultsB) = true)
    {f_writtenB : Addr} (m_writtenB : PySem.W.nsIn K mainGlobals "written" = some (some (.ref f_writtenB)))
    {oc_writtenB : Value} {od_writtenB an_writtenB : Option Addr} {osl_writtenB : Array (Option Value)} {kV_writtenB doc_writtenB pm_writtenB ct_writtenB : Value} {c_writtenB : Addr} (l_writtenB : K.lookup f_writtenB = some ⟨oc_writtenB, od_writtenB, .func (PySem.W.fnOf "written" "written" (defArgs s_writtenB) (defBody s_writtenB) (defScope s_writtenB) .none kV_writtenB doc_writtenB pm_writtenB an_writtenB (.ref c_writtenB) ct_writtenB), osl_writtenB⟩)
    (c_writtenB_ : PySem.W.codeIn K (.ref c_writtenB) "written" = true)
    (k_writtenB : PySem.W.keepIn K (.ref f_writtenB) = true)
    {f_entries_ofB : Addr} (m_entries_ofB : PySem.W.nsIn K mainGlobals "entries_of" = some (some (.ref f_entries_ofB)))
    {oc_entries_ofB : Value} {od_entries_ofB an_entries_ofB : Option Addr} {osl_entries_ofB : Array (Option Value)} {kV_entries_ofB doc_entries_ofB pm_entries_ofB ct_entries_ofB : Value} {c_entries_ofB : Addr} (l_entries_ofB : K.lookup f_entries_ofB = some ⟨oc_entries_ofB, od_entries_ofB, .func (PySem.W.fnOf "entries_of" "entries_of" (defArgs s_entries_ofB) (defBody s_entries_ofB) (defScope s_entries_ofB) .none kV_entries_ofB doc_entries_ofB pm_entries_ofB an_entries_ofB (.ref c_entries_ofB) ct_entries_ofB), osl_entries_ofB⟩)
    (c_entries_ofB_ : PySem.W.codeIn K (.ref c_entries_ofB) "entries_of" = true)
    (k_entries_ofB : PySem.W.keepIn K (.ref f_entries_ofB) = true)
    {f_law_at : Addr} (m_law_at : PySem.W.nsIn K mainGlobals "_law_at" = some (some (.ref f_law_at)))
    {oc_law_at : Value} {od_law_at an_law_at : Option Addr} {osl_law_at : Array (Option Value)} {kV_law_at doc_law_at pm_law_at ct_law_at : Value} {c_law_at : Addr} (l_law_at : K.lookup f_law_at = some ⟨oc_law_at, od_law_at, .func (PySem.W.fnOf "_law_at" "_law_at" (defArgs s_law_at) (defBody s_law_at) (defScope s_law_at) .none kV_law_at doc_law_at pm_law_at an_law_at (.ref c_law_at) ct_law_at), osl_law_at⟩)
    (c_law_at_ : PySem.W.codeIn K (.ref c_law_at) "_law_at" = true)
    (k_law_at : PySem.W.keepIn K (.ref f_law_at) = true)
    {f_law_whole : Addr} (m_law_whole : PySem.W.nsIn K mainGlobals "_law_whole" = some (some (.ref f_law_whole)))
    {oc_law_whole : Value} {od_law_whole an_law_whole : Option Addr} {osl_law_whole : Array (Option Value)} {kV_law_whole doc_law_whole pm_law_whole ct_law_whole : Value} {c_law_whole : Addr} (l_law_whole : K.lookup f_law_whole = some ⟨oc_law_whole, od_law_whole, .func (PySem.W.fnOf "_law_whole" "_law_whole" (defArgs s_law_whole) (defBody s_law_whole) (defScope s_law_whole) .none kV_law_whole doc_law_whole pm_law_whole an_law_whole (.ref c_law_whole) ct_law_whole), osl_law_whole⟩)
    (c_law_whole_ : PySem.W.codeIn K (.ref c_law_whole) "_law_whole" = true)
    (k_law_whole : PySem.W.keepIn K (.ref f_law_whole) = true)
    {f_law_notes : Addr} (m_law_notes : PySem.W.nsIn K mainGlobals "_law_notes" = some (some (.ref f_law_notes)))
    {oc_law_notes : Value} {od_law_notes an_law_notes : Option Addr} {osl_law_notes : Array (Option Value)} {kV_law_notes doc_law_notes pm_law_notes ct_law_notes : Value} {c_law_notes : Addr} (l_law_notes : K.lookup f_law_notes = some ⟨oc_law_notes, od_law_notes, .func (PySem.W.fnOf "_law_notes" "_law_notes" (defArgs s_law_notes) (defBody s_law_notes) (defScope s_law_notes) .none kV_law_notes doc_law_notes pm_law_notes an_law_notes (.ref c_law_notes) ct_law_notes), osl_law_notes⟩)
    (c_law_notes_ : PySem.W.codeIn K (.ref c_law_notes) "_law_notes" = true)
    (k_law_notes : PySem.W.keepIn K (.ref f_law_notes) = true)
    {f_law_piece : Addr} (m_law_piece : PySem.W.nsIn K mainGlobals "_law_piece" = some (some (.ref f_law_piece)))
    {oc_law_piece : Value} {od_law_piece an_law_piece : Option Addr} {osl_law_piece : Array (Option Value)} {kV_law_piece doc_law_piece pm_law_piece ct_law_piece : Value} {c_law_piece : Addr} (l_law_piece : K.lookup f_law_piece = some ⟨oc_law_piece, od_law_piece, .func (PySem.W.fnOf "_law_piece" "_law_piece" (defArgs s_law_piece) (defBody s_law_piece) (defScope s_law_piece) .none kV_law_piece doc_law_piece pm_law_piece an_law_piece (.ref c_law_piece) ct_law_piece), osl_law_piece⟩)
    (c_law_piece_ : PySem.W.codeIn K (.ref c_law_piece) "_law_piece" = true)
    (k_law_piece : PySem.W.keepIn K (.ref f_law_piece) = true)
    {f_law_is_noteD : Addr} (m_law_is_noteD : PySem.W.nsIn K mainGlobals "_law_is_note" = some (some (.ref f_law_is_noteD)))
    {oc_law_is_noteD : Value} {od_law_is_noteD an_law_is_noteD : Option Addr} {osl_law_is_noteD : Array (Option Value)} {kV_law_is_noteD doc_law_is_noteD pm_law_is_noteD ct_law_is_noteD : Value} {c_law_is_noteD : Addr} (l_law_is_noteD : K.lookup f_law_is_noteD = some ⟨oc_law_is_noteD, od_law_is_noteD, .func (PySem.W.fnOf "_law_is_note" "_law_is_note" (defArgs s_law_is_noteD) (defBody s_law_is_noteD) (defScope s_law_is_noteD) .none kV_law_is_noteD doc_law_is_noteD pm_law_is_noteD an_law_is_noteD (.ref c_law_is_noteD) ct_law_is_noteD), osl_law_is_noteD⟩)
    (c_law_is_noteD_ : PySem.W.codeIn K (.ref c_law_is_noteD) "_law_is_note" = true)
    (k_law_is_noteD : PySem.W.keepIn K (.ref f_law_is_noteD) = true)
    {f_law_is_piece : Addr} (m_law_is_piece : PySem.W.nsIn K mainGlobals "_law_is_piece" = some (some (.ref f_law_is_piece)))
    {oc_law_is_piece : Value} {od_law_is_piece an_law_is_piece : Option Addr} {osl_law_is_piece : Array (Option Value)} {kV_law_is_piece doc_law_is_piece pm_law_is_piece ct_law_is_piece : Value} {c_law_is_piece : Addr} (l_law_is_piece : K.lookup f_law_is_piece = some ⟨oc_law_is_piece, od_law_is_piece, .func (PySem.W.fnOf "_law_is_piece" "_law_is_piece" (defArgs s_law_is_piece) (defBody s_law_is_piece) (defScope s_law_is_piece) .none kV_law_is_piece doc_law_is_piece pm_law_is_piece an_law_is_piece (.ref c_law_is_piece) ct_law_is_piece), osl_law_is_piece⟩)
    (c_law_is_piece_ : PySem.W.codeIn K (.ref c_law_is_piece) "_law_is_piece" = true)
    (k_law_is_piece : PySem.W.keepIn K (.ref f_law_is_piece) = true)
    {f_law_odd_note : Addr} (m_law_odd_note : PySem.W.nsIn K mainGlobals "_law_odd_note" = some (some (.ref f_law_odd_note)))
    {oc_law_odd_note : Value} {od_law_odd_note an_law_odd_note : Option Addr} {osl_law_odd_note : Array (Option Value)} {kV_law_odd_note doc_law_odd_note pm_law_odd_note ct_law_odd_note : Value} {c_law_odd_note : Addr} (l_law_odd_note : K.lookup f_law_odd_note = some ⟨oc_law_odd_note, od_law_odd_note, .func (PySem.W.fnOf "_law_odd_note" "_law_odd_note" (defArgs s_law_odd_note) (defBody s_law_odd_note) (defScope s_law_odd_note) .none kV_law_odd_note doc_law_odd_note pm_law_odd_note an_law_odd_note (.ref c_law_odd_note) ct_law_odd_note), osl_law_odd_note⟩)
    (c_law_odd_note_ : PySem.W.codeIn K (.ref c_law_odd_note) "_law_odd_note" = true)
    (k_law_odd_note : PySem.W.keepIn K (.ref f_law_odd_note) = true)
    {f_law_spoilt : Addr} (m_law_spoilt : PySem.W.nsIn K mainGlobals "_law_spoilt" = some (some (.ref f_law_spoilt)))
    {oc_law_spoilt : Value} {od_law_spoilt an_law_spoilt : Option Addr} {osl_law_spoilt : Array (Option Value)} {kV_law_spoilt doc_law_spoilt pm_law_spoilt ct_law_spoilt : Value} {c_law_spoilt : Addr} (l_law_spoilt : K.lookup f_law_spoilt = some ⟨oc_law_spoilt, od_law_spoilt, .func (PySem.W.fnOf "_law_spoilt" "_law_spoilt" (defArgs s_law_spoilt) (defBody s_law_spoilt) (defScope s_law_spoilt) .none kV_law_spoilt doc_law_spoilt pm_law_spoilt an_law_spoilt (.ref c_law_spoilt) ct_law_spoilt), osl_law_spoilt⟩)
    (c_law_spoilt_ : PySem.W.codeIn K (.ref c_law_spoilt) "_law_spoilt" = true)
    (k_law_spoilt : PySem.W.keepIn K (.ref f_law_spoilt) = true)
    {f_law_asked : Addr} (m_law_asked : PySem.W.nsIn K mainGlobals "_law_asked" = some (some (.ref f_law_asked)))
    {oc_law_asked : Value} {od_law_asked an_law_asked : Option Addr} {osl_law_asked : Array (Option Value)} {kV_law_asked doc_law_asked pm_law_asked ct_law_asked : Value} {c_law_asked : Addr} (l_law_asked : K.lookup f_law_asked = some ⟨oc_law_asked, od_law_asked, .func (PySem.W.fnOf "_law_asked" "_law_asked" (defArgs s_law_asked) (defBody s_law_asked) (defScope s_law_asked) .none kV_law_asked doc_law_asked pm_law_asked an_law_asked (.ref c_law_asked) ct_law_asked), osl_law_asked⟩)
    (c_law_asked_ : PySem.W.codeIn K (.ref c_law_asked) "_law_asked" = true)
    (k_law_asked : PySem.W.keepIn K (.ref f_law_asked) = true)
    {f_law_refused : Addr} (m_law_refused : PySem.W.nsIn K mainGlobals "_law_refused" = some (some (.ref f_law_refused)))
    {oc_law_refused : Value} {od_law_refused an_law_refused : Option Addr} {osl_law_refused : Array (Option Value)} {kV_law_refused doc_law_refused pm_law_refused ct_law_refused : Value} {c_law_refused : Addr} (l_law_refused : K.lookup f_law_refused = some ⟨oc_law_refused, od_law_refused, .func (PySem.W.fnOf "_law_refused" "_law_refused" (defArgs s_law_refused) (defBody s_law_refused) (defScope s_law_refused) .none kV_law_refused doc_law_refused pm_law_refused an_law_refused (.ref c_law_refused) ct_law_refused), osl_law_refused⟩)
    (c_law_refused_ : PySem.W.codeIn K (.ref c_law_refused) "_law_refused" = true)
    (k_law_refused : PySem.W.keepIn K (.ref f_law_refused) = true)
    {f_law : Addr} (m_law : PySem.W.nsIn K mainGlobals "law" = some (some (.ref f_law)))
    {oc_law : Value} {od_law an_law : Option Addr} {osl_law : Array (Option Value)} {kV_law doc_law pm_law ct_law : Value} {c_law : Addr} (l_law : K.lookup f_law = some ⟨oc_law, od_law, .func (PySem.W.fnOf "law" "law" (defArgs s_law) (defBody s_law) (defScope s_law) .none kV_law doc_law pm_law an_law (.ref c_law) ct_law), osl_law⟩)
    (c_law_ : PySem.W.codeIn K (.ref c_law) "law" = true)
    (k_law : PySem.W.keepIn K (.ref f_law) = true)
    {te_is_note : Value} {td_is_note : Option Addr} {tv_is_note : Array Value} {ts_is_note : Array (Option Value)} (tl_is_note : K.lookup c_is_note = some ⟨te_is_note, td_is_note, .fields tv_is_note, ts_is_note⟩)
    (ti_is_note : tv_is_note[11]? = some (.ref Pn))
    (tn_is_note : K.lookup Pn = none)
    {te_is_piece : Value} {td_is_piece : Option Addr} {tv_is_piece : Array Value} {ts_is_piece : Array (Option Value)} (tl_is_piece : K.lookup c_is_piece = some ⟨te_is_piece, td_is_piece, .fields tv_is_piece, ts_is_piece⟩)
    (ti_is_piece : tv_is_piece[11]? = some (.ref Pp))
    (tn_is_piece : K.lookup Pp = none) :
    LamX.LawAtS l w K CX0 12 63 "_law_script" mg fa h := by
  let S : Ev := mkEv K Pn Pp cWeave cPiece cNumber cTheme cEntry cRange cUneven cClash cText
  have e := hfa.symm.trans (PySem.W.mg_of KX G m_law)
  cases e
  have B : Bl mg := ⟨PySem.W.mg_none_of KX G b_isinstance, PySem.W.mg_none_of KX G b_len, PySem.W.mg_none_of KX G b_max, PySem.W.mg_none_of KX G b_min, PySem.W.mg_none_of KX G b_sorted, PySem.W.mg_none_of KX G b_all, PySem.W.mg_none_of KX G b_any, PySem.W.mg_none_of KX G b_int, PySem.W.mg_none_of KX G b_bool, PySem.W.mg_none_of KX G b_str, PySem.W.mg_none_of KX G b_list, PySem.W.mg_none_of KX G b_tuple, PySem.W.mg_none_of KX G b_range, PySem.W.mg_none_of KX G b_zip, PySem.W.mg_none_of KX G b_enumerate, PySem.W.mg_none_of KX G b_ValueError⟩
  have Z : Nums mg := ⟨⟨_, PySem.W.mg_of KX G n_GREATEST_END⟩, ⟨_, PySem.W.mg_of KX G n_PITCH_REACH⟩, ⟨_, PySem.W.mg_of KX G n_MOST_VOICES⟩⟩
  have X_BadNumber : ExcC K mg "BadNumber" cNumber := ⟨PySem.W.mg_of KX G x_BadNumber, xx_BadNumber, xk_BadNumber, xb_BadNumber, xt_BadNumber⟩
  have X_BadPiece : ExcC K mg "BadPiece" cPiece := ⟨PySem.W.mg_of KX G x_BadPiece, xx_BadPiece, xk_BadPiece, xb_BadPiece, xt_BadPiece⟩
  have X_OutOfRange : ExcC K mg "OutOfRange" cRange := ⟨PySem.W.mg_of KX G x_OutOfRange, xx_OutOfRange, xk_OutOfRange, xb_OutOfRange, xt_OutOfRange⟩
  have X_Uneven : ExcC K mg "Uneven" cUneven := ⟨PySem.W.mg_of KX G x_Uneven, xx_Uneven, xk_Uneven, xb_Uneven, xt_Uneven⟩
  have kt_BadPiece : KitW S cPiece false false false true false false false false := ⟨⟨yg_BadPiece, yk_BadPiece, xb_BadPiece, yd_BadPiece, ya_BadPiece, yn, yt, ym_BadPiece⟩, kit_val yv_BadPiece, kit_not zd_BadNumber zt_BadNumber ys_BadPiece_BadNumber yq_BadPiece_BadNumber, kit_not zd_OutOfRange zt_OutOfRange ys_BadPiece_OutOfRange yq_BadPiece_OutOfRange, kit_not zd_Uneven zt_Uneven ys_BadPiece_Uneven yq_BadPiece_Uneven, kit_self, kit_not zd_BadTheme zt_BadTheme ys_BadPiece_BadTheme yq_BadPiece_BadTheme, kit_not zd_BadEntry zt_BadEntry ys_BadPiece_BadEntry yq_BadPiece_BadEntry, kit_not zd_Clash zt_Clash ys_BadPiece_Clash yq_BadPiece_Clash, kit_not zd_NoText zt_NoText ys_BadPiece_NoText yq_BadPiece_NoText, PySem.W.exm_ref zb_WeaveError zd_WeaveError zt_WeaveError ye_BadPiece⟩
  refine ⟨PySem.W.fnOf "law" "law" (defArgs s_law) (defBody s_law) (defScope s_law) .none kV_law doc_law pm_law an_law (.ref c_law) ct_law, [(c_is_note, Pn), (c_is_piece, Pp)], sp_law S, ?_, ?_, ?_, fun s v => .of_eq rfl, ?_, ?_⟩
  · intro p hp
    simp only [List.mem_cons, List.mem_nil_iff, or_false] at hp
    rcases hp with rfl | rfl
    · exact (T "is_note" (by simp) _ _ (tabIn_of m_is_note l_is_note rfl tl_is_note ti_is_note)).2
    · exact (T "is_piece" (by simp) _ _ (tabIn_of m_is_piece l_is_piece rfl tl_is_piece ti_is_piece)).2
  · intro p hp
    simp only [List.mem_cons, List.mem_nil_iff, or_false] at hp
    rcases hp with rfl | rfl
    · exact tn_is_note
    · exact tn_is_piece
  · intro p hp
    simp only [List.mem_cons, List.mem_nil_iff, or_false] at hp
    rcases hp with rfl | rfl
    · exact (T "is_note" (by simp) _ _ (tabIn_of m_is_note l_is_note rfl tl_is_note ti_is_note)).1
    · exact (T "is_piece" (by simp) _ _ (tabIn_of m_is_piece l_is_piece rfl tl_is_piece ti_is_piece)).1
  · intro H a ns hl hbits ht hS
    exact ⟨(fun P hP => by
      rcases List.mem_cons.mp hP with e | hP
      · subst e; exact ⟨#[], ht (c_is_note, P) (by simp), trivial⟩
      · rw [List.mem_singleton.mp hP]; exact ⟨#[], ht (c_is_piece, Pp) (by simp), trivial⟩), kt_BadPiece, ⟨a, ns, rfl, hS, hl, fun _ _ => rfl⟩⟩
  · intro base hKb hGb tb
    have G_is_whole := own_is_whole (P := l.prog) (w := w) (base := base) S B Z (FunC.mk' l_is_whole c_is_whole_ k_is_whole) (PySem.W.mg_of KX G m_is_whole)
    have G_require_whole := own_require_whole (P := l.prog) (w := w) (base := base) S B Z (FunC.mk' l_require_whole c_require_whole_ k_require_whole) (PySem.W.mg_of KX G m_require_whole) G_is_whole X_BadNumber
    have G_end_of := own_end_of (P := l.prog) (w := w) (base := base) S B Z (FunC.mk' l_end_of c_end_of_ k_end_of) (PySem.W.mg_of KX G m_end_of)
    have G_is_note := own_is_note (P := l.prog) (w := w) (base := base) S B Z (FunC.mk' l_is_note c_is_note_ k_is_note) (PySem.W.mg_of KX G m_is_note) G_is_whole (tab_ofL (tb (c_is_note, Pn) (by simp)))
    have G_is_voice := own_is_voice (P := l.prog) (w := w) (base := base) S B Z (FunC.mk' l_is_voice c_is_voice_ k_is_voice) (PySem.W.mg_of KX G m_is_voice) G_end_of G_is_note
    have G_is_piece := own_is_piece (P := l.prog) (w := w) (base := base) S B Z (FunC.mk' l_is_piece c_is_piece_ k_is_piece) (PySem.W.mg_of KX G m_is_piece) G_is_voice (tab_ofL (tb (c_is_piece, Pp) (by simp)))
    have G_good := own_good (P := l.prog) (w := w) (base := base) S B Z (FunC.mk' l_good c_good_ k_good) (PySem.W.mg_of KX G m_good) G_is_piece X_BadPiece
    have G_length := own_length (P := l.prog) (w := w) (base := base) S B Z (FunC.mk' l_length c_length_ k_length) (PySem.W.mg_of KX G m_length) G_end_of G_good
    have G_note := own_note (P := l.prog) (w := w) (base := base) S B Z (FunC.mk' l_note c_note_ k_note) (PySem.W.mg_of KX G m_note) G_is_note X_OutOfRange
    have G_require_times := own_require_times (P := l.prog) (w := w) (base := base) S B Z (FunC.mk' l_require_times c_require_times_ k_require_times) (PySem.W.mg_of KX G m_require_times) G_is_whole X_BadNumber ⟨_, PySem.W.mg_of KX G n_MOST_TIMES⟩
    have G_parted := own_parted (P := l.prog) (w := w) (base := base) S B Z (FunC.mk' l_parted c_parted_ k_parted) (PySem.W.mg_of KX G m_parted) X_Uneven
    have G_moved := own_moved (P := l.prog) (w := w) (base := base) S B Z (FunC.mk' l_moved c_moved_ k_moved) (PySem.W.mg_of KX G m_moved) G_note G_good G_require_whole
    have G_mirrored := own_mirrored (P := l.prog) (w := w) (base := base) S B Z (FunC.mk' l_mirrored c_mirrored_ k_mirrored) (PySem.W.mg_of KX G m_mirrored) G_note G_good G_require_whole
    have G_turned := own_turned (P := l.prog) (w := w) (base := base) S B Z (FunC.mk' l_turned c_turned_ k_turned) (PySem.W.mg_of KX G m_turned) G_note G_good G_require_whole
    have G_stretched := own_stretched (P := l.prog) (w := w) (base := base) S B Z (FunC.mk' l_stretched c_stretched_ k_stretched) (PySem.W.mg_of KX G m_stretched) G_note G_require_times G_good
    have G_shrunk := own_shrunk (P := l.prog) (w := w) (base := base) S B Z (FunC.mk' l_shrunk c_shrunk_ k_shrunk) (PySem.W.mg_of KX G m_shrunk) G_note G_require_times G_good G_parted
    have G_pitch_at := own_pitch_at (P := l.prog) (w := w) (base := base) S B Z (FunC.mk' l_pitch_at c_pitch_at_ k_pitch_at) (PySem.W.mg_of KX G m_pitch_at) G_end_of
    have G_sounding := own_sounding (P := l.prog) (w := w) (base := base) S B Z (FunC.mk' l_sounding c_sounding_ k_sounding) (PySem.W.mg_of KX G m_sounding) G_pitch_at G_good G_require_whole
    have G_faultsB := own_faultsB (P := l.prog) (w := w) (base := base) S B Z (FunC.mk' l_faultsB c_faultsB_ k_faultsB) (PySem.W.mg_of KX G m_faultsB) G_good
    have G_writtenB := own_writtenB (P := l.prog) (w := w) (base := base) S B Z (FunC.mk' l_writtenB c_writtenB_ k_writtenB) (PySem.W.mg_of KX G m_writtenB) G_good
    have G_entries_ofB := own_entries_ofB (P := l.prog) (w := w) (base := base) S B Z (FunC.mk' l_entries_ofB c_entries_ofB_ k_entries_ofB) (PySem.W.mg_of KX G m_entries_ofB) G_good
    have G_law_at := own_law_at (P := l.prog) (w := w) (base := base) S B Z (FunC.mk' l_law_at c_law_at_ k_law_at) (PySem.W.mg_of KX G m_law_at)
    have G_law_whole := own_law_whole (P := l.prog) (w := w) (base := base) S B Z (FunC.mk' l_law_whole c_law_whole_ k_law_whole) (PySem.W.mg_of KX G m_law_whole)
    have G_law_notes := own_law_notes (P := l.prog) (w := w) (base := base) S B Z (FunC.mk' l_law_notes c_law_notes_ k_law_notes) (PySem.W.mg_of KX G m_law_notes)
    have G_law_piece := own_law_piece (P := l.prog) (w := w) (base := base) S B Z (FunC.mk' l_law_piece c_law_piece_ k_law_piece) (PySem.W.mg_of KX G m_law_piece) G_law_at G_law_notes
    have G_law_is_noteD := own_law_is_noteD (P := l.prog) (w := w) (base := base) S B Z (FunC.mk' l_law_is_noteD c_law_is_noteD_ k_law_is_noteD) (PySem.W.mg_of KX G m_law_is_noteD) G_law_whole
    have G_law_is_piece := own_law_is_piece (P := l.prog) (w := w) (base := base) S B Z (FunC.mk' l_law_is_piece c_law_is_piece_ k_law_is_piece) (PySem.W.mg_of KX G m_law_is_piece) G_law_is_noteD
    have G_law_odd_note := own_law_odd_note (P := l.prog) (w := w) (base := base) S B Z (FunC.mk' l_law_odd_note c_law_odd_note_ k_law_odd_note) (PySem.W.mg_of KX G m_law_odd_note) (PySem.W.mg_none_of KX G b_abs)
    have G_law_spoilt := own_law_spoilt (P := l.prog) (w := w) (base := base) S B Z (FunC.mk' l_law_spoilt c_law_spoilt_ k_law_spoilt) (PySem.W.mg_of KX G m_law_spoilt) G_law_odd_note
    have G_law_asked := own_law_asked (P := l.prog) (w := w) (base := base) S B Z (FunC.mk' l_law_asked c_law_asked_ k_law_asked) (PySem.W.mg_of KX G m_law_asked) G_entries_ofB G_faultsB G_good G_length G_mirrored G_moved G_shrunk G_sounding G_stretched G_turned G_writtenB
    have G_law_refused := own_law_refused (P := l.prog) (w := w) (base := base) S B Z (FunC.mk' l_law_refused c_law_refused_ k_law_refused) (PySem.W.mg_of KX G m_law_refused) G_law_asked (PySem.W.mg_of KX G x_BadEntry) (PySem.W.mg_of KX G x_BadNumber) (PySem.W.mg_of KX G x_BadPiece) (PySem.W.mg_of KX G x_BadTheme) (PySem.W.mg_of KX G x_Clash) (PySem.W.mg_of KX G x_NoText) (PySem.W.mg_of KX G x_OutOfRange) (PySem.W.mg_of KX G x_Uneven) (PySem.W.mg_of KX G x_WeaveError)
    exact ok_law (P := l.prog) (w := w) (base := base) S B Z (FunC.mk' l_law c_law_ k_law) G_law_at G_law_is_piece G_law_piece G_law_refused G_law_spoilt G_law_whole G_good G_length
end VW

open PySem PySem.W PyProof.Rows in
set_option maxRecDepth 100000 in
set_option maxHeartbeats 0 in
theorem PySem.Challenge.cw_voiceweave_k01_what_is_a_piece_holds : PySem.Challenge.rw_voiceweave_k01_what_is_a_piece.Holds := by
  w_on; o_law; k_head; (case hw => w_witness2)
  k_fill
  refine VW.walk_tabs (l := PySem.Challenge.rw_voiceweave_k01_what_is_a_piece) (n := 63) (k := 12) (x := "_law_script") (CX := fun _ => L2.CX0) ["is_note", "is_piece"] rfl (by decide) rfl ⟨rfl, by decide, by decide⟩ (by decide +kernel) (fun w h Y => PySem.W.kIn_of Y) ?F fun _ _ _ _ _ z => z
  case F =>
    intro w mg fa h KX G hmg T
    refine' VW.all_facts KX G hmg T ?x_BadEntry ?x_BadNumber ?x_BadPiece ?x_BadTheme ?x_Clash ?x_NoText ?x_OutOfRange ?x_Uneven ?x_WeaveError ?xx_BadNumber ?xk_BadNumber ?xb_BadNumber ?xt_BadNumber ?xx_BadPiece ?xk_BadPiece ?xb_BadPiece ?xt_BadPiece ?xx_OutOfRange ?xk_OutOfRange ?xb_OutOfRange ?xt_OutOfRange ?xx_Uneven ?xk_Uneven ?xb_Uneven ?xt_Uneven ?yg_BadPiece ?yk_BadPiece ?yd_BadPiece ?ya_BadPiece ?ym_BadPiece ?yv_BadPiece ?ys_BadPiece_BadNumber ?yq_BadPiece_BadNumber ?ys_BadPiece_OutOfRange ?yq_BadPiece_OutOfRange ?ys_BadPiece_Uneven ?yq_BadPiece_Uneven ?ys_BadPiece_BadTheme ?yq_BadPiece_BadTheme ?ys_BadPiece_BadEntry ?yq_BadPiece_BadEntry ?ys_BadPiece_Clash ?yq_BadPiece_Clash ?ys_BadPiece_NoText ?yq_BadPiece_NoText ?ye_BadPiece ?zd_BadEntry ?zt_BadEntry ?zd_BadNumber ?zt_BadNumber ?zd_BadTheme ?zt_BadTheme ?zd_Clash ?zt_Clash ?zd_NoText ?zt_NoText ?zd_OutOfRange ?zt_OutOfRange ?zd_Uneven ?zt_Uneven ?zd_WeaveError ?zt_WeaveError ?zb_WeaveError ?yn ?yt ?b_isinstance ?b_len ?b_max ?b_min ?b_sorted ?b_all ?b_any ?b_int ?b_bool ?b_str ?b_list ?b_tuple ?b_range ?b_zip ?b_enumerate ?b_ValueError ?b_abs ?n_MOST_TIMES ?n_GREATEST_END ?n_PITCH_REACH ?n_MOST_VOICES ?m_is_whole ?l_is_whole ?c_is_whole_ ?k_is_whole ?m_require_whole ?l_require_whole ?c_require_whole_ ?k_require_whole ?m_end_of ?l_end_of ?c_end_of_ ?k_end_of ?m_is_note ?l_is_note ?c_is_note_ ?k_is_note ?m_is_voice ?l_is_voice ?c_is_voice_ ?k_is_voice ?m_is_piece ?l_is_piece ?c_is_piece_ ?k_is_piece ?m_good ?l_good ?c_good_ ?k_good ?m_length ?l_length ?c_length_ ?k_length ?m_note ?l_note ?c_note_ ?k_note ?m_require_times ?l_require_times ?c_require_times_ ?k_require_times ?m_parted ?l_parted ?c_parted_ ?k_parted ?m_moved ?l_moved ?c_moved_ ?k_moved ?m_mirrored ?l_mirrored ?c_mirrored_ ?k_mirrored ?m_turned ?l_turned ?c_turned_ ?k_turned ?m_stretched ?l_stretched ?c_stretched_ ?k_stretched ?m_shrunk ?l_shrunk ?c_shrunk_ ?k_shrunk ?m_pitch_at ?l_pitch_at ?c_pitch_at_ ?k_pitch_at ?m_sounding ?l_sounding ?c_sounding_ ?k_sounding ?m_faultsB ?l_faultsB ?c_faultsB_ ?k_faultsB ?m_writtenB ?l_writtenB ?c_writtenB_ ?k_writtenB ?m_entries_ofB ?l_entries_ofB ?c_entries_ofB_ ?k_entries_ofB ?m_law_at ?l_law_at ?c_law_at_ ?k_law_at ?m_law_whole ?l_law_whole ?c_law_whole_ ?k_law_whole ?m_law_notes ?l_law_notes ?c_law_notes_ ?k_law_notes ?m_law_piece ?l_law_piece ?c_law_piece_ ?k_law_piece ?m_law_is_noteD ?l_law_is_noteD ?c_law_is_noteD_ ?k_law_is_noteD ?m_law_is_piece ?l_law_is_piece ?c_law_is_piece_ ?k_law_is_piece ?m_law_odd_note ?l_law_odd_note ?c_law_odd_note_ ?k_law_odd_note ?m_law_spoilt ?l_law_spoilt ?c_law_spoilt_ ?k_law_spoilt ?m_law_asked ?l_law_asked ?c_law_asked_ ?k_law_asked ?m_law_refused ?l_law_refused ?c_law_refused_ ?k_law_refused ?m_law ?l_law ?c_law_ ?k_law ?tl_is_note ?ti_is_note ?tn_is_note ?tl_is_piece ?ti_is_piece ?tn_is_piece
    (case x_BadEntry => k_is)
    (case x_BadNumber => k_is)
    (case x_BadPiece => k_is)
    (case x_BadTheme => k_is)
    (case x_Clash => k_is)
    (case x_NoText => k_is)
    (case x_OutOfRange => k_is)
    (case x_Uneven => k_is)
    (case x_WeaveError => k_is)
    (case xx_BadNumber => k_exc)
    (case xk_BadNumber => k_is)
    (case xb_BadNumber => k_is)
    (case xt_BadNumber => k_is)
    (case xx_BadPiece => k_exc)
    (case xk_BadPiece => k_is)
    (case xb_BadPiece => k_is)
    (case xt_BadPiece => k_is)
    (case xx_OutOfRange => k_exc)
    (case xk_OutOfRange => k_is)
    (case xb_OutOfRange => k_is)
    (case xt_OutOfRange => k_is)
    (case xx_Uneven => k_exc)
    (case xk_Uneven => k_is)
    (case xb_Uneven => k_is)
    (case xt_Uneven => k_is)
    (case yg_BadPiece => k_is)
    (case yk_BadPiece => k_is)
    (case yd_BadPiece => k_is)
    (case ya_BadPiece => k_is)
    (case ym_BadPiece => k_is)
    (case yv_BadPiece => k_is)
    (case ys_BadPiece_BadNumber => k_is)
    (case yq_BadPiece_BadNumber => decide)
    (case ys_BadPiece_OutOfRange => k_is)
    (case yq_BadPiece_OutOfRange => decide)
    (case ys_BadPiece_Uneven => k_is)
    (case yq_BadPiece_Uneven => decide)
    (case ys_BadPiece_BadTheme => k_is)
    (case yq_BadPiece_BadTheme => decide)
    (case ys_BadPiece_BadEntry => k_is)
    (case yq_BadPiece_BadEntry => decide)
    (case ys_BadPiece_Clash => k_is)
    (case yq_BadPiece_Clash => decide)
    (case ys_BadPiece_NoText => k_is)
    (case yq_BadPiece_NoText => decide)
    (case ye_BadPiece => k_is)
    (case zd_BadEntry => k_is)
    (case zt_BadEntry => k_is)
    (case zd_BadNumber => k_is)
    (case zt_BadNumber => k_is)
    (case zd_BadTheme => k_is)
    (case zt_BadTheme => k_is)
    (case zd_Clash => k_is)
    (case zt_Clash => k_is)
    (case zd_NoText => k_is)
    (case zt_NoText => k_is)
    (case zd_OutOfRange => k_is)
    (case zt_OutOfRange => k_is)
    (case zd_Uneven => k_is)
    (case zt_Uneven => k_is)
    (case zd_WeaveError => k_is)
    (case zt_WeaveError => k_is)
    (case zb_WeaveError => k_is)
    (case yn => k_is)
    (case yt => k_is)
    (case b_isinstance => k_is)
    (case b_len => k_is)
    (case b_max => k_is)
    (case b_min => k_is)
    (case b_sorted => k_is)
    (case b_all => k_is)
    (case b_any => k_is)
    (case b_int => k_is)
    (case b_bool => k_is)
    (case b_str => k_is)
    (case b_list => k_is)
    (case b_tuple => k_is)
    (case b_range => k_is)
    (case b_zip => k_is)
    (case b_enumerate => k_is)
    (case b_ValueError => k_is)
    (case b_abs => k_is)
    (case n_MOST_TIMES => k_is)
    (case n_GREATEST_END => k_is)
    (case n_PITCH_REACH => k_is)
    (case n_MOST_VOICES => k_is)
    (case m_is_whole => k_is)
    (case l_is_whole => k_is)
    (case c_is_whole_ => k_is)
    (case k_is_whole => k_is)
    (case m_require_whole => k_is)
    (case l_require_whole => k_is)
    (case c_require_whole_ => k_is)
    (case k_require_whole => k_is)
    (case m_end_of => k_is)
    (case l_end_of => k_is)
    (case c_end_of_ => k_is)
    (case k_end_of => k_is)
    (case m_is_note => k_is)
    (case l_is_note => k_is)
    (case c_is_note_ => k_is)
    (case k_is_note => k_is)
    (case m_is_voice => k_is)
    (case l_is_voice => k_is)
    (case c_is_voice_ => k_is)
    (case k_is_voice => k_is)
    (case m_is_piece => k_is)
    (case l_is_piece => k_is)
    (case c_is_piece_ => k_is)
    (case k_is_piece => k_is)
    (case m_good => k_is)
    (case l_good => k_is)
    (case c_good_ => k_is)
    (case k_good => k_is)
    (case m_length => k_is)
    (case l_length => k_is)
    (case c_length_ => k_is)
    (case k_length => k_is)
    (case m_note => k_is)
    (case l_note => k_is)
    (case c_note_ => k_is)
    (case k_note => k_is)
    (case m_require_times => k_is)
    (case l_require_times => k_is)
    (case c_require_times_ => k_is)
    (case k_require_times => k_is)
    (case m_parted => k_is)
    (case l_parted => k_is)
    (case c_parted_ => k_is)
    (case k_parted => k_is)
    (case m_moved => k_is)
    (case l_moved => k_is)
    (case c_moved_ => k_is)
    (case k_moved => k_is)
    (case m_mirrored => k_is)
    (case l_mirrored => k_is)
    (case c_mirrored_ => k_is)
    (case k_mirrored => k_is)
    (case m_turned => k_is)
    (case l_turned => k_is)
    (case c_turned_ => k_is)
    (case k_turned => k_is)
    (case m_stretched => k_is)
    (case l_stretched => k_is)
    (case c_stretched_ => k_is)
    (case k_stretched => k_is)
    (case m_shrunk => k_is)
    (case l_shrunk => k_is)
    (case c_shrunk_ => k_is)
    (case k_shrunk => k_is)
    (case m_pitch_at => k_is)
    (case l_pitch_at => k_is)
    (case c_pitch_at_ => k_is)
    (case k_pitch_at => k_is)
    (case m_sounding => k_is)
    (case l_sounding => k_is)
    (case c_sounding_ => k_is)
    (case k_sounding => k_is)
    (case m_faultsB => k_is)
    (case l_faultsB => k_is)
    (case c_faultsB_ => k_is)
    (case k_faultsB => k_is)
    (case m_writtenB => k_is)
    (case l_writtenB => k_is)
    (case c_writtenB_ => k_is)
    (case k_writtenB => k_is)
    (case m_entries_ofB => k_is)
    (case l_entries_ofB => k_is)
    (case c_entries_ofB_ => k_is)
    (case k_entries_ofB => k_is)
    (case m_law_at => k_is)
    (case l_law_at => k_is)
    (case c_law_at_ => k_is)
    (case k_law_at => k_is)
    (case m_law_whole => k_is)
    (case l_law_whole => k_is)
    (case c_law_whole_ => k_is)
    (case k_law_whole => k_is)
    (case m_law_notes => k_is)
    (case l_law_notes => k_is)
    (case c_law_notes_ => k_is)
    (case k_law_notes => k_is)
    (case m_law_piece => k_is)
    (case l_law_piece => k_is)
    (case c_law_piece_ => k_is)
    (case k_law_piece => k_is)
    (case m_law_is_noteD => k_is)
    (case l_law_is_noteD => k_is)
    (case c_law_is_noteD_ => k_is)
    (case k_law_is_noteD => k_is)
    (case m_law_is_piece => k_is)
    (case l_law_is_piece => k_is)
    (case c_law_is_piece_ => k_is)
    (case k_law_is_piece => k_is)
    (case m_law_odd_note => k_is)
    (case l_law_odd_note => k_is)
    (case c_law_odd_note_ => k_is)
    (case k_law_odd_note => k_is)
    (case m_law_spoilt => k_is)
    (case l_law_spoilt => k_is)
    (case c_law_spoilt_ => k_is)
    (case k_law_spoilt => k_is)
    (case m_law_asked => k_is)
    (case l_law_asked => k_is)
    (case c_law_asked_ => k_is)
    (case k_law_asked => k_is)
    (case m_law_refused => k_is)
    (case l_law_refused => k_is)
    (case c_law_refused_ => k_is)
    (case k_law_refused => k_is)
    (case m_law => k_is)
    (case l_law => k_is)
    (case c_law_ => k_is)
    (case k_law => k_is)
    (case tl_is_note => k_is)
    (case ti_is_note => rfl)
    (case tn_is_note => rfl)
    (case tl_is_piece => k_is)
    (case ti_is_piece => rfl)
    (case tn_is_piece => rfl)
