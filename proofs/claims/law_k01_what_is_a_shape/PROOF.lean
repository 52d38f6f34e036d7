import PyProof.Rows.All
import Wide.All
import OpenK.AllK
import Wide.FinOn
import HandS.ForMost
import HandS.GenCall
import HandS.GenList
import HandS.AnyAll
import PyProof.GenQ
import HandS.ForExc
import HandS.ExcCtx
import HandS.HotCalls
import HandS.Small
import KE.KExcStr
import HandS.ExcIs
import HandS.IsInst
import HandS.Deep
import HandS.TupAny
import HandS.TupMul
import PyProof.Rows.CountFlat
import HandS.RaiseMore
import HandS.EndTab
import PyProof.ReprRoads
import PySem.Challenge.RW_manyshaped_k01_what_is_a_shape
section
set_option Elab.async false
set_option linter.all false
set_option maxRecDepth 100000
set_option maxHeartbeats 2000000
/-! A generator expression whose element may call: its turns over the layer's invariant. -/
namespace GE
open PySem PySem.Spec PyProof.Rows L2 GenW
abbrev St := L2.St
/-- the consumer's own objects, out of the generator's reach -/
structure SOk (gX : Cx) (fp S : List Addr) : Prop where
  young : ∀ b ∈ S, gX.s_0.heap.objs.size ≤ b
  loc : ∀ b ∈ S, b ≠ gX.env.locals
  cell : ∀ b ∈ S, ∀ x c, gX.env.cells.lookup x = some c → c ≠ b
  pn : ∀ b ∈ S, ∀ p ∈ gX.pn, p.1 ≠ b
  fs : ∀ b ∈ S, b ∉ gX.fs
  fp : ∀ b ∈ S, b ∉ fp
def SThere (S : List Addr) (h : Heap) : Prop := ∀ b ∈ S, ∃ o, h.get? b = some o ∧ ∀ v, o.data ≠ .cell v
/-- while the generator sleeps -/
structure Awake (S : List Addr) (s s' : Shared) : Prop where
  os : s'.os = s.os
  bare : AllBare s'.gens
  keep : ∀ b o, b ∉ S → s.heap.get? b = some o → s'.heap.get? b = some o
  there : SThere S s'.heap
/-- the iterator's own objects, towards the generator's context -/
def FpS (gX : Cx) (fp : List Addr) : Prop := ∀ b ∈ fp, b ≠ gX.env.locals ∧ b ∉ gX.fs ∧ (b ∈ gX.ex ∨ gX.s_0.heap.objs.size ≤ b) ∧ (∀ x c, gX.env.cells.lookup x = some c → c ≠ b) ∧ ∀ p ∈ gX.pn, p.1 ≠ b
section
variable {gX : Cx} {S fp : List Addr} {τ : St} {H : Hp} {s s' : Shared}
theorem mem_pins {h : Heap} {p : Addr × Obj} (hp : p ∈ pinsAt S h) : p.1 ∈ S ∧ h.get? p.1 = some p.2 := of_pinsAt hp
theorem inv_S {h : Heap} (hS : SThere S h) (I : Inv gX (pinsAt S h) τ H s) : ∀ b ∈ S, H b = none ∧ s.heap.get? b = h.get? b := fun b hb => by
  obtain ⟨o, e, d⟩ := hS b hb
  have q := I.pin (b, o) (List.mem_append_right _ (mem_pinsAt hb e))
  exact ⟨q.2.1, q.1.trans e.symm⟩
/-- behind the sleep -/
theorem inv_awake {h : Heap} (SO : SOk gX fp S) (hS : SThere S h) (I : Inv gX (pinsAt S h) τ H s) (z : Awake S s s') : Inv gX (pinsAt S s'.heap) τ H s' := by
  have hn := inv_S hS I
  have I0 : Inv gX [] τ H s := I.pins_of fun p hp => absurd hp (by simp)
  have nt : ∀ b u, H b = some u → b ∉ S := fun b u q hb => by rw [(hn b hb).1] at q; cases q
  have hL : gX.env.locals ∉ S := fun hb => SO.loc _ hb rfl
  have J : Inv gX [] τ H s' := by
    obtain ⟨hh, g, d, t, o⟩ := s'
    have ho : o = s.os := z.os
    subst ho
    refine I0.step (g' := g) (t' := t) (d' := d) (ch := S) (fun b hb => ⟨.inr (SO.young b hb), SO.loc b hb, fun x c e => SO.cell b hb x c e, fun p hp => ?_⟩)
      (fun b ob _ _ hc q _ => z.keep b ob hc q) (fun b ob _ _ hc q _ => ⟨ob.slots, z.keep b ob hc q⟩) (fun _ _ _ _ n => n) (fun b ob hc q => ⟨ob, z.keep b ob hc q⟩)
      (fun _ _ q => q) (fun _ _ _ q => q) (fun b ps q => ⟨#[], by rw [q]; simp⟩) (fun m hm => ?_) (fun b u q => ?_) z.bare
    · rcases List.mem_append.mp hp with hp | hp
      · exact SO.pn b hb p hp
      · simp at hp
    · obtain ⟨ob, es, ep, ho, r⟩ := hm
      exact ⟨ob, es, ep, z.keep _ ob hL ho, r⟩
    · refine (I0.hok b u q).stay (fun c v hc y => z.keep c v ?_ y) (fun _ y => y) fun _ _ y => y
      rcases hc with y | y
      · rw [y]; exact nt b u q
      · exact nt c _ y
  refine J.pins_of fun p hp => ?_
  obtain ⟨hb, e⟩ := mem_pins hp
  obtain ⟨o, e2, d⟩ := z.there p.1 hb
  rw [e2] at e
  cases e
  exact ⟨e2, (hn p.1 hb).1, SO.loc _ hb, SO.fs _ hb, d⟩
/-- the first wake: S has just been made -/
theorem inv_first (SO : SOk gX fp S) (I : Inv gX [] τ H s) (hn : ∀ b ∈ S, H b = none) (hS : SThere S s.heap) : Inv gX (pinsAt S s.heap) τ H s := by
  refine I.pins_of fun p hp => ?_
  obtain ⟨hb, e⟩ := mem_pins hp
  obtain ⟨o, e2, d⟩ := hS p.1 hb
  rw [e2] at e
  cases e
  exact ⟨e2, hn p.1 hb, SO.loc _ hb, SO.fs _ hb, d⟩
theorem fp_ok {h : Heap} (SO : SOk gX fp S) (F : FpS gX fp) (hf : ∀ b ∈ fp, H b = none) : ∀ b ∈ fp, FpOk gX (pinsAt S h) H b := fun b hb => by
  obtain ⟨f1, f2, f3, f4, f5⟩ := F b hb
  refine ⟨hf b hb, f1, f2, f3, f4, fun p hp => ?_⟩
  rcases List.mem_append.mp hp with hp | hp
  · exact f5 p hp
  · exact fun z => SO.fp p.1 (mem_pins hp).1 (by rw [z]; exact hb)
end
section
variable {α : Type}
/-- an item is out: W is the consumer's word, C what the element's reading gives him -/
def GYd (gX : Cx) (S fp : List Addr) (tn : Nat → Heap → Prop) (K : α → Heap → Prop) (W : Nat → Nat → α → St → Hp → Prop) (C : Nat → Nat → α → St → V → Hp → Prop) : Protocol := fun n s₀ v s kap =>
  ∃ i m al τ x H, RelV x v ∧ Inv gX (pinsAt S s₀.heap) τ H s ∧ SThere S s₀.heap ∧ K al s₀.heap ∧ C i m al τ x H ∧ ∀ m' al', m' < m → W (i + 1) m' al' τ H → ∀ s', K al' s'.heap → Awake S s s' → kap (.send .none) s'
def GRd (gX : Cx) (S : List Addr) (K : α → Heap → Prop) (Fin : Nat → α → St → Hp → Prop) : Nat → Shared → Shared → Prop := fun n s₀ s =>
  ∃ i al τ H, Inv gX (pinsAt S s₀.heap) τ H s ∧ SThere S s₀.heap ∧ K al s₀.heap ∧ Fin i al τ H
/-- the consumer's word turns -/
def Turns (J : It) (gt : TG) (te : TE) (W : Nat → Nat → α → St → Hp → Prop) (Fin : Nat → α → St → Hp → Prop) (C : Nat → Nat → α → St → V → Hp → Prop) : Prop :=
  ∀ i m al τ H, W i m al τ H → (J.stop i H ∧ Fin i al τ H) ∨ (J.go i H ∧ ∀ x H', J.yld i H x H' → gt x τ H' fun τ2 H2 => te τ2 H2 fun v H3 => C i m al τ2 v H3)
variable {gX : Cx} {A : Around} {elt iter tg : Expr} {scope : Scope} {pos : Pos} {it : Addr} {S fp : List Addr} {tn : Nat → Heap → Prop} {J : It} {gt : TG} {te : TE} {K : α → Heap → Prop}
  {W : Nat → Nat → α → St → Hp → Prop} {Fin : Nat → α → St → Hp → Prop} {C : Nat → Nat → α → St → V → Hp → Prop}
theorem seg_loop (T : Turn gX.prog gX.w gX.K tg J fp it tn) (hov : gX.A = A.deeper gX.env) (hc : gX.calm = true) (hxe : gX.xe = fun _ _ => False) (hg : PG gX tg gt) (he : PE gX elt te)
    (hco : gX.env.scope.isCoroutine = false) (SO : SOk gX fp S) (F : FpS gX fp) (turn : Turns J gt te W Fin C) :
    ∀ (n i m : Nat) (al : α) (τ : St) (H : Hp) (s₀ s : Shared), m < n → W i m al τ H → SThere S s₀.heap → K al s₀.heap → Inv gX (pinsAt S s₀.heap) τ H s → tn i s.heap → (∀ b ∈ fp, H b = none) →
      Seg (model gX.prog gX.w) A (fun n s₀ r s₁ => r = .ok .next ∧ GRd gX S K Fin n s₀ s₁) (GYd gX S fp tn K W C) n s₀ (.compLoop (.GeneratorExp elt [⟨tg, iter, [], 0⟩] scope pos) 0 (.ref it) .none gX.env)
        ((model gX.prog gX.w).den (.compLoop (.GeneratorExp elt [⟨tg, iter, [], 0⟩] scope pos) 0 (.ref it) .none gX.env)) [] s := by
  have ov : A.over (.compLoop (.GeneratorExp elt [⟨tg, iter, [], 0⟩] scope pos) 0 (.ref it) .none gX.env) [] = gX.A := by rw [hov]; rfl
  have noE : ∀ {n : Nat} {s₀ : Shared} {t : Sem PySem.Fin} (x : Value) (s' : Shared), gX.xe x s' → Seg (model gX.prog gX.w) A (fun n s₀ r s₁ => r = .ok .next ∧ GRd gX S K Fin n s₀ s₁) (GYd gX S fp tn K W C) n s₀ (.compLoop (.GeneratorExp elt [⟨tg, iter, [], 0⟩] scope pos) 0 (.ref it) .none gX.env) t [] s' := fun {n s₀ t} x s' hx => by
    rw [hxe] at hx
    exact hx.elim
  intro n
  induction n with
  | zero => intro i m al τ H s₀ s h; omega
  | succ n ih =>
    intro i m al τ H s₀ s hmn hW hS hK I hst hf
    show Seg _ A _ _ _ s₀ _ ((compTurn (.GeneratorExp elt [⟨tg, iter, [], 0⟩] scope pos) 0 (.ref it) .none gX.env).onRaise (leaving gX.env)) [] s
    rw [compTurn_gen, Sem.onRaise_eq_wrap]
    refine seg_bind_wrap (wpAny_standAt ?_)
    rcases turn i m al τ H hW with ⟨stop, fin⟩ | ⟨go, step⟩
    · refine seg_bind_wrap ?_
      rw [ov]
      refine wpAny_mono (T.done gX rfl rfl rfl hc i _ s τ H gX.xe I (fp_ok SO F hf) hst stop) (fun r s1 h1 => ?_) (fun x s' hx => noE x s' hx)
      obtain ⟨rfl, I1⟩ := h1
      exact seg_end (.ok .next) ⟨rfl, i, al, τ, H, I1, hS, hK, fin⟩
    · refine seg_bind_wrap ?_
      rw [ov]
      refine wpAny_mono (T.item gX rfl rfl rfl hc i _ s τ H gX.xe I (fp_ok SO F hf) hst go) (fun r s1 h1 => ?_) (fun x s' hx => noE x s' hx)
      obtain ⟨u, rfl, h1⟩ := h1
      refine seg_bind_wrap ?_
      rw [ov]
      refine wpAny_mono h1 (fun _ s2 h2 => ?_) (fun x s' hx => noE x s' hx)
      obtain ⟨x, H2, I2, rx, hy, st2, f2⟩ := h2
      have I2' := I2.pinned (fp_ok SO F f2) (T.obj _ _ st2)
      refine seg_bind_wrap ?_
      rw [ov]
      refine wpAny_mono (hg.run _ s2 τ H2 x u _ I2' rx (step x H2 hy)) (fun _ s3 h3 => ?_) (fun x s' hx => noE x s' hx)
      obtain ⟨τ3, H3, I3, q3⟩ := h3
      simp only [List.forIn_nil]
      refine seg_bind_wrap (wpAny_pure ?_)
      simp only [if_true]
      have hy : ∀ v, yieldOut gX.env v = yieldValue v := fun v => by simp only [yieldOut, hco, Bool.false_eq_true, if_false]
      simp only [hy]
      rw [Sem.bind_eq_wrap', Sem.bind_eq_wrap', Sem.wrap_wrap, Sem.wrap_wrap]
      refine seg_wrap ?_
      rw [ov]
      refine wpAny_mono (he.run _ s3 τ3 H3 _ I3 q3) (fun y s4 h4 => ?_) (fun x s' hx => noE x s' hx)
      obtain ⟨v, H4, I4, rv, hC⟩ := h4
      refine seg_at (seg_yield rfl rfl rfl ⟨i, m, al, τ3, v, H4, rv, I4.unpinned, hS, hK, hC, fun m' al' hm' hW' s5 hK' hw => ?_⟩)
      have keepfp : ∀ b ∈ fp, ∀ o, s2.heap.get? b = some o → s5.heap.get? b = some o := fun b hb o e =>
        hw.keep b o (fun z => SO.fp b z hb) ((I4.pin (b, o) (List.mem_append_right _ (List.mem_append_right _ (mem_pinsAt hb e)))).1)
      refine seg_again rfl (ih (i + 1) m' al' τ3 H4 s5 s5 (by omega) hW' hw.there hK' (inv_awake SO hS I4.unpinned hw) (T.keep _ _ _ st2 keepfp) fun b hb => ?_)
      obtain ⟨o, e, d⟩ := T.obj _ _ st2 b hb
      exact (I4.pin (b, o) (List.mem_append_right _ (List.mem_append_right _ (mem_pinsAt hb e)))).2.1
theorem seg_start (T : Turn gX.prog gX.w gX.K tg J fp it tn) (hov : gX.A = A.deeper gX.env) (hc : gX.calm = true) (hxe : gX.xe = fun _ _ => False) (hg : PG gX tg gt) (he : PE gX elt te)
    (hco : gX.env.scope.isCoroutine = false) (SO : SOk gX fp S) (F : FpS gX fp) (turn : Turns J gt te W Fin C) {n m : Nat} {al : α} {τ : St} {H : Hp} {s₀ s : Shared}
    (hm : m < n) (hW : W 0 m al τ H) (hS : SThere S s₀.heap) (hK : K al s₀.heap) (I : Inv gX (pinsAt S s₀.heap) τ H s) (hst : tn 0 s.heap) (hf : ∀ b ∈ fp, H b = none) :
    Seg (model gX.prog gX.w) A (fun n s₀ r s₁ => r = .ok .next ∧ GRd gX S K Fin n s₀ s₁) (GYd gX S fp tn K W C) n s₀ (.compStart (.GeneratorExp elt [⟨tg, iter, [], 0⟩] scope pos) 0 (.ref it) .none gX.env)
      ((model gX.prog gX.w).den (.compStart (.GeneratorExp elt [⟨tg, iter, [], 0⟩] scope pos) 0 (.ref it) .none gX.env)) [] s := by
  have loop := seg_loop (iter := iter) (scope := scope) (pos := pos) T hov hc hxe hg he hco SO F turn n 0 m al τ H s₀ s hm hW hS hK I hst hf
  show Seg _ A _ _ _ s₀ _ ((compStart (.GeneratorExp elt [⟨tg, iter, [], 0⟩] scope pos) 0 (.ref it) .none gX.env).onRaise (leaving gX.env)) [] s
  unfold compStart
  rw [Sem.onRaise_eq_wrap]
  show Seg _ A _ _ _ s₀ _ ((ask >>= _).wrap _ _ _ _) [] s
  refine seg_bind_wrap (wpAny_askSetting ?_)
  split
  · exact seg_again rfl loop
  · first
      | exact seg_bind_wrap (wpAny_rule (seg_bind_wrap (wpAny_standAt (seg_bind_wrap (T.self _ 0 s _ _ hst (seg_again rfl loop))))))
      | (refine seg_bind_wrap (wpAny_rule ?_); show Seg _ A _ _ _ s₀ _ ((standAt iter.pos >>= _).wrap _ _ _ _) [] s; exact seg_bind_wrap (wpAny_standAt (seg_bind_wrap (T.self _ 0 s _ _ hst (seg_again rfl loop)))))

/-! ### waking -/
theorem inv_same {pins : List (Addr × Obj)} {τ : St} {H : Hp} {s s' : Shared} (I : Inv gX pins τ H s) (hh : s'.heap = s.heap) (ho : s'.os = s.os) (hb : AllBare s'.gens) : Inv gX pins τ H s' :=
  I.call' (ch := []) ho (by rw [hh]; exact Un.refl) (by rw [hh]; exact I.hok) hb fun b z => by simp at z
/-- ready to be woken -/
def Rdy (gX : Cx) (S fp : List Addr) (tn : Nat → Heap → Prop) (K : α → Heap → Prop) (W : Nat → Nat → α → St → Hp → Prop) (Fin : Nat → α → St → Hp → Prop) (C : Nat → Nat → α → St → V → Hp → Prop) (A : Around) (a : Addr) (g n : Nat) (s : Shared) : Prop :=
  s.heap.IsGen a g ∧ s.heap.NoLimit ∧ ∃ gs, s.gens[g]? = some gs ∧ gs.Goes (model gX.prog gX.w) A.in1 (fun n s₀ r s₁ => r = .ok .next ∧ GRd gX S K Fin n s₀ s₁) (GYd gX S fp tn K W C) n (.send .none) (s.setGen g .running)
theorem next_ge {A : Around} {a : Addr} {g n : Nat} {go : Obj} {s : Shared} {Q : Option Value → Shared → Prop} {E : Value → Shared → Prop} (hh : A.handled = none) (hroom : A.depth < recursionLimit) (SO : SOk gX fp S)
    (hpn : (a, go) ∈ gX.pn) (hgo : ∀ h : Heap, h.get? a = some go → h.IsGen a g) (h : Rdy gX S fp tn K W Fin C A a g n s)
    (hend : ∀ s1 i al τ H, Inv gX (pinsAt S s.heap) τ H s1 → SThere S s.heap → K al s.heap → Fin i al τ H → Q none s1)
    (hyld : ∀ v x i m al τ H s1, Inv gX (pinsAt S s.heap) τ H s1 → SThere S s.heap → K al s.heap → RelV x v → C i m al τ x H →
      (∀ m' al' s2, m' < m → W (i + 1) m' al' τ H → K al' s2.heap → Awake S s1 s2 → s2.gens[g]? = s1.gens[g]? → ∃ n', n = n' + 1 ∧ Rdy gX S fp tn K W Fin C A a g n' s2) → Q (some v) s1) :
    wpAny (model gX.prog gX.w) A (pyNext (.ref a)) Q E s := by
  obtain ⟨hg, hl, gs, hgs, hgoes⟩ := h
  have hgl : g < s.gens.size := (Array.getElem?_eq_some_iff.mp hgs).1
  refine wpAny_gsz (n := g + 1) hgl ?_
  refine wpAny_pyNext_genexpQ (P := GRd gX S K Fin) hh hl hroom hg hgs hgoes (fun v s₁ gs' hb hv => ?_) (fun s₁ hp h' hk => ?_)
  · intro hsz
    obtain ⟨i, m, al, τ, x, H, rx, I, hS, hK, hC, hk⟩ := hv
    have hbare : AllBare (s₁.setGen g gs').gens := allBare_setGen I.bare hb
    have I1 : Inv gX (pinsAt S s.heap) τ H (s₁.setGen g gs') := inv_same I rfl rfl hbare
    refine hyld v x i m al τ H _ I1 hS hK rx hC fun m' al' s2 hm' hW' hK' hw hgen => ?_
    have hg1 : g < s₁.gens.size := by
      have q : (s₁.setGen g gs').gens.size = s₁.gens.size := setGen_size _ _ _
      have q2 : g + 1 ≤ (s₁.setGen g gs').gens.size := hsz
      omega
    have hgs2 : s2.gens[g]? = some gs' := hgen.trans (setGen_at hg1)
    have I2 := inv_awake SO hS I1 hw
    have haS : a ∉ S := fun hb => SO.pn a hb _ hpn rfl
    have ha2 : s2.heap.get? a = some go := (I2.pin (a, go) (List.mem_append_left _ hpn)).1
    have hK3 : K al' (s2.setGen g .running).heap := hK'
    have hw3 : Awake S s₁ (s2.setGen g .running) := ⟨hw.os, allBare_setGen hw.bare rfl, hw.keep, hw.there⟩
    have goes := hk m' al' hm' hW' _ hK3 hw3
    cases n with
    | zero => exact goes.elim
    | succ n' => exact ⟨n', rfl, hgo _ ha2, I2.nolimit, gs', hgs2, goes⟩
  · intro hsz
    obtain ⟨i, al, τ, H, I, hS, hK, hF⟩ := hp
    have I1 : Inv gX (pinsAt S s.heap) τ H (s₁.setGen g .finished) := inv_same I rfl rfl (allBare_setGen I.bare rfl)
    exact hend _ i al τ H (I1.kept (h' := h') (t' := (s₁.setGen g .finished).toks) hk) hS hK hF
end

/-! ### the making -/
/-- the generator expression's scope: its own names, captured names (with their places in the def) -/
structure GScp (X : Cx) (scope : Scope) (own : List Str) (cap : List (Str × Nat)) : Prop where
  kind : scope.kind = .function
  co : scope.isCoroutine = false
  cell : ∀ y ∈ scope.names, y.2 ≠ .cell
  dot : scope.names.lookup (".0" : Str) = some NameKind.local
  free : ∀ y ∈ scope.names, y.2 = .free → X.env.scope.names.lookup y.1 = some .cell ∨ X.env.scope.names.lookup y.1 = some .free
  cap : ∀ p ∈ cap, X.N[p.2]? = some p.1 ∧ scope.names.lookup p.1 = some .free
abbrev gN (own : List Str) (cap : List (Str × Nat)) : List Str := own ++ cap.map (·.1)
def gSt (own : List Str) (cap : List (Str × Nat)) (σ : St) : St := own.map (fun _ => none) ++ cap.map fun p => (σ[p.2]?).join
/-- the generator's own context -/
abbrev gcx (X : Cx) (sc : Shared) (H1 : Hp) (A : Around) (N : List Str) (cenv : Env) (ex : List Addr) (pn : List (Addr × Obj)) : Cx :=
  { X with A := A.deeper cenv, N := N, s_0 := sc, H_0 := H1, env := cenv, outer := X.stack, stack := cenv :: X.stack, ex := ex, fn := fun _ => false, calm := true, pn := pn, xe := fun _ _ => False }
/-- a generator that has not begun -/
def Made (X : Cx) (pins : List (Addr × Obj)) (σ : St) (elt tg iter : Expr) (scope : Scope) (gpos : Pos) (own : List Str) (cap : List (Str × Nat)) (J : It) (H2 : Hp) (a : Addr) (s5 : Shared) : Prop :=
  ∃ (g : Nat) (s4 : Shared) (cenv : Env) (it : Addr) (fp : List Addr) (tn : Nat → Heap → Prop) (go : Obj) (code : Value),
    cenv = genEnv scope (cloFrom X.env.cells scope.names []) s4.heap.objs.size code builtinsNs X.env ∧ Inv X pins σ H2 s4 ∧ Turn X.prog X.w X.K tg J fp it tn ∧ tn 0 s5.heap ∧ (∀ b ∈ fp, FpOk X pins H2 b ∧ b < s4.heap.objs.size) ∧
    (∀ h : Heap, h.get? a = some go → h.IsGen a g) ∧ s5.heap.get? a = some go ∧ s4.heap.objs.size < a ∧ s5.heap.objs.size = a + 1 ∧ s5.os = s4.os ∧ AllBare s5.gens ∧
    s5.gens[g]? = some (.fresh (.compStart (.GeneratorExp elt [⟨tg, iter, [], 0⟩] scope gpos) 0 (.ref it) .none cenv)) ∧
    ∀ Aw : Around, Aw.handled = none → Aw.frames = some X.stack → Inv (gcx X s4 H2 Aw (gN own cap) cenv fp [(a, go)]) [] (gSt own cap σ) H2 s5
section
variable {X : Cx} {pins : List (Addr × Obj)} {σ : St} {H : Hp} {s : Shared}
theorem gSt_own {own : List Str} {cap : List (Str × Nat)} {i : Nat} {v : V} (h : (gSt own cap σ)[i]? = some (some v)) : ∃ (j : Nat) (p : Str × Nat), cap[j]? = some p ∧ (gN own cap)[i]? = some p.1 ∧ σ[p.2]? = some (some v) := by
  unfold gSt at h
  by_cases hi : i < (own.map fun _ => (none : Option V)).length
  · rw [List.getElem?_append_left hi, List.getElem?_map] at h
    cases e : own[i]? with
    | none => rw [e] at h; cases h
    | some x => rw [e] at h; cases h
  · have hle : (own.map fun _ => (none : Option V)).length ≤ i := Nat.le_of_not_lt hi
    rw [List.getElem?_append_right hle, List.getElem?_map, List.length_map] at h
    cases e : cap[i - own.length]? with
    | none => rw [e] at h; cases h
    | some p =>
      rw [e] at h
      refine ⟨i - own.length, p, e, ?_, ?_⟩
      · rw [List.length_map] at hle
        unfold gN
        rw [List.getElem?_append_right hle, List.getElem?_map, e]
        rfl
      · have h' : (σ[p.2]?).join = some v := Option.some.inj h
        cases q : σ[p.2]? with
        | none => rw [q] at h'; cases h'
        | some o =>
          rw [q] at h'
          have h2 : o = some v := h'
          rw [h2]
theorem inv_made {s4 : Shared} {H2 : Hp} {A : Around} {scope : Scope} {own : List Str} {cap : List (Str × Nat)} {code : Value} {fp : List Addr} {a it : Addr} {go : Obj} {h' : Heap} {gs' : Array GenState} {tk : Nat}
    (I : Inv X pins σ H2 s4) (hN : X.N.Nodup) (S : GScp X scope own cap) (hfp : ∀ b ∈ fp, FpOk X pins H2 b ∧ b < s4.heap.objs.size) (hA : A.handled = none) (hfr : A.frames = some X.stack)
    (hn : h'.Ns s4.heap.objs.size (fun y => if y = ".0" then some (.ref it) else none)) (hk : ∀ b o, s4.heap.get? b = some o → h'.get? b = some o) (ha : h'.get? a = some go) (haC : s4.heap.objs.size < a) (hgd : ∀ v, go.data ≠ .cell v) (hb : AllBare gs') :
    Inv (gcx X s4 H2 A (gN own cap) (genEnv scope (cloFrom X.env.cells scope.names []) s4.heap.objs.size code builtinsNs X.env) fp [(a, go)]) [] (gSt own cap σ) H2 { s4 with heap := h', gens := gs', toks := tk } := by
  have hfree : ∀ y ∈ scope.names, y.2 = .free → ∃ c, X.env.cells.lookup y.1 = some c := fun y hy e => by
    rcases S.free y hy e with k | k
    · exact I.ok.has _ (.inl k)
    · exact I.ok.has _ (.inr k)
  have cm : ∀ {y c}, (cloFrom X.env.cells scope.names []).lookup y = some c → X.env.cells.lookup y = some c := fun {y c} hm => by
    rcases cloFrom_mem (PySem.mem_of_lookup hm) with hm | ⟨h1, rfl⟩
    · cases hm
    · obtain ⟨c, hc⟩ := hfree _ h1 rfl
      rw [hc]
      rfl
  have look : ∀ {y}, scope.names.lookup y = some .free → ∃ c, (cloFrom X.env.cells scope.names []).lookup y = some c ∧ X.env.cells.lookup y = some c := fun {y} hl => by
    have hy : (y, NameKind.free) ∈ scope.names := PySem.mem_of_lookup hl
    obtain ⟨c', e'⟩ := mem_lookup (cloFrom_has (cells := X.env.cells) (acc := []) hy)
    exact ⟨c', e', cm e'⟩
  have fresh : ∀ b, s4.heap.objs.size ≤ b → H2 b = none := fun b hb => I.hok.fresh hb
  refine ⟨⟨I.ok.mod, S.kind, I.ok.glob, rfl, Nat.le_refl _, fun y z c e1 e2 => I.ok.inj y z c (cm e1) (cm e2), fun y hy => ?_, fun y c z e => Bool.noConfusion (show false = true from z), fun _ => hA, Around.frames_deeper hfr, .inr ⟨rfl, rfl⟩, fun b hb => ⟨Nat.ne_of_lt (hfp b hb).2, fun y c e z => (hfp b hb).1.2.2.2.2.1 y c (cm e) z⟩,
      I.bs, Nat.le_trans I.ok.bsz I.sz, fun b o e hb => ?_, fun b hb z => ?_, I.stack, I.stkFree⟩, rfl, hb, Un.kept hk, ⟨_, hn, fun i x v h1 h2 h3 => ?_⟩, fun y c e => ?_, fresh _ (Nat.le_refl _), fun y c e => I.freeC y c (cm e), fun p hp => ?_, I.hok.kept hk, ?_⟩
  · have hy : scope.names.lookup y = some .cell ∨ scope.names.lookup y = some .free := hy
    rcases hy with hy | hy
    · exact absurd rfl (S.cell _ (PySem.mem_of_lookup hy))
    · obtain ⟨c, h1, _⟩ := look hy
      exact ⟨c, h1⟩
  · rcases (hfp b hb).1.2.2.2.1 with z | z
    · exact I.ok.noex b o e z
    · exact absurd (Nat.lt_of_lt_of_le (Nat.lt_of_lt_of_le (Heap.lt_size e) I.ok.bsz) z) (Nat.lt_irrefl _)
  · have f := (hfp b hb).1
    rcases List.mem_cons.mp (I.stkSub b z) with y | y
    · exact f.2.1 y
    · exact f.2.2.1 y
  · obtain ⟨j, p, hj, hi, hv⟩ := gSt_own h2
    have hx : x = p.1 := Option.some.inj (h1.symm.trans hi)
    subst hx
    obtain ⟨c1, c2⟩ := S.cap p (List.mem_of_getElem? hj)
    obtain ⟨c, hc, hc'⟩ := look c2
    obtain ⟨m, hm, hl⟩ := I.loc
    have kX := S.free (p.1, .free) (PySem.mem_of_lookup c2) rfl
    have vis : Vis X.env.scope p.1 := by
      rcases kX with k | k
      · exact .inr (.inl k)
      · exact .inr (.inr k)
    obtain ⟨u, ru, l⟩ := hl p.2 p.1 v c1 hv vis
    refine ⟨u, ru, .inr ⟨.inr c2, c, hc, ?_⟩⟩
    rcases l with ⟨k, _⟩ | ⟨_, c0, e0, z⟩
    · have k' : X.env.scope.names.lookup p.1 = some .local := k
      rcases kX with k2 | k2
      · rw [k'] at k2; cases k2
      · rw [k'] at k2; cases k2
    · rw [hc'] at e0
      cases e0
      obtain ⟨o, ho, hd⟩ := z
      exact ⟨o, hk _ _ ho, hd⟩
  · obtain ⟨v, o, ho, hd⟩ := I.cell y c (cm e)
    exact ⟨v, o, hk _ _ ho, hd⟩
  · have ep : p = (a, go) := by simpa using hp
    subst ep
    refine ⟨ha, fresh a (Nat.le_of_lt haC), Nat.ne_of_gt haC, fun hm => ?_, hgd⟩
    have hm : a ∈ frs X.stack := hm
    rcases List.mem_cons.mp (I.stkSub a hm) with y | y
    · have := I.lt
      rw [← y] at this
      exact absurd (Nat.lt_trans this haC) (Nat.lt_irrefl _)
    · exact I.nofs (Nat.le_of_lt haC) y
  · unfold gSt gN
    rw [List.length_append, List.length_append, List.length_map, List.length_map, List.length_map]
theorem gen_new {c P : Addr} {elt tg iter : Expr} {gpos : Pos} {scope : Scope} {own : List Str} {cap : List (Str × Nat)} {wi : TI} {k : Nat} {Q' : Value → Shared → Prop} {R : It → Hp → Prop}
    (hr : Room k X.A) (hN : X.N.Nodup) (TB : GxR.TabB X.base X.mg c P) (hcode : X.env.code = .ref c) (S : GScp X scope own cap) (hi : PI X tg iter wi)
    (hs : ∀ v, genFold iter X.env v = pure v) (I : Inv X pins σ H s) (h : wi σ H fun J H1 => GxR.TabG H1 P ∧ R J H1)
    (hQ : ∀ J H1 H2 a s5, R J H1 → GxR.Tabbed P H1 H2 → Made X pins σ elt tg iter scope gpos own cap J H2 a s5 → Q' (.ref a) s5) :
    wpAny (model X.prog X.w) X.A (eval (.GeneratorExp elt [⟨tg, iter, [], 0⟩] scope gpos) X.env) Q' X.xe s := by
  have hfree : ∀ y ∈ scope.names, y.2 = .free → ∃ c, X.env.cells.lookup y.1 = some c := fun y hy e => by
    rcases S.free y hy e with k | k
    · exact I.ok.has _ (.inl k)
    · exact I.ok.has _ (.inr k)
  refine wpAny_GeneratorExp_make S.co (closure_ok hfree) S.cell S.dot S.kind (by have := hr.dp; omega) ?_ hs
  refine thn (hi.run pins s σ H _ I h) fun xv s1 h1 => thn h1 fun itv s2 h2 => ?_
  obtain ⟨it, fp, tn, J, H1, rfl, I2, T, st2, f2, ⟨ps, hP, ht⟩, q⟩ := h2
  refine ⟨I2.nolimit, ?_⟩
  have hP2 : s2.heap.get? P = some { cls := .none, data := .fields ps } := I2.hok P _ hP
  have cd : PySem.W.CodeHd s2.heap c P := TB.code.keeps fun b u e => I2.bk b u e
  have cont : ∀ (code : Value) (H2 : Hp) (s4 : Shared), Inv X pins σ H2 s4 → GxR.Tabbed P H1 H2 → (∀ b o, b ≠ P → s2.heap.get? b = some o → s4.heap.get? b = some o) →
      wpAny (model X.prog X.w) X.A (builtinsFor X.env.globals X.env.builtins) (fun bi s₄ =>
        ∀ h', h'.Ns s₄.heap.objs.size (fun y => if y = ".0" then some (.ref it) else none) → Heap.SameBut s₄.heap.objs.size (s₄.heap.push { cls := .type "frame", data := .dict #[] }) h' →
          Q' (.ref h'.objs.size) { s₄ with
            gens := s₄.gens.push (.fresh (.compStart (.GeneratorExp elt [⟨tg, iter, [], 0⟩] scope gpos) 0 (.ref it) .none (genEnv scope (cloFrom X.env.cells scope.names []) s₄.heap.objs.size code bi X.env))),
            toks := s₄.toks + 1 + 1 + 1,
            heap := h'.push { cls := .type "generator", data := .fields #[.int s₄.gens.size 0, .str "<genexpr>" (s₄.toks + 1), .str (X.env.qual ++ "<genexpr>") (s₄.toks + 1 + 1)] } }) X.xe s4 := by
    intro code H2 s4 I4 hT k4
    obtain ⟨bm, ob, e1, e2, e3, e4, e5, e6, e7, e8⟩ := TB.bm
    refine wpAny_builtinsFor (m := X.mg) (by rw [I4.ok.glob]; exact I4.mod.glob.keeps I4.bk) e1 e2 (I4.bk _ _ e5) e6 e7 e8 ?_
    intro h' hn' hs'
    have hsz : h'.objs.size = s4.heap.objs.size + 1 := by rw [hs'.1, Heap.size_push]
    have keep' : ∀ b o, s4.heap.get? b = some o → h'.get? b = some o := fun b o e => hs'.extBut b o (Nat.ne_of_lt (Heap.lt_size e)) (Heap.get?_push_of_some _ e)
    have nfp : ∀ b ∈ fp, b ≠ P := fun b hb z => by
      have := (f2 b hb).1
      rw [z, hP] at this
      cases this
    have hf4 : ∀ b ∈ fp, FpOk X pins H2 b ∧ b < s4.heap.objs.size := fun b hb => by
      obtain ⟨f0, fr⟩ := f2 b hb
      refine ⟨⟨by rw [hT.2 b (nfp b hb)]; exact f0, fr⟩, ?_⟩
      obtain ⟨o, e, _⟩ := T.obj _ _ st2 b hb
      exact Heap.lt_size (k4 b o (nfp b hb) e)
    have hgs : AllBare (s4.gens.push (.fresh (.compStart (.GeneratorExp elt [⟨tg, iter, [], 0⟩] scope gpos) 0 (.ref it) .none (genEnv scope (cloFrom X.env.cells scope.names []) s4.heap.objs.size code builtinsNs X.env)))) := AllBare.push I4.bare rfl
    refine hQ J H1 H2 h'.objs.size _ q hT ⟨s4.gens.size, s4, _, it, fp, tn, _, code, rfl, I4, T, ?_, hf4, fun h e => ⟨_, _, _, e, rfl, rfl, rfl⟩, Heap.get?_push_size _ rfl, by omega, by rw [Heap.size_push], rfl, hgs, Array.getElem?_push_size .., fun Aw hA hfr => ?_⟩
    · exact T.keep _ _ _ st2 fun b hb o e => Heap.get?_push_of_some _ (keep' b o (k4 b o (nfp b hb) e))
    · exact inv_made (own := own) (cap := cap) (code := code) I4 hN S hf4 hA hfr (hn'.push _) (fun b o e => Heap.get?_push_of_some _ (keep' b o e)) (Heap.get?_push_size _ rfl) (by omega) (fun v z => by cases z) hgs
  cases hf : codeAmong gpos ps.toList with
  | none =>
    refine wpAny_genexprCodeX hcode (cd.code hP2 ht) (cd.tab hP2) hf fun c' h' tk hx hge hlt hco' _ htab' _ => ?_
    obtain ⟨o1, vs, f1, tf, fl, tg', inF, tx, tt, op, _, _, _, _, _, _, _, _, _, htr, _⟩ := hco'
    have J4 := GxR.inv_tab (h' := h') (g' := s2.gens) (d' := s2.drawn) (t' := tk) I2 hP (fun b o hb e => hx b o hb e) htab'.2 I2.bare
    exact cont _ _ _ J4 ⟨⟨_, upd_same, htr⟩, fun b hb => upd_ne hb⟩ fun b o hb e => hx b o hb e
  | some cv =>
    refine wpAny_genexprCode_hit hcode (cd.code hP2 ht) hf ?_
    exact cont cv H1 s2 I2 ⟨⟨ps, hP, ht⟩, fun _ _ => rfl⟩ fun _ _ _ e => e
end

/-! ### all, any -/
theorem sok_nil {gX : Cx} {fp : List Addr} : SOk gX fp [] := ⟨fun b h => by simp at h, fun b h => by simp at h, fun b h => by simp at h, fun b h => by simp at h, fun b h => by simp at h, fun b h => by simp at h⟩
theorem pins_nil {gX : Cx} {τ : St} {H : Hp} {s : Shared} {h : Heap} (I : Inv gX (pinsAt [] h) τ H s) : Inv gX [] τ H s := I
section
variable {gX : Cx} {fp : List Addr} {tn : Nat → Heap → Prop} {W : Nat → Nat → Unit → St → Hp → Prop} {Fin : Nat → Unit → St → Hp → Prop} {Stop : St → Hp → Prop} {A : Around} {R : Result → Shared → Prop} {a : Addr} {g : Nat} {go : Obj}
/-- what the consumer of truth values wants of an element: r, then the next turn; not r, then the end -/
def CB (r : Bool) (W : Nat → Nat → Unit → St → Hp → Prop) (Stop : St → Hp → Prop) : Nat → Nat → Unit → St → V → Hp → Prop := fun i m _ τ v H => ∃ b, v = .bl b ∧ if b = r then ∃ m', m' < m ∧ W (i + 1) m' () τ H else Stop τ H
theorem all_loop (hh : A.handled = none) (hroom : A.depth < recursionLimit) (hpn : (a, go) ∈ gX.pn) (hgo : ∀ h : Heap, h.get? a = some go → h.IsGen a g)
    (hEnd : ∀ s' i τ H, Inv gX [] τ H s' → Fin i () τ H → R (.ok (.ret (.bool true))) s') (hStop : ∀ s' τ H, Inv gX [] τ H s' → Stop τ H → R (.ok (.ret (.bool false))) s') :
    ∀ (n : Nat) (s : Shared), Rdy gX [] fp tn (fun _ _ => True) W Fin (CB true W Stop) A.in1 a g n s → codeAny (model gX.prog gX.w) A (.builtin "all.loop" ⟨[.ref a], []⟩) R s := by
  intro n
  induction n with
  | zero =>
    intro s h
    refine codeAny_builtin F.entry_all_loop ?_
    rw [Around.under_plainId F.plain_all_loop _]
    show wpAny _ A.in1 (pyNext (.ref a) >>= _) _ _ s
    refine wpAny_bind (next_ge (A := A.in1) hh hroom sok_nil hpn hgo h (fun s1 i al τ H I _ _ hF => ?_) fun v x i m al τ H s1 I _ _ rx hC hk => ?_)
    · exact wpAny_bind (wpAny_rule (wpAny_pure (hEnd s1 i τ H (pins_nil I) hF)))
    · obtain ⟨b, rfl, hb⟩ := hC
      have ev : v = Value.bool b := rx
      subst ev
      refine wpAny_bind (wpAny_holding (wpAny_truthy_bool ?_))
      refine wpAny_bind (wpAny_letGo ?_)
      cases b with
      | true =>
        rw [if_pos rfl] at hb
        obtain ⟨m', hm, w⟩ := hb
        obtain ⟨n', e, _⟩ := hk m' () s1 hm w trivial ⟨rfl, I.bare, fun _ _ _ e => e, fun b z => by simp at z⟩ rfl
        omega
      | false =>
        rw [if_neg Bool.false_ne_true] at hb
        simp only [Bool.false_eq_true, if_false]
        exact wpAny_bind (wpAny_rule (wpAny_pure (hStop s1 τ H (pins_nil I) hb)))
  | succ n ih =>
    intro s h
    refine codeAny_builtin F.entry_all_loop ?_
    rw [Around.under_plainId F.plain_all_loop _]
    show wpAny _ A.in1 (pyNext (.ref a) >>= _) _ _ s
    refine wpAny_bind (next_ge (A := A.in1) hh hroom sok_nil hpn hgo h (fun s1 i al τ H I _ _ hF => ?_) fun v x i m al τ H s1 I _ _ rx hC hk => ?_)
    · exact wpAny_bind (wpAny_rule (wpAny_pure (hEnd s1 i τ H (pins_nil I) hF)))
    · obtain ⟨b, rfl, hb⟩ := hC
      have ev : v = Value.bool b := rx
      subst ev
      refine wpAny_bind (wpAny_holding (wpAny_truthy_bool ?_))
      refine wpAny_bind (wpAny_letGo ?_)
      cases b with
      | true =>
        rw [if_pos rfl] at hb
        obtain ⟨m', hm, w⟩ := hb
        obtain ⟨n', e, hR⟩ := hk m' () s1 hm w trivial ⟨rfl, I.bare, fun _ _ _ e => e, fun b z => by simp at z⟩ rfl
        simp only [if_true]
        have e' : n' = n := by omega
        subst e'
        exact wpAny_pure ⟨plainId_quiet F.plain_all_loop _, ih _ hR⟩
      | false =>
        rw [if_neg Bool.false_ne_true] at hb
        simp only [Bool.false_eq_true, if_false]
        exact wpAny_bind (wpAny_rule (wpAny_pure (hStop s1 τ H (pins_nil I) hb)))
theorem any_loop (hh : A.handled = none) (hroom : A.depth < recursionLimit) (hpn : (a, go) ∈ gX.pn) (hgo : ∀ h : Heap, h.get? a = some go → h.IsGen a g)
    (hEnd : ∀ s' i τ H, Inv gX [] τ H s' → Fin i () τ H → R (.ok (.ret (.bool false))) s') (hStop : ∀ s' τ H, Inv gX [] τ H s' → Stop τ H → R (.ok (.ret (.bool true))) s') :
    ∀ (n : Nat) (s : Shared), Rdy gX [] fp tn (fun _ _ => True) W Fin (CB false W Stop) A.in1 a g n s → codeAny (model gX.prog gX.w) A (.builtin "any.loop" ⟨[.ref a], []⟩) R s := by
  intro n
  induction n with
  | zero =>
    intro s h
    refine codeAny_builtin F.entry_any_loop ?_
    rw [Around.under_plainId F.plain_any_loop _]
    show wpAny _ A.in1 (pyNext (.ref a) >>= _) _ _ s
    refine wpAny_bind (next_ge (A := A.in1) hh hroom sok_nil hpn hgo h (fun s1 i al τ H I _ _ hF => ?_) fun v x i m al τ H s1 I _ _ rx hC hk => ?_)
    · exact wpAny_bind (wpAny_rule (wpAny_pure (hEnd s1 i τ H (pins_nil I) hF)))
    · obtain ⟨b, rfl, hb⟩ := hC
      have ev : v = Value.bool b := rx
      subst ev
      refine wpAny_bind (wpAny_holding (wpAny_truthy_bool ?_))
      refine wpAny_bind (wpAny_letGo ?_)
      cases b with
      | false =>
        rw [if_pos rfl] at hb
        obtain ⟨m', hm, w⟩ := hb
        obtain ⟨n', e, _⟩ := hk m' () s1 hm w trivial ⟨rfl, I.bare, fun _ _ _ e => e, fun b z => by simp at z⟩ rfl
        omega
      | true =>
        rw [if_neg (by decide)] at hb
        simp only [if_true]
        exact wpAny_bind (wpAny_rule (wpAny_pure (hStop s1 τ H (pins_nil I) hb)))
  | succ n ih =>
    intro s h
    refine codeAny_builtin F.entry_any_loop ?_
    rw [Around.under_plainId F.plain_any_loop _]
    show wpAny _ A.in1 (pyNext (.ref a) >>= _) _ _ s
    refine wpAny_bind (next_ge (A := A.in1) hh hroom sok_nil hpn hgo h (fun s1 i al τ H I _ _ hF => ?_) fun v x i m al τ H s1 I _ _ rx hC hk => ?_)
    · exact wpAny_bind (wpAny_rule (wpAny_pure (hEnd s1 i τ H (pins_nil I) hF)))
    · obtain ⟨b, rfl, hb⟩ := hC
      have ev : v = Value.bool b := rx
      subst ev
      refine wpAny_bind (wpAny_holding (wpAny_truthy_bool ?_))
      refine wpAny_bind (wpAny_letGo ?_)
      cases b with
      | false =>
        rw [if_pos rfl] at hb
        obtain ⟨m', hm, w⟩ := hb
        obtain ⟨n', e, hR⟩ := hk m' () s1 hm w trivial ⟨rfl, I.bare, fun _ _ _ e => e, fun b z => by simp at z⟩ rfl
        simp only [Bool.false_eq_true, if_false]
        have e' : n' = n := by omega
        subst e'
        exact wpAny_pure ⟨plainId_quiet F.plain_any_loop _, ih _ hR⟩
      | true =>
        rw [if_neg (by decide)] at hb
        simp only [if_true]
        exact wpAny_bind (wpAny_rule (wpAny_pure (hStop s1 τ H (pins_nil I) hb)))
end
/-- the element's parts hold wherever the generator runs -/
abbrev EltOk (X : Cx) (Aw : Around) (scope : Scope) (own : List Str) (cap : List (Str × Nat)) (tg elt : Expr) (gt : TG) (te : TE) : Prop :=
  ∀ (sc : Shared) (H1 : Hp) (cl : List (Str × Addr)) (C : Addr) (code : Value) (ex : List Addr) (pn : List (Addr × Obj)),
    PG (gcx X sc H1 Aw (gN own cap) (genEnv scope cl C code builtinsNs X.env) ex pn) tg gt ∧ PE (gcx X sc H1 Aw (gN own cap) (genEnv scope cl C code builtinsNs X.env) ex pn) elt te
theorem room_gen {k : Nat} {A : Around} (hr : Room (k + 1) A) (env : Env) : Room k ((A.in1.in1).deeper env) := by
  refine ⟨hr.hd, ?_, ?_⟩
  · have := hr.dp
    show A.depth + 1 + 3 * k + 5 < _
    omega
  · have := hr.un
    show A.units + 1 + 1 + 3 + 16 * k + 200 < _
    omega
section
variable {α : Type} {X : Cx} {pins : List (Addr × Obj)} {σ : St} {elt tg iter : Expr} {scope : Scope} {gpos : Pos} {own : List Str} {cap : List (Str × Nat)} {J : It} {H2 : Hp} {a : Addr} {s5 : Shared} {gt : TG} {te : TE} {Aw : Around}
/-- the generator's static facts, and its way back to the def -/
structure Live (X : Cx) (pins : List (Addr × Obj)) (σ : St) (H2 : Hp) (gX : Cx) (fp : List Addr) (a : Addr) (g : Nat) (go : Obj) (s5 : Shared) : Prop where
  prog : gX.prog = X.prog
  w : gX.w = X.w
  pn : (a, go) ∈ gX.pn
  pn1 : ∀ p ∈ gX.pn, p.1 = a
  isGen : ∀ h : Heap, h.get? a = some go → h.IsGen a g
  sz : s5.heap.objs.size = a + 1
  s0 : gX.s_0.heap.objs.size < a
  envl : gX.env.locals = gX.s_0.heap.objs.size
  cells : ∀ x c, gX.env.cells.lookup x = some c → c < gX.s_0.heap.objs.size
  fps : ∀ b ∈ fp, b < gX.s_0.heap.objs.size
  fs : ∀ b ∈ gX.fs, b < gX.s_0.heap.objs.size
  back : ∀ {τ : St} {H' : Hp} {s' : Shared}, Inv gX [] τ H' s' → Inv X pins σ H' s'
theorem Live.sok {gX : Cx} {fp : List Addr} {g : Nat} {go : Obj} (L : Live X pins σ H2 gX fp a g go s5) {S : List Addr} (hS : ∀ b ∈ S, a < b) : SOk gX fp S where
  young := fun b hb => Nat.le_of_lt (Nat.lt_trans L.s0 (hS b hb))
  loc := fun b hb e => by have h1 := hS b hb; rw [e, L.envl] at h1; exact Nat.lt_irrefl _ (Nat.lt_trans h1 L.s0)
  cell := fun b hb x c e z => by have h3 := L.cells x c e; rw [z] at h3; exact Nat.lt_irrefl _ (Nat.lt_trans (Nat.lt_trans h3 L.s0) (hS b hb))
  pn := fun b hb p hp z => by have h1 := hS b hb; rw [← z, L.pn1 p hp] at h1; exact Nat.lt_irrefl _ h1
  fs := fun b hb z => Nat.lt_irrefl _ (Nat.lt_trans (Nat.lt_trans (L.fs b z) L.s0) (hS b hb))
  fp := fun b hb z => Nat.lt_irrefl _ (Nat.lt_trans (Nat.lt_trans (L.fps b z) L.s0) (hS b hb))
/-- the generator, before its first turn, for any consumer -/
theorem Made.live (hm : Made X pins σ elt tg iter scope gpos own cap J H2 a s5) (S : GScp X scope own cap) (hh : Aw.handled = none) (hfr : Aw.frames = some X.stack) (hel : EltOk X Aw scope own cap tg elt gt te) :
    ∃ (gX : Cx) (fp : List Addr) (tn : Nat → Heap → Prop) (g : Nat) (go : Obj), Live X pins σ H2 gX fp a g go s5 ∧ Inv gX [] (gSt own cap σ) H2 s5 ∧
      ∀ {α : Type} {K : α → Heap → Prop} {W : Nat → Nat → α → St → Hp → Prop} {Fin : Nat → α → St → Hp → Prop} {C : Nat → Nat → α → St → V → Hp → Prop} {S : List Addr} {A : Around} {m : Nat} {al : α} {s : Shared},
        A.in1 = Aw → Turns J gt te W Fin C → (∀ b ∈ S, a < b) → (∀ b o, s5.heap.get? b = some o → s.heap.get? b = some o) → s.os = s5.os → s.gens = s5.gens → SThere S s.heap → K al s.heap → W 0 m al (gSt own cap σ) H2 →
        Rdy gX S fp tn K W Fin C A a g (m + 1) s := by
  obtain ⟨g, s4, cenv, it, fp, tn, go, code, rfl, I4, T, st, hfp, hgen, hga, ha1, ha2, hos, hb, hgs, hI⟩ := hm
  have IG := hI Aw hh hfr
  have hfree : ∀ y ∈ scope.names, y.2 = .free → ∃ c, X.env.cells.lookup y.1 = some c := fun y hy e => by
    rcases S.free y hy e with k | k
    · exact I4.ok.has _ (.inl k)
    · exact I4.ok.has _ (.inr k)
  have cm : ∀ {y c}, (cloFrom X.env.cells scope.names []).lookup y = some c → X.env.cells.lookup y = some c := fun {y c} hm => by
    rcases cloFrom_mem (PySem.mem_of_lookup hm) with hm | ⟨h1, rfl⟩
    · cases hm
    · obtain ⟨c, hc⟩ := hfree _ h1 rfl
      rw [hc]
      rfl
  have cz : ∀ {y c}, (cloFrom X.env.cells scope.names []).lookup y = some c → c < s4.heap.objs.size := fun {y c} e => by
    obtain ⟨v, o, ho, _⟩ := I4.cell y c (cm e)
    exact Heap.lt_size ho
  have L : Live X pins σ H2 (gcx X s4 H2 Aw (gN own cap) (genEnv scope (cloFrom X.env.cells scope.names []) s4.heap.objs.size code builtinsNs X.env) fp [(a, go)]) fp a g go s5 :=
    { prog := rfl, w := rfl, pn := List.mem_cons_self, pn1 := fun p hp => by rw [List.mem_singleton.mp hp], isGen := hgen, sz := ha2, s0 := ha1, envl := rfl, cells := fun x c e => cz e, fps := fun b hb => (hfp b hb).2,
      fs := fun b hb => by
        have hb : b ∈ frs X.stack := hb
        rcases List.mem_cons.mp (I4.stkSub b hb) with y | y
        · rw [y]; exact I4.lt
        · obtain ⟨_, o, ho, _⟩ := I4.ok.funs.mem y
          exact Nat.lt_of_lt_of_le (Heap.lt_size ho) I4.sz,
      back := fun {τ H' s'} J => I4.call' (ch := fp) J.os J.base J.hok J.bare fun b hb => ⟨(hfp b hb).1.2.2.2.1, (hfp b hb).1.2.1, (hfp b hb).1.2.2.2.2.1, (hfp b hb).1.2.2.2.2.2⟩ }
  refine ⟨_, fp, tn, g, go, L, IG, fun {α K W Fin C S' A m al s} eA turn hS hk ho hgn hth hK hW => ?_⟩
  have SO := L.sok hS
  have IS : Inv _ [] (gSt own cap σ) H2 s := IG.call' (ch := []) ho (Un.kept hk) (IG.hok.kept hk) (by rw [hgn]; exact hb) fun b z => by simp at z
  have hnS : ∀ b ∈ S', H2 b = none := fun b hb => IG.hok.fresh (by rw [ha2]; exact hS b hb)
  refine ⟨(hgen _ hga).keeps hk, IS.nolimit, _, by rw [hgn]; exact hgs, ?_⟩
  rw [eA]
  refine ⟨rfl, ?_⟩
  obtain ⟨hg', he'⟩ := hel s4 H2 (cloFrom X.env.cells scope.names []) s4.heap.objs.size code fp [(a, go)]
  have IR : Inv _ [] (gSt own cap σ) H2 (s.setGen g .running) := inv_same IS rfl rfl (allBare_setGen IS.bare rfl)
  refine seg_start (gX := gcx X s4 H2 Aw (gN own cap) (genEnv scope (cloFrom X.env.cells scope.names []) s4.heap.objs.size code builtinsNs X.env) fp [(a, go)]) (J := J) (tg := tg) (tn := tn) (gt := gt) (te := te) T rfl rfl rfl hg' he' S.co SO (fun b hb => ⟨?_, ?_, .inl hb, fun x c e z => ?_, fun p hp z => ?_⟩) turn (m := m) (al := al) (Nat.lt_succ_self m) hW hth hK
    (inv_first SO IR hnS hth) (T.keep _ _ _ st fun b hb o e => hk b o e) fun b hb => (hfp b hb).1.1
  · exact Nat.ne_of_lt (hfp b hb).2
  · have f := (hfp b hb).1
    intro z
    rcases List.mem_cons.mp (I4.stkSub b z) with y | y
    · exact f.2.1 y
    · exact f.2.2.1 y
  · exact (hfp b hb).1.2.2.2.2.1 x c (cm e) z
  · have h1 := (hfp b hb).2
    have h2 := L.pn1 p hp
    rw [← z, h2] at h1
    exact Nat.lt_irrefl _ (Nat.lt_trans h1 ha1)
end

/-! ### sum -/
def KS (S : Addr) : Int → Heap → Prop := fun al h => ∃ t c, h.get? S = some { cls := .type "list", dict := none, data := .seq #[.int al t] c, slots := #[] }
def CS (W : Nat → Nat → Int → St → Hp → Prop) : Nat → Nat → Int → St → V → Hp → Prop := fun i m al τ v H => ∃ k : Int, v = .int k ∧ InLong k ∧ InLong (al + k) ∧ ∃ m', m' < m ∧ W (i + 1) m' (al + k) τ H
theorem KS.inj {S : Addr} {a b : Int} {h : Heap} (x : KS S a h) (y : KS S b h) : a = b := by
  obtain ⟨t, c, e⟩ := x
  obtain ⟨t', c', e'⟩ := y
  rw [e] at e'
  injection e' with e'
  injection e' with _ _ e' _
  injection e' with e' _
  have e2 : [Value.int a t] = [Value.int b t'] := congrArg Array.toList e'
  injection e2 with e2 _
  injection e2 with e2 _
section
variable {gX : Cx} {fp : List Addr} {tn : Nat → Heap → Prop} {W : Nat → Nat → Int → St → Hp → Prop} {Fin : Nat → Int → St → Hp → Prop} {A : Around} {R : Result → Shared → Prop} {a S : Addr} {g : Nat} {go : Obj}
theorem sum_loop (hh : A.handled = none) (hroom : A.depth < recursionLimit) (SO : SOk gX fp [S]) (hpn : (a, go) ∈ gX.pn) (hgo : ∀ h : Heap, h.get? a = some go → h.IsGen a g)
    (hEnd : ∀ s' i al t τ H, Inv gX [] τ H s' → Fin i al τ H → R (.ok (.ret (.int al t))) s') :
    ∀ (n : Nat) (al : Int) (s : Shared), KS S al s.heap → Rdy gX [S] fp tn (KS S) W Fin (CS W) A.in1 a g n s → codeAny (model gX.prog gX.w) A (.builtin "sum.loop" ⟨[.ref a, .ref S, rawInt 0, rawInt 0], []⟩) R s := by
  intro n
  induction n using Nat.strongRecOn with
  | ind n ih =>
    intro al s hK h
    obtain ⟨tA, c, hS⟩ := _root_.id hK
    refine codeAny_builtin F.entry_sum_loop ?_
    rw [Around.under_plainId F.plain_sum_loop _]
    show wpAny _ A.in1 (seqItems? (.ref S) >>= _) _ _ s
    refine wpAny_bind (wpAny_seqItems hS rfl ?_)
    show wpAny _ A.in1 (tryCatch (pyNext (.ref a)) _ >>= _) _ _ s
    refine wpAny_bind (wpAny_tryCatch (next_ge (A := A.in1) hh hroom SO hpn hgo h (fun s1 i al1 τ H I _ hK1 hF => ?_) fun v x i m al1 τ H s1 I hth hK1 rx hC hk => ?_))
    · have e := KS.inj hK hK1
      subst e
      exact wpAny_pure (hEnd s1 i al tA τ H (I.pins_of fun p hp => absurd hp (by simp)) hF)
    · have e := KS.inj hK hK1
      subst e
      obtain ⟨k, rfl, ⟨f1, f2⟩, ⟨f3, f4⟩, m', hm, w⟩ := hC
      obtain ⟨t, rfl⟩ := (show ∃ t, v = Value.int k t from rx)
      have hS' : s1.heap.get? S = some { cls := .type "list", dict := none, data := .seq #[.int al tA] c, slots := #[] } := ((inv_S hth I) S (List.mem_singleton.mpr rfl)).2.trans hS
      have hc : ((decide (-(2 ^ 63) ≤ k) && decide (k < 2 ^ 63)) && (decide (-(2 ^ 63) ≤ al + k) && decide (al + k < 2 ^ 63))) = true := by
        simp only [Bool.and_eq_true, decide_eq_true_eq]
        exact ⟨⟨f1, f2⟩, f3, f4⟩
      show wpAny _ A.in1 (if (_ : Bool) = true then (mkInt (al + k) >>= _) else _) _ _ _
      split
      · refine wpAny_bind (wpAny_mkInt ?_)
        show wpAny _ A.in1 (updateSeq S (fun _ => #[.int (al + k) s1.toks]) >>= _) _ _ _
        refine wpAny_bind ?_
        refine wpAny_updateSeq hS' rfl (wpAny_pure ⟨plainId_quiet F.plain_sum_loop _, ?_⟩)
        have hS3 := Heap.get?_update_self (Obj.mapSeq fun _ => #[Value.int (al + k) s1.toks]) hS' rfl
        have hK3 : KS S (al + k) (s1.heap.update S (Obj.mapSeq fun _ => #[Value.int (al + k) s1.toks])) := ⟨_, _, hS3⟩
        obtain ⟨n', e, hR⟩ := hk m' (al + k) { s1 with heap := s1.heap.update S (Obj.mapSeq fun _ => #[Value.int (al + k) s1.toks]), toks := s1.toks + 1 } hm w hK3
          ⟨rfl, I.bare, fun b o hb e => (Heap.get?_update_other _ _ (fun z => hb (by rw [z]; exact List.mem_singleton.mpr rfl))).trans e, fun b hb => by
            rw [List.mem_singleton.mp hb]
            exact ⟨_, hS3, fun v z => by cases z⟩⟩ rfl
        exact ih n' (by omega) (al + k) _ hK3 hR
      · rename_i hneg
        exact absurd hc hneg
end
/-! ### the expressions -/
def tBoolG (r : Bool) (P : Addr) (own : List Str) (cap : List (Str × Nat)) (wi : TI) (gt : TG) (te : TE) : TE := fun σ H Q => wi σ H fun J H1 => GxR.TabG H1 P ∧ ∀ H2, GxR.Tabbed P H1 H2 →
  ∃ W : Nat → Nat → Unit → St → Hp → Prop, (∃ m, W 0 m () (gSt own cap σ) H2) ∧ Turns J gt te W (fun _ _ _ H => Q (.bl r) H) (CB r W fun _ H => Q (.bl (!r)) H)
abbrev tAllG := tBoolG true
abbrev tAnyG := tBoolG false
def tSumG (P : Addr) (own : List Str) (cap : List (Str × Nat)) (wi : TI) (gt : TG) (te : TE) : TE := fun σ H Q => wi σ H fun J H1 => GxR.TabG H1 P ∧ ∀ H2, GxR.Tabbed P H1 H2 →
  ∃ W : Nat → Nat → Int → St → Hp → Prop, (∃ m, W 0 m 0 (gSt own cap σ) H2) ∧ Turns J gt te W (fun _ al _ H => Q (.int al) H) (CS W)
section
variable {X : Cx} {c P : Addr} {elt tg iter : Expr} {p pos gpos : Pos} {scope : Scope} {own : List Str} {cap : List (Str × Nat)} {wi : TI} {gt : TG} {te : TE} {k : Nat}
theorem pe_allG (hr : Room k X.A) (hg : Gl X "all") (hm : X.mg "all" = none) (hb : bootBuiltins "all" = some (.builtin "all")) (hN : X.N.Nodup) (TB : GxR.TabB X.base X.mg c P) (hcode : X.env.code = .ref c) (S : GScp X scope own cap)
    (hi : PI X tg iter wi) (hel : EltOk X X.A.in1.in1 scope own cap tg elt gt te) (hs : ∀ v, genFold iter X.env v = pure v)
    (he : starEach [.GeneratorExp elt [⟨tg, iter, [], 0⟩] scope gpos] X.env = (false, eval (.GeneratorExp elt [⟨tg, iter, [], 0⟩] scope gpos) X.env) :: starEach [] X.env := by rfl) :
    PE X (.Call (.Name "all" p) [.GeneratorExp elt [⟨tg, iter, [], 0⟩] scope gpos] [] pos) (tAllG P own cap wi gt te) := by
  refine ⟨fun pins s σ H Q I h => ?_⟩
  refine wpAny_Call_Name_kw (ld_blt I hg hm hb ?_)
  refine PyProof.Rows.callWith_builtin1 ?_ he (by rfl)
  rw [he]
  show wpAny _ _ (spliced ((false, eval (.GeneratorExp elt [⟨tg, iter, [], 0⟩] scope gpos) X.env) :: backTo pos (starEach [] X.env))) _ _ s
  refine Calls.spliced_cons (gen_new hr hN TB hcode S hi hs I h fun J H1 H2 a s5 hR hT hM => ?_)
  refine Calls.spliced_nil ?_
  obtain ⟨W, ⟨m, hW⟩, turn⟩ := hR H2 hT
  obtain ⟨gX, fp, tn, g, go, L, IG, hRdy⟩ := hM.live S (Aw := X.A.in1.in1) hr.hd (I.ok.frames) hel
  have hg5 : s5.heap.IsGen a g := L.isGen _ (IG.pin (a, go) (List.mem_append_left _ L.pn)).1
  refine call_function_tree F.kind_all F.plain_all F.entry_all (F.args_all1 _) ?_
  unfold Builtin.«all»
  refine wpAny_bind (m := oneArg "all" _) (wpAny_pure ?_)
  refine wpAny_bind (wpAny_pyIter_gen hg5 ?_)
  have rdy := hRdy (K := fun _ _ => True) (S := []) (A := X.A.in1) (al := ()) (s := s5) rfl turn (fun b z => by simp at z) (fun _ _ e => e) rfl rfl (fun b z => by simp at z) trivial hW
  have lp := all_loop (A := X.A) (R := fun r s' => match r with | .ok (.ret v) => EP X pins σ Q v s' | .error e => X.xe e s' | _ => False) hr.hd (by have := hr.dp; omega) L.pn L.isGen (fun s' i τ H' J hF => ⟨.bl true, H', L.back J, rfl, hF⟩) (fun s' τ H' J hF => ⟨.bl false, H', L.back J, rfl, hF⟩) (m + 1) s5 rdy
  rw [L.prog, L.w] at lp
  refine wpAny_pure ⟨plainId_quiet F.plain_all_loop _, codeAny_mono lp fun r s' hq => ?_⟩
  cases r with
  | error e => exact hq
  | ok fl => cases fl <;> exact hq
theorem pe_anyG (hr : Room k X.A) (hg : Gl X "any") (hm : X.mg "any" = none) (hb : bootBuiltins "any" = some (.builtin "any")) (hN : X.N.Nodup) (TB : GxR.TabB X.base X.mg c P) (hcode : X.env.code = .ref c) (S : GScp X scope own cap)
    (hi : PI X tg iter wi) (hel : EltOk X X.A.in1.in1 scope own cap tg elt gt te) (hs : ∀ v, genFold iter X.env v = pure v)
    (he : starEach [.GeneratorExp elt [⟨tg, iter, [], 0⟩] scope gpos] X.env = (false, eval (.GeneratorExp elt [⟨tg, iter, [], 0⟩] scope gpos) X.env) :: starEach [] X.env := by rfl) :
    PE X (.Call (.Name "any" p) [.GeneratorExp elt [⟨tg, iter, [], 0⟩] scope gpos] [] pos) (tAnyG P own cap wi gt te) := by
  refine ⟨fun pins s σ H Q I h => ?_⟩
  refine wpAny_Call_Name_kw (ld_blt I hg hm hb ?_)
  refine PyProof.Rows.callWith_builtin1 ?_ he (by rfl)
  rw [he]
  show wpAny _ _ (spliced ((false, eval (.GeneratorExp elt [⟨tg, iter, [], 0⟩] scope gpos) X.env) :: backTo pos (starEach [] X.env))) _ _ s
  refine Calls.spliced_cons (gen_new hr hN TB hcode S hi hs I h fun J H1 H2 a s5 hR hT hM => ?_)
  refine Calls.spliced_nil ?_
  obtain ⟨W, ⟨m, hW⟩, turn⟩ := hR H2 hT
  obtain ⟨gX, fp, tn, g, go, L, IG, hRdy⟩ := hM.live S (Aw := X.A.in1.in1) hr.hd (I.ok.frames) hel
  have hg5 : s5.heap.IsGen a g := L.isGen _ (IG.pin (a, go) (List.mem_append_left _ L.pn)).1
  refine call_function_tree F.kind_any F.plain_any F.entry_any (F.args_any1 _) ?_
  unfold Builtin.«any»
  refine wpAny_bind (m := oneArg "any" _) (wpAny_pure ?_)
  refine wpAny_bind (wpAny_pyIter_gen hg5 ?_)
  have rdy := hRdy (K := fun _ _ => True) (S := []) (A := X.A.in1) (al := ()) (s := s5) rfl turn (fun b z => by simp at z) (fun _ _ e => e) rfl rfl (fun b z => by simp at z) trivial hW
  have lp := any_loop (A := X.A) (R := fun r s' => match r with | .ok (.ret v) => EP X pins σ Q v s' | .error e => X.xe e s' | _ => False) hr.hd (by have := hr.dp; omega) L.pn L.isGen (fun s' i τ H' J hF => ⟨.bl false, H', L.back J, rfl, hF⟩) (fun s' τ H' J hF => ⟨.bl true, H', L.back J, rfl, hF⟩) (m + 1) s5 rdy
  rw [L.prog, L.w] at lp
  refine wpAny_pure ⟨plainId_quiet F.plain_any_loop _, codeAny_mono lp fun r s' hq => ?_⟩
  cases r with
  | error e => exact hq
  | ok fl => cases fl <;> exact hq
theorem pe_sumG (hr : Room k X.A) (hg : Gl X "sum") (hm : X.mg "sum" = none) (hb : bootBuiltins "sum" = some (.builtin "sum")) (hN : X.N.Nodup) (TB : GxR.TabB X.base X.mg c P) (hcode : X.env.code = .ref c) (S : GScp X scope own cap)
    (hi : PI X tg iter wi) (hel : EltOk X X.A.in1.in1 scope own cap tg elt gt te) (hs : ∀ v, genFold iter X.env v = pure v)
    (he : starEach [.GeneratorExp elt [⟨tg, iter, [], 0⟩] scope gpos] X.env = (false, eval (.GeneratorExp elt [⟨tg, iter, [], 0⟩] scope gpos) X.env) :: starEach [] X.env := by rfl) :
    PE X (.Call (.Name "sum" p) [.GeneratorExp elt [⟨tg, iter, [], 0⟩] scope gpos] [] pos) (tSumG P own cap wi gt te) := by
  refine ⟨fun pins s σ H Q I h => ?_⟩
  refine wpAny_Call_Name_kw (ld_blt I hg hm hb ?_)
  refine PyProof.Rows.callWith_builtin1 ?_ he (by rfl)
  rw [he]
  show wpAny _ _ (spliced ((false, eval (.GeneratorExp elt [⟨tg, iter, [], 0⟩] scope gpos) X.env) :: backTo pos (starEach [] X.env))) _ _ s
  refine Calls.spliced_cons (gen_new hr hN TB hcode S hi hs I h fun J H1 H2 a s5 hR hT hM => ?_)
  refine Calls.spliced_nil ?_
  obtain ⟨W, ⟨m, hW⟩, turn⟩ := hR H2 hT
  obtain ⟨gX, fp, tn, g, go, L, IG, hRdy⟩ := hM.live S (Aw := X.A.in1.in1) hr.hd (I.ok.frames) hel
  have hg5 : s5.heap.IsGen a g := L.isGen _ (IG.pin (a, go) (List.mem_append_left _ L.pn)).1
  refine call_function_tree F.kind_sum F.plain_sum F.entry_sum (F.args_sum1 _) ?_
  unfold Builtin.«sum»
  simp only [List.length_cons, List.length_nil]
  rw [if_neg (by decide)]
  refine wpAny_bind (wpAny_of_eq (show Builtin.Builtins.bindParams "sum" ["start"] 0 { } = pure [none] from rfl) ?_)
  refine wpAny_bind (wpAny_pyIter_gen hg5 ?_)
  refine wpAny_bind (wpAny_mkInt ?_)
  refine wpAny_bind (wpAny_pure ?_)
  simp only [List.forIn_cons, List.forIn_nil]
  refine wpAny_bind (wpAny_bind (wpAny_bind (wpAny_isInstance (T := "int") (b := false) (typeIs_int _ _ _) PySem.sub_int_str ?_)))
  simp only [Bool.false_eq_true, if_false]
  refine wpAny_pure (wpAny_bind (wpAny_bind (wpAny_isInstance (T := "int") (b := false) (typeIs_int _ _ _) PySem.sub_int_bytes ?_)))
  simp only [Bool.false_eq_true, if_false]
  refine wpAny_pure (wpAny_bind (wpAny_bind (wpAny_isInstance (T := "int") (b := false) (typeIs_int _ _ _) PySem.sub_int_bytearray ?_)))
  simp only [Bool.false_eq_true, if_false]
  refine wpAny_pure (wpAny_pure ?_)
  refine wpAny_bind (wpAny_newObj_type ?_)
  have hSa : ∀ b ∈ [s5.heap.objs.size], a < b := fun b hb => by rw [List.mem_singleton.mp hb, L.sz]; exact Nat.lt_succ_self a
  have SO := L.sok hSa
  have hS0 : (s5.heap.push { cls := .type "list", data := .seq #[.int 0 s5.toks] }).get? s5.heap.objs.size = some { cls := .type "list", data := .seq #[.int 0 s5.toks] } := Heap.get?_push_size _ rfl
  have hK0 : KS s5.heap.objs.size 0 (s5.heap.push { cls := .type "list", data := .seq #[.int 0 s5.toks] }) := ⟨_, _, hS0⟩
  have rdy := hRdy (K := KS s5.heap.objs.size) (S := [s5.heap.objs.size]) (A := X.A.in1) (al := 0) (s := { s5 with heap := s5.heap.push { cls := .type "list", data := .seq #[.int 0 s5.toks] }, toks := s5.toks + 1 }) rfl turn hSa (fun _ _ e => Heap.get?_push_of_some _ e) rfl rfl
    (fun b z => by rw [List.mem_singleton.mp z]; exact ⟨_, hS0, fun v q => by cases q⟩) hK0 hW
  have lp := sum_loop (A := X.A) (R := fun r s' => match r with | .ok (.ret v) => EP X pins σ Q v s' | .error e => X.xe e s' | _ => False) hr.hd (by have := hr.dp; omega) SO L.pn L.isGen (fun s' i al t τ H' J hF => ⟨.int al, H', L.back J, ⟨t, rfl⟩, hF⟩) (m + 1) 0 _ hK0 rdy
  rw [L.prog, L.w] at lp
  refine wpAny_pure ⟨plainId_quiet F.plain_sum_loop _, codeAny_mono lp fun r s' hq => ?_⟩
  cases r with
  | error e => exact hq
  | ok fl => cases fl <;> exact hq
end
/-! ### over a tuple, a list that stands -/
/-- the word: i turns are done, Pv holds -/
def Wn {α : Type} (n : Nat) (Pv : Nat → α → St → Hp → Prop) : Nat → Nat → α → St → Hp → Prop := fun i m al τ H => m = n - i ∧ i ≤ n ∧ Pv i al τ H
theorem cb_on {r : Bool} {n i : Nat} {Pv : Nat → Unit → St → Hp → Prop} {Stop : St → Hp → Prop} {τ : St} {H : Hp} (hi : i < n) (h : Pv (i + 1) () τ H) : CB r (Wn n Pv) Stop i (n - i) () τ (.bl r) H :=
  ⟨r, rfl, by rw [if_pos rfl]; exact ⟨n - (i + 1), by omega, rfl, hi, h⟩⟩
theorem cb_off {r b : Bool} {n i : Nat} {Pv : Nat → Unit → St → Hp → Prop} {Stop : St → Hp → Prop} {τ : St} {H : Hp} (hb : b ≠ r) (h : Stop τ H) : CB r (Wn n Pv) Stop i (n - i) () τ (.bl b) H :=
  ⟨b, rfl, by rw [if_neg hb]; exact h⟩
theorem cs_on {n i : Nat} {Pv : Nat → Int → St → Hp → Prop} {τ : St} {H : Hp} {al k : Int} (hi : i < n) (h1 : InLong k) (h2 : InLong (al + k)) (h : Pv (i + 1) (al + k) τ H) : CS (Wn n Pv) i (n - i) al τ (.int k) H :=
  ⟨k, rfl, h1, h2, n - (i + 1), by omega, rfl, hi, h⟩
section
variable {α : Type} {K : PySem.W.Frag} {a : Addr} {xs : List V} {gt : TG} {te : TE} {Fin : Nat → α → St → Hp → Prop} {C : Nat → Nat → α → St → V → Hp → Prop} {Pv : Nat → α → St → Hp → Prop}
theorem turns_tup (hl : ∀ i al τ H, i ≤ xs.length → Pv i al τ H → SqT K H a xs)
    (hs : ∀ i x al τ H, xs[i]? = some x → Pv i al τ H → gt x τ H fun τ2 H2 => te τ2 H2 fun v H3 => C i (xs.length - i) al τ2 v H3) (hd : ∀ al τ H, Pv xs.length al τ H → Fin xs.length al τ H) :
    Turns (Itt K a) gt te (Wn xs.length Pv) Fin C := by
  rintro i m al τ H ⟨rfl, hi, p⟩
  have q := hl i al τ H hi p
  by_cases hlt : i < xs.length
  · refine .inr ⟨⟨xs, xs[i], q, List.getElem?_eq_getElem hlt⟩, fun x H' y => ?_⟩
    obtain ⟨rfl, y⟩ := y
    exact hs i x al τ _ (y xs q) p
  · have e : i = xs.length := by omega
    subst e
    exact .inl ⟨⟨xs, q, Nat.le_refl _⟩, hd al τ H p⟩
theorem turns_list (hl : ∀ i al τ H, i ≤ xs.length → Pv i al τ H → SqL K H a xs)
    (hs : ∀ i x al τ H, xs[i]? = some x → Pv i al τ H → gt x τ H fun τ2 H2 => te τ2 H2 fun v H3 => C i (xs.length - i) al τ2 v H3) (hd : ∀ al τ H, Pv xs.length al τ H → Fin xs.length al τ H) :
    Turns (Itl K a) gt te (Wn xs.length Pv) Fin C := by
  rintro i m al τ H ⟨rfl, hi, p⟩
  have q := hl i al τ H hi p
  by_cases hlt : i < xs.length
  · refine .inr ⟨⟨xs, xs[i], q, List.getElem?_eq_getElem hlt⟩, fun x H' y => ?_⟩
    obtain ⟨rfl, y⟩ := y
    exact hs i x al τ _ (y xs q) p
  · have e : i = xs.length := by omega
    subst e
    exact .inl ⟨⟨xs, q, Nat.le_refl _⟩, hd al τ H p⟩
end
/-! ### a def with a generator expression: its code object is known -/
section
variable {P : Program} {w : World} {K : PySem.W.Frag} {mg : Str → Option Value} {base : Heap}
def FunC (K : PySem.W.Frag) (x qual : Str) (st : Stmt) (f : Addr) (fd : FuncData) (c : Addr) : Prop :=
  ∃ (oc : Value) (od : Option Addr) (kV doc pm ct : Value) (an : Option Addr) (osl : Array (Option Value)), fd = PySem.W.fnOf x qual (defArgs st) (defBody st) (defScope st) .none kV doc pm an (.ref c) ct ∧
    K.lookup f = some ⟨oc, od, .func (PySem.W.fnOf x qual (defArgs st) (defBody st) (defScope st) .none kV doc pm an (.ref c) ct), osl⟩ ∧ PySem.W.codeIn K (.ref c) qual = true
theorem FunC.fun {x qual : Str} {st : Stmt} {f c : Addr} {fd : FuncData} (F : FunC K x qual st f fd c) (kp : PySem.W.keepIn K (.ref f) = true) : Fun K x qual st f fd := by
  obtain ⟨oc, od, kV, doc, pm, ct, an, osl, rfl, lk, hcd⟩ := F
  exact fun_mk lk hcd kp
theorem FunC.ok {x qual : Str} {st : Stmt} {f c : Addr} {fd : FuncData} {N ps : List Str} {CX : CXT} {k : Nat} {sp : Sp} (F : FunC K x qual st f fd c) (S : FnScope N ps (defScope st)) (len : ∀ vs H Q E, sp vs H Q E → vs.length = ps.length)
    (hbody : ∀ (A : Around) (outer : List Env) (s : Shared) (H : Hp) (vs : List V) (Q : VK) (E : XK), Room k (A.deeper (envOfC qual (defScope st) s.heap.objs.size f (.ref c))) → sp vs H Q E →
      ∃ t, PSs (cxOf CX P w K mg base N qual (defScope st) f (.ref c) A outer s H E) (defBody st) t ∧ t { nx := fun _ H' => Q .non H', rt := Q } (start N vs) H) : FnOk P w K mg base CX (k + 1) f fd ps sp := by
  obtain ⟨oc, od, kV, doc, pm, ct, an, osl, rfl, lk, hcd⟩ := F
  exact fn_of lk hcd S len fun A outer s H vs Q E hr hsp => hbody A outer s H vs Q E hr hsp
end
end GE
end
section
set_option Elab.async false
set_option linter.all false
set_option maxRecDepth 100000
set_option maxHeartbeats 2000000
/-! Exceptions of which more is kept than class and dict: any word Z of the exception's object that its travel leaves true. -/
namespace EA
open PySem PySem.Spec PyProof.Rows L2
abbrev St := L2.St
abbrev ZW := Value → Option Addr → Obj → Prop
structure ZOk (Z : ZW) : Prop where
  steady : ∀ c d, PXN.Steady1 (Z c d)
  cls : ∀ c d o, Z c d o → o.cls = c
/-- in the air of X, with its word -/
structure Air (Z : ZW) (X : Cx) (W : WX) (u : Value) (s' : Shared) (a : Addr) (B : Heap) (sI : Shared) (pins : List (Addr × Obj)) (σ : St) (H : Hp) (cls : Value) (d : Option Addr) : Prop where
  eq : u = .ref a
  inv : Inv X pins σ H sI
  ground : ∀ b o, sI.heap.get? b = some o → b ∉ frs X.stack → B.get? b = some o
  up : sI.heap.UpToSlots s'.heap
  sky : Sky B X.stack a (Z cls d) X.env.locals s'.heap
  free : H a = none
  os : s'.os = sI.os
  bare : AllBare s'.gens
  want : W cls d σ H
def XE (Z : ZW) (X : Cx) (W : WX) (u : Value) (s' : Shared) : Prop := ∃ a B sI pins σ H cls d, Air Z X W u s' a B sI pins σ H cls d
def Takes (Z : ZW) (X : Cx) (W : WX) : Prop := ∀ u s', XE Z X W u s' → X.xe u s'
theorem Takes.imp {Z : ZW} {X : Cx} {W W' : WX} (t : Takes Z X W) (h : ∀ c d σ H, W' c d σ H → W c d σ H) : Takes Z X W' := fun u s' x => by
  obtain ⟨a, B, sI, pins, σ, H, cls, d, y⟩ := x
  exact t u s' ⟨a, B, sI, pins, σ, H, cls, d, { y with want := h _ _ _ _ y.want }⟩
/-- out of a call -/
def CX (Z : ZW) (P : Program) (w : World) : CXT := fun outer H s E u s' =>
  ∃ (a : Addr) (B : Heap) (H' : Hp) (cls : Value) (d : Option Addr), u = .ref a ∧ HandSPX.FlyingZ B outer a (Z cls d) s'.heap ∧ HOk P w H' B ∧ UB (frs outer) H H' s.heap B s'.heap ∧ H' a = none ∧ s'.os = s.os ∧ AllBare s'.gens ∧ E cls d H'
section
variable {Z : ZW} {X : Cx} {pins : List (Addr × Obj)} {σ : St} {H : Hp} {sI s s' : Shared} {B : Heap} {W : WX} {E : XK}
theorem XE.of_call (I : Inv X pins σ H s) (hW : ∀ cls d H', E cls d H' → W cls d σ H') {u : Value} (c : CX Z X.prog X.w X.stack H s E u s') : XE Z X W u s' := by
  obtain ⟨a, B, H', cls, d, rfl, fly, hok, ub, na, os, ag, hE⟩ := c
  -- the ground and our frames, without the exception's own objects
  obtain ⟨G, hG, hG'⟩ := restrict s'.heap fun b => (B.get? b).isSome || decide (b ∈ frs X.stack)
  have onB : ∀ b o, B.get? b = some o → G.get? b = some o := fun b o e => (hG b (by simp [e])).trans (fly.1 b o e)
  have onF : ∀ b ∈ frs X.stack, G.get? b = s'.heap.get? b := fun b hb => hG b (by simp [hb])
  have back : ∀ b o, G.get? b = some o → s'.heap.get? b = some o ∧ ((∃ o', B.get? b = some o') ∨ b ∈ frs X.stack) := fun b o e => by
    cases q : ((B.get? b).isSome || decide (b ∈ frs X.stack)) with
    | false =>
      have z := hG' b q
      rw [e] at z
      cases z
    | true =>
      rw [hG b q] at e
      rw [Bool.or_eq_true, decide_eq_true_eq] at q
      exact ⟨e, q.imp Option.isSome_iff_exists.mp _root_.id⟩
  refine ⟨a, B, { s with heap := G, gens := s'.gens, drawn := s'.drawn, toks := s'.toks }, pins, σ, H', cls, d, ⟨rfl, ?_, fun b o e hb => ?_, Heap.UpToSlots.of_keeps fun b o e => (back b o e).1, .inr (.inl fly), na, os, ag, hW _ _ _ hE⟩⟩
  · refine I.call (ch := []) ⟨fun b o e n hb _ => onB b o (ub.keep b o e n hb), fun b o e n hb _ => ?_, fun b o e n _ => ub.free b o e n, fun b o e _ => ?_, ub.tups, ub.frzs, ub.tbls⟩ (hok.kept onB) ag (fun _ z => nomatch z)
    · obtain ⟨sl, q⟩ := ub.slot b o e hb
      exact ⟨sl, (onF b hb).trans q⟩
    · by_cases hb : b ∈ frs X.stack
      · obtain ⟨sl, q⟩ := ub.slot b o e hb
        exact ⟨_, (onF b hb).trans q⟩
      · obtain ⟨o', q⟩ := ub.there b o e hb
        exact ⟨o', onB b o' q⟩
  · obtain ⟨e', h⟩ := back b o e
    rcases h with ⟨o', q⟩ | h
    · have z := fly.1 b o' q
      rw [e'] at z
      cases z
      exact q
    · exact absurd h hb
theorem XE.new {a : Addr} {oe : Obj} {vs : Array Value} {cls : Value} {d : Option Addr} (I : Inv X pins σ H sI) (k : ∀ b o, sI.heap.get? b = some o → s'.heap.get? b = some o) (hne : sI.heap.get? a = none) (he : s'.heap.get? a = some oe)
    (hz : Z cls d oe) (hd : oe.data = .fields vs) (h1 : vs[1]? = some .none) (na : H a = none) (os : s'.os = sI.os) (ag : AllBare s'.gens) (w : W cls d σ H) : XE Z X W (.ref a) s' := by
  have gone : (PySem.W.hideAll sI.heap (frs X.stack)).get? a = none := by
    cases q : (PySem.W.hideAll sI.heap (frs X.stack)).get? a with
    | none => rfl
    | some o =>
      have z := PySem.W.of_hideAll _ q
      rw [hne] at z
      cases z
  exact ⟨a, PySem.W.hideAll sI.heap (frs X.stack), sI, pins, σ, H, cls, d, ⟨rfl, I, fun b o e hb => PySem.W.hideAll_get _ e hb, Heap.UpToSlots.of_keeps k,
    .inl ⟨fun b o e => k b o (PySem.W.of_hideAll _ e), gone, Heap.FunFrames.of_keeps (fun b o e _ => ⟨o, k b o e, rfl⟩) (funFrames_none I.stack fun b hb => PySem.W.hideAll_none _ hb), oe, vs, he, hz, hd, h1⟩, na, os, ag, w⟩⟩
/-- it leaves the def's frame -/
theorem XE.leave (zk : ZOk Z) (hs : X.stack = X.env :: X.outer) (hf : X.env.frame = some X.env.locals) (hex : X.ex = []) {E₁ : Value → Shared → Prop} (hW : ∀ cls d σ H, W cls d σ H → E cls d H) {u : Value} (x : XE Z X W u s') :
    wpAny (model X.prog X.w) X.A (leaving X.env u) (fun _ s'' => CX Z X.prog X.w X.outer X.H_0 X.s_0 E u s'') E₁ s' := by
  obtain ⟨a, B, sI, pins, σ, H, cls, d, y⟩ := x
  have I := y.inv
  have ue := y.eq
  subst ue
  have hfr : X.A.frames = some (X.env :: X.outer) := I.ok.frames.trans (by rw [hs])
  have old : ∀ b o, X.s_0.heap.get? b = some o → b ∉ X.fs → b ∉ frs X.stack := fun b o e hb hm => by
    rcases List.mem_cons.mp (I.stkSub b hm) with z | z
    · have h1 := Nat.lt_of_lt_of_le (Heap.lt_size e) I.ok.above
      rw [z] at h1
      exact Nat.lt_irrefl _ h1
    · exact hb z
  have noex : ∀ b, b ∉ X.ex := fun b hb => by
    rw [hex] at hb
    simp at hb
  have fin : ∀ h', HandSPX.FlyingZ B X.outer a (Z cls d) h' → s'.heap.UpToSlots h' → CX Z X.prog X.w X.outer X.H_0 X.s_0 E (.ref a) { s' with heap := h' } := fun h' fl up' => by
    refine ⟨a, B, H, cls, d, rfl, fl, I.inGround y.ground, ⟨fun b o e n hb => y.ground b o (I.base.keep b o e n hb (noex b)) (old b o e hb), fun b o e hb => ?_, fun b o e n => I.base.free b o e n (noex b), fun b o e hb => ?_, I.base.tups, I.base.frzs, I.base.tbls⟩,
      y.free, y.os.trans I.os, y.bare, hW _ _ _ _ y.want⟩
    · obtain ⟨_, o₀, e₀, hnf⟩ := I.ok.funs.mem hb
      have eo := Option.some.inj (e.symm.trans e₀)
      subst eo
      obtain ⟨sl, e1⟩ := I.base.slot b o e (I.ok.frf b hb) hb (noex b)
      obtain ⟨sl2, e2⟩ := y.up b _ e1 hnf
      obtain ⟨sl3, e3⟩ := up' b _ e2 hnf
      exact ⟨sl3, e3⟩
    · obtain ⟨o', e1⟩ := I.base.there b o e (noex b)
      exact ⟨o', y.ground b o' e1 (old b o e hb)⟩
  have sky := y.sky
  rw [hs] at sky
  rcases sky with ⟨g1, g2, g3, oe, vs, g4, g5, g6, g7⟩ | fl | hd
  · exact PXN.leaving_firstZ (zk.steady _ _) hfr g3 hf g4 g1 g2 g6 g7 g5 fin
  · exact PXN.leaves_onZ (zk.steady _ _) hfr hf fl fin
  · exact HandSPX.leaves_heldZ hf hd fin
theorem takes_of (zk : ZOk Z) (hs : X.stack = X.env :: X.outer) (hf : X.env.frame = some X.env.locals) (hex : X.ex = []) {E₁ : Value → Shared → Prop}
    (hx : X.xe = fun e s' => wpAny (model X.prog X.w) X.A (leaving X.env e) (fun _ s'' => CX Z X.prog X.w X.outer X.H_0 X.s_0 E e s'') E₁ s') : Takes Z X (fun cls d _ H => E cls d H) := fun u s' x => by
  rw [hx]
  exact XE.leave (W := fun cls d _ H => E cls d H) (E := E) zk hs hf hex (fun _ _ _ _ h => h) x
theorem passes_call (tk : Takes Z X W) (hW : ∀ cls d σ H, E cls d H → W cls d σ H) : Passes (CX Z X.prog X.w) X E := fun _ σ _ _ e s' I c => tk e s' (XE.of_call I (fun cls d H' h => hW cls d σ H' h) c)
theorem passAt (tk : Takes Z X W) (σ : St) : PassesAt (CX Z X.prog X.w) X σ (WE W σ) := fun _ _ _ e s' I c => tk e s' (XE.of_call I (fun _ _ _ h => h) c)
/-- where the callee lets nothing out -/
theorem pass_none : Passes (CX Z X.prog X.w) X E0 := fun _ _ _ _ _ _ _ h => by
  obtain ⟨_, _, _, _, _, _, _, _, _, _, _, _, z⟩ := h
  exact z.elim
theorem takes0 : Takes Z X (fun _ _ _ _ => False) := fun _ _ x => by
  obtain ⟨_, _, _, _, _, _, _, _, y⟩ := x
  exact y.want.elim
theorem land {M : Model} {A : Around} {E₁ : Value → Shared → Prop} {env : Env} {outer : List Env} {L a : Addr} {Zo : Obj → Prop} {Q : Unit → Shared → Prop} (hZ : PXN.Steady1 Zo) (hfr : A.frames = some (env :: outer)) (hf : env.frame = some L)
    (x : Sky B (env :: outer) a Zo L s.heap) (hQ : ∀ h', HandSPX.FlyingZ B (env :: outer) a Zo h' → s.heap.UpToSlots h' → Q () { s with heap := h' }) :
    wpAny M A (noteFrame (.ref a) env) (fun _ s₂ => wpAny M A (setFlight (.ref a) none) Q E₁ s₂) E₁ s :=
  L2N.Sky.land hZ hfr hf x hQ
end
/-- an expression that makes an exception -/
def MkP (Z : ZW) (X : Cx) (pins : List (Addr × Obj)) (σ : St) (Q : XK) (u : Value) (s' : Shared) : Prop :=
  ∃ (a : Addr) (oe : Obj) (vs : Array Value) (sI : Shared) (H' : Hp) (cls : Value) (d : Option Addr), u = .ref a ∧ Inv X pins σ H' sI ∧ (∀ b o, sI.heap.get? b = some o → s'.heap.get? b = some o) ∧ sI.heap.get? a = none ∧ s'.heap.get? a = some oe ∧
    Z cls d oe ∧ oe.data = .fields vs ∧ vs[1]? = some .none ∧ H' a = none ∧ s'.os = sI.os ∧ AllBare s'.gens ∧ Raises X cls ∧ Q cls d H'
def PMk (Z : ZW) (X : Cx) (e : Expr) (t : St → Hp → XK → Prop) : Prop :=
  ∀ (pins : List (Addr × Obj)) (s : Shared) (σ : St) (H : Hp) (Q : XK), Inv X pins σ H s → t σ H Q → wpAny (model X.prog X.w) X.A (eval e X.env) (MkP Z X pins σ Q) X.xe s
theorem ps_raise {Z : ZW} (zk : ZOk Z) {X : Cx} {W : WX} {e : Expr} {t : St → Hp → XK → Prop} {pos : Pos} (hc : X.calm = true) (tk : Takes Z X W) (he : PMk Z X e t) : PS X (.Raise (some e) none pos) (fun _ σ H => t σ H fun cls d H' => W cls d σ H') := by
  refine ⟨fun pins s σ H D I h => ?_⟩
  show wpAny _ _ (do standAt pos; raiseStmt X.env (some (do let v ← eval e X.env; standAt pos; pure v)) none) _ _ _
  refine wpAny_bind (wpAny_standAt (raise_made (I.ok.hd hc) (wpAny_bind (wpAny_mono (he pins s σ H _ I h) (fun u s1 hu => wpAny_bind (wpAny_standAt (wpAny_pure ?_))) fun _ _ x => x))))
  obtain ⟨a, oe, vs, sI, H', cls, d, rfl, J, k, hne, ha, hz, hd, h1, na, os, ag, r, q⟩ := hu
  obtain ⟨r1, r2⟩ := r (model X.prog X.w) s1.heap (J.kIn.keeps k)
  exact ⟨a, oe, vs, cls, rfl, ha, zk.cls _ _ _ hz, hd, h1, r1, r2, tk _ _ (XE.new J k hne ha hz hd h1 na os ag q)⟩
/-- as Fun.okX, with such exceptions -/
theorem okX {Z : ZW} {P : Program} {w : World} {K : PySem.W.Frag} {mg : Str → Option Value} {base : Heap} {x qual : Str} {st : Stmt} {f : Addr} {fd : FuncData} {N ps : List Str} {k : Nat} {sp : Sp} (F : Fun K x qual st f fd) (S : FnScope N ps (defScope st)) (len : ∀ vs H Q E, sp vs H Q E → vs.length = ps.length)
    (hbody : ∀ (cdv : Value) (A : Around) (outer : List Env) (s : Shared) (H : Hp) (vs : List V) (Q : VK) (E : XK), Room k (A.deeper (envOfC qual (defScope st) s.heap.objs.size f cdv)) → sp vs H Q E →
      ∃ t, PSs (cxOf (CX Z P w) P w K mg base N qual (defScope st) f cdv A outer s H E) (defBody st) t ∧ t { nx := fun _ H' => Q .non H', rt := Q } (start N vs) H) : FnOk P w K mg base (CX Z P w) (k + 1) f fd ps sp := by
  obtain ⟨oc, od, kV, doc, pm, an, cdv, ct, osl, rfl, lk, hcd⟩ := F.ex
  exact fn_of lk hcd S len fun A outer s H vs Q E hr hsp => hbody cdv A outer s H vs Q E hr hsp
/-! ### try: body, except x as n: suite -/
section
variable {Z : ZW} {X : Cx} {x n : Str} {c : Value} {i : Nat} {body suite : List Stmt} {b₀ : Stmt} {np pos pos' : Pos} {tb : WX → TS} {ts : Addr → Value → Option Addr → TS} {Wout : WX}
theorem ps_try_as (zk : ZOk Z) (hs : X.stack = X.env :: X.outer) (hf : X.env.frame = some X.env.locals) (hN : X.N.Nodup) (hi : X.N[i]? = some n) (hln : X.env.kindOf n = some .local) (hc : Names X x c) (tk : Takes Z X Wout)
    (hb : ∀ (W : WX) (pn : List (Addr × Obj)) (xe : Value → Shared → Prop), Takes Z (X.tr pn xe) W → PassesOwn (model X.prog X.w) X.A X.env xe → PSs (X.tr pn xe) body (tb W))
    (hsu : ∀ (a : Addr) (oe : Obj) (cls : Value) (d : Option Addr) (pn : List (Addr × Obj)), Z cls d oe → (∃ vs, oe.data = .fields vs) → PSs (X.suite a ((a, oe) :: pn)) (b₀ :: suite) (ts a cls d)) :
    PS X (.Try body [.ExceptHandler (some (.Name x np)) (some n) (b₀ :: suite) pos'] [] [] pos) (fun D σ H => tb (wAs X.K c i ts Wout D) D σ H) := by
  refine ⟨fun pins s σ H D I h => ?_⟩
  have ok := I.ok
  have hfr : X.A.frames = some (X.env :: X.outer) := ok.frames.trans (by rw [hs])
  refine wpAny_Try_except ?_
  refine wpAny_mono ((hb (wAs X.K c i ts Wout D) (X.pn ++ pins) (fun e s₁ => wpAny (model X.prog X.w) X.A (noteFrame e X.env) (fun _ s₂ => wpAny (model X.prog X.w) X.A (setFlight e none) (fun _ s₃ =>
    wpAny (model X.prog X.w) X.A (handleBy e X.env [.ExceptHandler (some (.Name x np)) (some n) (b₀ :: suite) pos']) (SP X pins D) X.xe s₃) X.xe s₂) X.xe s₁) (fun u s' xx => ?_) PassesOwn.looking).run [] s σ H D (I.toTry _) h) (fun f s1 hsp => ?_) (fun e s1 he => he)
  · obtain ⟨a, B, sI, pins', σ', H', cls, d, y⟩ := xx
    have ue := y.eq
    subst ue
    obtain ⟨b, hb1, hyes, hno⟩ := y.want
    have J : Inv X pins σ' H' sI := y.inv.ofTry ok
    have sky : Sky B (X.env :: X.outer) a (Z cls d) X.env.locals s'.heap := by
      rw [← hs]
      exact y.sky
    show wpAny (model X.prog X.w) X.A (noteFrame (.ref a) X.env) _ _ _
    refine land (zk.steady _ _) hfr hf sky fun h3 fl3 up3 => ?_
    have J3 : Inv X pins σ' H' { s' with heap := h3 } := J.landed y.ground fl3.1 (y.up.trans up3) y.os y.bare
    obtain ⟨oe3, vs3, he3, hz3, hd3⟩ := fl3.there
    have nfr : a ∉ frs (X.env :: X.outer) := fun hm => by
      obtain ⟨_, o', e', hnf⟩ := fl3.2.2.1.mem hm
      have eo := Option.some.inj (he3.symm.trans e')
      subst eo
      exact hnf _ hd3
    have nL : a ≠ X.env.locals := fun z => nfr (List.mem_filterMap.mpr ⟨X.env, List.mem_cons_self, by rw [hf, z]⟩)
    have nF : a ∉ X.fs := fun hm => by
      obtain ⟨e, he, q⟩ := List.mem_filterMap.mp hm
      exact nfr (List.mem_filterMap.mpr ⟨e, List.mem_cons_of_mem _ he, q⟩)
    have S3 := J3.suite he3 hd3 y.free nL nF
    refine wpAny_handleBy_cons (codeAny_handlers_test ?_) (by intro q; cases q)
    have LT : PySem.W.Looks (model X.prog X.w) h3 (typeOf (.ref a)) cls := fun A Q E s k q => wpAny_typeOf_ref (k _ _ he3) (by rw [zk.cls _ _ _ hz3]; exact q)
    have LM := PySem.W.exm_one (M := model X.prog X.w) (J3.kIn) LT hb1
    have named : ∀ {Q : Value → Shared → Prop} {E : Value → Shared → Prop}, Q c { s' with heap := h3 } → wpAny (model X.prog X.w) (X.A.mark (some (.ref a))) (eval (.Name x np) X.env) Q E { s' with heap := h3 } := fun {Q E} q => by
      obtain ⟨hg, hdbg, hm | ⟨hm, hv, hnn⟩⟩ := hc
      · exact ld_glob (X := X.suite a ((a, oe3) :: (X.pn ++ pins))) S3 hg hm q hdbg
      · exact ld_blt (X := X.suite a ((a, oe3) :: (X.pn ++ pins))) S3 hg hm hv q hnn hdbg
    refine named (LM.here ?_)
    cases b with
    | true =>
      refine codeAny_handlers_suite_as ?_
      refine HandSPX.lands_againZ fl3 fun h4 fl4 up4 => ?_
      have J4 : Inv X pins σ' H' { s' with heap := h4 } := J.landed y.ground fl4.1 ((y.up.trans up3).trans up4) y.os y.bare
      obtain ⟨oe4, vs4, he4, hz4, hd4⟩ := fl4.there
      have S4 := J4.suite he4 hd4 y.free nL nF
      refine store_ok (X := X.suite a ((a, oe4) :: (X.pn ++ pins))) (v := .ref a) S4 hN hi (.inl hln) rfl (fun s5 S5 => ?_) (.inr hln)
      refine wpAny_mono ((hsu a oe4 cls d (X.pn ++ pins) hz4 ⟨_, hd4⟩).run [] s5 _ H' _ S5 (hyes rfl a y.free)) (fun f s6 hsp => ?_) (fun _ _ z => False.elim z)
      have done : ∀ {σ6 : St} {H6 : Hp} {Q : Shared → Prop}, Inv (X.suite a ((a, oe4) :: (X.pn ++ pins))) [] σ6 H6 s6 → (∀ s7, Inv X pins (σ6.set i none) H6 s7 → Q s7) →
          wpAny (model X.prog X.w) X.A (do bindName X.env n .none; unbindBehindTheSuite X.env n pos') (fun _ s7 => Q s7) X.xe s6 := fun {σ6 H6 Q} S6 hq => gone_ok (S6.unsuite ok) hN hi hln hq
      cases f with
      | next =>
        obtain ⟨σ6, H6, S6, q6⟩ := hsp
        exact done S6 fun s7 J7 => ⟨_, _, J7, q6⟩
      | brk =>
        obtain ⟨σ6, H6, S6, q6⟩ := hsp
        exact done S6 fun s7 J7 => ⟨_, _, J7, q6⟩
      | cont =>
        obtain ⟨σ6, H6, S6, q6⟩ := hsp
        exact done S6 fun s7 J7 => ⟨_, _, J7, q6⟩
      | ret u =>
        obtain ⟨v6, σ6, H6, S6, r6, q6⟩ := hsp
        exact done S6 fun s7 J7 => ⟨_, _, _, J7, r6, q6⟩
    | false =>
      show wpAny _ X.A (handleBy (.ref a) X.env []) _ _ _
      refine wpAny_handleBy_nil ?_
      obtain ⟨k1, k2, k3, oe, vs, T, oT, ts', he, hz, hd, h1, hr⟩ := id fl3
      unfold PySem.passOn
      refine wpAny_bind (wpAny_field he hd h1 ?_)
      rw [if_neg (show ¬ ((Value.ref T == Value.none) = true) from by simp)]
      have fin : wpAny (model X.prog X.w) X.A (setFlight (.ref a) X.env.frame) (fun _ s4 => wpAny (model X.prog X.w) X.A (throw (.ref a) : Sem Flow) (SP X pins D) X.xe s4) X.xe { s' with heap := h3 } := by
        rw [hf]
        refine HandSPX.setFlight_upZ fl3 fun h4 hh4 up4 => wpAny_throw (tk _ _ ?_)
        exact ⟨a, B, sI, pins, σ', H', cls, d, ⟨rfl, J, y.ground, (y.up.trans up3).trans up4, .inr (.inr (by rw [hs]; exact hh4)), y.free, y.os, y.bare, hno rfl⟩⟩
      first
        | exact wpAny_bind (wpAny_pure (wpAny_bind fin))
        | exact wpAny_bind fin
  · cases f with
    | next =>
      obtain ⟨σ', H', J', q⟩ := hsp
      exact wpAny_execs_nil ⟨σ', H', J'.ofTry ok, q⟩
    | brk =>
      obtain ⟨σ', H', J', q⟩ := hsp
      exact ⟨σ', H', J'.ofTry ok, q⟩
    | cont =>
      obtain ⟨σ', H', J', q⟩ := hsp
      exact ⟨σ', H', J'.ofTry ok, q⟩
    | ret u =>
      obtain ⟨v, σ', H', J', r, q⟩ := hsp
      exact ⟨v, σ', H', J'.ofTry ok, r, q⟩
end
end EA
end
section
set_option Elab.async false
set_option linter.all false
set_option maxRecDepth 100000
set_option maxHeartbeats 2000000
/-! The word Za: an own exception's class and its args; raising one without arguments; a def that looks at the handled exception. -/
namespace EA
open PySem PySem.Spec PyProof.Rows L2 L2H
/-- class, no dict, no context, the args at d -/
def ArgsAt (d : Option Addr) (o : Obj) : Prop := ∃ t, d = some t ∧ ∀ vs : Array Value, o.data = .fields vs → vs[0]? = some (.ref t)
theorem steady_args {d : Option Addr} : PXN.Steady1 (ArgsAt d) := fun o v h => by
  obtain ⟨t, e, h⟩ := h
  refine ⟨t, e, ?_⟩
  obtain ⟨c, dd, dt, sl⟩ := o
  cases dt with
  | fields vs0 =>
    intro vs q
    have q2 : vs0.setIfInBounds 1 v = vs := Data.fields.inj q
    have q3 : (vs0.setIfInBounds 1 v)[0]? = vs0[0]? := by simp [Array.getElem?_setIfInBounds]
    rw [← q2, q3]
    exact h vs0 rfl
  | _ =>
    intro vs q
    exact Data.noConfusion q
def Za : ZW := fun cls d o => (o.cls = cls ∧ o.dict = none) ∧ PXN.CtxN o ∧ ArgsAt d o
theorem zaOk : ZOk Za := ⟨fun _ _ => PXN.steady_and (PXN.steady_and PXN.steady_cls PXN.steady_dict) (PXN.steady_and PXN.steady_ctx steady_args), fun _ _ _ h => h.1.1⟩
section
variable {P : Program} {w : World} {H : Hp} {h h' : Heap} {t : Addr} {o : HO} {fs ex : List Addr}
theorem un_gone (k : ∀ b u, h.get? b = some u → h'.get? b = some u) (ht : h.get? t = none) (hn : H t = none) : Un fs ex H (upd H t o) h h' := by
  have ne : ∀ b u, h.get? b = some u → b ≠ t := fun b u q z => by rw [z, ht] at q; cases q
  exact ⟨fun b u q _ _ _ => k b u q, fun b u q _ _ _ => ⟨u.slots, k b u q⟩, fun b u q n _ => by rw [upd_ne (ne b u q)]; exact n, fun b u q _ => ⟨u, k b u q⟩,
    fun b xs q => by rw [upd_ne (ne_of_none q hn)]; exact q, fun b u xs q => by rw [upd_ne (ne_of_none q hn)]; exact q, fun b ps q => ⟨#[], by rw [upd_ne (ne_of_none q hn), q]; simp⟩⟩
theorem hok_gone (x : HOk P w H h) (k : ∀ b u, h.get? b = some u → h'.get? b = some u) (hn : H t = none) (new : ObjOk P w (upd H t o) h' t o) : HOk P w (upd H t o) h' := fun b u e => by
  by_cases hb : b = t
  · subst hb
    rw [upd_same] at e
    cases e
    exact new
  · rw [upd_ne hb] at e
    exact (x b u e).stay (fun c v _ q => k c v q) (fun c q => by rw [upd_ne (ne_of_none q hn)]; exact q) fun c xs q => by rw [upd_ne (ne_of_none q hn)]; exact q
end
section
variable {X : Cx} {C : Addr} {bmB : List Value} {B newId initId : String}
/-- X() -/
theorem pmk0 {x : Str} {p pos : Pos} (F : ExcBaseFacts B newId initId bmB) (q : PySem.W.excIn X.K C bmB newId = true) (gC : X.mg x = some (.ref C)) (kC : PySem.W.keepIn X.K (.ref C) = true) (r : Raises X (.ref C)) (hg : Gl X x)
    (hdb : (x == ("__debug__" : Str)) = false := by decide) : PMk Za X (.Call (.Name x p) [] [] pos) (fun _ H Q => ∀ t, H t = none → Q (.ref C) (some t) (upd H t (.tup []))) := by
  intro pins s σ H Q I h
  refine wpAny_Call_Name_kw (ld_glob I hg gC ?_ hdb)
  refine PySem.W.callWith_K0 (first := []) I.kIn kC ?_
  show wpAny _ _ (call (.ref C) []) _ _ _
  obtain ⟨bm, N, nm, qn, bs, hdct, sn, sub, ab, col, dd, k0, k1, k2, k3, k5, mN, hC, hN, hni, T⟩ := exc_obj I.kIn q
  refine wpAny_call_exc_subT F T hC hN hni (fun h' e hm => ?_) (Nat.zero_le _)
  obtain ⟨t, he, ht0, ht⟩ := hm.there
  have ne : e ≠ t := fun z => by
    rw [z, ht] at he
    cases he
  obtain ⟨G, g1, g2⟩ := restrict h' fun b => decide (b ≠ e)
  have gk : ∀ b, b ≠ e → G.get? b = h'.get? b := fun b hb => g1 b (decide_eq_true hb)
  have ge : G.get? e = none := g2 e (by simp)
  have old : ∀ b o, s.heap.get? b = some o → G.get? b = some o := fun b o z => (gk b (fun y => by rw [y, hm.new] at z; cases z)).trans (hm.keeps b o z)
  have nt : H t = none := I.hok.gone ht0
  have nE : H e = none := I.hok.gone hm.new
  have ob : ObjOk X.prog X.w (upd H t (.tup [])) G t (.tup []) := ⟨Nat.zero_le _, [], .nil, _, (gk t (Ne.symm ne)).trans ht, rfl, _, rfl⟩
  have J : Inv X pins σ (upd H t (.tup [])) { s with heap := G } := I.un (h' := G) (t' := s.toks) (un_gone old ht0 nt) (hok_gone I.hok old nt ob)
  refine ⟨e, _, _, { s with heap := G }, _, .ref C, some t, rfl, J, fun b o z => ?_, ge, he, ⟨⟨rfl, rfl⟩, fun vs z => by cases z; rfl, t, rfl, fun vs z => by cases z; rfl⟩, rfl, rfl, ?_, rfl, I.bare, r, h t nt⟩
  · by_cases hb : b = e
    · have z' : G.get? b = some o := z
      rw [hb, ge] at z'
      cases z'
    · exact (gk b hb).symm.trans z
  · rw [upd_ne ne]
    exact nE
end
/-! ### a def that is called with the handled exception -/
abbrev SpA := Addr → Value → Option Addr → Sp
structure FnA (P : Program) (w : World) (K : PySem.W.Frag) (mg : Str → Option Value) (base : Heap) (k : Nat) (f : Addr) (fd : FuncData) (ps : List Str) (sp : SpA) : Prop where
  len : ∀ a cls d vs H Q E, sp a cls d vs H Q E → vs.length = ps.length
  run : ∀ (A : Around) (outer : List Env) (s : Shared) (H : Hp) (args : Args) (us : List Value) (vs : List V) (Q : VK) (E : XK) (p : Addr × Obj) (cls : Value) (d : Option Addr), RoomH k A → Hot1 A p → PinOk outer H s p → Za cls d p.2 → Env0 P w K mg base A outer s H → BindsTo s fd args (ps.zip us) → Vals vs us →
    sp p.1 cls d vs H Q E → codeAny (model P w) A (.call (.ref f) args) (CR CX0 outer P w H s Q E) s
theorem fn_ofA {P : Program} {w : World} {K : PySem.W.Frag} {mg : Str → Option Value} {base : Heap} {k : Nat} {f : Addr} {name qual : Str} {params : Arguments} {body : List Stmt} {scope : Scope} {dV kV doc pm cdv ct oc : Value} {an od : Option Addr}
    {osl : Array (Option Value)} {N ps : List Str} {sp : SpA} (lk : K.lookup f = some ⟨oc, od, .func (PySem.W.fnOf name qual params body scope dV kV doc pm an cdv ct), osl⟩) (hcd : PySem.W.codeIn K cdv qual = true) (S : FnScope N ps scope)
    (len : ∀ a cls d vs H Q E, sp a cls d vs H Q E → vs.length = ps.length)
    (hbody : ∀ (A : Around) (outer : List Env) (s : Shared) (H : Hp) (vs : List V) (Q : VK) (E : XK) (p : Addr × Obj) (cls : Value) (d : Option Addr), Hot1 A p → Za cls d p.2 → RoomH k (A.deeper (envOfC qual scope s.heap.objs.size f cdv)) → sp p.1 cls d vs H Q E →
      ∃ t, PSs (cxH CX0 P w K mg base N qual scope f cdv A outer s H E p) body t ∧ t { nx := fun _ H' => Q .non H', rt := Q } (L2.start N vs) H) :
    FnA P w K mg base (k + 1) f (PySem.W.fnOf name qual params body scope dV kV doc pm an cdv ct) ps sp := by
  refine ⟨len, fun A outer s H args us vs Q E p cls d hr hot hpin hz e0 hb r hsp => ?_⟩
  have kb : ∀ b o, base.get? b = some o → s.heap.get? b = some o := fun b o e => (e0.bs b o e).1
  have kin : K.In s.heap := e0.mod.kin.keeps kb
  have names : ∀ y ∈ ps.zip us, scope.names.lookup y.1 = some .local ∨ (scope.names.lookup y.1 = some .cell ∧ ((cellsFrom (s.heap.objs.size + 1) scope.names []).lookup y.1).isSome = true) := fun ⟨n, v⟩ hy => by
    rcases S.par n (List.of_mem_zip hy).1 with q | q
    · exact .inl q
    · exact .inr ⟨q, PySem.W.cellsFrom_some _ _ _ (.inl q)⟩
  refine codeAny_call_function hr.depth (kin _ _ lk) rfl S.co S.gen rfl (PySem.W.codeRec_of kin hcd) (hb _ _ _ _ (wpAny_newFunctionEnv_cells S.kind names fun env he s1 x => ?_))
  subst he
  refine ⟨(e0.mod.nolimit.keeps kb).keeps x.toInCall.keep, codeAny_func ?_⟩
  obtain ⟨t, ht, hq⟩ := hbody A outer s H vs Q E p cls d hot hz (hr.deeper _) hsp
  refine wpAny_mono (ht.run [] s1 (L2.start N vs) H _ (inv_startH S hpin e0 (len _ _ _ _ _ _ _ hsp) r x) hq) (fun fl s' hs => ?_) fun e s' hs => hs
  cases fl with
  | ret u =>
    obtain ⟨v, σ', H', J, rv, q⟩ := hs
    exact ⟨v, H', J.os, J.bare, J.base, J.hok, rv, q⟩
  | next =>
    obtain ⟨σ', H', J, q⟩ := hs
    exact ⟨V.non, H', J.os, J.bare, J.base, J.hok, rfl, q⟩
  | brk =>
    obtain ⟨_, _, _, q⟩ := hs
    exact False.elim q
  | cont =>
    obtain ⟨_, _, _, q⟩ := hs
    exact False.elim q
theorem okA {P : Program} {w : World} {K : PySem.W.Frag} {mg : Str → Option Value} {base : Heap} {x qual : Str} {st : Stmt} {f : Addr} {fd : FuncData} {N ps : List Str} {k : Nat} {sp : SpA} (F : Fun K x qual st f fd) (S : FnScope N ps (defScope st)) (len : ∀ a cls d vs H Q E, sp a cls d vs H Q E → vs.length = ps.length)
    (hbody : ∀ (cdv : Value) (A : Around) (outer : List Env) (s : Shared) (H : Hp) (vs : List V) (Q : VK) (E : XK) (p : Addr × Obj) (cls : Value) (d : Option Addr), Hot1 A p → Za cls d p.2 → RoomH k (A.deeper (envOfC qual (defScope st) s.heap.objs.size f cdv)) → sp p.1 cls d vs H Q E →
      ∃ t, PSs (cxH CX0 P w K mg base N qual (defScope st) f cdv A outer s H E p) (defBody st) t ∧ t { nx := fun _ H' => Q .non H', rt := Q } (L2.start N vs) H) : FnA P w K mg base (k + 1) f fd ps sp := by
  obtain ⟨oc, od, kV, doc, pm, an, cdv, ct, osl, rfl, lk, hcd⟩ := F.ex
  exact fn_ofA lk hcd S len fun A outer s H vs Q E p cls d h1 h2 h3 h4 => hbody cdv A outer s H vs Q E p cls d h1 h2 h3 h4
/-- f(e) in the suite of the handled exception a -/
def tCallA (a : Addr) (cls : Value) (d : Option Addr) (sp : SpA) (t : TA) : TE := fun σ H Q => t σ H fun vs H1 => sp a cls d vs H1 Q fun _ _ _ => False
theorem pe_callA {X : Cx} {a : Addr} {oe : Obj} {cls : Value} {d : Option Addr} {pn : List (Addr × Obj)} {k : Nat} {f : Addr} {fd : FuncData} {ps : List Str} {sp : SpA} {x : Str} {q pos : Pos} {e : Expr} {es : List Expr} {t : TA}
    (hz : Za cls d oe) (hf : ∃ vs, oe.data = .fields vs) (F : FnA X.prog X.w X.K X.mg X.base k f fd ps sp) (hr : RoomH k X.A) (hg : Gl X x) (hm : X.mg x = some (.ref f)) (hk : PySem.W.keepIn X.K (.ref f) = true) (hb : Binds X.K fd ps [])
    (ha : PA (X.suite a ((a, oe) :: pn)) (e :: es) t) (hdb : (x == ("__debug__" : Str)) = false := by decide) (he : starEach (e :: es) X.env = (false, eval e X.env) :: starEach es X.env := by rfl) (hpl : (backTo pos (starEach es X.env)).any (·.1) = false := by rfl) :
    PE (X.suite a ((a, oe) :: pn)) (.Call (.Name x q) (e :: es) [] pos) (tCallA a cls d sp t) := by
  refine ⟨fun pins s σ H Q I h => ?_⟩
  refine wpAny_Call_Name_kw (ld_glob I hg hm ?_ hdb)
  refine PySem.W.callWith_K (h₀ := X.base) I.ok.mod.kin hk (thn (ha.run pos pins s σ H _ I h) fun us s1 ⟨vs, H1, I1, r, q⟩ => ⟨I1.kIn, ?_⟩) he hpl
  have hl : us.length = ps.length := by rw [← r.length]; exact F.len _ _ _ _ _ _ _ q
  have b := hb s1 us I1.kIn (by rw [List.append_nil]; exact hl)
  rw [List.append_nil] at b
  have P1 := I1.pin (a, oe) (List.mem_append_left _ List.mem_cons_self)
  have hpin : PinOk X.stack H1 s1 (a, oe) := ⟨P1.1, P1.2.1, fun hm => (List.mem_cons.mp (I1.stkSub a hm)).elim P1.2.2.1 P1.2.2.2.1, P1.2.2.2.2⟩
  obtain ⟨ws, hw⟩ := hf
  have hot : Hot1 (X.suite a ((a, oe) :: pn)).A (a, oe) := ⟨rfl, ws, hw, hz.2.1 ws hw⟩
  refine wpAny_call (codeAny_mono (F.run (X.suite a ((a, oe) :: pn)).A X.stack s1 H1 ⟨us, []⟩ us vs Q _ (a, oe) cls d ⟨hr.dp, hr.un⟩ hot hpin hz I1.env0 b r q) fun r s' hq => ?_)
  cases r with
  | error e => exact False.elim hq
  | ok fl =>
    cases fl with
    | ret u => exact I1.after hq
    | next => exact False.elim hq
    | brk => exact False.elim hq
    | cont => exact False.elim hq
/-! isinstance(e, c), str(e): e the exception that is pinned -/
section
variable {X : Cx} {a D t : Addr} {oe : Obj}
theorem call_isA (C : L2.ExcC X.K D) (hz : Za (.ref D) (some t) oe) (hf : ∃ vs, oe.data = .fields vs) (hp : (a, oe) ∈ X.pn) : CallR X (.builtin "isinstance") (rIsE X.K D a) := by
  intro pins s σ H xs us Q I r h
  obtain ⟨c, cv, b, rfl, hcv, e, q⟩ := h
  obtain ⟨u1, u2, rfl, r1, r2⟩ := vals2 r
  obtain rfl : u1 = Value.ref a := r1
  have ec := hcv _ r2
  subst ec
  obtain ⟨hget, _⟩ := I.pin (a, oe) (List.mem_append_left _ hp)
  obtain ⟨vs, hv⟩ := hf
  have J : PySem.W.InstAt s.heap a oe D none := by
    obtain ⟨oc, od, oda, osl⟩ := oe
    obtain ⟨⟨h1, h2⟩, _⟩ := hz
    dsimp only at h1 h2 hv
    subst h1 h2 hv
    exact ⟨hget, rfl, rfl, trivial⟩
  exact PySem.W.kia_one (PySem.W.handS_kitx_exc C.hg C.hk C.hs C.hd C.ha C.hn C.ht C.hm) I.kIn J e (fun z => nomatch z) fun tk => ⟨.bl b, H, I.kept (t' := tk) fun _ _ z => z, rfl, q⟩
def rStrA (a t : Addr) : List V → Hp → VK → Prop := fun xs H Q => xs = [.ref a] ∧ H t = some (.tup []) ∧ Q (.str Str.empty) H
theorem call_strA (hu : X.A.units + 2 < cLine) (hs : PySem.W.findIn X.K (.ref D) "__str__" = some (some (.builtin "BaseException.__str__"))) (hB : PySem.W.subIn X.K (.ref D) (.type "BaseException") = some true)
    (hz : Za (.ref D) (some t) oe) (hf : ∃ vs, oe.data = .fields vs) (hp : (a, oe) ∈ X.pn) : CallR X (.type "str") (rStrA a t) := by
  intro pins s σ H xs us Q I r h
  obtain ⟨rfl, ht, q⟩ := h
  cases r with
  | cons rx rr =>
    cases rr
    rename_i u
    obtain rfl : u = Value.ref a := rx
    obtain ⟨hget, _⟩ := I.pin (a, oe) (List.mem_append_left _ hp)
    obtain ⟨vs, hv⟩ := hf
    obtain ⟨⟨h1, h2⟩, _, t', et, hargs⟩ := hz
    cases et
    obtain ⟨_, its, rv, o, e1, e2, n, e3⟩ := (show ObjOk X.prog X.w H s.heap t (.tup []) from I.hok t _ ht)
    cases rv
    exact PySem.P.str_of_C_none hu ⟨I.kIn, oe, vs, hget, h1, hv, hargs vs hv⟩ ⟨o, n, e1, e2, e3⟩ hs hB ⟨.str Str.empty, H, I.tok _, ⟨_, rfl⟩, q⟩
end
end EA
end
section
set_option Elab.async false
set_option linter.all false
set_option maxRecDepth 100000
set_option maxHeartbeats 2000000
/-! Data without lists; what calls leave of the heap. -/
namespace MS
open PySem PySem.Spec PyProof.Rows L2
abbrev St := L2.St
mutual
inductive Dt (K : PySem.W.Frag) (H : Hp) : V → PyData → Prop
  | non : Dt K H .non .none
  | bl (b : Bool) : Dt K H (.bl b) (.bool b)
  | int (i : Int) : Dt K H (.int i) (.int i)
  | str (x : Str) : Dt K H (.str x) (.str x)
  | tup {a : Addr} {xs : List V} {ds : List PyData} : SqT K H a xs → DtAll K H xs ds → Dt K H (.ref a) (.tuple ds)
inductive DtAll (K : PySem.W.Frag) (H : Hp) : List V → List PyData → Prop
  | nil : DtAll K H [] []
  | cons {v : V} {vs : List V} {d : PyData} {ds : List PyData} : Dt K H v d → DtAll K H vs ds → DtAll K H (v :: vs) (d :: ds)
end
section
variable {K : PySem.W.Frag} {H H' : Hp}
mutual
theorem Dt.dp : ∀ (d : PyData) (v : V), Dt K H v d → Dp K H v d
  | .none, _, h => by cases h; exact .non
  | .bool b, _, h => by cases h; exact .bl b
  | .int i, _, h => by cases h; exact .int i
  | .str x, _, h => by cases h; exact .str x
  | .tuple ds, _, h => by
    cases h with
    | tup hs ha => exact .tup hs (DtAll.dp ds _ ha)
  | .list _, _, h => by cases h
  | .dict _, _, h => by cases h
theorem DtAll.dp : ∀ (ds : List PyData) (vs : List V), DtAll K H vs ds → DpAll K H vs ds
  | [], _, h => by cases h; exact .nil
  | d :: ds, _, h => by
    cases h with
    | cons h1 h2 => exact .cons (Dt.dp d _ h1) (DtAll.dp ds _ h2)
end
theorem DtAll.length : ∀ {vs : List V} {ds : List PyData}, DtAll K H vs ds → vs.length = ds.length
  | _, [], h => by cases h; rfl
  | _, _ :: ds, h => by
    cases h with
    | cons h1 h2 => rw [List.length_cons, List.length_cons, DtAll.length h2]
theorem DtAll.get : ∀ {vs : List V} {ds : List PyData} {i : Nat} {d : PyData}, DtAll K H vs ds → ds[i]? = some d → ∃ v, vs[i]? = some v ∧ Dt K H v d
  | _, [], _, _, h, e => by simp at e
  | _, x :: ds, 0, d, h, e => by
    cases h with
    | cons h1 h2 =>
      simp at e
      subst e
      exact ⟨_, rfl, h1⟩
  | _, x :: ds, i + 1, d, h, e => by
    cases h with
    | cons h1 h2 =>
      obtain ⟨v, hv, hd⟩ := DtAll.get (i := i) h2 (by simpa using e)
      exact ⟨v, by simpa using hv, hd⟩
theorem DtAll.of_get : ∀ {vs : List V} {ds : List PyData} {i : Nat} {v : V}, DtAll K H vs ds → vs[i]? = some v → ∃ d, ds[i]? = some d ∧ Dt K H v d
  | _, [], _, _, h, e => by cases h; simp at e
  | _, x :: ds, 0, v, h, e => by
    cases h with
    | cons h1 h2 =>
      simp at e
      subst e
      exact ⟨_, rfl, h1⟩
  | _, x :: ds, i + 1, v, h, e => by
    cases h with
    | cons h1 h2 =>
      obtain ⟨d, hv, hd⟩ := DtAll.of_get (i := i) h2 (by simpa using e)
      exact ⟨d, by simpa using hv, hd⟩
theorem DtAll.append : ∀ {vs us : List V} {ds es : List PyData}, DtAll K H vs ds → DtAll K H us es → DtAll K H (vs ++ us) (ds ++ es)
  | _, _, [], _, h, h2 => by cases h; exact h2
  | _, _, _ :: ds, _, h, h2 => by
    cases h with
    | cons a b => exact .cons a (DtAll.append b h2)
theorem DtAll.take : ∀ {vs : List V} {ds : List PyData} (n : Nat), DtAll K H vs ds → DtAll K H (vs.take n) (ds.take n)
  | _, _, 0, _ => .nil
  | _, [], n + 1, h => by cases h; exact .nil
  | _, _ :: ds, n + 1, h => by
    cases h with
    | cons a b => exact .cons a (DtAll.take n b)
theorem DtAll.drop : ∀ {vs : List V} {ds : List PyData} (n : Nat), DtAll K H vs ds → DtAll K H (vs.drop n) (ds.drop n)
  | _, _, 0, h => h
  | _, [], n + 1, h => by cases h; exact .nil
  | _, _ :: ds, n + 1, h => by
    cases h with
    | cons a b => exact DtAll.drop n b

/-- what stood stands (but for what is at an address of B), the tables are tables -/
structure Gx (B : Addr → Prop) (H H' : Hp) : Prop where
  keep : ∀ a o, H a = some o → ¬ B a → (∀ ps, o ≠ .tbl ps) → H' a = some o
  tab : ∀ P, GxR.TabG H P → GxR.TabG H' P
abbrev Gr : Hp → Hp → Prop := Gx fun _ => False
theorem Gx.refl {B : Addr → Prop} : Gx B H H := ⟨fun _ _ e _ _ => e, fun _ h => h⟩
theorem Gx.trans {B : Addr → Prop} {H2 : Hp} (x : Gx B H H') (y : Gx B H' H2) : Gx B H H2 := ⟨fun a o e nb nt => y.keep a o (x.keep a o e nb nt) nb nt, fun P h => y.tab P (x.tab P h)⟩
theorem Gx.of_gr {B : Addr → Prop} (x : Gr H H') : Gx B H H' := ⟨fun a o e _ nt => x.keep a o e (fun z => z) nt, x.tab⟩
theorem Gx.new {B : Addr → Prop} {p : Addr} {o : HO} (h : H p = none) : Gx B H (upd H p o) := ⟨fun a u e _ _ => by rw [upd_ne (ne_of_none e h)]; exact e, fun P ⟨ps, e, t⟩ => ⟨ps, by rw [upd_ne (ne_of_none e h)]; exact e, t⟩⟩
theorem Gx.tabbed {B : Addr → Prop} {P : Addr} (t : GxR.TabG H P) (x : GxR.Tabbed P H H') : Gx B H H' := by
  obtain ⟨g, k⟩ := x
  refine ⟨fun a o e _ nt => ?_, fun P' h => ?_⟩
  · have ne : a ≠ P := fun z => by
      obtain ⟨ps, e2, _⟩ := t
      rw [z, e2] at e
      cases e
      exact nt ps rfl
    rw [k a ne]
    exact e
  · by_cases hP : P' = P
    · rw [hP]; exact g
    · obtain ⟨ps, e, q⟩ := h
      exact ⟨ps, by rw [k P' hP]; exact e, q⟩
/-- no tuple stands at an address of B -/
def NoT (B : Addr → Prop) (H : Hp) : Prop := ∀ a, B a → (∃ xs, H a = some (.lst xs))
theorem SqT.gx {B : Addr → Prop} {a : Addr} {xs : List V} (hB : NoT B H) (x : Gx B H H') (h : SqT K H a xs) : SqT K H' a xs := by
  rcases h with h | h
  · have nb : ¬ B a := fun z => by
      obtain ⟨ys, e⟩ := hB a z
      rcases h with h | ⟨o, h⟩
      · rw [h] at e; cases e
      · rw [h] at e; cases e
    rcases h with h | ⟨o, h⟩
    · exact .inl (.inl (x.keep _ _ h nb fun ps z => by cases z))
    · exact .inl (.inr ⟨o, x.keep _ _ h nb fun ps z => by cases z⟩)
  · exact .inr h
theorem NoT.none : NoT (fun _ => False) H := fun _ z => z.elim
mutual
theorem Dt.gx {B : Addr → Prop} (hB : NoT B H) (x : Gx B H H') : ∀ {d : PyData} {v : V}, Dt K H v d → Dt K H' v d
  | .none, _, h => by cases h; exact .non
  | .bool b, _, h => by cases h; exact .bl b
  | .int i, _, h => by cases h; exact .int i
  | .str x, _, h => by cases h; exact .str x
  | .tuple ds, _, h => by
    cases h with
    | tup hs ha => exact .tup (SqT.gx hB x hs) (DtAll.gx hB x ha)
  | .list _, _, h => by cases h
  | .dict _, _, h => by cases h
theorem DtAll.gx {B : Addr → Prop} (hB : NoT B H) (x : Gx B H H') : ∀ {ds : List PyData} {vs : List V}, DtAll K H vs ds → DtAll K H' vs ds
  | [], _, h => by cases h; exact .nil
  | d :: ds, _, h => by
    cases h with
    | cons h1 h2 => exact .cons (Dt.gx hB x h1) (DtAll.gx hB x h2)
end
theorem Dt.gr {d : PyData} {v : V} (x : Gr H H') (h : Dt K H v d) : Dt K H' v d := Dt.gx NoT.none x h
theorem DtAll.gr {ds : List PyData} {vs : List V} (x : Gr H H') (h : DtAll K H vs ds) : DtAll K H' vs ds := DtAll.gx NoT.none x h
/-! ### types -/
def tyD : PyData → String
  | .none => "NoneType"
  | .bool _ => "bool"
  | .int _ => "int"
  | .str _ => "str"
  | .tuple _ => "tuple"
  | .list _ => "list"
  | .dict _ => "dict"
theorem SqT.ty {a : Addr} {xs : List V} (h : SqT K H a xs) : TyX K H (.ref a) (.type "tuple") := by
  rcases h with (h | ⟨o, h⟩) | ⟨o, its, n, e, c, _⟩
  · exact .base (.tup h)
  · exact .fTuple h
  · exact .kTuple e c
theorem Dt.ty : ∀ {d : PyData} {v : V}, Dt K H v d → TyX K H v (.type (tyD d))
  | .none, _, h => by cases h; exact .base .non
  | .bool b, _, h => by cases h; exact .base (.bl b)
  | .int i, _, h => by cases h; exact .base (.int i)
  | .str x, _, h => by cases h; exact .base (.str x)
  | .tuple ds, _, h => by
    cases h with
    | tup hs ha => exact SqT.ty hs
  | .list _, _, h => by cases h
  | .dict _, _, h => by cases h
end
/-! ### in, repr -/
section
variable {X : Cx}
def rInT (K : PySem.W.Frag) : R2 := fun x y H Q => ∃ d ds, Dt K H x d ∧ Dt K H y (.tuple ds) ∧ SeqAt.shaped d = true ∧ SeqAt.shaped (.tuple ds) = true ∧ Q (.bl (ds.any fun z => PyData.eqv z d)) H
theorem op_inT (hu : X.A.units + 65 < cLine) : OpR X (compareOp .In) (rInT X.K) := by
  intro pins s σ H x y v u Q I rx ry h
  obtain ⟨d, ds, hd, he, sd, se, q⟩ := h
  obtain ⟨as, r1⟩ := Dp.reads I d x v (Dt.dp _ _ hd) rx
  obtain ⟨bs, r2⟩ := Dp.reads I (.tuple ds) y u (Dt.dp _ _ he) ry
  have hroom : X.A.units + 1 + min (PyData.depthAll ds) d.depth < cLine := by
    have h1 := SeqAt.depth_of_shaped sd
    have h2 : min (PyData.depthAll ds) d.depth ≤ d.depth := Nat.min_le_right _ _
    omega
  exact SeqAt.in_tuple_reads r2 r1 (SeqAt.canLay_of_shaped se) (SeqAt.canLay_of_shaped sd) hroom ⟨.bl _, H, I, rfl, q⟩
end
end MS
end
section
set_option Elab.async false
set_option linter.all false
set_option maxRecDepth 100000
set_option maxHeartbeats 4000000
/-! Shapes as a datatype. -/
namespace MS
open PySem PySem.Spec PyProof.Rows L2
abbrev kS (x : Str) : PyData := .str x
inductive Sh where
  | letters (k : Nat)
  | self
  | both (xs : List Sh)
  | either (xs : List Sh)
  | after (n : Nat) (s : Sh)
  | some (s : Sh)
  | many (s : Sh)
  | chance (s : Sh)
namespace Sh
mutual
def data : Sh → PyData
  | letters k => .tuple [kS "letters", .int k]
  | self => .tuple [kS "self"]
  | both xs => .tuple [kS "both", .tuple (datas xs)]
  | either xs => .tuple [kS "either", .tuple (datas xs)]
  | after n s => .tuple [kS "after", .int n, data s]
  | some s => .tuple [kS "some", data s]
  | many s => .tuple [kS "many", data s]
  | chance s => .tuple [kS "chance", data s]
def datas : List Sh → List PyData
  | [] => []
  | x :: xs => data x :: datas xs
end
mutual
def size : Sh → Nat
  | letters _ => 1
  | self => 1
  | both xs => 1 + sizes xs
  | either xs => 1 + sizes xs
  | after _ s => 1 + size s
  | some s => 1 + size s
  | many s => 1 + size s
  | chance s => 1 + size s
def sizes : List Sh → Nat
  | [] => 0
  | x :: xs => size x + sizes xs
end
def wf : Nat → Sh → Prop
  | 0, _ => False
  | _ + 1, letters k => 1 ≤ k ∧ k ≤ 5
  | _ + 1, self => True
  | n + 1, both xs => 1 ≤ xs.length ∧ xs.length ≤ 4 ∧ ∀ x ∈ xs, wf n x
  | n + 1, either xs => 1 ≤ xs.length ∧ xs.length ≤ 4 ∧ ∀ x ∈ xs, wf n x
  | n + 1, after k s => k ≤ 4 ∧ wf n s
  | n + 1, some s => wf n s
  | n + 1, many s => wf n s
  | n + 1, chance s => wf n s
def inner : Sh → List Sh
  | letters _ => []
  | self => []
  | both xs => xs
  | either xs => xs
  | after _ s => [s]
  | some s => [s]
  | many s => [s]
  | chance s => [s]
theorem datas_map : ∀ xs : List Sh, datas xs = xs.map data
  | [] => rfl
  | x :: xs => by rw [datas, datas_map xs, List.map_cons]
theorem size_eq (s : Sh) : size s = 1 + sizes (inner s) := by
  cases s <;> simp [size, sizes, inner]
theorem size_pos (s : Sh) : 1 ≤ size s := by rw [size_eq]; omega
theorem wf_inner {n : Nat} {s : Sh} (h : wf (n + 1) s) : (inner s).length ≤ 4 ∧ ∀ x ∈ inner s, wf n x := by
  cases s with
  | letters k => exact ⟨Nat.zero_le _, fun x hx => by cases hx⟩
  | self => exact ⟨Nat.zero_le _, fun x hx => by cases hx⟩
  | both xs => exact ⟨h.2.1, h.2.2⟩
  | either xs => exact ⟨h.2.1, h.2.2⟩
  | after k s => exact ⟨(by decide : 1 ≤ 4), fun x hx => by rw [List.mem_singleton.mp hx]; exact h.2⟩
  | some s => exact ⟨(by decide : 1 ≤ 4), fun x hx => by rw [List.mem_singleton.mp hx]; exact h⟩
  | many s => exact ⟨(by decide : 1 ≤ 4), fun x hx => by rw [List.mem_singleton.mp hx]; exact h⟩
  | chance s => exact ⟨(by decide : 1 ≤ 4), fun x hx => by rw [List.mem_singleton.mp hx]; exact h⟩
theorem wf_mono {n : Nat} : ∀ {s : Sh}, wf n s → ∀ m, n ≤ m → wf m s := by
  induction n with
  | zero => intro s h; exact h.elim
  | succ n ih =>
    intro s h m hm
    obtain ⟨m, rfl⟩ : ∃ k, m = k + 1 := ⟨m - 1, by omega⟩
    cases s with
    | letters k => exact h
    | self => exact h
    | both xs => exact ⟨h.1, h.2.1, fun x hx => ih (h.2.2 x hx) m (by omega)⟩
    | either xs => exact ⟨h.1, h.2.1, fun x hx => ih (h.2.2 x hx) m (by omega)⟩
    | after k s => exact ⟨h.1, ih h.2 m (by omega)⟩
    | some s => exact ih (s := s) h m (by omega)
    | many s => exact ih (s := s) h m (by omega)
    | chance s => exact ih (s := s) h m (by omega)
/-- so many shapes at most are in a shape of so many levels -/
def cap : Nat → Nat
  | 0 => 0
  | n + 1 => 1 + 4 * cap n
theorem sizes_le {n : Nat} (hs : ∀ s, wf n s → size s ≤ cap n) : ∀ xs : List Sh, (∀ x ∈ xs, wf n x) → sizes xs ≤ xs.length * cap n
  | [], _ => by simp [sizes]
  | x :: xs, h => by
    have h1 := hs x (h x List.mem_cons_self)
    have h2 := sizes_le hs xs fun y hy => h y (List.mem_cons_of_mem _ hy)
    rw [sizes, List.length_cons, Nat.succ_mul]
    omega
theorem size_le : ∀ (n : Nat) (s : Sh), wf n s → size s ≤ cap n
  | 0, _, h => h.elim
  | n + 1, s, h => by
    obtain ⟨h1, h2⟩ := wf_inner h
    have h3 := sizes_le (size_le n) (inner s) h2
    have h4 : (inner s).length * cap n ≤ 4 * cap n := Nat.mul_le_mul_right _ h1
    rw [size_eq, cap]
    omega
theorem sizes_take_succ {xs : List Sh} {i : Nat} {x : Sh} (h : xs[i]? = .some x) : sizes (xs.take (i + 1)) = sizes (xs.take i) + size x := by
  induction xs generalizing i with
  | nil => simp at h
  | cons y ys ih =>
    cases i with
    | zero =>
      simp at h
      subst h
      simp [sizes]
    | succ i =>
      have h' : ys[i]? = .some x := by simpa using h
      have e := ih h'
      simp only [List.take_succ_cons, sizes]
      omega
theorem sizes_take_le (xs : List Sh) : ∀ i, sizes (xs.take i) ≤ sizes xs := by
  induction xs with
  | nil => intro i; simp [sizes]
  | cons y ys ih =>
    intro i
    cases i with
    | zero => simp [sizes]
    | succ i =>
      have := ih i
      simp only [List.take_succ_cons, sizes]
      omega
/-! depth of the data -/
theorem depths_le {n : Nat} (hs : ∀ s, wf n s → (data s).depth ≤ 2 * n ∧ (data s).canLay0 = true) : ∀ xs : List Sh, (∀ x ∈ xs, wf n x) → PyData.depthAll (datas xs) ≤ 2 * n ∧ PyData.canLayAll0 (datas xs) = true
  | [], _ => ⟨Nat.zero_le _, rfl⟩
  | x :: xs, h => by
    obtain ⟨h1, l1⟩ := hs x (h x List.mem_cons_self)
    obtain ⟨h2, l2⟩ := depths_le hs xs fun y hy => h y (List.mem_cons_of_mem _ hy)
    rw [datas]
    simp only [PyData.depthAll, PyData.canLayAll0, l1, l2, Bool.and_self]
    exact ⟨by omega, trivial⟩
theorem depth_le : ∀ (n : Nat) (s : Sh), wf n s → (data s).depth ≤ 2 * n ∧ (data s).canLay0 = true
  | 0, _, h => h.elim
  | n + 1, s, h => by
    have ih := depth_le n
    have o : ∀ x : Str, PyData.strOk x = true → (kS x).canLay0 = true := fun x h => by simp only [kS, PyData.canLay0, h]
    have d0 : ∀ x : Str, (kS x).depth = 0 := fun x => by simp only [kS, PyData.depth]
    have o1 := o "letters" (by decide +kernel)
    have o2 := o "self" (by decide +kernel)
    have o3 := o "both" (by decide +kernel)
    have o4 := o "either" (by decide +kernel)
    have o5 := o "after" (by decide +kernel)
    have o6 := o "some" (by decide +kernel)
    have o7 := o "many" (by decide +kernel)
    have o8 := o "chance" (by decide +kernel)
    cases s with
    | letters k => simp only [data, PyData.depth, PyData.depthAll, PyData.canLay0, PyData.canLayAll0, d0, o1, Bool.and_self]; exact ⟨by omega, by decide +kernel⟩
    | self => simp only [data, PyData.depth, PyData.depthAll, PyData.canLay0, PyData.canLayAll0, d0, o2, Bool.and_self]; exact ⟨by omega, by decide +kernel⟩
    | both xs =>
      obtain ⟨h1, h2⟩ := depths_le ih xs h.2.2
      simp only [data, PyData.depth, PyData.depthAll, PyData.canLay0, PyData.canLayAll0, d0, o3, h2, Bool.and_self]
      exact ⟨by omega, by decide +kernel⟩
    | either xs =>
      obtain ⟨h1, h2⟩ := depths_le ih xs h.2.2
      simp only [data, PyData.depth, PyData.depthAll, PyData.canLay0, PyData.canLayAll0, d0, o4, h2, Bool.and_self]
      exact ⟨by omega, by decide +kernel⟩
    | after k s =>
      obtain ⟨h1, h2⟩ := ih s h.2
      simp only [data, PyData.depth, PyData.depthAll, PyData.canLay0, PyData.canLayAll0, d0, o5, h2, Bool.and_self]
      exact ⟨by omega, by decide +kernel⟩
    | some s =>
      obtain ⟨h1, h2⟩ := ih s h
      simp only [data, PyData.depth, PyData.depthAll, PyData.canLay0, PyData.canLayAll0, d0, o6, h2, Bool.and_self]
      exact ⟨by omega, by decide +kernel⟩
    | many s =>
      obtain ⟨h1, h2⟩ := ih s h
      simp only [data, PyData.depth, PyData.depthAll, PyData.canLay0, PyData.canLayAll0, d0, o7, h2, Bool.and_self]
      exact ⟨by omega, by decide +kernel⟩
    | chance s =>
      obtain ⟨h1, h2⟩ := ih s h
      simp only [data, PyData.depth, PyData.depthAll, PyData.canLay0, PyData.canLayAll0, d0, o8, h2, Bool.and_self]
      exact ⟨by omega, by decide +kernel⟩
theorem shaped {n : Nat} {s : Sh} (h : wf n s) (hn : n ≤ 32) : SeqAt.shaped (data s) = true := by
  obtain ⟨h1, h2⟩ := depth_le n s h
  show ((data s).canLay0 && decide ((data s).depth ≤ 64)) = true
  rw [h2, decide_eq_true (show (data s).depth ≤ 64 by omega)]
  rfl
end Sh
end MS
end
section
set_option Elab.async false
set_option linter.all false
set_option maxRecDepth 100000
set_option maxHeartbeats 4000000
namespace MS
open PySem PySem.Spec PyProof.Rows L2
def top (i : Nat) : Stmt := PySem.Challenge.pw_manyshaped_k01_what_is_a_shape.main.body.getD i (.Pass ⟨0, 0, 0, 0⟩)
abbrev s_is_number : Stmt := top 17
abbrev s_is_number_below : Stmt := top 18
abbrev s_is_nested : Stmt := top 19
abbrev s_are_nested : Stmt := top 20
abbrev s_shapes_below : Stmt := top 21
abbrev s_shapes_in : Stmt := top 22
/-- the built-ins that the text uses keep their names -/
structure Blt (mg : Str → Option Value) : Prop where
  isi : mg "isinstance" = none
  int : mg "int" = none
  bool : mg "bool" = none
  tuple : mg "tuple" = none
  len : mg "len" = none
  all : mg "all" = none
  sum : mg "sum" = none
/-! ### the mirror -/
def isNum : PyData → Bool
  | .int _ => true
  | _ => false
def numBelow (d : PyData) (e : Int) : Bool := match d with
  | .int i => decide (0 ≤ i) && decide (i < e)
  | _ => false
section
variable {P : Program} {w : World} {K : PySem.W.Frag} {mg : Str → Option Value} {base : Heap}
/-! ### is_number -/
def spIsNum (K : PySem.W.Frag) : Sp := fun vs H Q _ => ∃ v d, vs = [v] ∧ Dt K H v d ∧ Q (.bl (isNum d)) H
theorem sc_is_number : FnScope ["x"] ["x"] (defScope s_is_number) := ⟨rfl, rfl, rfl, by decide +kernel, rfl, by decide +kernel, by decide +kernel⟩
def isIntD : PyData → Bool
  | .int _ | .bool _ => true
  | _ => false
def isBoolD : PyData → Bool
  | .bool _ => true
  | _ => false
def isTupD : PyData → Bool
  | .tuple _ => true
  | _ => false
theorem kit_int {K : PySem.W.Frag} {d : PyData} {v : V} {H : Hp} (h : Dt K H v d) : PySem.W.kitOne K (.type (tyD d)) (.type "int") = some (isIntD d) := by
  cases h with
  | non => exact kit_ty (a := "NoneType") (r := false) (by decide +kernel)
  | bl b => exact kit_ty (a := "bool") (r := true) (by decide +kernel)
  | int i => exact kit_ty (a := "int") (r := true) (by decide +kernel)
  | str x => exact kit_ty (a := "str") (r := false) (by decide +kernel)
  | tup _ _ => exact kit_ty (a := "tuple") (r := false) (by decide +kernel)
theorem kit_bool {K : PySem.W.Frag} {d : PyData} {v : V} {H : Hp} (h : Dt K H v d) : PySem.W.kitOne K (.type (tyD d)) (.type "bool") = some (isBoolD d) := by
  cases h with
  | non => exact kit_ty (a := "NoneType") (r := false) (by decide +kernel)
  | bl b => exact kit_ty (a := "bool") (r := true) (by decide +kernel)
  | int i => exact kit_ty (a := "int") (r := false) (by decide +kernel)
  | str x => exact kit_ty (a := "str") (r := false) (by decide +kernel)
  | tup _ _ => exact kit_ty (a := "tuple") (r := false) (by decide +kernel)
theorem kit_tuple {K : PySem.W.Frag} {d : PyData} {v : V} {H : Hp} (h : Dt K H v d) : PySem.W.kitOne K (.type (tyD d)) (.type "tuple") = some (isTupD d) := by
  cases h with
  | non => exact kit_ty (a := "NoneType") (r := false) (by decide +kernel)
  | bl b => exact kit_ty (a := "bool") (r := false) (by decide +kernel)
  | int i => exact kit_ty (a := "int") (r := false) (by decide +kernel)
  | str x => exact kit_ty (a := "str") (r := false) (by decide +kernel)
  | tup _ _ => exact kit_ty (a := "tuple") (r := true) (by decide +kernel)
theorem ok_is_number {f : Addr} {fd : FuncData} {k : Nat} (B : Blt mg) (F : Fun K "is_number" "is_number" s_is_number f fd) : FnOk P w K mg base CX0 (k + 1) f fd ["x"] (spIsNum K) := by
  refine F.ok sc_is_number (fun vs H Q E h => ?_) (fun cdv A outer s H vs Q E hr h => ?_)
  · obtain ⟨v, d, rfl, _⟩ := h
    rfl
  obtain ⟨v, d, rfl, hd, q⟩ := h
  refine ⟨_, pss_one (ps_ret (pe_and (pe_callB call_isi (by rfl) B.isi (by decide +kernel) (pa_cons (pv 0) (pa_cons (pe_bltn (by rfl) B.int (by decide +kernel) (v := .ty "int") rfl) pa_nil)))
    (pe_one (pe_not (pe_callB call_isi (by rfl) B.isi (by decide +kernel) (pa_cons (pv 0) (pa_cons (pe_bltn (by rfl) B.bool (by decide +kernel) (v := .ty "bool") rfl) pa_nil))))))), ?_⟩
  refine ⟨_, rfl, _, _, _, _, _, rfl, .ty _, hd.ty, kit_int hd, _, rfl, ?_⟩
  cases hd with
  | int i => exact ⟨_, rfl, _, _, _, _, _, rfl, .ty _, (Dt.int (H := H) i).ty, kit_bool (Dt.int (H := H) i), _, rfl, q⟩
  | bl b => exact ⟨_, rfl, _, _, _, _, _, rfl, .ty _, (Dt.bl (H := H) b).ty, kit_bool (Dt.bl (H := H) b), _, rfl, q⟩
  | non => exact q
  | str x => exact q
  | tup hs ha => exact q
/-! ### is_number_below -/
def spNumBelow (K : PySem.W.Frag) : Sp := fun vs H Q _ => ∃ v d e, vs = [v, .int e] ∧ Dt K H v d ∧ Q (.bl (numBelow d e)) H
theorem sc_is_number_below : FnScope ["x", "end"] ["x", "end"] (defScope s_is_number_below) := ⟨rfl, rfl, rfl, by decide +kernel, rfl, by decide +kernel, by decide +kernel⟩
theorem ok_is_number_below {f g : Addr} {fd gd : FuncData} {k : Nat} (F : Fun K "is_number_below" "is_number_below" s_is_number_below f fd) (G : FnOk P w K mg base CX0 k g gd ["x"] (spIsNum K)) (mG : mg "is_number" = some (.ref g)) (kG : PySem.W.keepIn K (.ref g) = true) (bG : Binds K gd ["x"] []) :
    FnOk P w K mg base CX0 (k + 1) f fd ["x", "end"] (spNumBelow K) := by
  refine F.ok sc_is_number_below (fun vs H Q E h => ?_) (fun cdv A outer s H vs Q E hr h => ?_)
  · obtain ⟨v, d, e, rfl, _⟩ := h
    rfl
  obtain ⟨v, d, e, rfl, hd, q⟩ := h
  refine ⟨_, pss_one (ps_ret (pe_and (pe_call G hr rfl mG kG bG .nil pass0 (pa_cons (pv 0) pa_nil))
    (pe_one (pe_chain op_le op_lt pe_int (pv 0) (pv 1))))), ?_⟩
  refine ⟨_, rfl, _, _, rfl, hd, _, rfl, ?_⟩
  cases hd with
  | int i =>
    refine ⟨_, rfl, _, _, rfl, rfl, _, rfl, ite2 (fun c => ?_) (fun c => ?_)⟩
    · refine ⟨_, rfl, _, _, rfl, rfl, ?_⟩
      have e1 : numBelow (.int i) e = decide (i < e) := by
        show (decide (0 ≤ i) && decide (i < e)) = _
        rw [show decide (0 ≤ i) = true from c, Bool.true_and]
      rw [e1] at q
      exact q
    · have e1 : numBelow (.int i) e = false := by
        show (decide (0 ≤ i) && decide (i < e)) = _
        rw [show decide (0 ≤ i) = false from Bool.eq_false_iff.mpr c, Bool.false_and]
      rw [e1] at q
      exact q
  | non => exact q
  | bl b => exact q
  | str x => exact q
  | tup hs ha => exact q
end
end MS
end
section
set_option Elab.async false
set_option linter.all false
set_option maxRecDepth 100000
set_option maxHeartbeats 4000000
namespace MS
open PySem PySem.Spec PyProof.Rows L2 GE
/-! ### is_nested, are_nested: the mirror -/
def areN (f : PyData → Bool) : PyData → Bool
  | .tuple ys => decide (1 ≤ ys.length) && decide (ys.length ≤ 4) && ys.all f
  | _ => false
def posD : PyData → Bool
  | .int i => decide (0 < i)
  | _ => false
def nested : Nat → PyData → Bool
  | 0, _ => false
  | l + 1, .tuple (k :: r) => match r with
    | [] => PyData.eqv k (kS "self")
    | [x] => if PyData.eqv k (kS "self") = true then false else if PyData.eqv k (kS "after") = true then false else if PyData.eqv k (kS "letters") = true then numBelow x 6 && posD x
      else if ([kS "both", kS "either"].any fun z => PyData.eqv z k) = true then areN (nested l) x else ([kS "some", kS "many", kS "chance"].any fun z => PyData.eqv z k) && nested l x
    | [x, y] => if PyData.eqv k (kS "self") = true then false else if PyData.eqv k (kS "after") = true then numBelow x 5 && nested l y else false
    | _ => false
  | _ + 1, _ => false
/-! ### what is said of data -/
theorem shaped_item {ds : List PyData} {x : PyData} (h : SeqAt.shaped (.tuple ds) = true) (hx : x ∈ ds) : SeqAt.shaped x = true := by
  have h1 := SeqAt.canLay_of_shaped h
  have h2 := SeqAt.depth_of_shaped h
  have lay : ∀ (ds : List PyData), PyData.canLayAll0 ds = true → ∀ x ∈ ds, x.canLay0 = true := by
    intro ds
    induction ds with
    | nil => intro _ x hx; cases hx
    | cons d ds ih =>
      intro h x hx
      simp only [PyData.canLayAll0, Bool.and_eq_true] at h
      rcases List.mem_cons.mp hx with e | e
      · rw [e]; exact h.1
      · exact ih h.2 x e
  have dep : ∀ (ds : List PyData), ∀ x ∈ ds, x.depth ≤ PyData.depthAll ds := by
    intro ds
    induction ds with
    | nil => intro x hx; cases hx
    | cons d ds ih =>
      intro x hx
      simp only [PyData.depthAll]
      rcases List.mem_cons.mp hx with e | e
      · rw [e]; exact Nat.le_max_left _ _
      · exact Nat.le_trans (ih x e) (Nat.le_max_right _ _)
  have d1 := dep ds x hx
  simp only [PyData.depth] at h2
  show (x.canLay0 && decide (x.depth ≤ 64)) = true
  rw [Bool.and_eq_true]
  exact ⟨lay ds h1 x hx, decide_eq_true (by omega)⟩
theorem Room.u65 {k : Nat} {A : Around} (hr : Room k A) : A.units + 65 < cLine := by have := hr.un; omega
section
variable {P : Program} {w : World} {K : PySem.W.Frag} {mg : Str → Option Value} {base : Heap}
def spNested (K : PySem.W.Frag) (T : Addr) (n : Nat) : Sp := fun vs H Q _ => ∃ (v : V) (d : PyData) (m : Nat), vs = [v, .int m] ∧ m < n ∧ Dt K H v d ∧ SeqAt.shaped d = true ∧ GxR.TabG H T ∧ ∀ H', Gr H H' → Q (.bl (nested m d)) H'
def spAreN (K : PySem.W.Frag) (T : Addr) (n : Nat) : Sp := fun vs H Q _ => ∃ (v : V) (d : PyData) (m : Nat), vs = [v, .int m] ∧ m < n ∧ Dt K H v d ∧ SeqAt.shaped d = true ∧ GxR.TabG H T ∧ ∀ H', Gr H H' → Q (.bl (areN (nested m) d)) H'
theorem sc_is_nested : FnScope ["shape", "levels", "kind"] ["shape", "levels"] (defScope s_is_nested) := ⟨rfl, rfl, rfl, by decide +kernel, rfl, by decide +kernel, by decide +kernel⟩
theorem sc_are_nested : FnScope ["shapes", "levels"] ["shapes", "levels"] (defScope s_are_nested) := ⟨rfl, rfl, rfl, by decide +kernel, rfl, by decide +kernel, by decide +kernel⟩
/-- what is_nested leans on -/
structure NTxt (P : Program) (w : World) (K : PySem.W.Frag) (mg : Str → Option Value) (base : Heap) (fN fA fB : Addr) (dN dA dB : FuncData) (cA T : Addr) : Prop where
  B : Blt mg
  FN : Fun K "is_nested" "is_nested" s_is_nested fN dN
  FA : FunC K "are_nested" "are_nested" s_are_nested fA dA cA
  kA : PySem.W.keepIn K (.ref fA) = true
  kB : PySem.W.keepIn K (.ref fB) = true
  gN : mg "is_nested" = some (.ref fN)
  gA : mg "are_nested" = some (.ref fA)
  gB : mg "is_number_below" = some (.ref fB)
  bN : Binds K dN ["shape", "levels"] []
  bA : Binds K dA ["shapes", "levels"] []
  bB : Binds K dB ["x", "end"] []
  mA : ∃ t, mg "MOST_AFTER" = some (.int 4 t)
  mL : ∃ t, mg "MOST_LETTERS" = some (.int 5 t)
  mB : ∃ t, mg "MOST_BESIDE" = some (.int 4 t)
  OB : FnOk P w K mg base CX0 2 fB dB ["x", "end"] (spNumBelow K)
  TB : GxR.TabB base mg cA T
variable {fN fA fB : Addr} {dN dA dB : FuncData} {cA T : Addr}
theorem none_nested {n : Nat} : FnOk P w K mg base CX0 n fN dN ["shape", "levels"] (spNested K T 0) := by
  have no : ∀ vs H Q E, ¬ spNested K T 0 vs H Q E := fun vs H Q E h => by
    obtain ⟨_, _, m, _, h, _⟩ := h
    omega
  exact ⟨fun vs H Q E h => absurd h (no vs H Q E), fun A outer s H args us vs Q E _ _ _ _ h => absurd h (no vs H Q E)⟩
/-! ### are_nested -/
theorem gs_are_nested {f : Addr} {cd : Value} {A : Around} {outer : List Env} {s : Shared} {H : Hp} {E : XK} {CX : CXT} (scope : Scope) (hk : scope.kind = .function) (hc : scope.isCoroutine = false) (h1 : ∀ y ∈ scope.names, y.2 ≠ .cell) (h2 : scope.names.lookup (".0" : Str) = some NameKind.local)
    (h3 : ∀ y ∈ scope.names, y.2 = .free → (defScope s_are_nested).names.lookup y.1 = some .cell ∨ (defScope s_are_nested).names.lookup y.1 = some .free) (h4 : scope.names.lookup ("levels" : Str) = some .free) :
    GScp (cxOf CX P w K mg base ["shapes", "levels"] "are_nested" (defScope s_are_nested) f cd A outer s H E) scope ["shape"] [("levels", 1)] :=
  ⟨hk, hc, h1, h2, h3, fun p hp => by rw [List.mem_singleton.mp hp]; exact ⟨rfl, h4⟩⟩
theorem ok_are_nested {n : Nat} (X : NTxt P w K mg base fN fA fB dN dA dB cA T) (GN : FnOk P w K mg base CX0 (3 * n) fN dN ["shape", "levels"] (spNested K T n)) : FnOk P w K mg base CX0 (3 * n + 2) fA dA ["shapes", "levels"] (spAreN K T n) := by
  obtain ⟨tB, mB⟩ := X.mB
  refine X.FA.ok sc_are_nested (fun vs H Q E h => ?_) (fun A outer s H vs Q E hr h => ?_)
  · obtain ⟨v, d, m, rfl, _⟩ := h
    rfl
  obtain ⟨v, d, m, rfl, hm, hd, hsh, hT, q⟩ := h
  refine ⟨_, pss_cons (ps_if (PW.pt (pw_or (pt_not (pt_val (pe_callB call_isi (by rfl) X.B.isi (by decide +kernel) (pa_cons (pv 0) (pa_cons (pe_bltn (by rfl) X.B.tuple (by decide +kernel) (v := .ty "tuple") rfl) pa_nil)))))
      (pw_or1 (pt_not (pt_chain op_le op_le pe_int (pe_callB call_len_seq (by rfl) X.B.len PySem.boot_len (pa_cons (pv 0) pa_nil)) (pe_glob rfl mB (v := .int 4) ⟨_, rfl⟩))))))
      (pss_one (ps_ret pe_bl)) pss_nil)
    (pss_one (ps_ret (pe_allG (own := ["shape"]) (cap := [("levels", 1)]) hr (by rfl) X.B.all (by decide +kernel) sc_are_nested.nd X.TB rfl
      (gs_are_nested _ rfl rfl (by decide +kernel) (by decide +kernel) (by decide +kernel) (by decide +kernel)) (pi_tup (pv 0))
      (fun sc H1 cl C code ex pn => ⟨pg_name (i := 0) (show (gN ["shape"] [("levels", 1)]).Nodup by decide +kernel) rfl (.inl rfl) (.inr rfl), pe_call GN (room_gen hr _) rfl X.gN X.FN.kp X.bN .nil pass0 (pa_cons (pv 0) (pa_cons (pv 1) pa_nil))⟩)
      (fun _ => rfl)))), ?_⟩
  refine ⟨_, rfl, _, _, _, _, _, rfl, .ty _, hd.ty, kit_tuple hd, _, rfl, ?_⟩
  cases hd with
  | non => exact iteT (q H Gx.refl)
  | bl b => exact iteT (q H Gx.refl)
  | int i => exact iteT (q H Gx.refl)
  | str x => exact iteT (q H Gx.refl)
  | @tup a xs ds hs ha =>
    have hlen := ha.length
    refine iteF ?_
    refine ⟨_, rfl, _, _, rfl, .inr hs, _, _, rfl, rfl, _, rfl, ite2 (fun c1 => ?_) (fun c1 => ?_)⟩
    · have g1 : 1 ≤ ds.length := by
        have := of_decide_eq_true c1
        omega
      refine ⟨_, _, rfl, rfl, _, rfl, ?_⟩
      by_cases g2 : ds.length ≤ 4
      · have e2 : (!decide (((xs.length : Nat) : Int) ≤ 4)) = false := by rw [Bool.not_eq_false', decide_eq_true_eq]; omega
        refine ite2 (fun z => absurd (z.symm.trans e2) (by decide)) fun _ => ?_
        have ea : areN (nested m) (.tuple ds) = ds.all (nested m) := by
          show (decide (1 ≤ ds.length) && decide (ds.length ≤ 4) && ds.all (nested m)) = _
          rw [decide_eq_true g1, decide_eq_true g2, Bool.true_and, Bool.true_and]
        rw [ea] at q
        refine ⟨_, rfl, _, rfl, ⟨_, hs⟩, hT, fun H2 hT2 => ?_⟩
        have gr2 : Gr H H2 := Gx.tabbed hT hT2
        refine ⟨Wn xs.length (fun i _ τ H' => ∃ y, τ = [y, some (V.int m)] ∧ Gr H H' ∧ ∀ j x, j < i → ds[j]? = some x → nested m x = true), ⟨xs.length, rfl, Nat.zero_le _, none, rfl, gr2, fun j x h => absurd h (Nat.not_lt_zero j)⟩,
          turns_tup (fun i _ τ H' _ hp => MS.SqT.gx NoT.none hp.choose_spec.2.1 hs) (fun i x _ τ H' hx hp => ?_) (fun _ τ H' hp => ?_)⟩
        · obtain ⟨y, rfl, gr, hall⟩ := hp
          obtain ⟨dx, hdx, hdt⟩ := ha.of_get hx
          have hi : i < xs.length := (List.getElem?_eq_some_iff.mp hx).1
          refine ⟨_, rfl, _, rfl, x, dx, m, rfl, hm, hdt.gr gr, shaped_item hsh (List.mem_of_getElem? hdx), gr.tab _ hT, fun H3 g3 => ?_⟩
          cases hb : nested m dx with
          | true =>
            refine cb_on hi ⟨_, rfl, gr.trans g3, fun j z hj hz => ?_⟩
            by_cases e : j = i
            · subst e
              rw [hdx] at hz
              cases hz
              exact hb
            · exact hall j z (by omega) hz
          | false =>
            refine cb_off (by decide) ?_
            have e : ds.all (nested m) = false := by
              rw [List.all_eq_false]
              exact ⟨dx, List.mem_of_getElem? hdx, by rw [hb]; decide⟩
            rw [e] at q
            exact q H3 (gr.trans g3)
        · obtain ⟨y, rfl, gr, hall⟩ := hp
          have e : ds.all (nested m) = true := by
            rw [List.all_eq_true]
            intro x hx
            obtain ⟨j, hj, e⟩ := List.getElem_of_mem hx
            exact hall j x (by omega) (by rw [List.getElem?_eq_getElem hj, e])
          rw [e] at q
          exact q H' gr
      · have e2 : (!decide (((xs.length : Nat) : Int) ≤ 4)) = true := by rw [Bool.not_eq_true', decide_eq_false_iff_not]; omega
        refine ite2 (fun _ => ?_) fun z => absurd e2 z
        have ea : areN (nested m) (.tuple ds) = false := by
          show (decide (1 ≤ ds.length) && decide (ds.length ≤ 4) && ds.all (nested m)) = _
          rw [decide_eq_false g2, Bool.and_false, Bool.false_and]
        rw [ea] at q
        exact q H Gx.refl
    · have g1 : ¬ 1 ≤ ds.length := by
        intro z
        exact c1 (decide_eq_true (by omega))
      refine ⟨_, rfl, ?_⟩
      refine iteT ?_
      have ea : areN (nested m) (.tuple ds) = false := by
        show (decide (1 ≤ ds.length) && decide (ds.length ≤ 4) && ds.all (nested m)) = _
        rw [decide_eq_false g1, Bool.false_and, Bool.false_and]
      rw [ea] at q
      exact q H Gx.refl
end
end MS
end
section
set_option Elab.async false
set_option linter.all false
set_option maxRecDepth 100000
set_option maxHeartbeats 4000000
namespace MS
open PySem PySem.Spec PyProof.Rows L2 GE
theorem eqI_T {i j : Int} {A B : Prop} (h : i = j) (a : A) : if decide (V.int i = V.int j) = true then A else B := by rw [if_pos (decide_eq_true (congrArg V.int h))]; exact a
theorem eqI_F {i j : Int} {A B : Prop} (h : i ≠ j) (b : B) : if decide (V.int i = V.int j) = true then A else B := by rw [if_neg (fun z => h (V.int.inj (of_decide_eq_true z)))]; exact b
theorem neI_T {i j : Int} {A B : Prop} (h : i ≠ j) (a : A) : if (!decide (V.int i = V.int j)) = true then A else B := by
  have e : decide (V.int i = V.int j) = false := decide_eq_false fun z => h (V.int.inj z)
  rw [e]; exact a
theorem neI_F {i j : Int} {A B : Prop} (h : i = j) (b : B) : if (!decide (V.int i = V.int j)) = true then A else B := by
  have e : decide (V.int i = V.int j) = true := decide_eq_true (congrArg V.int h)
  rw [e]; exact b
theorem eqI_val {i j : Int} : decide (V.int i = V.int j) = decide (i = j) := by
  by_cases h : i = j
  · rw [decide_eq_true h, decide_eq_true (congrArg V.int h)]
  · rw [decide_eq_false h, decide_eq_false fun z => h (V.int.inj z)]
theorem shaped_str (x : Str) (h : PyData.strOk x = true := by decide +kernel) : SeqAt.shaped (kS x) = true := by
  show ((kS x).canLay0 && decide ((kS x).depth ≤ 64)) = true
  rw [show (kS x).canLay0 = PyData.strOk x from by simp only [kS, PyData.canLay0], h]
  rfl
section
variable {P : Program} {w : World} {K : PySem.W.Frag} {mg : Str → Option Value} {base : Heap} {fN fA fB : Addr} {dN dA dB : FuncData} {cA T : Addr}
theorem ok_is_nested {n : Nat} (X : NTxt P w K mg base fN fA fB dN dA dB cA T) (GN : FnOk P w K mg base CX0 (3 * n) fN dN ["shape", "levels"] (spNested K T n)) (GA : FnOk P w K mg base CX0 (3 * n + 2) fA dA ["shapes", "levels"] (spAreN K T n)) :
    FnOk P w K mg base CX0 (3 * n + 3) fN dN ["shape", "levels"] (spNested K T (n + 1)) := by
  obtain ⟨tA, mA⟩ := X.mA
  obtain ⟨tL, mL⟩ := X.mL
  refine X.FN.ok sc_is_nested (fun vs H Q E h => ?_) (fun cdv A outer s H vs Q E hr h => ?_)
  · obtain ⟨v, d, m, rfl, _⟩ := h
    rfl
  obtain ⟨v, d, m, rfl, hm, hd, hsh, hT, q⟩ := h
  have hrN : Room (3 * n) (A.deeper (envOfC "is_nested" (defScope s_is_nested) s.heap.objs.size fN cdv)) := hr.mono (by omega)
  have hrB : Room 2 (A.deeper (envOfC "is_nested" (defScope s_is_nested) s.heap.objs.size fN cdv)) := hr.mono (by omega)
  refine ⟨_, pss_cons (ps_if (PW.pt (pw_or (pt_cmpR op_eq (pv 1) pe_int (nomark _)) (pw_or (pt_not (pt_val (pe_callB call_isi (by rfl) X.B.isi (by decide +kernel) (pa_cons (pv 0) (pa_cons (pe_bltn (by rfl) X.B.tuple (by decide +kernel) (v := .ty "tuple") rfl) pa_nil)))))
      (pw_or1 (pt_cmpR op_eq (pe_callB call_len_seq (by rfl) X.B.len PySem.boot_len (pa_cons (pv 0) pa_nil)) pe_int (nomark _))))))
      (pss_one (ps_ret pe_bl)) pss_nil)
    (pss_cons (ps_set (i := 2) sc_is_nested.nd rfl (.inl rfl) (pe_ix ix_tup (pv 0) pe_int (fun _ _ => rfl)))
    (pss_cons (ps_if (pt_cmpR (op_eqD hr.units) (pv 2) pe_str (nomark _)) (pss_one (ps_ret (pe_cmpR op_eq (pe_callB call_len_seq (by rfl) X.B.len PySem.boot_len (pa_cons (pv 0) pa_nil)) pe_int (nomark _)))) pss_nil)
    (pss_cons (ps_if (pt_cmpR (op_eqD hr.units) (pv 2) pe_str (nomark _)) (pss_one (ps_ret (pe_and (pe_cmpR op_eq (pe_callB call_len_seq (by rfl) X.B.len PySem.boot_len (pa_cons (pv 0) pa_nil)) pe_int (nomark _))
        (pe_and (pe_call X.OB hrB rfl X.gB X.kB X.bB .nil pass0 (pa_cons (pe_ix ix_tup (pv 0) pe_int (fun _ _ => rfl)) (pa_cons (pe_op op_add (pe_glob rfl mA (v := .int 4) ⟨_, rfl⟩) pe_int) pa_nil)))
        (pe_one (pe_call GN hrN rfl X.gN X.FN.kp X.bN .nil pass0 (pa_cons (pe_ix ix_tup (pv 0) pe_int (fun _ _ => rfl)) (pa_cons (pe_op op_sub (pv 1) pe_int) pa_nil)))))))) pss_nil)
    (pss_cons (ps_if (pt_cmpR op_ne (pe_callB call_len_seq (by rfl) X.B.len PySem.boot_len (pa_cons (pv 0) pa_nil)) pe_int (nomark _)) (pss_one (ps_ret pe_bl)) pss_nil)
    (pss_cons (ps_if (pt_cmpR (op_eqD hr.units) (pv 2) pe_str (nomark _)) (pss_one (ps_ret (pe_and
        (pe_call X.OB hrB rfl X.gB X.kB X.bB .nil pass0 (pa_cons (pe_ix ix_tup (pv 0) pe_int (fun _ _ => rfl)) (pa_cons (pe_op op_add (pe_glob rfl mL (v := .int 5) ⟨_, rfl⟩) pe_int) pa_nil)))
        (pe_one (pe_cmpR op_gt (pe_ix ix_tup (pv 0) pe_int (fun _ _ => rfl)) pe_int (nomark _)))))) pss_nil)
    (pss_cons (ps_if (pt_cmpR (op_inT (MS.Room.u65 hr)) (pv 2) (pe_tup (pa_cons pe_str (pa_cons pe_str pa_nil))) (by rfl))
        (pss_one (ps_ret (pe_call GA hr rfl X.gA X.kA X.bA .nil pass0 (pa_cons (pe_ix ix_tup (pv 0) pe_int (fun _ _ => rfl)) (pa_cons (pe_op op_sub (pv 1) pe_int) pa_nil))))) pss_nil)
    (pss_one (ps_ret (pe_and (pe_cmpR (op_inT (MS.Room.u65 hr)) (pv 2) (pe_tup (pa_cons pe_str (pa_cons pe_str (pa_cons pe_str pa_nil)))) (by rfl))
        (pe_one (pe_call GN hrN rfl X.gN X.FN.kp X.bN .nil pass0 (pa_cons (pe_ix ix_tup (pv 0) pe_int (fun _ _ => rfl)) (pa_cons (pe_op op_sub (pv 1) pe_int) pa_nil))))))))))))), ?_⟩
  cases m with
  | zero => exact ⟨_, rfl, rfl, _, rfl, eqI_T rfl (q H Gx.refl)⟩
  | succ l =>
    have hl : l < n := by omega
    have el : ((l + 1 : Nat) : Int) - 1 = (l : Int) := by omega
    refine ⟨_, rfl, rfl, _, rfl, eqI_F (by omega) ?_⟩
    refine ⟨_, rfl, _, _, _, _, _, rfl, .ty _, hd.ty, kit_tuple hd, _, rfl, ?_⟩
    cases hd with
    | non => exact iteT (q H Gx.refl)
    | bl b => exact iteT (q H Gx.refl)
    | int i => exact iteT (q H Gx.refl)
    | str x => exact iteT (q H Gx.refl)
    | @tup a xs ds hs ha =>
      refine iteF ?_
      cases ha with
      | nil => exact ⟨_, rfl, _, _, rfl, .inr hs, rfl, _, rfl, eqI_T rfl (q H Gx.refl)⟩
      | @cons kv ys k r hk hr' =>
        have sk : SeqAt.shaped k = true := shaped_item hsh List.mem_cons_self
        refine ⟨_, rfl, _, _, rfl, .inr hs, rfl, _, rfl, eqI_F (by rw [List.length_cons]; omega) ?_⟩
        refine ⟨_, rfl, a, _, _, _, rfl, rfl, hs, atI_nat (j := 0) rfl, ?_⟩
        refine ⟨_, rfl, k, kS "self", Dt.dp _ _ hk, .str _, sk, shaped_str "self", _, rfl, ?_⟩
        cases hr' with
        | nil =>
          -- one item
          refine ite2 (fun c1 => ?_) (fun c1 => ?_)
          · have e : nested (l + 1) (.tuple [k]) = true := c1
            rw [e] at q
            exact ⟨_, rfl, a, _, rfl, .inr hs, rfl, q H Gx.refl⟩
          · have e : nested (l + 1) (.tuple [k]) = false := Bool.eq_false_iff.mpr c1
            rw [e] at q
            refine ⟨_, rfl, k, kS "after", Dt.dp _ _ hk, .str _, sk, shaped_str "after", _, rfl, ite2 (fun c2 => ?_) (fun c2 => ?_)⟩
            · exact ⟨_, rfl, a, _, rfl, .inr hs, rfl, _, rfl, q H Gx.refl⟩
            · exact ⟨_, rfl, a, _, rfl, .inr hs, rfl, _, rfl, neI_T (by show ((0 + 1 : Nat) : Int) ≠ 2; decide) (q H Gx.refl)⟩
        | @cons xv zs x r2 hx hr2 =>
          have sx : SeqAt.shaped x = true := shaped_item hsh (List.mem_cons_of_mem _ List.mem_cons_self)
          cases hr2 with
          | nil =>
            -- two items
            refine ite2 (fun c1 => ?_) (fun c1 => ?_)
            · have e : nested (l + 1) (.tuple [k, x]) = false := if_pos c1
              rw [e] at q
              exact ⟨_, rfl, a, _, rfl, .inr hs, rfl, q H Gx.refl⟩
            refine ⟨_, rfl, k, kS "after", Dt.dp _ _ hk, .str _, sk, shaped_str "after", _, rfl, ite2 (fun c2 => ?_) (fun c2 => ?_)⟩
            · have e : nested (l + 1) (.tuple [k, x]) = false := (if_neg c1).trans (if_pos c2)
              rw [e] at q
              exact ⟨_, rfl, a, _, rfl, .inr hs, rfl, _, rfl, q H Gx.refl⟩
            refine ⟨_, rfl, a, _, rfl, .inr hs, rfl, _, rfl, neI_F rfl ?_⟩
            refine ⟨_, rfl, k, kS "letters", Dt.dp _ _ hk, .str _, sk, shaped_str "letters", _, rfl, ite2 (fun c3 => ?_) (fun c3 => ?_)⟩
            · have e : nested (l + 1) (.tuple [k, x]) = (numBelow x 6 && posD x) := (if_neg c1).trans ((if_neg c2).trans (if_pos c3))
              rw [e] at q
              refine ⟨_, rfl, a, _, _, _, rfl, rfl, hs, atI_nat (j := 1) rfl, _, _, rfl, rfl, _, _, _, rfl, hx, _, rfl, ite2 (fun c4 => ?_) (fun c4 => ?_)⟩
              · have c4 : numBelow x 6 = true := c4
                rw [c4, Bool.true_and] at q
                cases hx with
                | int i => exact ⟨_, rfl, a, _, _, _, rfl, rfl, hs, atI_nat (j := 1) rfl, _, _, rfl, rfl, q H Gx.refl⟩
                | non => exact absurd c4 (by decide)
                | bl b => exact absurd c4 (by simp [numBelow])
                | str z => exact absurd c4 (by simp [numBelow])
                | tup _ _ => exact absurd c4 (by simp [numBelow])
              · have c4 : numBelow x 6 = false := Bool.eq_false_iff.mpr c4
                rw [c4, Bool.false_and] at q
                exact q H Gx.refl
            refine ⟨_, rfl, (by show 2 ≤ sizeLine; decide), fun p1 hp1 => ?_⟩
            have g1 : Gr H (upd H p1 (.tup [.str "both", .str "either"])) := Gx.new hp1
            refine ⟨k, [kS "both", kS "either"], hk.gr g1, .tup (.inl (.inl upd_same)) (.cons (.str _) (.cons (.str _) .nil)), sk, by decide +kernel, _, rfl, ite2 (fun c4 => ?_) (fun c4 => ?_)⟩
            · have e : nested (l + 1) (.tuple [k, x]) = areN (nested l) x := (if_neg c1).trans ((if_neg c2).trans ((if_neg c3).trans (if_pos c4)))
              rw [e] at q
              refine ⟨_, rfl, a, _, _, _, rfl, rfl, MS.SqT.gx NoT.none g1 hs, atI_nat (j := 1) rfl, _, rfl, _, _, rfl, rfl, xv, x, l, ?_, hl, hx.gr g1, sx, g1.tab _ hT, fun H' g2 => q H' (g1.trans g2)⟩
              show [xv, V.int (((l + 1 : Nat) : Int) - 1)] = [xv, V.int (l : Int)]
              rw [el]
            · have e : nested (l + 1) (.tuple [k, x]) = (([kS "some", kS "many", kS "chance"].any fun z => PyData.eqv z k) && nested l x) := (if_neg c1).trans ((if_neg c2).trans ((if_neg c3).trans (if_neg c4)))
              rw [e] at q
              refine ⟨_, rfl, (by show 3 ≤ sizeLine; decide), fun p2 hp2 => ?_⟩
              have g2 : Gr H (upd (upd H p1 (.tup [.str "both", .str "either"])) p2 (.tup [.str "some", .str "many", .str "chance"])) := g1.trans (Gx.new hp2)
              refine ⟨k, [kS "some", kS "many", kS "chance"], hk.gr g2, .tup (.inl (.inl upd_same)) (.cons (.str _) (.cons (.str _) (.cons (.str _) .nil))), sk, by decide +kernel, _, rfl, ite2 (fun c5 => ?_) (fun c5 => ?_)⟩
              · rw [c5, Bool.true_and] at q
                refine ⟨_, rfl, a, _, _, _, rfl, rfl, MS.SqT.gx NoT.none g2 hs, atI_nat (j := 1) rfl, _, rfl, _, _, rfl, rfl, xv, x, l, ?_, hl, hx.gr g2, sx, g2.tab _ hT, fun H' g3 => q H' (g2.trans g3)⟩
                show [xv, V.int (((l + 1 : Nat) : Int) - 1)] = [xv, V.int (l : Int)]
                rw [el]
              · rw [Bool.eq_false_iff.mpr c5, Bool.false_and] at q
                exact q _ g2
          | @cons yv zs2 y r3 hy hr3 =>
            have sy : SeqAt.shaped y = true := shaped_item hsh (List.mem_cons_of_mem _ (List.mem_cons_of_mem _ List.mem_cons_self))
            cases hr3 with
            | nil =>
              -- three items
              refine ite2 (fun c1 => ?_) (fun c1 => ?_)
              · have e : nested (l + 1) (.tuple [k, x, y]) = false := if_pos c1
                rw [e] at q
                exact ⟨_, rfl, a, _, rfl, .inr hs, rfl, q H Gx.refl⟩
              refine ⟨_, rfl, k, kS "after", Dt.dp _ _ hk, .str _, sk, shaped_str "after", _, rfl, ite2 (fun c2 => ?_) (fun c2 => ?_)⟩
              · have e : nested (l + 1) (.tuple [k, x, y]) = (numBelow x 5 && nested l y) := (if_neg c1).trans (if_pos c2)
                rw [e] at q
                refine ⟨_, rfl, a, _, rfl, .inr hs, rfl, _, rfl, ?_⟩
                refine iteT ?_
                refine ⟨_, rfl, a, _, _, _, rfl, rfl, hs, atI_nat (j := 1) rfl, _, _, rfl, rfl, _, _, _, rfl, hx, _, rfl, ite2 (fun c4 => ?_) (fun c4 => ?_)⟩
                · have c4 : numBelow x 5 = true := c4
                  rw [c4, Bool.true_and] at q
                  refine ⟨_, rfl, a, _, _, _, rfl, rfl, hs, atI_nat (j := 2) rfl, _, rfl, _, _, rfl, rfl, yv, y, l, ?_, hl, hy, sy, hT, q⟩
                  show [yv, V.int (((l + 1 : Nat) : Int) - 1)] = [yv, V.int (l : Int)]
                  rw [el]
                · have c4 : numBelow x 5 = false := Bool.eq_false_iff.mpr c4
                  rw [c4, Bool.false_and] at q
                  exact q H Gx.refl
              · have e : nested (l + 1) (.tuple [k, x, y]) = false := (if_neg c1).trans (if_neg c2)
                rw [e] at q
                exact ⟨_, rfl, a, _, rfl, .inr hs, rfl, _, rfl, neI_T (by show ((2 + 1 : Nat) : Int) ≠ 2; decide) (q H Gx.refl)⟩
            | @cons uv zs3 u r4 hu hr4 =>
              -- four items and more
              have e : nested (l + 1) (.tuple (k :: x :: y :: u :: r4)) = false := rfl
              rw [e] at q
              have lenF : ∀ j : Int, j < 4 → (((kv :: xv :: yv :: uv :: zs3).length : Nat) : Int) ≠ j := fun j hj => by
                simp only [List.length_cons]
                omega
              have valF : ∀ j : Int, j < 4 → decide (V.int (((kv :: xv :: yv :: uv :: zs3).length : Nat) : Int) = V.int j) = false := fun j hj => decide_eq_false fun z => lenF j hj (V.int.inj z)
              refine ite2 (fun c1 => ?_) (fun c1 => ?_)
              · refine ⟨_, rfl, a, _, rfl, .inr hs, rfl, ?_⟩
                show Q (.bl (decide _)) H
                rw [valF 1 (by decide)]
                exact q H Gx.refl
              refine ⟨_, rfl, k, kS "after", Dt.dp _ _ hk, .str _, sk, shaped_str "after", _, rfl, ite2 (fun c2 => ?_) (fun c2 => ?_)⟩
              · refine ⟨_, rfl, a, _, rfl, .inr hs, rfl, _, rfl, eqI_F (lenF 3 (by decide)) (q H Gx.refl)⟩
              · exact ⟨_, rfl, a, _, rfl, .inr hs, rfl, _, rfl, neI_T (lenF 2 (by decide)) (q H Gx.refl)⟩
theorem both_nested (X : NTxt P w K mg base fN fA fB dN dA dB cA T) : ∀ n : Nat, FnOk P w K mg base CX0 (3 * n) fN dN ["shape", "levels"] (spNested K T n) ∧ FnOk P w K mg base CX0 (3 * n + 2) fA dA ["shapes", "levels"] (spAreN K T n)
  | 0 => ⟨none_nested, ok_are_nested X none_nested⟩
  | n + 1 => by
    obtain ⟨h1, h2⟩ := both_nested X n
    have h3 := ok_is_nested X h1 h2
    exact ⟨h3, ok_are_nested (n := n + 1) X h3⟩
end
end MS
end
section
set_option Elab.async false
set_option linter.all false
set_option maxRecDepth 100000
set_option maxHeartbeats 4000000
namespace MS
open PySem PySem.Spec PyProof.Rows L2 GE
/-! ### shapes are nested -/
theorem eqv_k (x y : Str) : PyData.eqv (kS x) (kS y) = (x == y) := by simp only [kS, PyData.eqv]
theorem numBelow_nat {k : Nat} {e : Int} (h : (k : Int) < e) : numBelow (.int k) e = true := by
  show (decide ((0 : Int) ≤ (k : Int)) && decide ((k : Int) < e)) = true
  rw [decide_eq_true (show (0 : Int) ≤ (k : Int) by omega), decide_eq_true h]
  rfl
theorem nested_data : ∀ (n : Nat) (s : Sh), Sh.wf n s → nested n (Sh.data s) = true
  | 0, _, h => h.elim
  | n + 1, s, h => by
    have ih := nested_data n
    have many : ∀ xs : List Sh, 1 ≤ xs.length → xs.length ≤ 4 → (∀ x ∈ xs, Sh.wf n x) → areN (nested n) (.tuple (Sh.datas xs)) = true := fun xs h1 h2 h3 => by
      rw [Sh.datas_map]
      show (decide (1 ≤ (xs.map Sh.data).length) && decide ((xs.map Sh.data).length ≤ 4) && (xs.map Sh.data).all (nested n)) = true
      rw [List.length_map, decide_eq_true h1, decide_eq_true h2, Bool.true_and, Bool.true_and, List.all_eq_true]
      intro d hd
      obtain ⟨x, hx, e⟩ := List.mem_map.mp hd
      rw [← e]
      exact ih x (h3 x hx)
    cases s with
    | letters k =>
      have h1 : (numBelow (.int (k : Int)) 6 && posD (.int (k : Int))) = true := by
        rw [numBelow_nat (show (k : Int) < 6 by have := h.2; omega), Bool.true_and]
        exact decide_eq_true (show (0 : Int) < (k : Int) by have := h.1; omega)
      exact h1
    | self => rfl
    | both xs => exact many xs h.1 h.2.1 h.2.2
    | either xs => exact many xs h.1 h.2.1 h.2.2
    | after k s =>
      have h1 : (numBelow (.int (k : Int)) 5 && nested n (Sh.data s)) = true := by
        rw [numBelow_nat (show (k : Int) < 5 by have := h.1; omega), Bool.true_and]
        exact ih s h.2
      exact h1
    | some s => exact ih s h
    | many s => exact ih s h
    | chance s => exact ih s h
section
variable {P : Program} {w : World} {K : PySem.W.Frag} {mg : Str → Option Value} {base : Heap} {fB fI : Addr} {dB dI : FuncData} {cI T : Addr}
/-! ### shapes_below -/
def spBelow (K : PySem.W.Frag) (n : Nat) : Sp := fun vs H Q _ => ∃ (v : V) (s : Sh), vs = [v] ∧ Dt K H v (Sh.data s) ∧ Sh.wf n s ∧ n ≤ 10 ∧ ∀ H' a, Gr H H' → Dt K H' (.ref a) (.tuple (Sh.datas (Sh.inner s))) → Q (.ref a) H'
theorem sc_shapes_below : FnScope ["shape", "kind"] ["shape"] (defScope s_shapes_below) := ⟨rfl, rfl, rfl, by decide +kernel, rfl, by decide +kernel, by decide +kernel⟩
theorem atI_last1 {x y : V} : atI [x, y] (-1) = some y := atI_last [x] y
theorem atI_last2 {x y z : V} : atI [x, y, z] (-1) = some z := atI_last [x, y] z
theorem ok_shapes_below {n k : Nat} (F : Fun K "shapes_below" "shapes_below" s_shapes_below fB dB) : FnOk P w K mg base CX0 (k + 1) fB dB ["shape"] (spBelow K n) := by
  refine F.ok sc_shapes_below (fun vs H Q E h => ?_) (fun cdv A outer s H vs Q E hr h => ?_)
  · obtain ⟨v, s, rfl, _⟩ := h
    rfl
  obtain ⟨v, s, rfl, hd, hw, hn, q⟩ := h
  have sh := Sh.shaped hw (by omega)
  refine ⟨_, pss_cons (ps_set (i := 1) sc_shapes_below.nd rfl (.inl rfl) (pe_ix ix_tup (pv 0) pe_int (fun _ _ => rfl)))
    (pss_cons (ps_if (pt_cmpR (op_inT (MS.Room.u65 hr)) (pv 1) (pe_tup (pa_cons pe_str (pa_cons pe_str pa_nil))) (by rfl)) (pss_one (ps_ret (pe_tup pa_nil))) pss_nil)
    (pss_cons (ps_if (pt_cmpR (op_inT (MS.Room.u65 hr)) (pv 1) (pe_tup (pa_cons pe_str (pa_cons pe_str pa_nil))) (by rfl)) (pss_one (ps_ret (pe_ix ix_tup (pv 0) pe_int (fun _ _ => rfl)))) pss_nil)
    (pss_one (ps_ret (pe_tup (pa_cons (pe_ix ix_tup (pv 0) (pe_un un_neg pe_int) (fun _ _ => rfl)) pa_nil)))))), ?_⟩
  have two : (2 : Nat) ≤ sizeLine := by decide
  have shq : ∀ x : Str, SeqAt.shaped (kS x) = true → SeqAt.shaped (kS x) = true := fun _ h => h
  cases s with
  | letters j =>
    cases hd with
    | @tup a xs ds hs ha =>
      cases ha with
      | @cons x1 ys _ _ h1 h2 =>
        cases h1
        refine ⟨_, rfl, a, _, _, _, rfl, rfl, hs, atI_nat (j := 0) rfl, ?_⟩
        refine ⟨_, rfl, two, fun p1 hp1 => ⟨kS "letters", [kS "letters", kS "self"], .str _, .tup (.inl (.inl upd_same)) (.cons (.str _) (.cons (.str _) .nil)), by decide +kernel, by decide +kernel, _, rfl, ?_⟩⟩
        exact iteT ⟨Nat.zero_le _, fun p2 hp2 => q _ _ ((Gx.new hp1).trans (Gx.new hp2)) (.tup (.inl (.inl upd_same)) .nil)⟩
  | self =>
    cases hd with
    | @tup a xs ds hs ha =>
      cases ha with
      | @cons x1 ys _ _ h1 h2 =>
        cases h1
        refine ⟨_, rfl, a, _, _, _, rfl, rfl, hs, atI_nat (j := 0) rfl, ?_⟩
        refine ⟨_, rfl, two, fun p1 hp1 => ⟨kS "self", [kS "letters", kS "self"], .str _, .tup (.inl (.inl upd_same)) (.cons (.str _) (.cons (.str _) .nil)), by decide +kernel, by decide +kernel, _, rfl, ?_⟩⟩
        exact iteT ⟨Nat.zero_le _, fun p2 hp2 => q _ _ ((Gx.new hp1).trans (Gx.new hp2)) (.tup (.inl (.inl upd_same)) .nil)⟩
  | both xs' =>
    cases hd with
    | @tup a xs ds hs ha =>
      cases ha with
      | @cons x1 ys _ _ h1 h2 =>
        cases h1
        cases h2 with
        | @cons x2 ys2 _ _ h3 h4 =>
          cases h4
          refine ⟨_, rfl, a, _, _, _, rfl, rfl, hs, atI_nat (j := 0) rfl, ?_⟩
          refine ⟨_, rfl, two, fun p1 hp1 => ⟨kS "both", [kS "letters", kS "self"], .str _, .tup (.inl (.inl upd_same)) (.cons (.str _) (.cons (.str _) .nil)), by decide +kernel, by decide +kernel, _, rfl, ?_⟩⟩
          refine iteF ⟨_, rfl, two, fun p2 hp2 => ⟨kS "both", [kS "both", kS "either"], .str _, .tup (.inl (.inl upd_same)) (.cons (.str _) (.cons (.str _) .nil)), by decide +kernel, by decide +kernel, _, rfl, ?_⟩⟩
          have g := (Gx.new (B := fun _ => False) (o := .tup [.str "letters", .str "self"]) hp1).trans (Gx.new (o := .tup [.str "both", .str "either"]) hp2)
          cases h3 with
          | @tup b zs _ hb hz => exact iteT ⟨_, rfl, a, _, _, _, rfl, rfl, MS.SqT.gx NoT.none g hs, atI_nat (j := 1) rfl, q _ _ g (.tup (MS.SqT.gx NoT.none g hb) (hz.gr g))⟩
  | either xs' =>
    cases hd with
    | @tup a xs ds hs ha =>
      cases ha with
      | @cons x1 ys _ _ h1 h2 =>
        cases h1
        cases h2 with
        | @cons x2 ys2 _ _ h3 h4 =>
          cases h4
          refine ⟨_, rfl, a, _, _, _, rfl, rfl, hs, atI_nat (j := 0) rfl, ?_⟩
          refine ⟨_, rfl, two, fun p1 hp1 => ⟨kS "either", [kS "letters", kS "self"], .str _, .tup (.inl (.inl upd_same)) (.cons (.str _) (.cons (.str _) .nil)), by decide +kernel, by decide +kernel, _, rfl, ?_⟩⟩
          refine iteF ⟨_, rfl, two, fun p2 hp2 => ⟨kS "either", [kS "both", kS "either"], .str _, .tup (.inl (.inl upd_same)) (.cons (.str _) (.cons (.str _) .nil)), by decide +kernel, by decide +kernel, _, rfl, ?_⟩⟩
          have g := (Gx.new (B := fun _ => False) (o := .tup [.str "letters", .str "self"]) hp1).trans (Gx.new (o := .tup [.str "both", .str "either"]) hp2)
          cases h3 with
          | @tup b zs _ hb hz => exact iteT ⟨_, rfl, a, _, _, _, rfl, rfl, MS.SqT.gx NoT.none g hs, atI_nat (j := 1) rfl, q _ _ g (.tup (MS.SqT.gx NoT.none g hb) (hz.gr g))⟩
  | after j s' =>
    cases hd with
    | @tup a xs ds hs ha =>
      cases ha with
      | @cons x1 ys _ _ h1 h2 =>
        cases h1
        cases h2 with
        | @cons x2 ys2 _ _ h3 h4 =>
          cases h4 with
          | @cons x3 ys3 _ _ h5 h6 =>
            cases h6
            refine ⟨_, rfl, a, _, _, _, rfl, rfl, hs, atI_nat (j := 0) rfl, ?_⟩
            refine ⟨_, rfl, two, fun p1 hp1 => ⟨kS "after", [kS "letters", kS "self"], .str _, .tup (.inl (.inl upd_same)) (.cons (.str _) (.cons (.str _) .nil)), by decide +kernel, by decide +kernel, _, rfl, ?_⟩⟩
            refine iteF ⟨_, rfl, two, fun p2 hp2 => ⟨kS "after", [kS "both", kS "either"], .str _, .tup (.inl (.inl upd_same)) (.cons (.str _) (.cons (.str _) .nil)), by decide +kernel, by decide +kernel, _, rfl, ?_⟩⟩
            have g := (Gx.new (B := fun _ => False) (o := .tup [.str "letters", .str "self"]) hp1).trans (Gx.new (o := .tup [.str "both", .str "either"]) hp2)
            refine iteF ⟨_, rfl, _, rfl, a, _, _, _, rfl, rfl, MS.SqT.gx NoT.none g hs, atI_last2, (by show 1 ≤ sizeLine; decide), fun p3 hp3 => ?_⟩
            exact q _ _ (g.trans (Gx.new hp3)) (.tup (.inl (.inl upd_same)) (.cons ((h5.gr g).gr (Gx.new hp3)) .nil))
  | some s' =>
    cases hd with
    | @tup a xs ds hs ha =>
      cases ha with
      | @cons x1 ys _ _ h1 h2 =>
        cases h1
        cases h2 with
        | @cons x2 ys2 _ _ h3 h4 =>
          cases h4
          refine ⟨_, rfl, a, _, _, _, rfl, rfl, hs, atI_nat (j := 0) rfl, ?_⟩
          refine ⟨_, rfl, two, fun p1 hp1 => ⟨kS "some", [kS "letters", kS "self"], .str _, .tup (.inl (.inl upd_same)) (.cons (.str _) (.cons (.str _) .nil)), by decide +kernel, by decide +kernel, _, rfl, ?_⟩⟩
          refine iteF ⟨_, rfl, two, fun p2 hp2 => ⟨kS "some", [kS "both", kS "either"], .str _, .tup (.inl (.inl upd_same)) (.cons (.str _) (.cons (.str _) .nil)), by decide +kernel, by decide +kernel, _, rfl, ?_⟩⟩
          have g := (Gx.new (B := fun _ => False) (o := .tup [.str "letters", .str "self"]) hp1).trans (Gx.new (o := .tup [.str "both", .str "either"]) hp2)
          refine iteF ⟨_, rfl, _, rfl, a, _, _, _, rfl, rfl, MS.SqT.gx NoT.none g hs, atI_last1, (by show 1 ≤ sizeLine; decide), fun p3 hp3 => ?_⟩
          exact q _ _ (g.trans (Gx.new hp3)) (.tup (.inl (.inl upd_same)) (.cons ((h3.gr g).gr (Gx.new hp3)) .nil))
  | many s' =>
    cases hd with
    | @tup a xs ds hs ha =>
      cases ha with
      | @cons x1 ys _ _ h1 h2 =>
        cases h1
        cases h2 with
        | @cons x2 ys2 _ _ h3 h4 =>
          cases h4
          refine ⟨_, rfl, a, _, _, _, rfl, rfl, hs, atI_nat (j := 0) rfl, ?_⟩
          refine ⟨_, rfl, two, fun p1 hp1 => ⟨kS "many", [kS "letters", kS "self"], .str _, .tup (.inl (.inl upd_same)) (.cons (.str _) (.cons (.str _) .nil)), by decide +kernel, by decide +kernel, _, rfl, ?_⟩⟩
          refine iteF ⟨_, rfl, two, fun p2 hp2 => ⟨kS "many", [kS "both", kS "either"], .str _, .tup (.inl (.inl upd_same)) (.cons (.str _) (.cons (.str _) .nil)), by decide +kernel, by decide +kernel, _, rfl, ?_⟩⟩
          have g := (Gx.new (B := fun _ => False) (o := .tup [.str "letters", .str "self"]) hp1).trans (Gx.new (o := .tup [.str "both", .str "either"]) hp2)
          refine iteF ⟨_, rfl, _, rfl, a, _, _, _, rfl, rfl, MS.SqT.gx NoT.none g hs, atI_last1, (by show 1 ≤ sizeLine; decide), fun p3 hp3 => ?_⟩
          exact q _ _ (g.trans (Gx.new hp3)) (.tup (.inl (.inl upd_same)) (.cons ((h3.gr g).gr (Gx.new hp3)) .nil))
  | chance s' =>
    cases hd with
    | @tup a xs ds hs ha =>
      cases ha with
      | @cons x1 ys _ _ h1 h2 =>
        cases h1
        cases h2 with
        | @cons x2 ys2 _ _ h3 h4 =>
          cases h4
          refine ⟨_, rfl, a, _, _, _, rfl, rfl, hs, atI_nat (j := 0) rfl, ?_⟩
          refine ⟨_, rfl, two, fun p1 hp1 => ⟨kS "chance", [kS "letters", kS "self"], .str _, .tup (.inl (.inl upd_same)) (.cons (.str _) (.cons (.str _) .nil)), by decide +kernel, by decide +kernel, _, rfl, ?_⟩⟩
          refine iteF ⟨_, rfl, two, fun p2 hp2 => ⟨kS "chance", [kS "both", kS "either"], .str _, .tup (.inl (.inl upd_same)) (.cons (.str _) (.cons (.str _) .nil)), by decide +kernel, by decide +kernel, _, rfl, ?_⟩⟩
          have g := (Gx.new (B := fun _ => False) (o := .tup [.str "letters", .str "self"]) hp1).trans (Gx.new (o := .tup [.str "both", .str "either"]) hp2)
          refine iteF ⟨_, rfl, _, rfl, a, _, _, _, rfl, rfl, MS.SqT.gx NoT.none g hs, atI_last1, (by show 1 ≤ sizeLine; decide), fun p3 hp3 => ?_⟩
          exact q _ _ (g.trans (Gx.new hp3)) (.tup (.inl (.inl upd_same)) (.cons ((h3.gr g).gr (Gx.new hp3)) .nil))
end
end MS
end
section
set_option Elab.async false
set_option linter.all false
set_option maxRecDepth 100000
set_option maxHeartbeats 4000000
namespace MS
open PySem PySem.Spec PyProof.Rows L2 GE
abbrev s_check_shape : Stmt := top 15
abbrev s_size : Stmt := top 16
abbrev s_is_value : Stmt := top 28
abbrev s_count_values : Stmt := top 29
theorem cap_le : ∀ n, n ≤ 10 → Sh.cap n ≤ 349525 := by
  intro n hn
  have h : ∀ m : Fin 11, Sh.cap m.val ≤ 349525 := by decide +kernel
  exact h ⟨n, by omega⟩
section
variable {P : Program} {w : World} {K : PySem.W.Frag} {mg : Str → Option Value} {base : Heap} {fB fI : Addr} {dB dI : FuncData} {cI T : Addr}
/-! ### shapes_in -/
def spIn (K : PySem.W.Frag) (T : Addr) (n : Nat) : Sp := fun vs H Q _ => ∃ (v : V) (s : Sh), vs = [v] ∧ Dt K H v (Sh.data s) ∧ Sh.wf n s ∧ n ≤ 10 ∧ GxR.TabG H T ∧ ∀ H', Gr H H' → Q (.int (Sh.size s)) H'
theorem sc_shapes_in : FnScope ["shape"] ["shape"] (defScope s_shapes_in) := ⟨rfl, rfl, rfl, by decide +kernel, rfl, by decide +kernel, by decide +kernel⟩
structure ITxt (P : Program) (w : World) (K : PySem.W.Frag) (mg : Str → Option Value) (base : Heap) (fI fB : Addr) (dI dB : FuncData) (cI T : Addr) : Prop where
  B : Blt mg
  FI : FunC K "shapes_in" "shapes_in" s_shapes_in fI dI cI
  kI : PySem.W.keepIn K (.ref fI) = true
  gI : mg "shapes_in" = some (.ref fI)
  bI : Binds K dI ["shape"] []
  FB : Fun K "shapes_below" "shapes_below" s_shapes_below fB dB
  gB : mg "shapes_below" = some (.ref fB)
  bB : Binds K dB ["shape"] []
  TB : GxR.TabB base mg cI T
theorem gs_shapes_in {f : Addr} {cd : Value} {A : Around} {outer : List Env} {s : Shared} {H : Hp} {E : XK} {CX : CXT} (scope : Scope) (hk : scope.kind = .function) (hc : scope.isCoroutine = false) (h1 : ∀ y ∈ scope.names, y.2 ≠ .cell) (h2 : scope.names.lookup (".0" : Str) = some NameKind.local)
    (h3 : ∀ y ∈ scope.names, y.2 = .free → (defScope s_shapes_in).names.lookup y.1 = some .cell ∨ (defScope s_shapes_in).names.lookup y.1 = some .free) :
    GScp (cxOf CX P w K mg base ["shape"] "shapes_in" (defScope s_shapes_in) f cd A outer s H E) scope ["inner"] [] :=
  ⟨hk, hc, h1, h2, h3, fun p hp => by simp at hp⟩
theorem none_in {n : Nat} : FnOk P w K mg base CX0 n fI dI ["shape"] (spIn K T 0) := by
  have no : ∀ vs H Q E, ¬ spIn K T 0 vs H Q E := fun vs H Q E h => by
    obtain ⟨_, _, _, _, h, _⟩ := h
    exact h
  exact ⟨fun vs H Q E h => absurd h (no vs H Q E), fun A outer s H args us vs Q E _ _ _ _ h => absurd h (no vs H Q E)⟩
theorem ok_shapes_in {n : Nat} (X : ITxt P w K mg base fI fB dI dB cI T) (GI : FnOk P w K mg base CX0 (2 * n + 1) fI dI ["shape"] (spIn K T n)) : FnOk P w K mg base CX0 (2 * (n + 1) + 1) fI dI ["shape"] (spIn K T (n + 1)) := by
  refine X.FI.ok sc_shapes_in (fun vs H Q E h => ?_) (fun A outer s H vs Q E hr h => ?_)
  · obtain ⟨v, s, rfl, _⟩ := h
    rfl
  obtain ⟨v, s, rfl, hd, hw, hn, hT, q⟩ := h
  have GB : FnOk P w K mg base CX0 1 fB dB ["shape"] (spBelow K (n + 1)) := ok_shapes_below X.FB
  refine ⟨_, pss_one (ps_ret (pe_op op_add pe_int (pe_sumG (own := ["inner"]) (cap := []) (k := 2 * n + 1 + 1) hr (by rfl) X.B.sum (by decide +kernel) sc_shapes_in.nd X.TB rfl
      (gs_shapes_in _ rfl rfl (by decide +kernel) (by decide +kernel) (by decide +kernel)) (pi_tup (pe_call GB (hr.mono (by omega)) rfl X.gB X.FB.kp X.bB .nil pass0 (pa_cons (pv 0) pa_nil)))
      (fun sc H1 cl C code ex pn => ⟨pg_name (i := 0) (show (gN ["inner"] []).Nodup by decide +kernel) rfl (.inl rfl) (.inr rfl), pe_call GI (room_gen hr _) rfl X.gI X.kI X.bI .nil pass0 (pa_cons (pv 0) pa_nil)⟩)
      (fun _ => rfl)))), ?_⟩
  obtain ⟨hl4, hwi⟩ := Sh.wf_inner hw
  have hsz : ∀ x ∈ Sh.inner s, Sh.size x ≤ 349525 := fun x hx => Nat.le_trans (Sh.size_le n x (hwi x hx)) (cap_le n (by omega))
  have hall : Sh.sizes (Sh.inner s) ≤ 4 * 349525 := by
    have h1 := Sh.sizes_le (Sh.size_le n) (Sh.inner s) hwi
    have h2 : (Sh.inner s).length * Sh.cap n ≤ 4 * 349525 := Nat.mul_le_mul hl4 (cap_le n (by omega))
    omega
  refine ⟨v, rfl, v, s, rfl, hd, hw, hn, fun H1 a g1 ha => ?_⟩
  cases ha with
  | @tup _ xs ds hs hal =>
    have hlen : xs.length = (Sh.inner s).length := by rw [hal.length, Sh.datas_map, List.length_map]
    refine ⟨a, rfl, ⟨xs, hs⟩, g1.tab _ hT, fun H2 hT2 => ?_⟩
    have g2 : Gr H1 H2 := Gx.tabbed (g1.tab _ hT) hT2
    refine ⟨Wn xs.length (fun i al τ H' => ∃ y, τ = [y] ∧ al = ((Sh.sizes ((Sh.inner s).take i) : Nat) : Int) ∧ Gr H1 H'), ⟨xs.length, rfl, Nat.zero_le _, none, rfl, rfl, g2⟩,
      turns_tup (fun i al τ H' _ hp => MS.SqT.gx NoT.none hp.choose_spec.2.2 hs) (fun i x al τ H' hx hp => ?_) (fun al τ H' hp => ?_)⟩
    · obtain ⟨y, rfl, rfl, g3⟩ := hp
      have hi : i < xs.length := (List.getElem?_eq_some_iff.mp hx).1
      obtain ⟨dx, hdx, hdt⟩ := hal.of_get hx
      rw [Sh.datas_map, List.getElem?_map] at hdx
      obtain ⟨sx, hsx, rfl⟩ := Option.map_eq_some_iff.mp hdx
      have hm : sx ∈ Sh.inner s := List.mem_of_getElem? hsx
      have b1 := hsz sx hm
      have b2 := Sh.sizes_take_le (Sh.inner s) i
      refine ⟨x, rfl, x, sx, rfl, hdt.gr g3, hwi sx hm, by omega, g3.tab _ (g1.tab _ hT), fun H4 g4 => ?_⟩
      refine cs_on hi ⟨by omega, by omega⟩ ⟨by omega, by omega⟩ ⟨_, rfl, ?_, g3.trans g4⟩
      rw [Sh.sizes_take_succ hsx]
      omega
    · obtain ⟨y, rfl, rfl, g3⟩ := hp
      refine ⟨1, _, rfl, rfl, ?_⟩
      have e : (1 : Int) + ((Sh.sizes ((Sh.inner s).take xs.length) : Nat) : Int) = ((Sh.size s : Nat) : Int) := by
        rw [Sh.size_eq s, List.take_of_length_le (by omega)]
        omega
      show Q (.int ((1 : Int) + ((Sh.sizes ((Sh.inner s).take xs.length) : Nat) : Int))) H'
      rw [e]
      exact q H' (g1.trans g3)
theorem all_in (X : ITxt P w K mg base fI fB dI dB cI T) : ∀ n : Nat, FnOk P w K mg base CX0 (2 * n + 1) fI dI ["shape"] (spIn K T n)
  | 0 => none_in
  | n + 1 => ok_shapes_in X (all_in X n)
/-! ### check_shape, size, is_value, count_values -/
/-- refused by the class at C -/
def Rz (C : Addr) (E : XK) (H : Hp) : Prop := ∀ t H', Gr H H' → H' t = some (.tup []) → E (.ref C) (some t) H'
theorem Rz.later {C : Addr} {E : XK} {H H' : Hp} (h : Rz C E H) (g : Gr H H') : Rz C E H' := fun t H2 g2 e => h t H2 (g.trans g2) e
structure CTxt (K : PySem.W.Frag) (mg : Str → Option Value) (C : Addr) : Prop where
  gC : mg "BadShape" = some (.ref C)
  kC : PySem.W.keepIn K (.ref C) = true
  xC : PySem.W.excIn K C [.type "ValueError", .type "Exception", .type "BaseException", .type "object"] "ValueError.__new__" = true
  bC : PySem.W.subIn K (.ref C) (.type "BaseException") = some true
  tC : PySem.W.typeIn K (.ref C) = some (.type "type")
  mV : ∃ t, mg "MOST_LEVELS" = some (.int 6 t)
  mS : ∃ t, mg "MOST_SHAPES" = some (.int 40 t)
def CkIn (K : PySem.W.Frag) (C T1 T2 : Addr) (v : V) (H : Hp) (E : XK) (ok : Sh → Hp → Prop) : Prop := ∃ d, Dt K H v d ∧ SeqAt.shaped d = true ∧ GxR.TabG H T1 ∧ GxR.TabG H T2 ∧
  ((nested 6 d = false ∧ Rz C E H) ∨ ∃ s, d = Sh.data s ∧ Sh.wf 6 s ∧ (Sh.size s ≤ 40 → ∀ H', Gr H H' → ok s H') ∧ (¬ Sh.size s ≤ 40 → Rz C E H))
def spCheck (K : PySem.W.Frag) (C T1 T2 : Addr) : Sp := fun vs H Q E => ∃ v, vs = [v] ∧ CkIn K C T1 T2 v H E fun _ H' => Q .non H'
def spSize (K : PySem.W.Frag) (C T1 T2 : Addr) : Sp := fun vs H Q E => ∃ v, vs = [v] ∧ CkIn K C T1 T2 v H E fun s H' => Q (.int (Sh.size s)) H'
def spBad (K : PySem.W.Frag) (C T1 T2 : Addr) (n : Nat) : Sp := fun vs H Q E => ∃ v r d, vs = v :: r ∧ r.length = n ∧ Dt K H v d ∧ SeqAt.shaped d = true ∧ GxR.TabG H T1 ∧ GxR.TabG H T2 ∧ nested 6 d = false ∧ Rz C E H
theorem sc_check_shape : FnScope ["shape"] ["shape"] (defScope s_check_shape) := ⟨rfl, rfl, rfl, by decide +kernel, rfl, by decide +kernel, by decide +kernel⟩
theorem sc_size : FnScope ["shape"] ["shape"] (defScope s_size) := ⟨rfl, rfl, rfl, by decide +kernel, rfl, by decide +kernel, by decide +kernel⟩
theorem sc_is_value : FnScope ["shape", "states", "x"] ["shape", "states", "x"] (defScope s_is_value) := ⟨rfl, rfl, rfl, by decide +kernel, rfl, by decide +kernel, by decide +kernel⟩
theorem sc_count_values : FnScope ["shape", "states"] ["shape", "states"] (defScope s_count_values) := ⟨rfl, rfl, rfl, by decide +kernel, rfl, by decide +kernel, by decide +kernel⟩
/-- the two defs that check_shape asks -/
structure STxt (P : Program) (w : World) (K : PySem.W.Frag) (mg : Str → Option Value) (base : Heap) (fN fI : Addr) (dN dI : FuncData) (T1 T2 : Addr) : Prop where
  ON : FnOk P w K mg base CX0 21 fN dN ["shape", "levels"] (spNested K T1 7)
  gN : mg "is_nested" = some (.ref fN)
  kN : PySem.W.keepIn K (.ref fN) = true
  bN : Binds K dN ["shape", "levels"] []
  OI : FnOk P w K mg base CX0 13 fI dI ["shape"] (spIn K T2 6)
  gI : mg "shapes_in" = some (.ref fI)
  kI : PySem.W.keepIn K (.ref fI) = true
  bI : Binds K dI ["shape"] []
variable {fN fC fS fV : Addr} {dN dC dS dV : FuncData} {C T1 T2 : Addr}
theorem ok_check_shape (F : Fun K "check_shape" "check_shape" s_check_shape fC dC) (X : STxt P w K mg base fN fI dN dI T1 T2) (Z : CTxt K mg C) : FnOk P w K mg base (EA.CX EA.Za P w) 22 fC dC ["shape"] (spCheck K C T1 T2) := by
  obtain ⟨tV, mV⟩ := Z.mV
  obtain ⟨tS, mS⟩ := Z.mS
  refine EA.okX F sc_check_shape (fun vs H Q E h => ?_) (fun cdv A outer s H vs Q E hr h => ?_)
  · obtain ⟨v, rfl, _⟩ := h
    rfl
  obtain ⟨v, rfl, d, hd, hsh, hT1, hT2, q⟩ := h
  refine ⟨_, pss_one (ps_if (PW.pt (pw_or (pt_not (pt_val (pe_call X.ON hr rfl X.gN X.kN X.bN .nil pass0 (pa_cons (pv 0) (pa_cons (pe_glob rfl mV (v := .int 6) ⟨_, rfl⟩) pa_nil)))))
      (pw_or1 (pt_cmpR op_gt (pe_call X.OI (hr.mono (by omega)) rfl X.gI X.kI X.bI .nil pass0 (pa_cons (pv 0) pa_nil)) (pe_glob rfl mS (v := .int 40) ⟨_, rfl⟩) (nomark _)))))
      (pss_one (EA.ps_raise EA.zaOk rfl (EA.takes_of EA.zaOk rfl rfl rfl rfl) (EA.pmk0 PySem.F.excBase_ValueError Z.xC Z.gC Z.kC (raises_own Z.bC Z.tC) (by rfl)))) pss_nil), ?_⟩
  refine ⟨v, rfl, v, d, 6, rfl, by decide, hd, hsh, hT1, fun H1 g1 => ⟨_, rfl, ?_⟩⟩
  rcases q with ⟨hb, hz⟩ | ⟨s, rfl, hw, hyes, hno⟩
  · rw [hb]
    exact iteT fun t ht => hz t _ (g1.trans (Gx.new ht)) upd_same
  · rw [nested_data 6 s hw]
    refine iteF ⟨v, rfl, v, s, rfl, hd.gr g1, hw, by decide, g1.tab _ hT2, fun H2 g2 => ⟨_, _, rfl, rfl, _, rfl, ite2 (fun c => ?_) (fun c => ?_)⟩⟩
    · have c' : (40 : Int) < ((Sh.size s : Nat) : Int) := of_decide_eq_true c
      exact fun t ht => hno (by omega) t _ ((g1.trans g2).trans (Gx.new ht)) upd_same
    · have c' : ¬ (40 : Int) < ((Sh.size s : Nat) : Int) := of_decide_eq_false (Bool.eq_false_iff.mpr c)
      exact hyes (by omega) _ (g1.trans g2)
theorem ok_size (F : Fun K "size" "size" s_size fS dS) (FC : FnOk P w K mg base (EA.CX EA.Za P w) 22 fC dC ["shape"] (spCheck K C T1 T2)) (gC : mg "check_shape" = some (.ref fC)) (kC : PySem.W.keepIn K (.ref fC) = true) (bC : Binds K dC ["shape"] []) (X : STxt P w K mg base fN fI dN dI T1 T2) :
    FnOk P w K mg base (EA.CX EA.Za P w) 23 fS dS ["shape"] (spSize K C T1 T2) := by
  refine EA.okX F sc_size (fun vs H Q E h => ?_) (fun cdv A outer s H vs Q E hr h => ?_)
  · obtain ⟨v, rfl, _⟩ := h
    rfl
  obtain ⟨v, rfl, d, hd, hsh, hT1, hT2, q⟩ := h
  refine ⟨_, pss_cons (ps_expr (pe_call FC hr rfl gC kC bC .nil (EA.passes_call (EA.takes_of EA.zaOk rfl rfl rfl rfl) fun _ _ _ _ h => h) (pa_cons (pv 0) pa_nil)))
    (pss_one (ps_ret (pe_call X.OI (hr.mono (by omega)) rfl X.gI X.kI X.bI .nil pass0 (pa_cons (pv 0) pa_nil)))), ?_⟩
  refine ⟨v, rfl, v, rfl, d, hd, hsh, hT1, hT2, ?_⟩
  rcases q with ⟨hb, hz⟩ | ⟨s, rfl, hw, hyes, hno⟩
  · exact .inl ⟨hb, hz⟩
  · exact .inr ⟨s, rfl, hw, fun h1 H' g => ⟨v, rfl, v, s, rfl, hd.gr g, hw, by decide, g.tab _ hT2, fun H2 g2 => hyes h1 H2 (g.trans g2)⟩, hno⟩
theorem ok_is_value (F : Fun K "is_value" "is_value" s_is_value fV dV) (FC : FnOk P w K mg base (EA.CX EA.Za P w) 22 fC dC ["shape"] (spCheck K C T1 T2)) (gC : mg "check_shape" = some (.ref fC)) (kC : PySem.W.keepIn K (.ref fC) = true) (bC : Binds K dC ["shape"] []) :
    FnOk P w K mg base (EA.CX EA.Za P w) 23 fV dV ["shape", "states", "x"] (spBad K C T1 T2 2) := by
  refine EA.okX F sc_is_value (fun vs H Q E h => ?_) (fun cdv A outer s H vs Q E hr h => ?_)
  · obtain ⟨v, r, d, rfl, hl, _⟩ := h
    show r.length + 1 = 3
    omega
  obtain ⟨v, r, d, rfl, hl, hd, hsh, hT1, hT2, hb, hz⟩ := h
  refine ⟨_, pss_cons (ps_expr (pe_call FC hr rfl gC kC bC .nil (EA.passes_call (EA.takes_of EA.zaOk rfl rfl rfl rfl) fun _ _ _ _ h => h) (pa_cons (pv 0) pa_nil))) (pss_one ps_never), ?_⟩
  exact ⟨v, rfl, v, rfl, d, hd, hsh, hT1, hT2, .inl ⟨hb, hz⟩⟩
theorem ok_count_values (F : Fun K "count_values" "count_values" s_count_values fV dV) (FC : FnOk P w K mg base (EA.CX EA.Za P w) 22 fC dC ["shape"] (spCheck K C T1 T2)) (gC : mg "check_shape" = some (.ref fC)) (kC : PySem.W.keepIn K (.ref fC) = true) (bC : Binds K dC ["shape"] []) :
    FnOk P w K mg base (EA.CX EA.Za P w) 23 fV dV ["shape", "states"] (spBad K C T1 T2 1) := by
  refine EA.okX F sc_count_values (fun vs H Q E h => ?_) (fun cdv A outer s H vs Q E hr h => ?_)
  · obtain ⟨v, r, d, rfl, hl, _⟩ := h
    show r.length + 1 = 2
    omega
  obtain ⟨v, r, d, rfl, hl, hd, hsh, hT1, hT2, hb, hz⟩ := h
  refine ⟨_, pss_cons (ps_expr (pe_call FC hr rfl gC kC bC .nil (EA.passes_call (EA.takes_of EA.zaOk rfl rfl rfl rfl) fun _ _ _ _ h => h) (pa_cons (pv 0) pa_nil))) (pss_one ps_never), ?_⟩
  exact ⟨v, rfl, v, rfl, d, hd, hsh, hT1, hT2, .inl ⟨hb, hz⟩⟩
end
end MS
end
section
set_option Elab.async false
set_option linter.all false
set_option maxRecDepth 100000
set_option maxHeartbeats 4000000
namespace MS
open PySem PySem.Spec PyProof.Rows L2 GE
abbrev s_law_box : Stmt := top 45
abbrev s_law_take : Stmt := top 46
abbrev s_law_pick : Stmt := top 47
/-! ### the box -/
/-- the box at b, its cells at l -/
structure Bx (b l : Addr) (ns : List Int) (H : Hp) : Prop where
  at_ : ∃ c k a : Int, H b = some (.lst [.int c, .int k, .int a, .ref l]) ∧ 0 ≤ c ∧ -9 ≤ k ∧ k ≤ 60 ∧ 0 ≤ a
  cells : H l = some (.lst (ns.map V.int))
  ne : l ≠ b
  pos : ∀ n ∈ ns, (0 : Int) ≤ n
  len : ns.length ≤ 63
abbrev Gb (b : Addr) : Hp → Hp → Prop := Gx fun a => a = b
/-- all but what stands at b is as it was -/
def Ub (b : Addr) (H H' : Hp) : Prop := ∀ x, x ≠ b → H' x = H x
theorem Ub.refl {b : Addr} {H : Hp} : Ub b H H := fun _ _ => rfl
theorem Ub.put {b : Addr} {H H' : Hp} {o : HO} (u : Ub b H H') : Ub b H (upd H' b o) := fun x hx => (upd_ne hx).trans (u x hx)
theorem Ub.gb {b : Addr} {H H' : Hp} {xs : List V} (h : H b = some (.lst xs)) (u : Ub b H H') : Gb b H H' :=
  ⟨fun a o e nb _ => (u a nb).trans e, fun P ⟨ps, e, t⟩ => ⟨ps, (u P fun z => by rw [z, h] at e; cases e).trans e, t⟩⟩
theorem Bx.lst {b l : Addr} {ns : List Int} {H : Hp} (x : Bx b l ns H) : ∃ xs, H b = some (.lst xs) := by
  obtain ⟨c, k, a, h, _⟩ := x.at_
  exact ⟨_, h⟩
theorem Bx.not {b l : Addr} {ns : List Int} {H : Hp} (x : Bx b l ns H) : NoT (fun a => a = b) H := fun a e => by rw [e]; exact x.lst
theorem Bx.gr {b l : Addr} {ns : List Int} {H H' : Hp} (x : Bx b l ns H) (g : Gr H H') : Bx b l ns H' := by
  obtain ⟨⟨c, k, a, h, r⟩, h2, h3, h4, h5⟩ := x
  exact ⟨⟨c, k, a, g.keep _ _ h (fun z => z) (fun ps z => by cases z), r⟩, g.keep _ _ h2 (fun z => z) (fun ps z => by cases z), h3, h4, h5⟩
theorem Bx.put {b l : Addr} {ns : List Int} {H H' : Hp} {c k a : Int} (x : Bx b l ns H) (u : Ub b H H') (h : H' b = some (.lst [.int c, .int k, .int a, .ref l])) (h1 : 0 ≤ c) (h2 : -9 ≤ k) (h3 : k ≤ 60) (h4 : 0 ≤ a) : Bx b l ns H' :=
  ⟨⟨c, k, a, h, h1, h2, h3, h4⟩, (u l x.ne).trans x.cells, x.ne, x.pos, x.len⟩
structure Blt2 (mg : Str → Option Value) : Prop where
  abs : mg "abs" = none
  int : mg "int" = none
  len : mg "len" = none
  range : mg "range" = none
section
variable {P : Program} {w : World} {K : PySem.W.Frag} {mg : Str → Option Value} {base : Heap} {f fT : Addr} {fd dT : FuncData}
def spTake : Sp := fun vs H Q _ => ∃ (b l : Addr) (ns : List Int) (m : Int), vs = [.ref b, .int m] ∧ 1 ≤ m ∧ m ≤ 1000 ∧ Bx b l ns H ∧ ∀ (r : Int) H', 0 ≤ r → r < m → Bx b l ns H' → Gb b H H' → Q (.int r) H'
theorem sc_law_take : FnScope ["box", "m", "at", "cell", "told"] ["box", "m"] (defScope s_law_take) := ⟨rfl, rfl, rfl, by decide +kernel, rfl, by decide +kernel, by decide +kernel⟩
theorem fmod_in {i m : Int} (h : 0 < m) : 0 ≤ i.fmod m ∧ i.fmod m < m := ⟨Int.fmod_nonneg_of_pos i h, Int.fmod_lt_of_pos i h⟩
theorem ixn {n j : Nat} (hj : j < n) : ixN n (j : Int) = some j := by
  unfold ixN
  rw [if_pos (by omega), if_pos (by omega)]
  simp
abbrev kTake : List Str := ["box", "m", "at", "cell", "told"]
theorem take_rest (B : Blt2 mg) {cdv : Value} {A : Around} {outer : List Env} {s : Shared} {H0 : Hp} {E : XK} :
    ∃ t, PSs (cxOf CX0 P w K mg base kTake "_law_take" (defScope s_law_take) f cdv A outer s H0 E).nox (defBody s_law_take).tail t ∧
      ∀ (Q : VK) (b l : Addr) (ns : List Int) (m : Int) (H H1 : Hp) (c k a : Int) (y2 y3 y4 : Option V), 1 ≤ m → m ≤ 1000 → Bx b l ns H → Ub b H H1 → H1 b = some (.lst [.int c, .int k, .int a, .ref l]) → 0 ≤ c → -9 ≤ k → k ≤ 60 → 0 ≤ a → k ≠ 0 →
        (∀ (r : Int) H', 0 ≤ r → r < m → Bx b l ns H' → Gb b H H' → Q (.int r) H') → t { nx := fun _ H' => Q .non H', rt := Q } [some (.ref b), some (.int m), y2, y3, y4] H1 := by
  refine ⟨_, pss_cons (ps_if (pt_cmpR op_gt (pe_ix ix_list (pv 0) pe_int (fun _ _ => rfl)) pe_int (nomark _))
      (pss_cons (ps_set (i := 4) sc_law_take.nd rfl (.inl rfl) (pe_op op_mod (pe_callTy call_int1 (by rfl) B.int (by decide +kernel) (pa_cons (pe_ix ix_list (pv 0) pe_int (fun _ _ => rfl)) pa_nil)) (pv 1)))
      (pss_cons (ps_asg (pe_op op_fdiv (pe_ix ix_list (pv 0) pe_int (fun _ _ => rfl)) (pv 1)) (pg_sub (pv 0) pe_int set_list))
      (pss_cons (ps_asg (pe_ifExp (pt_cmpR op_gt (pe_ix ix_list (pv 0) pe_int (fun _ _ => rfl)) pe_int (nomark _)) (pe_op op_sub (pe_ix ix_list (pv 0) pe_int (fun _ _ => rfl)) pe_int) pe_int) (pg_sub (pv 0) pe_int set_list))
      (pss_one (ps_ret (pv 4)))))) pss_nil)
    (pss_cons (ps_asg (pe_op op_add (pe_ix ix_list (pv 0) pe_int (fun _ _ => rfl)) pe_int) (pg_sub (pv 0) pe_int set_list))
    (pss_cons (ps_asg (pe_op op_mod (pe_callTy call_int1 (by rfl) B.int (by decide +kernel) (pa_cons (pe_op op_add (pe_op op_mul (pe_ix ix_list (pv 0) pe_int (fun _ _ => rfl)) pe_int) (pe_op op_mul pe_int (pe_op op_add (pe_ix ix_list (pv 0) pe_int (fun _ _ => rfl)) pe_int))) pa_nil)) pe_int) (pg_sub (pv 0) pe_int set_list))
    (pss_one (ps_ret (pe_op op_mod (pe_op op_mod (pe_callTy call_int1 (by rfl) B.int (by decide +kernel) (pa_cons (pe_op op_add (pe_op op_fdiv (pe_ix ix_list (pv 0) pe_int (fun _ _ => rfl)) pe_int) (pe_ix ix_list (pv 0) pe_int (fun _ _ => rfl))) pa_nil)) pe_int) (pv 1)))))), ?_⟩
  intro Q b l ns m H H1 c k a y2 y3 y4 m1 m2 hB u1 h1 hc hk1 hk2 ha hk q
  obtain ⟨xs, hb0⟩ := hB.lst
  refine ⟨_, rfl, b, _, _, _, rfl, rfl, SqL.of h1, atI_nat (j := 1) rfl, _, _, rfl, rfl, _, rfl, ite2 (fun c1 => ?_) (fun c1 => ?_)⟩
  · have c1 : 0 < k := of_decide_eq_true c1
    refine ⟨_, rfl, b, _, _, _, rfl, rfl, SqL.of h1, atI_nat (j := 0) rfl, .inl ⟨_, rfl, _, rfl, _, _, rfl, rfl, (by show (0 : Int) < m; omega), ?_⟩⟩
    refine ⟨_, rfl, b, _, _, _, rfl, rfl, SqL.of h1, atI_nat (j := 0) rfl, _, rfl, _, _, rfl, rfl, ⟨(by show (0 : Int) < m; omega), (by show m < 1073741824; omega)⟩, _, rfl, b, _, _, _, rfl, rfl, h1, ixn (j := 0) (show 0 < 4 by decide), ?_⟩
    have h2 : (upd H1 b (.lst [.int (c / m), .int k, .int a, .ref l])) b = some (.lst [.int (c / m), .int k, .int a, .ref l]) := upd_same
    have u2 : Ub b H (upd H1 b (.lst [.int (c / m), .int k, .int a, .ref l])) := u1.put
    have hc2 : 0 ≤ c / m := Int.ediv_nonneg hc (by omega)
    refine ⟨_, rfl, b, _, _, _, rfl, rfl, SqL.of h2, atI_nat (j := 0) rfl, _, _, rfl, rfl, _, rfl, ite2 (fun c2 => ?_) (fun c2 => ?_)⟩
    · refine ⟨_, rfl, b, _, _, _, rfl, rfl, SqL.of h2, atI_nat (j := 1) rfl, _, _, rfl, rfl, _, rfl, b, _, _, _, rfl, rfl, h2, ixn (j := 1) (show 1 < 4 by decide), ?_⟩
      have h3 : (upd (upd H1 b (.lst [.int (c / m), .int k, .int a, .ref l])) b (.lst [.int (c / m), .int (k - 1), .int a, .ref l])) b = some (.lst [.int (c / m), .int (k - 1), .int a, .ref l]) := upd_same
      exact ⟨_, rfl, q _ _ (Int.emod_nonneg c (by omega)) (Int.emod_lt_of_pos c (by omega)) (hB.put u2.put h3 hc2 (by omega) (by omega) ha) (Ub.gb hb0 u2.put)⟩
    · refine ⟨_, rfl, b, _, _, _, rfl, rfl, h2, ixn (j := 1) (show 1 < 4 by decide), ?_⟩
      have h3 : (upd (upd H1 b (.lst [.int (c / m), .int k, .int a, .ref l])) b (.lst [.int (c / m), .int 0, .int a, .ref l])) b = some (.lst [.int (c / m), .int 0, .int a, .ref l]) := upd_same
      exact ⟨_, rfl, q _ _ (Int.emod_nonneg c (by omega)) (Int.emod_lt_of_pos c (by omega)) (hB.put u2.put h3 hc2 (by omega) (by omega) ha) (Ub.gb hb0 u2.put)⟩
  · have c1 : ¬ 0 < k := of_decide_eq_false (Bool.eq_false_iff.mpr c1)
    refine ⟨_, rfl, b, _, _, _, rfl, rfl, SqL.of h1, atI_nat (j := 1) rfl, _, _, rfl, rfl, _, rfl, b, _, _, _, rfl, rfl, h1, ixn (j := 1) (show 1 < 4 by decide), ?_⟩
    have h2 : (upd H1 b (.lst [.int c, .int (k + 1), .int a, .ref l])) b = some (.lst [.int c, .int (k + 1), .int a, .ref l]) := upd_same
    have u2 : Ub b H (upd H1 b (.lst [.int c, .int (k + 1), .int a, .ref l])) := u1.put
    refine ⟨_, rfl, b, _, _, _, rfl, rfl, SqL.of h2, atI_nat (j := 0) rfl, _, _, rfl, rfl, .inr ⟨by decide, by decide⟩, ?_⟩
    refine ⟨_, rfl, b, _, _, _, rfl, rfl, SqL.of h2, atI_nat (j := 1) rfl, _, _, rfl, rfl, _, _, rfl, rfl, .inl ⟨by decide, by decide⟩, _, _, rfl, rfl, .inl ⟨_, rfl, _, _, rfl, rfl, (by show (0 : Int) < 2147483647; decide), ?_⟩⟩
    refine ⟨_, rfl, b, _, _, _, rfl, rfl, h2, ixn (j := 0) (show 0 < 4 by decide), ?_⟩
    have x0 : 0 ≤ (c * 48271 + 69621 * (k + 1 + 20)) % 2147483647 := Int.emod_nonneg _ (by decide)
    have h3 : (upd (upd H1 b (.lst [.int c, .int (k + 1), .int a, .ref l])) b (.lst [.int ((c * 48271 + 69621 * (k + 1 + 20)) % 2147483647), .int (k + 1), .int a, .ref l])) b = some (.lst [.int ((c * 48271 + 69621 * (k + 1 + 20)) % 2147483647), .int (k + 1), .int a, .ref l]) := upd_same
    refine ⟨_, rfl, b, _, _, _, rfl, rfl, SqL.of h3, atI_nat (j := 0) rfl, _, _, rfl, rfl, ⟨by decide, by decide⟩, ?_⟩
    refine ⟨_, rfl, b, _, _, _, rfl, rfl, SqL.of h3, atI_nat (j := 0) rfl, _, _, rfl, rfl, .inl ⟨_, rfl, _, _, rfl, rfl, (by show (0 : Int) < 1000003; decide), _, rfl, _, _, rfl, rfl, (by show (0 : Int) < m; omega), ?_⟩⟩
    exact q _ _ (Int.emod_nonneg _ (by omega)) (Int.emod_lt_of_pos _ (by omega)) (hB.put u2.put h3 x0 (by omega) (by omega) ha) (Ub.gb hb0 u2.put)
theorem pow18 : (10 : Int) ^ (18 : Int).toNat = 1000000000000000000 := by decide
theorem ok_law_take {k : Nat} (B : Blt2 mg) (F : Fun K "_law_take" "_law_take" s_law_take f fd) : FnOk P w K mg base CX0 (k + 1) f fd ["box", "m"] spTake := by
  refine F.ok sc_law_take (fun vs H Q E h => ?_) (fun cdv A outer s H vs Q E hr h => ?_)
  · obtain ⟨b, l, ns, m, rfl, _⟩ := h
    rfl
  obtain ⟨b, l, ns, m, rfl, m1, m2, hB, q⟩ := h
  obtain ⟨t, ht, hq⟩ := take_rest (P := P) (w := w) (K := K) (mg := mg) (base := base) (f := f) B (cdv := cdv) (A := A) (outer := outer) (s := s) (H0 := H) (E := E)
  refine ⟨_, pss_cons (ps_if (pt_cmpR op_eq (pe_ix ix_list (pv 0) pe_int (fun _ _ => rfl)) pe_int (nomark _))
      (pss_cons (ps_set (i := 2) sc_law_take.nd rfl (.inl rfl) (pe_ix ix_list (pv 0) pe_int (fun _ _ => rfl)))
      (pss_cons (ps_set (i := 3) sc_law_take.nd rfl (.inl rfl) pe_int)
      (pss_cons (ps_if (pt_cmpR op_lt (pv 2) (pe_callB call_len_seq (by rfl) B.len PySem.boot_len (pa_cons (pe_ix ix_list (pv 0) pe_int (fun _ _ => rfl)) pa_nil)) (nomark _))
          (pss_cons (ps_set (i := 3) sc_law_take.nd rfl (.inl rfl) (pe_ix ix_list (pe_ix ix_list (pv 0) pe_int (fun _ _ => rfl)) (pv 2) (fun _ _ => rfl)))
          (pss_one (ps_asg (pe_ifExp (pt_cmpR op_ge (pv 3) (pe_op op_pow pe_int pe_int) (nomark _)) pe_int (pe_un un_neg pe_int)) (pg_sub (pv 0) pe_int set_list)))) pss_nil)
      (pss_cons (ps_asg (pe_op op_add (pv 2) pe_int) (pg_sub (pv 0) pe_int set_list))
      (pss_cons (ps_asg (pv 3) (pg_sub (pv 0) pe_int set_list))
      (pss_one (ps_if (pt_cmpR op_eq (pe_ix ix_list (pv 0) pe_int (fun _ _ => rfl)) pe_int (nomark _)) (pss_one (ps_ret pe_int)) pss_nil))))))) pss_nil) ht, ?_⟩
  obtain ⟨c, k, a, h, hc, hk1, hk2, ha⟩ := hB.at_
  refine ⟨_, rfl, b, _, _, _, rfl, rfl, SqL.of h, atI_nat (j := 1) rfl, rfl, _, rfl, ite2 (fun c1 => ?_) (fun c1 => ?_)⟩
  · have c1 : k = 0 := V.int.inj (of_decide_eq_true c1)
    subst c1
    refine ⟨_, rfl, b, _, _, _, rfl, rfl, SqL.of h, atI_nat (j := 2) rfl, ?_⟩
    obtain ⟨xs, hb0⟩ := hB.lst
    have main : ∀ k2 v : Int, -9 ≤ k2 → k2 ≤ 60 → 0 ≤ v → ∀ H1, Ub b H H1 → H1 b = some (.lst [.int c, .int k2, .int a, .ref l]) →
        tSeq (tAsg (tOp (rI0 fun i j => .int (i + j)) (tVar 2) (tC (.int 1))) (gSub (tVar 0) (tC (.int 2)) rSetL)) (tSeq (tAsg (tVar 3) (gSub (tVar 0) (tC (.int 0)) rSetL)) (tIfS (tTest (tOp rEq (tOp (rIxL K) (tVar 0) (tC (.int 1))) (tC (.int 0)))) (tRet (tC (.int 0))) tNext))
          { nx := t { nx := fun _ H' => Q .non H', rt := Q }, rt := Q } [some (.ref b), some (.int m), some (.int a), some (.int v), none] H1 := by
      intro k2 v g1 g2 g3 H1 u1 h1
      refine ⟨_, rfl, _, _, rfl, rfl, _, rfl, b, _, _, _, rfl, rfl, h1, ixn (j := 2) (show 2 < 4 by decide), ?_⟩
      have h2 : (upd H1 b (.lst [.int c, .int k2, .int (a + 1), .ref l])) b = some (.lst [.int c, .int k2, .int (a + 1), .ref l]) := upd_same
      have u2 : Ub b H (upd H1 b (.lst [.int c, .int k2, .int (a + 1), .ref l])) := u1.put
      refine ⟨_, rfl, _, rfl, b, _, _, _, rfl, rfl, h2, ixn (j := 0) (show 0 < 4 by decide), ?_⟩
      have h3 : (upd (upd H1 b (.lst [.int c, .int k2, .int (a + 1), .ref l])) b (.lst [.int v, .int k2, .int (a + 1), .ref l])) b = some (.lst [.int v, .int k2, .int (a + 1), .ref l]) := upd_same
      refine ⟨_, rfl, b, _, _, _, rfl, rfl, SqL.of h3, atI_nat (j := 1) rfl, rfl, _, rfl, ite2 (fun e => ?_) (fun e => ?_)⟩
      · exact q 0 _ (by decide) (by omega) (hB.put u2.put h3 g3 g1 g2 (by omega)) (Ub.gb hb0 u2.put)
      · have e : k2 ≠ 0 := fun z => e (decide_eq_true (congrArg V.int z))
        exact hq Q b l ns m H _ v k2 (a + 1) _ _ none m1 m2 hB u2.put h3 g3 g1 g2 (by omega) e q
    refine ⟨_, rfl, _, rfl, b, _, _, _, rfl, rfl, SqL.of h, atI_nat (j := 3) rfl, l, _, rfl, .inl (SqL.of hB.cells), _, _, rfl, rfl, _, rfl, ite2 (fun c2 => ?_) (fun c2 => ?_)⟩
    · have c2 : a < (((ns.map V.int).length : Nat) : Int) := of_decide_eq_true c2
      rw [List.length_map] at c2
      have hn : a.toNat < ns.length := by omega
      have e1 : (ns.map V.int)[a.toNat]? = some (.int ns[a.toNat]) := by rw [List.getElem?_map, List.getElem?_eq_getElem hn]; rfl
      have e2 : atI (ns.map V.int) a = some (.int ns[a.toNat]) := by
        have z : atI (ns.map V.int) ((a.toNat : Nat) : Int) = some (.int ns[a.toNat]) := atI_nat e1
        have ez : ((a.toNat : Nat) : Int) = a := by omega
        rw [ez] at z
        exact z
      have p0 : 0 ≤ ns[a.toNat] := hB.pos _ (List.getElem_mem hn)
      refine ⟨_, rfl, b, _, _, _, rfl, rfl, SqL.of h, atI_nat (j := 3) rfl, _, rfl, l, _, _, _, rfl, rfl, SqL.of hB.cells, e2, ?_⟩
      refine ⟨_, rfl, _, _, rfl, rfl, ⟨by decide, by decide, by decide⟩, _, _, rfl, rfl, _, rfl, ite2 (fun c3 => ?_) (fun c3 => ?_)⟩
      · exact ⟨_, rfl, b, _, _, _, rfl, rfl, h, ixn (j := 1) (show 1 < 4 by decide), main 60 _ (by decide) (by decide) p0 _ (Ub.refl.put) upd_same⟩
      · exact ⟨_, rfl, _, rfl, b, _, _, _, rfl, rfl, h, ixn (j := 1) (show 1 < 4 by decide), main (-9) _ (by decide) (by decide) p0 _ (Ub.refl.put) upd_same⟩
    · exact main 0 0 (by decide) (by decide) (by decide) H Ub.refl h
  · have c1 : k ≠ 0 := fun z => c1 (decide_eq_true (congrArg V.int z))
    exact hq Q b l ns m H H c k a none none none m1 m2 hB Ub.refl h hc hk1 hk2 ha c1 q
end
end MS
end
section
set_option Elab.async false
set_option linter.all false
set_option maxRecDepth 100000
set_option maxHeartbeats 4000000
namespace MS
open PySem PySem.Spec PyProof.Rows L2 GE
section
variable {P : Program} {w : World} {K : PySem.W.Frag} {mg : Str → Option Value} {base : Heap} {f fT : Addr} {fd dT : FuncData}
theorem SqL.gr {H H' : Hp} {a : Addr} {xs : List V} (x : Gr H H') (h : SqL K H a xs) : SqL K H' a xs := by
  rcases h with h | h
  · rcases h with h | ⟨o, h⟩
    · exact .inl (.inl (x.keep _ _ h (fun z => z) fun ps z => by cases z))
    · exact .inl (.inr ⟨o, x.keep _ _ h (fun z => z) fun ps z => by cases z⟩)
  · exact .inr h
theorem Ub.gr {b : Addr} {H H' : Hp} (h : H b = none) (u : Ub b H H') : Gr H H' :=
  ⟨fun a o e _ _ => (u a fun z => by rw [z, h] at e; cases e).trans e, fun P ⟨ps, e, t⟩ => ⟨ps, (u P fun z => by rw [z, h] at e; cases e).trans e, t⟩⟩
abbrev s_law_size : Stmt := top 50
def absI (i : Int) : Int := if i < 0 then -i else i
def spBox (K : PySem.W.Frag) : Sp := fun vs H Q _ => ∃ (a : Addr) (ns : List Int), vs = [.ref a] ∧ ns.length ≤ 63 ∧ SqL K H a (ns.map V.int) ∧ ∀ (b l : Addr) (ms : List Int) H', Gr H H' → Bx b l ms H' → Q (.ref b) H'
abbrev kBox : List Str := ["script", "x"]
theorem sc_law_box : FnScope kBox ["script"] (defScope s_law_box) := ⟨rfl, rfl, rfl, by decide +kernel, rfl, by decide +kernel, by decide +kernel⟩
theorem ok_law_box {k : Nat} (B : Blt2 mg) (F : Fun K "_law_box" "_law_box" s_law_box f fd) : FnOk P w K mg base CX0 (k + 1) f fd ["script"] (spBox K) := by
  refine F.ok sc_law_box (fun vs H Q E h => ?_) (fun cdv A outer s H vs Q E hr h => ?_)
  · obtain ⟨a, ns, rfl, _⟩ := h
    rfl
  obtain ⟨a, ns, rfl, hl, hS, q⟩ := h
  refine ⟨_, pss_one (ps_ret (pe_lst (pa_cons pe_int (pa_cons pe_int (pa_cons pe_int (pa_cons
    (pe_lc (own := [("x", 1)]) (g := gName 1) (tt := tYes) rfl sc_law_box.nd (pi_list (pv 0)) (blkOk_by (own := [("x", 1)]) (N := kBox) (sc := defScope s_law_box) (by decide +kernel))
      (fun _ _ _ _ _ => pg_name (i := 1) sc_law_box.nd rfl (Or.inl rfl)) (fun _ _ _ _ _ => pts_nil)
      (fun _ _ _ _ _ => pe_callB call_abs (by rfl) B.abs (by decide +kernel) (pa_cons (pe_callTy call_int1 (by rfl) B.int (by decide +kernel) (pa_cons (pv 1) pa_nil)) pa_nil))) pa_nil)))))), ?_⟩
  refine ⟨.ref a, rfl, a, rfl, ⟨_, hS⟩, fun D hD => ?_⟩
  refine lc_list (xs := ns.map V.int) (fun i H' => H' D = some (.lst (((ns.take i).map absI).map V.int)) ∧ Ub D H H') ⟨upd_same, Ub.refl.put⟩ (fun i H' _ p => SqL.gr (Ub.gr hD p.2) hS) (fun i x H' hx p => ?_) fun H' p => ?_
  · rw [List.getElem?_map] at hx
    obtain ⟨n, hn, rfl⟩ := Option.map_eq_some_iff.mp hx
    have hi : i < ns.length := (List.getElem?_eq_some_iff.mp hn).1
    refine ⟨rfl, _, rfl, .inl ⟨n, rfl, n, rfl, _, p.1, ?_, ?_, p.2.put⟩⟩
    · rw [List.length_map, List.length_map, List.length_take, sizeLine_eq]
      omega
    · rw [upd_same, List.take_succ, hn]
      simp [absI]
  · rw [List.length_map, List.take_length] at p
    refine ⟨by rw [sizeLine_eq]; exact (show 4 ≤ 16777216 by decide), fun b hb => ?_⟩
    have hne : D ≠ b := ne_of_none p.1 hb
    refine q b D (ns.map absI) _ ((Ub.gr hD p.2).trans (Gx.new hb)) ⟨⟨0, 0, 0, upd_same, by decide, by decide, by decide, by decide⟩, (upd_ne hne).trans p.1, hne, fun n hn => ?_, by rw [List.length_map]; exact hl⟩
    obtain ⟨m, _, rfl⟩ := List.mem_map.mp hn
    unfold absI
    split <;> omega
/-! ### _law_pick -/
def spPick : Sp := fun vs H Q _ => ∃ (b l m : Addr) (ns : List Int) (xs : List V), vs = [.ref b, .ref m] ∧ Bx b l ns H ∧ H m = some (.lst xs) ∧ m ≠ b ∧ 1 ≤ xs.length ∧ xs.length ≤ 1000 ∧ ∀ (v : V) H', v ∈ xs → Bx b l ns H' → Gb b H H' → Q v H'
theorem sc_law_pick : FnScope ["box", "menu"] ["box", "menu"] (defScope s_law_pick) := ⟨rfl, rfl, rfl, by decide +kernel, rfl, by decide +kernel, by decide +kernel⟩
theorem ok_law_pick {k : Nat} (B : Blt2 mg) (F : Fun K "_law_pick" "_law_pick" s_law_pick f fd) (G : FnOk P w K mg base CX0 k fT dT ["box", "m"] spTake) (gT : mg "_law_take" = some (.ref fT)) (kT : PySem.W.keepIn K (.ref fT) = true) (bT : Binds K dT ["box", "m"] []) :
    FnOk P w K mg base CX0 (k + 1) f fd ["box", "menu"] spPick := by
  refine F.ok sc_law_pick (fun vs H Q E h => ?_) (fun cdv A outer s H vs Q E hr h => ?_)
  · obtain ⟨b, l, m, ns, xs, rfl, _⟩ := h
    rfl
  obtain ⟨b, l, m, ns, xs, rfl, hB, hm, hne, h1, h2, q⟩ := h
  refine ⟨_, pss_one (ps_ret (pe_ix ix_list (pv 1) (pe_call G hr rfl gT kT bT .nil pass0 (pa_cons (pv 0) (pa_cons (pe_callB call_len_seq (by rfl) B.len PySem.boot_len (pa_cons (pv 1) pa_nil)) pa_nil))) (fun _ _ => rfl))), ?_⟩
  refine ⟨_, rfl, _, rfl, _, rfl, m, _, rfl, .inl (SqL.of hm), b, l, ns, _, rfl, by omega, by omega, hB, fun r H' hr0 hr1 hB' g => ?_⟩
  have hn : r.toNat < xs.length := by omega
  have z : atI xs ((r.toNat : Nat) : Int) = some xs[r.toNat] := atI_nat (List.getElem?_eq_getElem hn)
  have ez : ((r.toNat : Nat) : Int) = r := by omega
  rw [ez] at z
  exact ⟨m, xs, _, _, rfl, rfl, SqL.of (g.keep _ _ hm hne fun ps z => by cases z), z, q _ H' (List.getElem_mem hn) hB' g⟩
end
end MS
end
section
set_option Elab.async false
set_option linter.all false
set_option maxRecDepth 100000
set_option maxHeartbeats 4000000
namespace MS
open PySem PySem.Spec PyProof.Rows L2 GE
abbrev s_law_shape : Stmt := top 48
section
variable {K : PySem.W.Frag} {H H' : Hp} {b l D : Addr} {ns : List Int}
theorem Bx.gx {B : Addr → Prop} (x : Bx b l ns H) (nb : ¬ B b) (nl : ¬ B l) (g : Gx B H H') : Bx b l ns H' := by
  obtain ⟨⟨c, k, a, h, r⟩, h2, h3, h4, h5⟩ := x
  exact ⟨⟨c, k, a, g.keep _ _ h nb (fun ps z => by cases z), r⟩, g.keep _ _ h2 nl (fun ps z => by cases z), h3, h4, h5⟩
theorem Gx.late {B : Addr → Prop} {H0 : Hp} {xs : List V} {o : HO} (g : Gx B H0 H) (h0 : H0 D = none) (h : H D = some (.lst xs)) : Gx B H0 (upd H D o) :=
  ⟨fun a u e nb nt => (upd_ne (fun z => by rw [z, h0] at e; cases e)).trans (g.keep a u e nb nt), fun P t => by
    obtain ⟨ps, e, q⟩ := g.tab P t
    exact ⟨ps, (upd_ne fun z => by rw [z, h] at e; cases e).trans e, q⟩⟩
theorem gD {xs : List V} {o : HO} (h : H D = some (.lst xs)) : Gx (fun a => a = D) H (upd H D o) := Ub.gb h Ub.refl.put
theorem nD {xs : List V} (h : H D = some (.lst xs)) : NoT (fun a => a = D) H := fun a e => by rw [e]; exact ⟨_, h⟩
theorem Dt.new {v : V} {d : PyData} {p : Addr} {o : HO} (h : Dt K H v d) (hp : H p = none) : Dt K (upd H p o) v d := h.gr (Gx.new hp)
theorem Dt.mk {vs : List V} {ds : List PyData} {p : Addr} (h : DtAll K H vs ds) (hp : H p = none) : Dt K (upd H p (.tup vs)) (.ref p) (.tuple ds) := .tup (SqT.of upd_same) (h.gr (Gx.new hp))
theorem Bx.new {p : Addr} {o : HO} (h : Bx b l ns H) (hp : H p = none) : Bx b l ns (upd H p o) := h.gr (Gx.new hp)
theorem Gx.then {B : Addr → Prop} {H0 : Hp} {p : Addr} {o : HO} (g : Gx B H0 H) (hp : H p = none) : Gx B H0 (upd H p o) := g.trans (Gx.new hp)
theorem Bx.nb (x : Bx b l ns H) (hD : H D = none) : b ≠ D := fun z => by
  obtain ⟨xs, e⟩ := x.lst
  rw [z, hD] at e
  cases e
theorem Bx.nl (x : Bx b l ns H) (hD : H D = none) : l ≠ D := fun z => by
  have e := x.cells
  rw [z, hD] at e
  cases e
end
section
variable {P : Program} {w : World} {K : PySem.W.Frag} {mg : Str → Option Value} {base : Heap} {f fT fP fS : Addr} {fd dT dP dS : FuncData}
def spShape (K : PySem.W.Frag) (n : Nat) : Sp := fun vs H Q _ => ∃ (b l : Addr) (ns : List Int) (m : Nat), vs = [.ref b, .int m] ∧ 1 ≤ m ∧ m ≤ n ∧ Bx b l ns H ∧ ∀ (v : V) (s : Sh) H', Dt K H' v (Sh.data s) → Sh.wf m s → Bx b l ns H' → Gb b H H' → Q v H'
abbrev kShape : List Str := ["box", "levels", "sort", "word", "k"]
theorem sc_law_shape : FnScope kShape ["box", "levels"] (defScope s_law_shape) := ⟨rfl, rfl, rfl, by decide +kernel, rfl, by decide +kernel, by decide +kernel⟩
/-- what the drawing defs ask of the text -/
structure DTxt (P : Program) (w : World) (K : PySem.W.Frag) (mg : Str → Option Value) (base : Heap) (fT fP : Addr) (dT dP : FuncData) : Prop where
  B : Blt mg
  B2 : Blt2 mg
  OT : FnOk P w K mg base CX0 1 fT dT ["box", "m"] spTake
  gT : mg "_law_take" = some (.ref fT)
  kT : PySem.W.keepIn K (.ref fT) = true
  bT : Binds K dT ["box", "m"] []
  OP : FnOk P w K mg base CX0 2 fP dP ["box", "menu"] spPick
  gP : mg "_law_pick" = some (.ref fP)
  kP : PySem.W.keepIn K (.ref fP) = true
  bP : Binds K dP ["box", "menu"] []
theorem ok_law_shape {n : Nat} (X : DTxt P w K mg base fT fP dT dP) (F : Fun K "_law_shape" "_law_shape" s_law_shape fS dS) (gS : mg "_law_shape" = some (.ref fS)) (bS : Binds K dS ["box", "levels"] []) (GS : FnOk P w K mg base CX0 (n + 2) fS dS ["box", "levels"] (spShape K n)) :
    FnOk P w K mg base CX0 (n + 3) fS dS ["box", "levels"] (spShape K (n + 1)) := by
  refine F.ok sc_law_shape (fun vs H Q E h => ?_) (fun cdv A outer s H vs Q E hr h => ?_)
  · obtain ⟨b, l, ns, m, rfl, _⟩ := h
    rfl
  obtain ⟨b, l, ns, m, rfl, m1, m2, hB, q⟩ := h
  have hr1 : Room 1 (A.deeper (envOfC "_law_shape" (defScope s_law_shape) s.heap.objs.size fS cdv)) := hr.mono (by omega)
  have hr2 : Room 2 (A.deeper (envOfC "_law_shape" (defScope s_law_shape) s.heap.objs.size fS cdv)) := hr.mono (by omega)
  have nd := sc_law_shape.nd
  refine ⟨_, pss_cons (ps_set (i := 2) nd rfl (.inl rfl) (pe_call X.OT hr1 rfl X.gT X.kT X.bT .nil pass0 (pa_cons (pv 0) (pa_cons pe_int pa_nil))))
    (pss_cons (ps_if (PW.pt (pw_or (pt_cmpR op_le (pv 1) pe_int (nomark _)) (pw_or1 (pt_cmpR op_eq (pv 2) pe_int (nomark _)))))
      (pss_one (ps_ret (pe_ifExp (pt_cmpR op_eq (pe_call X.OT hr1 rfl X.gT X.kT X.bT .nil pass0 (pa_cons (pv 0) (pa_cons pe_int pa_nil))) pe_int (nomark _))
        (pe_tup (pa_cons pe_str (pa_cons (pe_op op_add pe_int (pe_call X.OT hr1 rfl X.gT X.kT X.bT .nil pass0 (pa_cons (pv 0) (pa_cons pe_int pa_nil)))) pa_nil))) (pe_tup (pa_cons pe_str pa_nil))))) pss_nil)
    (pss_cons (ps_if (pt_cmpR op_lt (pv 2) pe_int (nomark _))
      (pss_cons (ps_set (i := 3) nd rfl (.inl rfl) (pe_call X.OP hr2 rfl X.gP X.kP X.bP .nil pass0 (pa_cons (pv 0) (pa_cons (pe_lst (pa_cons pe_str (pa_cons pe_str (pa_cons pe_str pa_nil)))) pa_nil))))
      (pss_one (ps_ret (pe_tup (pa_cons (pv 3) (pa_cons (pe_callTy call_tuple_of (by rfl) X.B.tuple (by decide +kernel) (pa_cons
        (pe_lc (own := [("k", 4)]) (g := gName 4) (tt := tYes) rfl nd (pi_range1 (by rfl) X.B2.range (pa_cons (pe_op op_add pe_int (pe_call X.OT hr1 rfl X.gT X.kT X.bT .nil pass0 (pa_cons (pv 0) (pa_cons pe_int pa_nil)))) pa_nil))
          (blkOk_by (own := [("k", 4)]) (N := kShape) (sc := defScope s_law_shape) (by decide +kernel))
          (fun _ _ _ _ _ => pg_name (i := 4) nd rfl (Or.inl rfl)) (fun _ _ _ _ _ => pts_nil)
          (fun _ _ _ _ _ => pe_call GS hr rfl gS F.kp bS .nil pass0 (pa_cons (pv 0) (pa_cons (pe_op op_sub (pv 1) pe_int) pa_nil)))) pa_nil)) pa_nil)))))) pss_nil)
    (pss_cons (ps_if (pt_cmpR op_eq (pv 2) pe_int (nomark _))
      (pss_one (ps_ret (pe_tup (pa_cons pe_str (pa_cons (pe_call X.OT hr1 rfl X.gT X.kT X.bT .nil pass0 (pa_cons (pv 0) (pa_cons pe_int pa_nil))) (pa_cons (pe_call GS hr rfl gS F.kp bS .nil pass0 (pa_cons (pv 0) (pa_cons (pe_op op_sub (pv 1) pe_int) pa_nil))) pa_nil)))))) pss_nil)
    (pss_one (ps_ret (pe_tup (pa_cons (pe_call X.OP hr2 rfl X.gP X.kP X.bP .nil pass0 (pa_cons (pv 0) (pa_cons (pe_lst (pa_cons pe_str (pa_cons pe_str (pa_cons pe_str (pa_cons pe_str (pa_cons pe_str pa_nil)))))) pa_nil)))
      (pa_cons (pe_call GS hr rfl gS F.kp bS .nil pass0 (pa_cons (pv 0) (pa_cons (pe_op op_sub (pv 1) pe_int) pa_nil))) pa_nil)))))))), ?_⟩
  refine ⟨_, rfl, b, l, ns, 9, rfl, by decide, by decide, hB, fun r H1 hr0 hr9 B1 g1 => ?_⟩
  obtain ⟨m, rfl⟩ : ∃ j, m = j + 1 := ⟨m - 1, by omega⟩
  have em : ((m + 1 : Nat) : Int) - 1 = (m : Int) := by omega
  have leaf : ∀ y3 y4 : Option V, tIf (tTest (tOp rEq (tCall spTake [] E0 (tCons (tVar 0) (tCons (tC (V.int 3)) tNil))) (tC (V.int 0))))
      (tTup (tCons (tC (V.str "letters")) (tCons (tOp (rI0 fun i j => V.int (i + j)) (tC (V.int 1)) (tCall spTake [] E0 (tCons (tVar 0) (tCons (tC (V.int 5)) tNil)))) tNil)))
      (tTup (tCons (tC (V.str "self")) tNil)) [some (.ref b), some (.int ((m + 1 : Nat) : Int)), some (.int r), y3, y4] H1 Q := by
    intro y3 y4
    refine ⟨_, rfl, b, l, ns, 3, rfl, by decide, by decide, B1, fun r2 H2 _ _ B2 g2 => ⟨rfl, _, rfl, ite2 (fun _ => ?_) (fun _ => ?_)⟩⟩
    · refine ⟨_, rfl, b, l, ns, 5, rfl, by decide, by decide, B2, fun r3 H3 p0 p5 B3 g3 => ⟨1, r3, rfl, rfl, by rw [sizeLine_eq]; exact (show 2 ≤ 16777216 by decide), fun p hp => ?_⟩⟩
      obtain ⟨j, hj⟩ : ∃ j : Nat, (j : Int) = 1 + r3 := ⟨(1 + r3).toNat, by omega⟩
      refine q _ (.letters j) _ (Dt.mk (ds := [kS "letters", .int j]) (.cons (.str _) (.cons ?_ .nil)) hp) ⟨by omega, by omega⟩ (B3.new hp) (((g1.trans g2).trans g3).then hp)
      rw [hj]
      exact .int _
    · refine ⟨by rw [sizeLine_eq]; exact (show 1 ≤ 16777216 by decide), fun p hp => ?_⟩
      exact q _ .self _ (Dt.mk (ds := [kS "self"]) (.cons (.str _) .nil) hp) trivial (B2.new hp) ((g1.trans g2).then hp)
  refine ⟨_, rfl, _, _, rfl, rfl, _, rfl, ite2 (fun c1 => leaf _ _) (fun c1 => ?_)⟩
  have c1 : ¬ (((m + 1 : Nat) : Int) ≤ 1) := of_decide_eq_false (Bool.eq_false_iff.mpr c1)
  have call : ∀ (H2 : Hp) (R : VK), Bx b l ns H2 → Gb b H H2 → (∀ (v : V) (s : Sh) H', Dt K H' v (Sh.data s) → Sh.wf m s → Bx b l ns H' → Gb b H2 H' → R v H') → spShape K n [.ref b, .int (((m + 1 : Nat) : Int) - 1)] H2 R fun _ _ _ => False :=
    fun H2 R B2 g2 hR => ⟨b, l, ns, m, by rw [em], by omega, by omega, B2, hR⟩
  refine ⟨_, rfl, rfl, _, rfl, ite2 (fun c2 => leaf _ _) (fun c2 => ?_)⟩
  refine ⟨_, rfl, _, _, rfl, rfl, _, rfl, ite2 (fun c3 => ?_) (fun c3 => ?_)⟩
  · -- both, either
    refine ⟨_, rfl, by rw [sizeLine_eq]; exact (show 3 ≤ 16777216 by decide), fun pm hm => ?_⟩
    refine ⟨b, l, pm, ns, _, rfl, B1.new hm, upd_same, fun z => B1.nb hm z.symm, by show 1 ≤ 3; decide, by show 3 ≤ 1000; decide, fun v H2 hv B2 g2 => ?_⟩
    have g2 : Gb b H H2 := g1.trans ((Gx.new hm).trans g2)
    have hw : v = .str "both" ∨ v = .str "either" := by
      simp only [List.mem_cons, List.not_mem_nil, or_false] at hv
      rcases hv with h | h | h
      · exact .inl h
      · exact .inl h
      · exact .inr h
    have sz2 : 2 ≤ sizeLine := by rw [sizeLine_eq]; decide
    refine ⟨_, rfl, _, rfl, b, l, ns, 4, rfl, by decide, by decide, B2, fun r3 H3 p0 p4 B3 g3 => ⟨1, r3, rfl, rfl, _, rfl, by omega, by omega, fun D hD => ?_⟩⟩
    have g3 : Gb b H H3 := g2.trans g3
    have nb := B3.nb hD
    have nl := B3.nl hD
    obtain ⟨j, hj⟩ : ∃ j : Nat, j = (1 + r3).toNat := ⟨_, rfl⟩
    rw [← hj]
    refine lc_range (fun i H' => ∃ (vs : List V) (ss : List Sh), H' D = some (.lst vs) ∧ DtAll K H' vs (Sh.datas ss) ∧ ss.length = i ∧ (∀ s ∈ ss, Sh.wf m s) ∧ Bx b l ns H' ∧ Gb b H3 H')
      ⟨[], [], upd_same, .nil, rfl, fun s hs => (List.not_mem_nil hs).elim, B3.new hD, Gx.new hD⟩ (fun i H4 hi p => ?_) fun H4 p => ?_
    · obtain ⟨vs, ss, e4, a4, n4, w4, B4, g4⟩ := p
      refine ⟨rfl, _, rfl, _, rfl, _, _, rfl, rfl, call H4 _ B4 (g3.trans g4) fun v5 s5 H5 d5 w5 B5 g5 => ?_⟩
      have e5 : H5 D = some (.lst vs) := g5.keep _ _ e4 (fun z => nb z.symm) fun ps z => by cases z
      have a5 : DtAll K H5 vs (Sh.datas ss) := DtAll.gx B4.not g5 a4
      have l5 : vs.length = i := by rw [a4.length, Sh.datas_map, List.length_map, n4]
      refine ⟨vs, e5, by rw [l5, sizeLine_eq]; omega, vs ++ [v5], ss ++ [s5], upd_same, ?_, by rw [List.length_append, n4]; rfl, fun s hs => ?_, B5.gx nb nl (gD e5), (g4.trans g5).late hD e5⟩
      · rw [Sh.datas_map, List.map_append, ← Sh.datas_map]
        exact DtAll.gx (nD e5) (gD e5) (a5.append (.cons d5 .nil))
      · rcases List.mem_append.mp hs with z | z
        · exact w4 s z
        · rw [List.mem_singleton.mp z]; exact w5
    · obtain ⟨vs, ss, e4, a4, n4, w4, B4, g4⟩ := p
      refine ⟨D, vs, rfl, .inl ⟨SqL.of e4, fun t ht => ⟨sz2, fun p hp => ?_⟩⟩⟩
      have dd : DtAll K (upd (upd H4 t (.tup vs)) p (.tup [v, .ref t])) [.ref t] [.tuple (Sh.datas ss)] := .cons ((Dt.mk a4 ht).new hp) .nil
      have gg : Gb b H (upd (upd H4 t (.tup vs)) p (.tup [v, .ref t])) := ((g3.trans g4).then ht).then hp
      have bb : Bx b l ns (upd (upd H4 t (.tup vs)) p (.tup [v, .ref t])) := (B4.new ht).new hp
      rcases hw with rfl | rfl
      · exact q _ (.both ss) _ (.tup (SqT.of upd_same) (.cons (.str _) dd)) ⟨by omega, by omega, w4⟩ bb gg
      · exact q _ (.either ss) _ (.tup (SqT.of upd_same) (.cons (.str _) dd)) ⟨by omega, by omega, w4⟩ bb gg
  · refine ⟨_, rfl, rfl, _, rfl, ite2 (fun c4 => ?_) (fun c4 => ?_)⟩
    · refine ⟨_, rfl, b, l, ns, 5, rfl, by decide, by decide, B1, fun r2 H2 p0 p5 B2 g2 => ⟨_, rfl, _, rfl, _, _, rfl, rfl, call H2 _ B2 (g1.trans g2) fun v3 s3 H3 d3 w3 B3 g3 => ⟨by rw [sizeLine_eq]; exact (show 3 ≤ 16777216 by decide), fun p hp => ?_⟩⟩⟩
      obtain ⟨j, hj⟩ : ∃ j : Nat, (j : Int) = r2 := ⟨r2.toNat, by omega⟩
      subst hj
      exact q _ (.after j s3) _ (Dt.mk (ds := [kS "after", .int j, Sh.data s3]) (.cons (.str _) (.cons (.int _) (.cons d3 .nil))) hp) ⟨by omega, w3⟩ (B3.new hp) (((g1.trans g2).trans g3).then hp)
    · refine ⟨_, rfl, by rw [sizeLine_eq]; exact (show 5 ≤ 16777216 by decide), fun pm hm => ?_⟩
      refine ⟨b, l, pm, ns, _, rfl, B1.new hm, upd_same, fun z => B1.nb hm z.symm, by show 1 ≤ 5; decide, by show 5 ≤ 1000; decide, fun v H2 hv B2 g2 => ?_⟩
      have g2 : Gb b H H2 := g1.trans ((Gx.new hm).trans g2)
      refine ⟨_, rfl, _, rfl, _, _, rfl, rfl, call H2 _ B2 g2 fun v3 s3 H3 d3 w3 B3 g3 => ⟨by rw [sizeLine_eq]; exact (show 2 ≤ 16777216 by decide), fun p hp => ?_⟩⟩
      have gg := (g2.trans g3).then (o := .tup [v, v3]) hp
      have mk : ∀ x : Str, v = .str x → Dt K (upd H3 p (.tup [v, v3])) (.ref p) (.tuple [kS x, Sh.data s3]) := fun x e => by
        rw [e]
        exact Dt.mk (.cons (.str _) (.cons d3 .nil)) hp
      simp only [List.mem_cons, List.not_mem_nil, or_false] at hv
      rcases hv with h | h | h | h | h
      · exact q _ (.some s3) _ (mk _ h) w3 (B3.new hp) gg
      · exact q _ (.some s3) _ (mk _ h) w3 (B3.new hp) gg
      · exact q _ (.many s3) _ (mk _ h) w3 (B3.new hp) gg
      · exact q _ (.chance s3) _ (mk _ h) w3 (B3.new hp) gg
      · exact q _ (.some s3) _ (mk _ h) w3 (B3.new hp) gg
theorem none_shape {k : Nat} : FnOk P w K mg base CX0 k fS dS ["box", "levels"] (spShape K 0) := by
  have no : ∀ vs H Q E, ¬ spShape K 0 vs H Q E := fun vs H Q E h => by
    obtain ⟨_, _, _, m, _, h1, h2, _⟩ := h
    omega
  exact ⟨fun vs H Q E h => absurd h (no vs H Q E), fun A outer s H args us vs Q E _ _ _ _ h => absurd h (no vs H Q E)⟩
theorem all_shape (X : DTxt P w K mg base fT fP dT dP) (F : Fun K "_law_shape" "_law_shape" s_law_shape fS dS) (gS : mg "_law_shape" = some (.ref fS)) (bS : Binds K dS ["box", "levels"] []) : ∀ n : Nat, FnOk P w K mg base CX0 (n + 2) fS dS ["box", "levels"] (spShape K n)
  | 0 => none_shape
  | n + 1 => ok_law_shape X F gS bS (all_shape X F gS bS n)
end
end MS
end
section
set_option Elab.async false
set_option linter.all false
set_option maxRecDepth 100000
set_option maxHeartbeats 4000000
namespace MS
open PySem PySem.Spec PyProof.Rows L2 GE
section
variable {P : Program} {w : World} {K : PySem.W.Frag} {mg : Str → Option Value} {base : Heap} {f : Addr} {fd : FuncData}
def spLSize (K : PySem.W.Frag) (n : Nat) : Sp := fun vs H Q _ => ∃ (v : V) (s : Sh), vs = [v] ∧ Dt K H v (Sh.data s) ∧ Sh.wf n s ∧ n ≤ 10 ∧ ∀ H', Gr H H' → Q (.int (Sh.size s)) H'
abbrev kSize : List Str := ["shape", "inner"]
theorem sc_law_size : FnScope kSize ["shape"] (defScope s_law_size) := ⟨rfl, rfl, rfl, by decide +kernel, rfl, by decide +kernel, by decide +kernel⟩
theorem sum_sizes : ∀ ss : List Sh, (ss.map fun s => ((Sh.size s : Nat) : Int)).sum = ((Sh.sizes ss : Nat) : Int)
  | [] => rfl
  | s :: ss => by
    rw [List.map_cons, List.sum_cons, sum_sizes ss, Sh.sizes]
    omega
theorem ifT {b : Bool} {A B : Prop} (h : b = true) (a : A) : if b = true then A else B := by rw [if_pos h]; exact a
theorem ifF {b : Bool} {A B : Prop} (h : b = false) (x : B) : if b = true then A else B := by rw [if_neg (by rw [h]; decide)]; exact x
/-- a shape's data, by the way its size is told -/
theorem told3 {H : Hp} {n : Nat} {v : V} {s : Sh} (hd : Dt K H v (Sh.data s)) (hw : Sh.wf (n + 1) s) :
    (∃ (x : Str) (a : Addr) (v2 : V) (xs : List Sh), v = .ref a ∧ (x = "both" ∨ x = "either") ∧ SqT K H a [.str x, v2] ∧ Dt K H v2 (.tuple (Sh.datas xs)) ∧ (∀ y ∈ xs, Sh.wf n y) ∧ xs.length ≤ 4 ∧ Sh.size s = 1 + Sh.sizes xs) ∨
    (∃ (x : Str) (a : Addr) (ys : List V), v = .ref a ∧ (x = "letters" ∨ x = "self") ∧ SqT K H a (.str x :: ys) ∧ Sh.size s = 1) ∨
    (∃ (x : Str) (a : Addr) (ys : List V) (v2 : V) (s2 : Sh), v = .ref a ∧ (x = "after" ∨ x = "some" ∨ x = "many" ∨ x = "chance") ∧ SqT K H a (.str x :: ys ++ [v2]) ∧ Dt K H v2 (Sh.data s2) ∧ Sh.wf n s2 ∧ Sh.size s = 1 + Sh.size s2) := by
  cases s with
  | letters k =>
    cases hd with | tup hs ha => cases ha with | cons h1 h2 => cases h1; exact .inr (.inl ⟨_, _, _, rfl, .inl rfl, hs, rfl⟩)
  | self =>
    cases hd with | tup hs ha => cases ha with | cons h1 h2 => cases h1; exact .inr (.inl ⟨_, _, _, rfl, .inr rfl, hs, rfl⟩)
  | both xs =>
    cases hd with | tup hs ha => cases ha with | cons h1 h2 => cases h1; cases h2 with | cons h3 h4 => cases h4; exact .inl ⟨_, _, _, xs, rfl, .inl rfl, hs, h3, hw.2.2, hw.2.1, rfl⟩
  | either xs =>
    cases hd with | tup hs ha => cases ha with | cons h1 h2 => cases h1; cases h2 with | cons h3 h4 => cases h4; exact .inl ⟨_, _, _, xs, rfl, .inr rfl, hs, h3, hw.2.2, hw.2.1, rfl⟩
  | after k s =>
    cases hd with | tup hs ha => cases ha with | cons h1 h2 => cases h1; cases h2 with | cons h3 h4 => cases h4 with | cons h5 h6 => cases h6; exact .inr (.inr ⟨_, _, [_], _, s, rfl, .inl rfl, hs, h5, hw.2, rfl⟩)
  | some s =>
    cases hd with | tup hs ha => cases ha with | cons h1 h2 => cases h1; cases h2 with | cons h3 h4 => cases h4; exact .inr (.inr ⟨_, _, [], _, s, rfl, .inr (.inl rfl), hs, h3, hw, rfl⟩)
  | many s =>
    cases hd with | tup hs ha => cases ha with | cons h1 h2 => cases h1; cases h2 with | cons h3 h4 => cases h4; exact .inr (.inr ⟨_, _, [], _, s, rfl, .inr (.inr (.inl rfl)), hs, h3, hw, rfl⟩)
  | chance s =>
    cases hd with | tup hs ha => cases ha with | cons h1 h2 => cases h1; cases h2 with | cons h3 h4 => cases h4; exact .inr (.inr ⟨_, _, [], _, s, rfl, .inr (.inr (.inr rfl)), hs, h3, hw, rfl⟩)
theorem two_in {H : Hp} {a b : Str} {p : Addr} (hp : H p = none) : Dt K (upd H p (.tup [.str a, .str b])) (.ref p) (.tuple [kS a, kS b]) := Dt.mk (.cons (.str _) (.cons (.str _) .nil)) hp
theorem ok_law_size {n : Nat} (B : Blt mg) (F : Fun K "_law_size" "_law_size" s_law_size f fd) (gS : mg "_law_size" = some (.ref f)) (bS : Binds K fd ["shape"] []) (GS : FnOk P w K mg base CX0 n f fd ["shape"] (spLSize K n)) :
    FnOk P w K mg base CX0 (n + 1) f fd ["shape"] (spLSize K (n + 1)) := by
  refine F.ok sc_law_size (fun vs H Q E h => ?_) (fun cdv A outer s H vs Q E hr h => ?_)
  · obtain ⟨v, s, rfl, _⟩ := h
    rfl
  obtain ⟨v, s, rfl, hd, hw, hn, q⟩ := h
  have nd := sc_law_size.nd
  refine ⟨_, pss_cons (ps_if (pt_cmpR (op_inT (MS.Room.u65 hr)) (pe_ix ix_tup (pv 0) pe_int (fun _ _ => rfl)) (pe_tup (pa_cons pe_str (pa_cons pe_str pa_nil))) (by rfl))
      (pss_one (ps_ret (pe_op op_add pe_int (pe_callB (cr_sum rfl) (by rfl) B.sum (by decide +kernel) (pa_cons
        (pe_lc (own := [("inner", 1)]) (g := gName 1) (tt := tYes) rfl nd (pi_tup (pe_ix ix_tup (pv 0) pe_int (fun _ _ => rfl))) (blkOk_by (own := [("inner", 1)]) (N := kSize) (sc := defScope s_law_size) (by decide +kernel))
          (fun _ _ _ _ _ => pg_name (i := 1) nd rfl (Or.inl rfl)) (fun _ _ _ _ _ => pts_nil)
          (fun _ _ _ _ _ => pe_call GS hr rfl gS F.kp bS .nil pass0 (pa_cons (pv 1) pa_nil))) pa_nil))))) pss_nil)
    (pss_cons (ps_if (pt_cmpR (op_inT (MS.Room.u65 hr)) (pe_ix ix_tup (pv 0) pe_int (fun _ _ => rfl)) (pe_tup (pa_cons pe_str (pa_cons pe_str pa_nil))) (by rfl))
      (pss_one (ps_ret pe_int)) pss_nil)
    (pss_one (ps_ret (pe_op op_add pe_int (pe_call GS hr rfl gS F.kp bS .nil pass0 (pa_cons (pe_ix ix_tup (pv 0) (pe_op op_sub (pe_callB call_len_seq (by rfl) B.len PySem.boot_len (pa_cons (pv 0) pa_nil)) pe_int) (fun _ _ => rfl)) pa_nil)))))), ?_⟩
  have sz2 : 2 ≤ sizeLine := by rw [sizeLine_eq]; decide
  rcases told3 hd hw with ⟨x, a, v2, xs, rfl, hx, hs, h2, hwx, hl4, hsz⟩ | ⟨x, a, ys, rfl, hx, hs, hsz⟩ | ⟨x, a, ys, v2, s2, rfl, hx, hs, h2, hw2, hsz⟩
  · have c1 : ([kS "both", kS "either"].any fun z => PyData.eqv z (kS x)) = true ∧ SeqAt.shaped (kS x) = true := by
      rcases hx with rfl | rfl
      · exact ⟨by decide +kernel, by decide +kernel⟩
      · exact ⟨by decide +kernel, by decide +kernel⟩
    refine ⟨_, rfl, a, _, _, _, rfl, rfl, hs, atI_nat (j := 0) rfl, sz2, fun p1 hp1 => ⟨kS x, [kS "both", kS "either"], .str _, two_in hp1, c1.2, by decide +kernel, _, rfl, ifT c1.1 ?_⟩⟩
    cases h2 with
    | @tup a2 ys ds hs2 ha2 =>
      have g1 : Gr H (upd H p1 (.tup [.str "both", .str "either"])) := Gx.new hp1
      have hly : ys.length = xs.length := by rw [ha2.length, Sh.datas_map, List.length_map]
      refine ⟨_, rfl, a, _, _, _, rfl, rfl, SqT.gx NoT.none g1 hs, atI_nat (j := 1) rfl, a2, rfl, ⟨_, SqT.gx NoT.none g1 hs2⟩, fun D hD => ?_⟩
      refine lc_tup (xs := ys) (fun i H' => H' D = some (.lst (((xs.take i).map fun s => ((Sh.size s : Nat) : Int)).map V.int)) ∧ Gr (upd H p1 (.tup [.str "both", .str "either"])) H') ⟨upd_same, Gx.new hD⟩
        (fun i H' _ p => SqT.gx NoT.none (g1.trans p.2) hs2) (fun i y H' hy p => ?_) fun H' p => ?_
      · obtain ⟨dx, hdx, hdt⟩ := ha2.of_get hy
        rw [Sh.datas_map, List.getElem?_map] at hdx
        obtain ⟨sx, hsx, rfl⟩ := Option.map_eq_some_iff.mp hdx
        have hm : sx ∈ xs := List.mem_of_getElem? hsx
        refine ⟨rfl, y, rfl, y, sx, rfl, hdt.gr (g1.trans p.2), hwx sx hm, by omega, fun H4 g4 => ?_⟩
        have e4 := g4.keep _ _ p.1 (fun z => z) fun ps z => by cases z
        refine ⟨_, e4, ?_, ?_, (p.2.trans g4).late hD e4⟩
        · rw [List.length_map, List.length_map, List.length_take, sizeLine_eq]
          omega
        · rw [upd_same, List.take_succ, hsx]
          simp
      · obtain ⟨e, g⟩ := p
        rw [List.take_of_length_le (by omega)] at e
        refine ⟨D, _, rfl, SqL.of e, 1, _, rfl, rfl, ?_⟩
        have e2 : (1 : Int) + (xs.map fun s => ((Sh.size s : Nat) : Int)).sum = ((Sh.size s : Nat) : Int) := by
          rw [sum_sizes, hsz]
          omega
        show Q (.int ((1 : Int) + (xs.map fun s => ((Sh.size s : Nat) : Int)).sum)) H'
        rw [e2]
        exact q H' (g1.trans g)
  · have c1 : ([kS "both", kS "either"].any fun z => PyData.eqv z (kS x)) = false ∧ ([kS "letters", kS "self"].any fun z => PyData.eqv z (kS x)) = true ∧ SeqAt.shaped (kS x) = true := by
      rcases hx with rfl | rfl
      · exact ⟨by decide +kernel, by decide +kernel, by decide +kernel⟩
      · exact ⟨by decide +kernel, by decide +kernel, by decide +kernel⟩
    refine ⟨_, rfl, a, _, _, _, rfl, rfl, hs, atI_nat (j := 0) rfl, sz2, fun p1 hp1 => ⟨kS x, [kS "both", kS "either"], .str _, two_in hp1, c1.2.2, by decide +kernel, _, rfl, ifF c1.1 ?_⟩⟩
    refine ⟨_, rfl, a, _, _, _, rfl, rfl, SqT.gx NoT.none (Gx.new hp1) hs, atI_nat (j := 0) rfl, sz2, fun p2 hp2 => ⟨kS x, [kS "letters", kS "self"], .str _, two_in hp2, c1.2.2, by decide +kernel, _, rfl, ifT c1.2.1 ?_⟩⟩
    have e := q _ (((Gx.new (o := .tup [.str "both", .str "either"]) hp1 : Gr H _)).then (o := .tup [.str "letters", .str "self"]) hp2)
    rw [hsz] at e
    exact e
  · have c1 : ([kS "both", kS "either"].any fun z => PyData.eqv z (kS x)) = false ∧ ([kS "letters", kS "self"].any fun z => PyData.eqv z (kS x)) = false ∧ SeqAt.shaped (kS x) = true := by
      rcases hx with rfl | rfl | rfl | rfl <;> exact ⟨by decide +kernel, by decide +kernel, by decide +kernel⟩
    refine ⟨_, rfl, a, _, _, _, rfl, rfl, hs, atI_nat (j := 0) rfl, sz2, fun p1 hp1 => ⟨kS x, [kS "both", kS "either"], .str _, two_in hp1, c1.2.2, by decide +kernel, _, rfl, ifF c1.1 ?_⟩⟩
    refine ⟨_, rfl, a, _, _, _, rfl, rfl, SqT.gx NoT.none (Gx.new hp1) hs, atI_nat (j := 0) rfl, sz2, fun p2 hp2 => ⟨kS x, [kS "letters", kS "self"], .str _, two_in hp2, c1.2.2, by decide +kernel, _, rfl, ifF c1.2.1 ?_⟩⟩
    have g2 := (Gx.new (o := .tup [.str "both", .str "either"]) hp1 : Gr H _).then (o := .tup [.str "letters", .str "self"]) hp2
    have hs2 := SqT.gx NoT.none g2 hs
    have elen : (((V.str x :: ys ++ [v2]).length : Nat) : Int) - 1 = ((ys.length + 1 : Nat) : Int) := by
      rw [List.length_append, List.length_cons, List.length_singleton]
      omega
    have eat : atI (V.str x :: ys ++ [v2]) ((((V.str x :: ys ++ [v2]).length : Nat) : Int) - 1) = some v2 := by
      rw [elen]
      exact atI_nat (j := ys.length + 1) (by simp)
    refine ⟨_, rfl, _, rfl, a, _, rfl, .inr hs2, _, _, rfl, rfl, a, _, _, _, rfl, rfl, hs2, eat, v2, s2, rfl, h2.gr g2, hw2, by omega, fun H' g => ⟨1, _, rfl, rfl, ?_⟩⟩
    have e2 : (1 : Int) + ((Sh.size s2 : Nat) : Int) = ((Sh.size s : Nat) : Int) := by rw [hsz]; omega
    show Q (.int ((1 : Int) + ((Sh.size s2 : Nat) : Int))) H'
    rw [e2]
    exact q H' (g2.trans g)
theorem all_law_size (B : Blt mg) (F : Fun K "_law_size" "_law_size" s_law_size f fd) (gS : mg "_law_size" = some (.ref f)) (bS : Binds K fd ["shape"] []) : ∀ n : Nat, FnOk P w K mg base CX0 n f fd ["shape"] (spLSize K n)
  | 0 => by
    have no : ∀ vs H Q E, ¬ spLSize K 0 vs H Q E := fun vs H Q E h => by
      obtain ⟨_, _, _, _, h, _⟩ := h
      exact h
    exact ⟨fun vs H Q E h => absurd h (no vs H Q E), fun A outer s H args us vs Q E _ _ _ _ h => absurd h (no vs H Q E)⟩
  | n + 1 => ok_law_size B F gS bS (all_law_size B F gS bS n)
end
end MS
end
section
set_option Elab.async false
set_option linter.all false
set_option maxRecDepth 100000
set_option maxHeartbeats 4000000
namespace MS
open PySem PySem.Spec PyProof.Rows L2 L2H GE
abbrev s_law_class : Stmt := top 49
section
variable {X : Cx}
theorem dpBools {K : PySem.W.Frag} {H : Hp} : ∀ bs : List Bool, DpAll K H (bs.map V.bl) (bs.map PyData.bool)
  | [] => .nil
  | b :: bs => .cons (.bl b) (dpBools bs)
def rCntB : V → List V → Hp → VK → Prop := fun x xs H Q => ∃ (p : Addr) (bs : List Bool), x = .ref p ∧ xs = [.bl true] ∧ H p = some (.lst (bs.map V.bl)) ∧ Q (.int (countIn (.bool true) (bs.map PyData.bool))) H
theorem mt_countB : MtR X "list.count" rCntB := by
  intro pins s σ H x xs v us Q I rx rxs h
  obtain ⟨p, bs, rfl, rfl, hs, q⟩ := h
  cases rx
  obtain ⟨u, rfl, ru⟩ := rxs.one
  cases ru
  obtain ⟨its, rv, hl, hlen⟩ := I.list (SqL.of hs)
  obtain ⟨as, ra⟩ := Dp.readsAll I (bs.map PyData.bool) (bs.map V.bl) its (dpBools bs) rv
  have hall : (bs.map PyData.bool).all Shape.bool.has = true := by
    rw [List.all_map]
    exact List.all_eq_true.mpr fun b _ => rfl
  exact count_list_bools hl.isList ra hall ⟨.int _, H, I.tok _, ⟨_, rfl⟩, q⟩
end
section
variable {P : Program} {w : World} {K : PySem.W.Frag} {mg : Str → Option Value} {base : Heap} {f : Addr} {fd : FuncData}
/-- of the classes: the one that is raised at C, the others not its bases -/
structure KTxt (K : PySem.W.Frag) (mg : Str → Option Value) (C : Addr) : Prop where
  isi : mg "isinstance" = none
  str : mg "str" = none
  val : mg "ValueError" = none
  cls : L2.ExcC K C
  txt : PySem.W.findIn K (.ref C) "__str__" = some (some (.builtin "BaseException.__str__"))
  bas : PySem.W.subIn K (.ref C) (.type "BaseException") = some true
  g1 : mg "BadShape" = some (.ref C)
  k1 : PySem.W.kitOne K (.ref C) (.ref C) = some true
  kv : PySem.W.kitOne K (.ref C) (.type "ValueError") = some true
  g2 : ∃ D, mg "BadSystem" = some (.ref D) ∧ PySem.W.kitOne K (.ref C) (.ref D) = some false
  g3 : ∃ D, mg "BadState" = some (.ref D) ∧ PySem.W.kitOne K (.ref C) (.ref D) = some false
  g4 : ∃ D, mg "BadFormula" = some (.ref D) ∧ PySem.W.kitOne K (.ref C) (.ref D) = some false
  g5 : ∃ D, mg "BadMap" = some (.ref D) ∧ PySem.W.kitOne K (.ref C) (.ref D) = some false
  g6 : ∃ D, mg "TooMuch" = some (.ref D) ∧ PySem.W.kitOne K (.ref C) (.ref D) = some false
def spClass (C : Addr) : EA.SpA := fun a cls d vs H Q _ => ∃ t, vs = [.ref a] ∧ cls = .ref C ∧ d = some t ∧ H t = some (.tup []) ∧ ∀ H', Gr H H' → Q (.str "shape") H'
abbrev kClass : List Str := ["e", "kinds"]
theorem sc_law_class : FnScope kClass ["e"] (defScope s_law_class) := ⟨rfl, rfl, rfl, by decide +kernel, rfl, by decide +kernel, by decide +kernel⟩
theorem ok_law_class {C : Addr} {k : Nat} (Z : KTxt K mg C) (F : Fun K "_law_class" "_law_class" s_law_class f fd) : EA.FnA P w K mg base (k + 1) f fd ["e"] (spClass C) := by
  obtain ⟨D2, m2, n2⟩ := Z.g2
  obtain ⟨D3, m3, n3⟩ := Z.g3
  obtain ⟨D4, m4, n4⟩ := Z.g4
  obtain ⟨D5, m5, n5⟩ := Z.g5
  obtain ⟨D6, m6, n6⟩ := Z.g6
  refine EA.okA F sc_law_class (fun a cls d vs H Q E h => ?_) (fun cdv A outer s H vs Q E p cls d hot hz hr h => ?_)
  · obtain ⟨t, rfl, _⟩ := h
    rfl
  obtain ⟨t, rfl, rfl, rfl, ht, q⟩ := h
  obtain ⟨a, oe⟩ := p
  have hf : ∃ vs, oe.data = .fields vs := by
    obtain ⟨_, vs, h1, _⟩ := hot
    exact ⟨vs, h1⟩
  have hu : (cxH CX0 P w K mg base kClass "_law_class" (defScope s_law_class) f cdv A outer s H E (a, oe)).A.units + 65 < cLine := by
    have := hr.un
    show (A.deeper (envOfC "_law_class" (defScope s_law_class) s.heap.objs.size f cdv)).units + 65 < cLine
    omega
  have isa : CallR (cxH CX0 P w K mg base kClass "_law_class" (defScope s_law_class) f cdv A outer s H E (a, oe)) (.builtin "isinstance") (rIsE K C a) := EA.call_isA Z.cls hz hf List.mem_cons_self
  refine ⟨_, pss_cons (ps_set (i := 1) sc_law_class.nd rfl (.inl rfl) (pe_lst (pa_cons (pe_callB isa (by rfl) Z.isi (by decide +kernel) (pa_cons (pv 0) (pa_cons (pe_glob rfl Z.g1 (v := .ref C) rfl) pa_nil)))
      (pa_cons (pe_callB isa (by rfl) Z.isi (by decide +kernel) (pa_cons (pv 0) (pa_cons (pe_glob rfl m2 (v := .ref D2) rfl) pa_nil)))
      (pa_cons (pe_callB isa (by rfl) Z.isi (by decide +kernel) (pa_cons (pv 0) (pa_cons (pe_glob rfl m3 (v := .ref D3) rfl) pa_nil)))
      (pa_cons (pe_callB isa (by rfl) Z.isi (by decide +kernel) (pa_cons (pv 0) (pa_cons (pe_glob rfl m4 (v := .ref D4) rfl) pa_nil)))
      (pa_cons (pe_callB isa (by rfl) Z.isi (by decide +kernel) (pa_cons (pv 0) (pa_cons (pe_glob rfl m5 (v := .ref D5) rfl) pa_nil)))
      (pa_cons (pe_callB isa (by rfl) Z.isi (by decide +kernel) (pa_cons (pv 0) (pa_cons (pe_glob rfl m6 (v := .ref D6) rfl) pa_nil))) pa_nil))))))))
    (pss_cons (ps_if (PW.pt (pw_or (pt_cmpR op_ne (pe_bm PySem.F.plainAttrs_list PySem.F.slot_list_count PySem.F.type_list_count mt_countB (pv 1) (pa_cons pe_bl pa_nil)) pe_int (nomark _))
        (pw_or (pt_not (pt_val (pe_callB isa (by rfl) Z.isi (by decide +kernel) (pa_cons (pv 0) (pa_cons (pe_bltn (by rfl) Z.val (by decide +kernel) (v := .ty "ValueError") rfl) pa_nil)))))
        (pw_or1 (pt_cmpR op_ne (pe_callTy (EA.call_strA (t := t) (by omega) Z.txt Z.bas hz hf List.mem_cons_self) (by rfl) Z.str (by decide +kernel) (pa_cons (pv 0) pa_nil)) pe_str (nomark _))))))
      (pss_one (ps_ret pe_str)) pss_nil)
    (pss_one (ps_ret (pe_ix ix_list (pe_lst (pa_cons pe_str (pa_cons pe_str (pa_cons pe_str (pa_cons pe_str (pa_cons pe_str (pa_cons pe_str pa_nil)))))))
      (pe_bm PySem.F.plainAttrs_list PySem.F.slot_list_index PySem.F.type_list_index (mt_indexD hu) (pv 1) (pa_cons pe_bl pa_nil)) (fun _ _ => rfl))))), ?_⟩
  have sz : 6 ≤ sizeLine := by rw [sizeLine_eq]; decide
  refine ⟨_, rfl, _, _, _, rfl, fun u r => r, Z.k1, _, rfl, _, _, _, rfl, fun u r => r, n2, _, rfl, _, _, _, rfl, fun u r => r, n3, _, rfl, _, _, _, rfl, fun u r => r, n4, _, rfl, _, _, _, rfl, fun u r => r, n5, _, rfl, _, _, _, rfl, fun u r => r, n6, sz, fun pk hk => ?_⟩
  have g1 : Gr H (upd H pk (.lst [.bl true, .bl false, .bl false, .bl false, .bl false, .bl false])) := Gx.new hk
  have hk2 : (upd H pk (.lst [.bl true, .bl false, .bl false, .bl false, .bl false, .bl false])) pk = some (.lst ([true, false, false, false, false, false].map V.bl)) := upd_same
  refine ⟨_, rfl, .inl ⟨rfl, _, .inl (.inl upd_same)⟩, pk, [true, false, false, false, false, false], rfl, rfl, hk2, rfl, _, rfl, neI_F (by decide +kernel) ?_⟩
  refine ⟨_, rfl, _, _, _, rfl, fun u r => r, Z.kv, _, rfl, ?_⟩
  refine iteF ⟨_, rfl, rfl, g1.keep _ _ ht (fun z => z) (fun ps z => by cases z), rfl, _, rfl, ifF (by decide +kernel) ?_⟩
  refine ⟨sz, fun pm hm => ?_⟩
  have g2 := g1.then (o := .lst [.str "shape", .str "system", .str "state", .str "formula", .str "map", .str "much"]) hm
  have hk3 := (Gx.new (B := fun _ => False) (o := .lst [.str "shape", .str "system", .str "state", .str "formula", .str "map", .str "much"]) hm).keep _ _ hk2 (fun z => z) (fun ps z => by cases z)
  exact ⟨_, rfl, .inl ⟨rfl, _, .inl (.inl hk3)⟩, pk, .bl true, .bool true, [true, false, false, false, false, false].map PyData.bool, 0, .bool true, rfl, rfl, .lst (SqL.of hk3) (dpBools [true, false, false, false, false, false]), .bl true, by decide +kernel, by decide +kernel, rfl, by decide +kernel,
    fun m z' h => absurd h (Nat.not_lt_zero m), pm, _, _, _, rfl, rfl, SqL.of upd_same, atI_nat (j := 0) rfl, q _ g2⟩
end
end MS
end
section
set_option Elab.async false
set_option linter.all false
set_option maxRecDepth 100000
set_option maxHeartbeats 4000000
namespace MS
open PySem PySem.Spec PyProof.Rows L2 L2H GE
abbrev s_law_told : Stmt := top 51
section
variable {P : Program} {w : World} {K : PySem.W.Frag} {mg : Str → Option Value} {base : Heap} {f fC fS fV fO fL : Addr} {fd dC dS dV dO dL : FuncData} {C M T1 T2 : Addr}
/-- the answer is the pair that says that BadShape was raised -/
def RF (H : Hp) (Q : VK) : Prop := ∀ p H', Gr H H' → H' p = some (.tup [.str "refused", .str "shape"]) → Q (.ref p) H'
def spTold (K : PySem.W.Frag) (T1 T2 : Addr) : Sp := fun vs H Q _ => ∃ (way : Nat) (v : V) (d : PyData), vs = [.int way, v] ∧ way < 4 ∧ Dt K H v d ∧ SeqAt.shaped d = true ∧ GxR.TabG H T1 ∧ GxR.TabG H T2 ∧
  ((nested 6 d = false ∧ RF H Q) ∨ ∃ s, d = Sh.data s ∧ Sh.wf 6 s ∧ ((way = 0 ∧ (Sh.size s ≤ 40 → ∀ H', Gr H H' → Q (.str "let") H')) ∨ (way = 1 ∧ (Sh.size s ≤ 40 → ∀ H', Gr H H' → Q (.int (Sh.size s)) H'))) ∧ (¬ Sh.size s ≤ 40 → RF H Q))
abbrev kTold : List Str := ["way", "shape", "e"]
theorem sc_law_told : FnScope kTold ["way", "shape"] (defScope s_law_told) := ⟨rfl, rfl, rfl, by decide +kernel, rfl, by decide +kernel, by decide +kernel⟩
structure TTxt (P : Program) (w : World) (K : PySem.W.Frag) (mg : Str → Option Value) (base : Heap) (fC fS fV fO fL : Addr) (dC dS dV dO dL : FuncData) (C M T1 T2 : Addr) : Prop where
  OC : FnOk P w K mg base (EA.CX EA.Za P w) 22 fC dC ["shape"] (spCheck K C T1 T2)
  gC : mg "check_shape" = some (.ref fC)
  kC : PySem.W.keepIn K (.ref fC) = true
  bC : Binds K dC ["shape"] []
  OS : FnOk P w K mg base (EA.CX EA.Za P w) 23 fS dS ["shape"] (spSize K C T1 T2)
  gS : mg "size" = some (.ref fS)
  kS : PySem.W.keepIn K (.ref fS) = true
  bS : Binds K dS ["shape"] []
  OV : FnOk P w K mg base (EA.CX EA.Za P w) 23 fV dV ["shape", "states", "x"] (spBad K C T1 T2 2)
  gV : mg "is_value" = some (.ref fV)
  kV : PySem.W.keepIn K (.ref fV) = true
  bV : Binds K dV ["shape", "states", "x"] []
  OO : FnOk P w K mg base (EA.CX EA.Za P w) 23 fO dO ["shape", "states"] (spBad K C T1 T2 1)
  gO : mg "count_values" = some (.ref fO)
  kO : PySem.W.keepIn K (.ref fO) = true
  bO : Binds K dO ["shape", "states"] []
  OL : EA.FnA P w K mg base 1 fL dL ["e"] (spClass C)
  gL : mg "_law_class" = some (.ref fL)
  kL : PySem.W.keepIn K (.ref fL) = true
  bL : Binds K dL ["e"] []
  gM : mg "ManyshapedError" = some (.ref M)
  xM : PySem.W.exmOne K (.ref C) (.ref M) = some true
theorem ok_law_told (X : TTxt P w K mg base fC fS fV fO fL dC dS dV dO dL C M T1 T2) (F : Fun K "_law_told" "_law_told" s_law_told f fd) : FnOk P w K mg base (EA.CX EA.Za P w) 24 f fd ["way", "shape"] (spTold K T1 T2) := by
  refine EA.okX F sc_law_told (fun vs H Q E h => ?_) (fun cdv A outer s H vs Q E hr h => ?_)
  · obtain ⟨way, v, d, rfl, _⟩ := h
    rfl
  obtain ⟨way, v, d, rfl, hway, hd, hsh, hT1, hT2, q⟩ := h
  have nd := sc_law_told.nd
  have hr22 : Room 22 (A.deeper (envOfC "_law_told" (defScope s_law_told) s.heap.objs.size f cdv)) := hr.mono (by omega)
  have hrH : RoomH 1 (A.deeper (envOfC "_law_told" (defScope s_law_told) s.heap.objs.size f cdv)) := roomH_of (hr.mono (by omega))
  refine ⟨_, pss_cons (EA.ps_try_as (i := 2) EA.zaOk rfl rfl nd rfl rfl ⟨rfl, by decide, .inl X.gM⟩ (EA.takes_of EA.zaOk rfl rfl rfl rfl)
      (fun W pn xe tk _ => pss_cons (ps_if (pt_cmpR op_eq (pv 0) pe_int (nomark _))
          (pss_one (ps_ret (pe_ifExp (pt_cmpR op_isN (pe_callS X.OC hr22 rfl X.gC X.kC X.bC (fun σ => EA.passAt tk σ) (pa_cons (pv 1) pa_nil)) pe_non (nomark _)) pe_str pe_str))) pss_nil)
        (pss_cons (ps_if (pt_cmpR op_eq (pv 0) pe_int (nomark _))
          (pss_one (ps_ret (pe_callS X.OS hr rfl X.gS X.kS X.bS (fun σ => EA.passAt tk σ) (pa_cons (pv 1) pa_nil)))) pss_nil)
        (pss_one (ps_if (pt_cmpR op_eq (pv 0) pe_int (nomark _))
          (pss_one (ps_expr (pe_callS X.OV hr rfl X.gV X.kV X.bV (fun σ => EA.passAt tk σ) (pa_cons (pv 1) (pa_cons pe_int (pa_cons pe_int pa_nil))))))
          (pss_one (ps_expr (pe_callS X.OO hr rfl X.gO X.kO X.bO (fun σ => EA.passAt tk σ) (pa_cons (pv 1) (pa_cons pe_int pa_nil)))))))))
      (fun a oe cls dd pn hz hf => pss_one (ps_ret (pe_tup (pa_cons pe_str (pa_cons (EA.pe_callA hz hf X.OL hrH rfl X.gL X.kL X.bL (pa_cons (pv 2) pa_nil)) pa_nil))))))
    (pss_one (ps_ret pe_str)), ?_⟩
  have sz2 : 2 ≤ sizeLine := by rw [sizeLine_eq]; decide
  by_cases w0 : way = 0
  · subst w0
    refine ⟨_, rfl, rfl, _, rfl, eqI_T rfl ⟨_, rfl, v, rfl, d, hd, hsh, hT1, hT2, ?_⟩⟩
    rcases q with ⟨nb, rf⟩ | ⟨s, rfl, hw, ok, no⟩
    · exact .inl ⟨nb, (fun t H' g ht => ⟨true, X.xM, fun _ a ha => ⟨_, rfl, t, rfl, rfl, rfl, ht, fun H'' g2 => ⟨sz2, fun p hp => rf p _ ((g.trans g2).trans (Gx.new hp)) upd_same⟩⟩, fun h => nomatch h⟩)⟩
    · refine .inr ⟨s, rfl, hw, fun hz H' g => ?_, fun hz => (fun t H' g ht => ⟨true, X.xM, fun _ a ha => ⟨_, rfl, t, rfl, rfl, rfl, ht, fun H'' g2 => ⟨sz2, fun p hp => no hz p _ ((g.trans g2).trans (Gx.new hp)) upd_same⟩⟩, fun h => nomatch h⟩)⟩
      rcases ok with ⟨_, ok⟩ | ⟨e, _⟩
      · exact ⟨rfl, _, rfl, ifT (by decide +kernel) (ok hz H' g)⟩
      · exact absurd e (by decide)
  · refine ⟨_, rfl, rfl, _, rfl, eqI_F (by omega) ?_⟩
    by_cases w1 : way = 1
    · subst w1
      refine ⟨_, rfl, rfl, _, rfl, eqI_T rfl ⟨_, rfl, v, rfl, d, hd, hsh, hT1, hT2, ?_⟩⟩
      rcases q with ⟨nb, rf⟩ | ⟨s, rfl, hw, ok, no⟩
      · exact .inl ⟨nb, (fun t H' g ht => ⟨true, X.xM, fun _ a ha => ⟨_, rfl, t, rfl, rfl, rfl, ht, fun H'' g2 => ⟨sz2, fun p hp => rf p _ ((g.trans g2).trans (Gx.new hp)) upd_same⟩⟩, fun h => nomatch h⟩)⟩
      · refine .inr ⟨s, rfl, hw, fun hz H' g => ?_, fun hz => (fun t H' g ht => ⟨true, X.xM, fun _ a ha => ⟨_, rfl, t, rfl, rfl, rfl, ht, fun H'' g2 => ⟨sz2, fun p hp => no hz p _ ((g.trans g2).trans (Gx.new hp)) upd_same⟩⟩, fun h => nomatch h⟩)⟩
        rcases ok with ⟨e, _⟩ | ⟨_, ok⟩
        · exact absurd e (by decide)
        · exact ok hz H' g
    · obtain ⟨nb, rf⟩ : nested 6 d = false ∧ RF H Q := by
        rcases q with q | ⟨s, _, _, ok, _⟩
        · exact q
        · rcases ok with ⟨e, _⟩ | ⟨e, _⟩
          · exact absurd e w0
          · exact absurd e w1
      refine ⟨_, rfl, rfl, _, rfl, eqI_F (by omega) ?_⟩
      refine ⟨_, rfl, rfl, _, rfl, ite2 (fun c => ?_) (fun c => ?_)⟩
      · exact ⟨v, rfl, v, [.int 2, .int 0], d, rfl, rfl, hd, hsh, hT1, hT2, nb, (fun t H' g ht => ⟨true, X.xM, fun _ a ha => ⟨_, rfl, t, rfl, rfl, rfl, ht, fun H'' g2 => ⟨sz2, fun p hp => rf p _ ((g.trans g2).trans (Gx.new hp)) upd_same⟩⟩, fun h => nomatch h⟩)⟩
      · exact ⟨v, rfl, v, [.int 2], d, rfl, rfl, hd, hsh, hT1, hT2, nb, (fun t H' g ht => ⟨true, X.xM, fun _ a ha => ⟨_, rfl, t, rfl, rfl, rfl, ht, fun H'' g2 => ⟨sz2, fun p hp => rf p _ ((g.trans g2).trans (Gx.new hp)) upd_same⟩⟩, fun h => nomatch h⟩)⟩
end
end MS
end
section
set_option Elab.async false
set_option linter.all false
set_option maxRecDepth 100000
set_option maxHeartbeats 4000000
namespace MS
open PySem PySem.Spec PyProof.Rows L2 L2H GE
/-! ### literals: what they make -/
section
variable {K : PySem.W.Frag} {H0 : Hp} {σ : St} {te : TE} {t : TA} {d : PyData} {ds : List PyData}
def YE (K : PySem.W.Frag) (H0 : Hp) (σ : St) (te : TE) (d : PyData) : Prop := ∀ (H : Hp) (Q : VK), Gr H0 H → (∀ (v : V) H', Gr H H' → Dt K H' v d → Q v H') → te σ H Q
def YA (K : PySem.W.Frag) (H0 : Hp) (σ : St) (t : TA) (ds : List PyData) : Prop := ∀ (H : Hp) (Q : List V → Hp → Prop), Gr H0 H → (∀ (vs : List V) H', Gr H H' → DtAll K H' vs ds → Q vs H') → t σ H Q
theorem yInt (i : Int) : YE K H0 σ (tC (.int i)) (.int i) := fun H Q _ q => q _ H Gx.refl (.int i)
theorem yStr (x : Str) : YE K H0 σ (tC (.str x)) (kS x) := fun H Q _ q => q _ H Gx.refl (.str x)
theorem yBl (b : Bool) : YE K H0 σ (tC (.bl b)) (.bool b) := fun H Q _ q => q _ H Gx.refl (.bl b)
theorem yNon : YE K H0 σ (tC .non) .none := fun H Q _ q => q _ H Gx.refl .non
theorem yNeg (i : Int) : YE K H0 σ (tUn (rU fun i => .int (-i)) (tC (.int i))) (.int (-i)) := fun H Q _ q => ⟨i, rfl, q _ H Gx.refl (.int _)⟩
theorem yVar {i : Nat} {v : V} (e : σ[i]? = some (some v)) (h : Dt K H0 v d) : YE K H0 σ (tVar i) d := fun H Q g q => ⟨v, e, q v H Gx.refl (h.gr g)⟩
theorem yNil : YA K H0 σ tNil [] := fun H Q _ q => q [] H Gx.refl .nil
theorem yCons (h1 : YE K H0 σ te d) (h2 : YA K H0 σ t ds) : YA K H0 σ (tCons te t) (d :: ds) := fun H Q g q => h1 H _ g fun v H1 g1 d1 => h2 H1 _ (g.trans g1) fun vs H2 g2 d2 => q _ H2 (g1.trans g2) (.cons (d1.gr g2) d2)
theorem yTup (h : YA K H0 σ t ds) (hl : ds.length ≤ 1000 := by exact Nat.le_of_ble_eq_true rfl) : YE K H0 σ (tTup t) (.tuple ds) := fun H Q g q => h H _ g fun vs H1 g1 d1 => ⟨by rw [d1.length, sizeLine_eq]; omega, fun p hp => q _ _ (g1.then hp) (Dt.mk d1 hp)⟩
theorem dtRep {H : Hp} {v : V} (h : Dt K H v d) : ∀ k, DtAll K H (List.replicate k v) (List.replicate k d)
  | 0 => .nil
  | k + 1 => .cons h (dtRep h k)
theorem flatRep (v : V) : ∀ k, (List.replicate k [v]).flatten = List.replicate k v
  | 0 => rfl
  | k + 1 => by rw [List.replicate_succ, List.flatten_cons, flatRep v k]; rfl
theorem yRep (k : Nat) (h : YE K H0 σ te d) (h1 : 2 ≤ k := by decide) (h2 : k ≤ 1000 := by decide) : YE K H0 σ (tOp (rRepT K) (tTup (tCons te tNil)) (tC (.int (k : Int)))) (.tuple (List.replicate k d)) := fun H Q g q =>
  yTup (yCons h yNil) (Nat.le_add_left 1 999) H _ g fun x H1 g1 dx => by
    cases dx with
    | @tup a xs _ hs ha =>
      cases ha with
      | cons hv hn =>
        cases hn
        refine ⟨a, k, _, rfl, rfl, hs, List.cons_ne_nil _ _, by omega, by omega, by show 1 ≤ 1000; decide, fun p hp => ?_⟩
        rw [Int.toNat_natCast, flatRep]
        exact q _ _ (g1.then hp) (Dt.mk (dtRep hv k) hp)
theorem DtAll.mem {H : Hp} : ∀ {vs : List V} {ds : List PyData} {v : V}, DtAll K H vs ds → v ∈ vs → ∃ x, x ∈ ds ∧ Dt K H v x := fun {vs ds v} h hv => by
  obtain ⟨i, hi⟩ := List.mem_iff_getElem?.mp hv
  obtain ⟨x, hx, hd⟩ := h.of_get hi
  exact ⟨x, List.mem_of_getElem? hx, hd⟩
end
/-! ### data that are no shape -/
structure BadD (m : Nat) (d : PyData) : Prop where
  no : ∀ n, n ≤ 6 → nested n d = false
  dp : d.depth ≤ 2 * m + 4
  lay : d.canLay0 = true
theorem BadD.shaped {m : Nat} {d : PyData} (h : BadD m d) (hm : m ≤ 30) : SeqAt.shaped d = true := by
  show (d.canLay0 && decide (d.depth ≤ 64)) = true
  have h1 := h.dp
  rw [h.lay, decide_eq_true (show d.depth ≤ 64 by omega)]
  rfl
theorem BadD.mono {m k : Nat} {d : PyData} (h : BadD m d) (hm : m ≤ k) : BadD k d := ⟨h.no, by have := h.dp; omega, h.lay⟩
def inn : PyData := .tuple [kS "self"]
def closedBads : List PyData := [.tuple [], .none, .int 0, kS "self", .tuple [kS "letters", .int 0], .tuple [kS "letters", .int 6], .tuple [kS "letters", .bool true], .tuple [kS "letters", kS "1"], .tuple [kS "letters"], .tuple [kS "letters", .int 1, .int 1], .tuple [kS "self", .int 1], .tuple [kS "both", .tuple []], .tuple [kS "both", .tuple [inn, inn, inn, inn, inn]], .tuple [kS "both", inn], .tuple [kS "both"], .tuple [kS "either", .tuple []], .tuple [kS "either", .tuple [inn, inn, inn, inn, inn]], .tuple [kS "either", .int 0], .tuple [kS "either", .tuple [inn], .int 0], .tuple [kS "after", .int 5, inn], .tuple [kS "after", .int (-1), inn], .tuple [kS "after", .bool false, inn], .tuple [kS "after", .int 1], .tuple [kS "after", inn, .int 1], .tuple [kS "some"], .tuple [kS "some", inn, inn], .tuple [kS "many", .int 1], .tuple [kS "many", .tuple []], .tuple [kS "chance", .none], .tuple [kS "chance", .tuple [inn]], .tuple [kS "one", inn], .tuple [kS "Self"], .tuple [kS "somes", inn], .tuple [kS "som", inn], .tuple [kS "bot", .tuple [inn]], .tuple [kS "bothe", .tuple [inn]], .tuple [kS "letter", .int 1], .tuple [kS "selfs"], .tuple [kS "chances", inn], .tuple [kS "man", inn], .tuple [kS "afters", .int 1, inn], .tuple [kS "eith", .tuple [inn]], .tuple [kS "", inn]]
theorem closed_ok : (closedBads.all fun x => (List.range 7).all (fun n => !nested n x) && x.canLay0 && decide (x.depth ≤ 4)) = true := by decide +kernel
def openBads (d : PyData) : List PyData := [.tuple [d], .tuple [kS "some", .tuple [d, d]], .tuple [.int 0, d]]
def bads (d : PyData) : List PyData := [.tuple [], .none, .int 0, kS "self", .tuple [kS "letters", .int 0], .tuple [kS "letters", .int 6], .tuple [kS "letters", .bool true], .tuple [kS "letters", kS "1"], .tuple [kS "letters"], .tuple [kS "letters", .int 1, .int 1], .tuple [kS "self", .int 1], .tuple [kS "both", .tuple []], .tuple [kS "both", .tuple [inn, inn, inn, inn, inn]], .tuple [kS "both", inn], .tuple [kS "both"], .tuple [kS "either", .tuple []], .tuple [kS "either", .tuple [inn, inn, inn, inn, inn]], .tuple [kS "either", .int 0], .tuple [kS "either", .tuple [inn], .int 0], .tuple [kS "after", .int 5, inn], .tuple [kS "after", .int (-1), inn], .tuple [kS "after", .bool false, inn], .tuple [kS "after", .int 1], .tuple [kS "after", inn, .int 1], .tuple [kS "some"], .tuple [kS "some", inn, inn], .tuple [kS "many", .int 1], .tuple [kS "many", .tuple []], .tuple [kS "chance", .none], .tuple [kS "chance", .tuple [inn]], .tuple [kS "one", inn], .tuple [kS "Self"], .tuple [kS "somes", inn], .tuple [kS "som", inn], .tuple [kS "bot", .tuple [inn]], .tuple [kS "bothe", .tuple [inn]], .tuple [kS "letter", .int 1], .tuple [kS "selfs"], .tuple [kS "chances", inn], .tuple [kS "man", inn], .tuple [kS "afters", .int 1, inn], .tuple [kS "eith", .tuple [inn]], .tuple [kS "", inn], .tuple [d], .tuple [kS "some", .tuple [d, d]], .tuple [.int 0, d]]
theorem bads_eq (d : PyData) : bads d = closedBads ++ openBads d := rfl
theorem data_tup (s : Sh) : ∃ ds, Sh.data s = .tuple ds := by cases s <;> exact ⟨_, rfl⟩
theorem eqv_ts (ds : List PyData) (x : Str) : PyData.eqv (.tuple ds) (kS x) = false := rfl
theorem nested_some (n : Nat) (x : PyData) : nested (n + 1) (.tuple [kS "some", x]) = nested n x := by
  show (if PyData.eqv (kS "some") (kS "self") = true then false else if PyData.eqv (kS "some") (kS "after") = true then false else if PyData.eqv (kS "some") (kS "letters") = true then numBelow x 6 && posD x
      else if ([kS "both", kS "either"].any fun z => PyData.eqv z (kS "some")) = true then areN (nested n) x else ([kS "some", kS "many", kS "chance"].any fun z => PyData.eqv z (kS "some")) && nested n x) = _
  rw [if_neg (by decide +kernel), if_neg (by decide +kernel), if_neg (by decide +kernel), if_neg (by decide +kernel), show ([kS "some", kS "many", kS "chance"].any fun z => PyData.eqv z (kS "some")) = true from by decide +kernel, Bool.true_and]
theorem bads_ok {m : Nat} {s : Sh} (hw : Sh.wf m s) : ∀ x ∈ bads (Sh.data s), BadD m x := by
  intro x hx
  rw [bads_eq] at hx
  rcases List.mem_append.mp hx with h | h
  · have z := List.all_eq_true.mp closed_ok x h
    simp only [Bool.and_eq_true, decide_eq_true_eq] at z
    obtain ⟨⟨z1, z2⟩, z3⟩ := z
    refine ⟨fun n hn => ?_, by omega, z2⟩
    have y := List.all_eq_true.mp z1 n (List.mem_range.mpr (by omega))
    simpa using y
  · obtain ⟨h1, h2⟩ := Sh.depth_le m s hw
    obtain ⟨ds, e⟩ := data_tup s
    have o1 : PyData.strOk "some" = true := by decide +kernel
    simp only [openBads, List.mem_cons, List.not_mem_nil, or_false] at h
    rcases h with rfl | rfl | rfl
    · refine ⟨fun n hn => ?_, ?_, ?_⟩
      · cases n with
        | zero => rfl
        | succ n => rw [e]; rfl
      · simp only [PyData.depth, PyData.depthAll]; omega
      · simp only [PyData.canLay0, PyData.canLayAll0, h2]; rfl
    · refine ⟨fun n hn => ?_, ?_, ?_⟩
      · cases n with
        | zero => rfl
        | succ n =>
          rw [nested_some]
          cases n with
          | zero => rfl
          | succ n => rw [e]; rfl
      · simp only [kS, PyData.depth, PyData.depthAll]; omega
      · simp only [kS, PyData.canLay0, PyData.canLayAll0, h2, o1]; rfl
    · refine ⟨fun n hn => ?_, ?_, ?_⟩
      · cases n with
        | zero => rfl
        | succ n => rfl
      · simp only [PyData.depth, PyData.depthAll]; omega
      · simp only [PyData.canLay0, PyData.canLayAll0, h2]; decide +kernel
end MS
end
section
set_option Elab.async false
set_option linter.all false
set_option maxRecDepth 100000
set_option maxHeartbeats 4000000
namespace MS
open PySem PySem.Spec PyProof.Rows L2 L2H GE
abbrev s_law_wrong : Stmt := top 52
section
variable {P : Program} {w : World} {K : PySem.W.Frag} {mg : Str → Option Value} {base : Heap} {f fT fP fW fS : Addr} {fd dT dP dW dS : FuncData}
def spWrong (K : PySem.W.Frag) : Sp := fun vs H Q _ => ∃ (b l : Addr) (ns : List Int) (v : V) (s : Sh) (m : Nat), vs = [.ref b, v] ∧ Bx b l ns H ∧ Dt K H v (Sh.data s) ∧ Sh.wf m s ∧ ∀ (v' : V) (d' : PyData) H', Dt K H' v' d' → BadD m d' → Bx b l ns H' → Gb b H H' → Q v' H'
abbrev kWrong : List Str := ["box", "shape", "inner", "bad"]
def asgE : Stmt → Expr
  | .Assign _ e _ => e
  | _ => .Constant .none 0 ⟨0, 0, 0, 0⟩
theorem sc_law_wrong : FnScope kWrong ["box", "shape"] (defScope s_law_wrong) := ⟨rfl, rfl, rfl, by decide +kernel, rfl, by decide +kernel, by decide +kernel⟩
theorem ok_law_wrong {k : Nat} (X : DTxt P w K mg base fT fP dT dP) (F : Fun K "_law_wrong" "_law_wrong" s_law_wrong f fd) : FnOk P w K mg base CX0 3 f fd ["box", "shape"] (spWrong K) := by
  refine F.ok sc_law_wrong (fun vs H Q E h => ?_) (fun cdv A outer s H vs Q E hr h => ?_)
  · obtain ⟨b, l, ns, v, s, m, rfl, _⟩ := h
    rfl
  obtain ⟨b, l, ns, v, sh, m, rfl, hB, hd, hw, q⟩ := h
  obtain ⟨t, ht, hy⟩ : ∃ t, PE (cxOf CX0 P w K mg base kWrong "_law_wrong" (defScope s_law_wrong) f cdv A outer s H E).nox (asgE ((defBody s_law_wrong).getD 1 (.Pass ⟨0, 0, 0, 0⟩))) (tLst t) ∧ ∀ H0 σ d, YE K H0 σ (tVar 2) inn → YE K H0 σ (tVar 1) d → YA K H0 σ t (bads d) :=
    ⟨_, (pe_lst (pa_cons (pe_tup (pa_nil)) (pa_cons pe_non (pa_cons pe_int (pa_cons pe_str (pa_cons (pe_tup (pa_cons pe_str (pa_cons pe_int (pa_nil)))) (pa_cons (pe_tup (pa_cons pe_str (pa_cons pe_int (pa_nil)))) (pa_cons (pe_tup (pa_cons pe_str (pa_cons pe_bl (pa_nil)))) (pa_cons (pe_tup (pa_cons pe_str (pa_cons pe_str (pa_nil)))) (pa_cons (pe_tup (pa_cons pe_str (pa_nil))) (pa_cons (pe_tup (pa_cons pe_str (pa_cons pe_int (pa_cons pe_int (pa_nil))))) (pa_cons (pe_tup (pa_cons pe_str (pa_cons pe_int (pa_nil)))) (pa_cons (pe_tup (pa_cons pe_str (pa_cons (pe_tup (pa_nil)) (pa_nil)))) (pa_cons (pe_tup (pa_cons pe_str (pa_cons (pe_op op_repT (pe_tup (pa_cons (pv 2) (pa_nil))) pe_int) (pa_nil)))) (pa_cons (pe_tup (pa_cons pe_str (pa_cons (pv 2) (pa_nil)))) (pa_cons (pe_tup (pa_cons pe_str (pa_nil))) (pa_cons (pe_tup (pa_cons pe_str (pa_cons (pe_tup (pa_nil)) (pa_nil)))) (pa_cons (pe_tup (pa_cons pe_str (pa_cons (pe_op op_repT (pe_tup (pa_cons (pv 2) (pa_nil))) pe_int) (pa_nil)))) (pa_cons (pe_tup (pa_cons pe_str (pa_cons pe_int (pa_nil)))) (pa_cons (pe_tup (pa_cons pe_str (pa_cons (pe_tup (pa_cons (pv 2) (pa_nil))) (pa_cons pe_int (pa_nil))))) (pa_cons (pe_tup (pa_cons pe_str (pa_cons pe_int (pa_cons (pv 2) (pa_nil))))) (pa_cons (pe_tup (pa_cons pe_str (pa_cons (pe_un un_neg pe_int) (pa_cons (pv 2) (pa_nil))))) (pa_cons (pe_tup (pa_cons pe_str (pa_cons pe_bl (pa_cons (pv 2) (pa_nil))))) (pa_cons (pe_tup (pa_cons pe_str (pa_cons pe_int (pa_nil)))) (pa_cons (pe_tup (pa_cons pe_str (pa_cons (pv 2) (pa_cons pe_int (pa_nil))))) (pa_cons (pe_tup (pa_cons pe_str (pa_nil))) (pa_cons (pe_tup (pa_cons pe_str (pa_cons (pv 2) (pa_cons (pv 2) (pa_nil))))) (pa_cons (pe_tup (pa_cons pe_str (pa_cons pe_int (pa_nil)))) (pa_cons (pe_tup (pa_cons pe_str (pa_cons (pe_tup (pa_nil)) (pa_nil)))) (pa_cons (pe_tup (pa_cons pe_str (pa_cons pe_non (pa_nil)))) (pa_cons (pe_tup (pa_cons pe_str (pa_cons (pe_tup (pa_cons (pv 2) (pa_nil))) (pa_nil)))) (pa_cons (pe_tup (pa_cons pe_str (pa_cons (pv 2) (pa_nil)))) (pa_cons (pe_tup (pa_cons pe_str (pa_nil))) (pa_cons (pe_tup (pa_cons pe_str (pa_cons (pv 2) (pa_nil)))) (pa_cons (pe_tup (pa_cons pe_str (pa_cons (pv 2) (pa_nil)))) (pa_cons (pe_tup (pa_cons pe_str (pa_cons (pe_tup (pa_cons (pv 2) (pa_nil))) (pa_nil)))) (pa_cons (pe_tup (pa_cons pe_str (pa_cons (pe_tup (pa_cons (pv 2) (pa_nil))) (pa_nil)))) (pa_cons (pe_tup (pa_cons pe_str (pa_cons pe_int (pa_nil)))) (pa_cons (pe_tup (pa_cons pe_str (pa_nil))) (pa_cons (pe_tup (pa_cons pe_str (pa_cons (pv 2) (pa_nil)))) (pa_cons (pe_tup (pa_cons pe_str (pa_cons (pv 2) (pa_nil)))) (pa_cons (pe_tup (pa_cons pe_str (pa_cons pe_int (pa_cons (pv 2) (pa_nil))))) (pa_cons (pe_tup (pa_cons pe_str (pa_cons (pe_tup (pa_cons (pv 2) (pa_nil))) (pa_nil)))) (pa_cons (pe_tup (pa_cons pe_str (pa_cons (pv 2) (pa_nil)))) (pa_cons (pe_tup (pa_cons (pv 1) (pa_nil))) (pa_cons (pe_tup (pa_cons pe_str (pa_cons (pe_tup (pa_cons (pv 1) (pa_cons (pv 1) (pa_nil)))) (pa_nil)))) (pa_cons (pe_tup (pa_cons pe_int (pa_cons (pv 1) (pa_nil)))) (pa_nil)))))))))))))))))))))))))))))))))))))))))))))))), fun H0 σ d y_inner y_shape => (yCons (yTup (yNil)) (yCons yNon (yCons (yInt _) (yCons (yStr _) (yCons (yTup (yCons (yStr _) (yCons (yInt _) (yNil)))) (yCons (yTup (yCons (yStr _) (yCons (yInt _) (yNil)))) (yCons (yTup (yCons (yStr _) (yCons (yBl _) (yNil)))) (yCons (yTup (yCons (yStr _) (yCons (yStr _) (yNil)))) (yCons (yTup (yCons (yStr _) (yNil))) (yCons (yTup (yCons (yStr _) (yCons (yInt _) (yCons (yInt _) (yNil))))) (yCons (yTup (yCons (yStr _) (yCons (yInt _) (yNil)))) (yCons (yTup (yCons (yStr _) (yCons (yTup (yNil)) (yNil)))) (yCons (yTup (yCons (yStr _) (yCons (yRep 5 y_inner) (yNil)))) (yCons (yTup (yCons (yStr _) (yCons y_inner (yNil)))) (yCons (yTup (yCons (yStr _) (yNil))) (yCons (yTup (yCons (yStr _) (yCons (yTup (yNil)) (yNil)))) (yCons (yTup (yCons (yStr _) (yCons (yRep 5 y_inner) (yNil)))) (yCons (yTup (yCons (yStr _) (yCons (yInt _) (yNil)))) (yCons (yTup (yCons (yStr _) (yCons (yTup (yCons y_inner (yNil))) (yCons (yInt _) (yNil))))) (yCons (yTup (yCons (yStr _) (yCons (yInt _) (yCons y_inner (yNil))))) (yCons (yTup (yCons (yStr _) (yCons (yNeg _) (yCons y_inner (yNil))))) (yCons (yTup (yCons (yStr _) (yCons (yBl _) (yCons y_inner (yNil))))) (yCons (yTup (yCons (yStr _) (yCons (yInt _) (yNil)))) (yCons (yTup (yCons (yStr _) (yCons y_inner (yCons (yInt _) (yNil))))) (yCons (yTup (yCons (yStr _) (yNil))) (yCons (yTup (yCons (yStr _) (yCons y_inner (yCons y_inner (yNil))))) (yCons (yTup (yCons (yStr _) (yCons (yInt _) (yNil)))) (yCons (yTup (yCons (yStr _) (yCons (yTup (yNil)) (yNil)))) (yCons (yTup (yCons (yStr _) (yCons yNon (yNil)))) (yCons (yTup (yCons (yStr _) (yCons (yTup (yCons y_inner (yNil))) (yNil)))) (yCons (yTup (yCons (yStr _) (yCons y_inner (yNil)))) (yCons (yTup (yCons (yStr _) (yNil))) (yCons (yTup (yCons (yStr _) (yCons y_inner (yNil)))) (yCons (yTup (yCons (yStr _) (yCons y_inner (yNil)))) (yCons (yTup (yCons (yStr _) (yCons (yTup (yCons y_inner (yNil))) (yNil)))) (yCons (yTup (yCons (yStr _) (yCons (yTup (yCons y_inner (yNil))) (yNil)))) (yCons (yTup (yCons (yStr _) (yCons (yInt _) (yNil)))) (yCons (yTup (yCons (yStr _) (yNil))) (yCons (yTup (yCons (yStr _) (yCons y_inner (yNil)))) (yCons (yTup (yCons (yStr _) (yCons y_inner (yNil)))) (yCons (yTup (yCons (yStr _) (yCons (yInt _) (yCons y_inner (yNil))))) (yCons (yTup (yCons (yStr _) (yCons (yTup (yCons y_inner (yNil))) (yNil)))) (yCons (yTup (yCons (yStr _) (yCons y_inner (yNil)))) (yCons (yTup (yCons y_shape (yNil))) (yCons (yTup (yCons (yStr _) (yCons (yTup (yCons y_shape (yCons y_shape (yNil)))) (yNil)))) (yCons (yTup (yCons (yInt _) (yCons y_shape (yNil)))) (yNil)))))))))))))))))))))))))))))))))))))))))))))))⟩
  refine ⟨_, pss_cons (ps_set (i := 2) sc_law_wrong.nd rfl (.inl rfl) (pe_tup (pa_cons pe_str pa_nil)))
    (pss_cons (ps_set (i := 3) sc_law_wrong.nd rfl (.inl rfl) ht)
    (pss_one (ps_ret (pe_call X.OP hr rfl X.gP X.kP X.bP .nil pass0 (pa_cons (pv 0) (pa_cons (pv 3) pa_nil)))))), ?_⟩
  have sz2 : 1 ≤ sizeLine := by rw [sizeLine_eq]; decide
  refine ⟨sz2, fun pi hi => ?_⟩
  have g1 : Gr H (upd H pi (.tup [.str "self"])) := Gx.new hi
  have dI : Dt K (upd H pi (.tup [.str "self"])) (.ref pi) inn := Dt.mk (.cons (.str _) .nil) hi
  have y_inner : YE K (upd H pi (.tup [.str "self"])) [some (.ref b), some v, some (.ref pi), none] (tVar 2) inn := yVar rfl dI
  have y_shape : YE K (upd H pi (.tup [.str "self"])) [some (.ref b), some v, some (.ref pi), none] (tVar 1) (Sh.data sh) := yVar rfl (hd.gr g1)
  have all := hy _ [some (.ref b), some v, some (.ref pi), none] (Sh.data sh) y_inner y_shape
  refine all _ _ Gx.refl fun vs H2 g2 ha => ?_
  have hlen : vs.length = 46 := by rw [ha.length]; rfl
  refine ⟨by rw [hlen, sizeLine_eq]; decide, fun pl hl => ?_⟩
  have g3 : Gr H (upd H2 pl (.lst vs)) := (g1.trans g2).then hl
  have hB3 : Bx b l ns (upd H2 pl (.lst vs)) := hB.gr g3
  refine ⟨_, rfl, _, rfl, b, l, pl, ns, vs, rfl, hB3, upd_same, fun z => (hB.gr (g1.trans g2)).nb hl z.symm, by omega, by omega, fun v' H4 hv B4 g4 => ?_⟩
  obtain ⟨x, hx, hdx⟩ := DtAll.mem ha hv
  exact q v' x H4 (Dt.gx hB3.not g4 (hdx.new hl)) (bads_ok hw x hx) B4 ((Gx.of_gr g3).trans g4)
end
end MS
end
section
set_option Elab.async false
set_option linter.all false
set_option maxRecDepth 100000
set_option maxHeartbeats 4000000
namespace MS
open PySem PySem.Spec PyProof.Rows L2 L2H GE
abbrev s_law_spoilt : Stmt := top 53
section
variable {K : PySem.W.Frag} {H H' : Hp} {Q : VK}
/-- a part of a tuple -/
def cutD (ds : List PyData) (lo hi : Option Int) : List PyData := (ds.drop (HT.sIx ds.length 0 lo)).take (HT.sIx ds.length ds.length hi - HT.sIx ds.length 0 lo)
theorem sl_data {v : V} {ds : List PyData} {lo hi : Option Int} (h : Dt K H v (.tuple ds)) (q : ∀ (u : V) H', Gr H H' → Dt K H' u (.tuple (cutD ds lo hi)) → Q u H') : rSlA K v lo hi H Q := by
  cases h with
  | @tup a xs _ hs ha =>
    have el : xs.length = ds.length := ha.length
    refine ⟨a, xs, rfl, hs, fun e => q _ _ Gx.refl ?_, fun _ p hp => q _ _ (Gx.new hp) (Dt.mk ?_ hp)⟩
    · have ec : cutD ds lo hi = ds := by
        unfold cutD
        rw [← el, e.1, e.2, List.drop_zero, Nat.sub_zero, el, List.take_length]
      rw [ec]
      exact .tup hs ha
    · unfold cutV cutD
      rw [← el]
      exact (ha.drop _).take _
theorem cat_data {v u : V} {ds es : List PyData} (h1 : Dt K H v (.tuple ds)) (h2 : Dt K H u (.tuple es)) (l1 : ds.length ≤ 100) (l2 : es.length ≤ 100) (q : ∀ (z : V) H', Gr H H' → Dt K H' z (.tuple (ds ++ es)) → Q z H') : rCatA K v u H Q := by
  cases h1 with
  | @tup a xs _ hs ha =>
    cases h2 with
    | @tup b ys _ hs2 ha2 =>
      have e1 : xs.length = ds.length := ha.length
      have e2 : ys.length = es.length := ha2.length
      refine ⟨a, b, xs, ys, rfl, rfl, hs, hs2, by rw [sizeLine_eq]; omega, fun e => q _ _ Gx.refl ?_, fun _ e => q _ _ Gx.refl ?_, fun _ _ p hp => q _ _ (Gx.new hp) (Dt.mk (ha.append ha2) hp)⟩
      · have z : ds = [] := List.eq_nil_of_length_eq_zero (by rw [← e1, e]; rfl)
        rw [z, List.nil_append]
        exact .tup hs2 ha2
      · have z : es = [] := List.eq_nil_of_length_eq_zero (by rw [← e2, e]; rfl)
        rw [z, List.append_nil]
        exact .tup hs ha
theorem cut_to (ds : List PyData) (n : Nat) : cutD ds none (some (n : Int)) = ds.take n := by
  unfold cutD
  rw [HT.sIx_none, HT.sIx_nat, List.drop_zero, Nat.sub_zero]
  by_cases h : n ≤ ds.length
  · rw [Nat.min_eq_left h]
  · rw [Nat.min_eq_right (by omega), List.take_length, List.take_of_length_le (by omega)]
theorem cut_from (ds : List PyData) (n : Nat) : cutD ds (some (n : Int)) none = ds.drop n := by
  unfold cutD
  rw [HT.sIx_none, HT.sIx_nat]
  by_cases h : n ≤ ds.length
  · rw [Nat.min_eq_left h, List.take_of_length_le (by rw [List.length_drop]; omega)]
  · rw [Nat.min_eq_right (by omega), List.drop_length, List.drop_eq_nil_of_le (by omega), List.take_nil]
end
theorem depthAll_append : ∀ (ds es : List PyData) (m : Nat), PyData.depthAll ds ≤ m → PyData.depthAll es ≤ m → PyData.depthAll (ds ++ es) ≤ m
  | [], es, m, _, h => h
  | d :: ds, es, m, h, h2 => by
    rw [List.cons_append]
    simp only [PyData.depthAll] at h ⊢
    have := depthAll_append ds es m (by omega) h2
    omega
theorem layAll_append : ∀ (ds es : List PyData), PyData.canLayAll0 ds = true → PyData.canLayAll0 es = true → PyData.canLayAll0 (ds ++ es) = true
  | [], es, _, h => h
  | d :: ds, es, h, h2 => by
    rw [List.cons_append]
    simp only [PyData.canLayAll0, Bool.and_eq_true] at h ⊢
    exact ⟨h.1, layAll_append ds es h.2 h2⟩
theorem bad_last {n : Nat} {d : PyData} (h : BadD n d) : BadD (n + 1) (.tuple ([kS "some"] ++ [d])) ∧ BadD (n + 1) (.tuple ([kS "many"] ++ [d])) ∧ BadD (n + 1) (.tuple ([kS "chance"] ++ [d])) ∧ ∀ j : Nat, BadD (n + 1) (.tuple ([kS "after", .int j] ++ [d])) := by
  have o : ∀ x : Str, PyData.strOk x = true → (kS x).canLay0 = true := fun x h => by simp only [kS, PyData.canLay0, h]
  have d0 : ∀ x : Str, (kS x).depth = 0 := fun x => by simp only [kS, PyData.depth]
  have h2 := h.dp
  have one : ∀ x : Str, PyData.strOk x = true → (∀ k, nested (k + 1) (.tuple ([kS x] ++ [d])) = nested k d) → BadD (n + 1) (.tuple ([kS x] ++ [d])) := fun x hx hn =>
    ⟨fun k hk => by
      cases k with
      | zero => rfl
      | succ k => rw [hn, h.no k (by omega)], by
      simp only [List.cons_append, List.nil_append, PyData.depth, PyData.depthAll, d0]; omega, by
      simp only [List.cons_append, List.nil_append, PyData.canLay0, PyData.canLayAll0, kS, hx, h.lay]; rfl⟩
  refine ⟨one _ (by decide +kernel) (fun k => nested_some k d), one _ (by decide +kernel) fun k => rfl, one _ (by decide +kernel) fun k => rfl, fun j => ⟨fun k hk => ?_, ?_, ?_⟩⟩
  · cases k with
    | zero => rfl
    | succ k =>
      show (numBelow (.int (j : Int)) 5 && nested k d) = false
      rw [h.no k (by omega), Bool.and_false]
  · simp only [List.cons_append, List.nil_append, PyData.depth, PyData.depthAll, d0]; omega
  · simp only [List.cons_append, List.nil_append, PyData.canLay0, PyData.canLayAll0, kS, h.lay]; decide +kernel
theorem bad_in {n : Nat} {d : PyData} {x : Str} {ds es : List PyData} (hx : x = "both" ∨ x = "either") (h : BadD n d) (h1 : PyData.depthAll ds ≤ 2 * n + 4 ∧ PyData.canLayAll0 ds = true) (h2 : PyData.depthAll es ≤ 2 * n + 4 ∧ PyData.canLayAll0 es = true) :
    BadD (n + 1) (.tuple [kS x, .tuple (ds ++ [d] ++ es)]) := by
  have hd := h.dp
  have a1 : PyData.depthAll (ds ++ [d] ++ es) ≤ 2 * n + 4 := depthAll_append _ _ _ (depthAll_append _ _ _ h1.1 (by simp only [PyData.depthAll]; omega)) h2.1
  have a2 : PyData.canLayAll0 (ds ++ [d] ++ es) = true := layAll_append _ _ (layAll_append _ _ h1.2 (by simp only [PyData.canLayAll0, h.lay]; rfl)) h2.2
  have a3 : ∀ k, k ≤ 6 → areN (nested k) (.tuple (ds ++ [d] ++ es)) = false := fun k hk => by
    have z : (ds ++ [d] ++ es).all (nested k) = false := by
      rw [List.all_append, List.all_append, List.all_cons, h.no k hk, Bool.false_and, Bool.and_false, Bool.false_and]
    show (_ && _ && (ds ++ [d] ++ es).all (nested k)) = false
    rw [z, Bool.and_false]
  have d0 : ∀ x : Str, (kS x).depth = 0 := fun x => by simp only [kS, PyData.depth]
  have o : ∀ x : Str, PyData.strOk x = true → (kS x).canLay0 = true := fun x h => by simp only [kS, PyData.canLay0, h]
  have hs : PyData.strOk x = true := by rcases hx with rfl | rfl <;> decide +kernel
  refine ⟨fun k hk => ?_, ?_, ?_⟩
  · cases k with
    | zero => rfl
    | succ k => rcases hx with rfl | rfl <;> exact a3 k (by omega)
  · simp only [PyData.depth, PyData.depthAll, d0]; omega
  · simp only [PyData.canLay0, PyData.canLayAll0, kS, hs, a2]; rfl
/-- a shape's data, by the way it is spoilt -/
theorem told4 {K : PySem.W.Frag} {H : Hp} {n : Nat} {v : V} {s : Sh} (hd : Dt K H v (Sh.data s)) (hw : Sh.wf (n + 1) s) :
    (∃ (x : Str) (a : Addr) (v2 : V) (xs : List Sh), v = .ref a ∧ (x = "both" ∨ x = "either") ∧ SqT K H a [.str x, v2] ∧ Dt K H v2 (.tuple (Sh.datas xs)) ∧ (∀ y ∈ xs, Sh.wf n y) ∧ 1 ≤ xs.length ∧ xs.length ≤ 4) ∨
    (∃ (x : Str) (a : Addr) (ys : List V), v = .ref a ∧ (x = "letters" ∨ x = "self") ∧ SqT K H a (.str x :: ys)) ∨
    (∃ (x : Str) (a : Addr) (ys : List V) (v2 : V) (s2 : Sh) (ds : List PyData), v = .ref a ∧ (x = "after" ∨ x = "some" ∨ x = "many" ∨ x = "chance") ∧ SqT K H a (.str x :: ys ++ [v2]) ∧ DtAll K H (.str x :: ys) ds ∧ ds.length ≤ 2 ∧ Dt K H v2 (Sh.data s2) ∧ Sh.wf n s2 ∧ ∀ d', BadD n d' → BadD (n + 1) (.tuple (ds ++ [d']))) := by
  cases s with
  | letters k =>
    cases hd with | tup hs ha => cases ha with | cons h1 h2 => cases h1; exact .inr (.inl ⟨_, _, _, rfl, .inl rfl, hs⟩)
  | self =>
    cases hd with | tup hs ha => cases ha with | cons h1 h2 => cases h1; exact .inr (.inl ⟨_, _, _, rfl, .inr rfl, hs⟩)
  | both xs =>
    cases hd with | tup hs ha => cases ha with | cons h1 h2 => cases h1; cases h2 with | cons h3 h4 => cases h4; exact .inl ⟨_, _, _, xs, rfl, .inl rfl, hs, h3, hw.2.2, hw.1, hw.2.1⟩
  | either xs =>
    cases hd with | tup hs ha => cases ha with | cons h1 h2 => cases h1; cases h2 with | cons h3 h4 => cases h4; exact .inl ⟨_, _, _, xs, rfl, .inr rfl, hs, h3, hw.2.2, hw.1, hw.2.1⟩
  | after k s =>
    cases hd with | tup hs ha => cases ha with | cons h1 h2 => cases h1; cases h2 with | cons h3 h4 => cases h4 with | cons h5 h6 => cases h6; cases h3; exact .inr (.inr ⟨_, _, [_], _, s, [kS "after", .int k], rfl, .inl rfl, hs, .cons (.str _) (.cons (.int _) .nil), Nat.le_refl 2, h5, hw.2, fun d' h => (bad_last h).2.2.2 k⟩)
  | some s =>
    cases hd with | tup hs ha => cases ha with | cons h1 h2 => cases h1; cases h2 with | cons h3 h4 => cases h4; exact .inr (.inr ⟨_, _, [], _, s, [kS "some"], rfl, .inr (.inl rfl), hs, .cons (.str _) .nil, Nat.le_succ 1, h3, hw, fun d' h => (bad_last h).1⟩)
  | many s =>
    cases hd with | tup hs ha => cases ha with | cons h1 h2 => cases h1; cases h2 with | cons h3 h4 => cases h4; exact .inr (.inr ⟨_, _, [], _, s, [kS "many"], rfl, .inr (.inr (.inl rfl)), hs, .cons (.str _) .nil, Nat.le_succ 1, h3, hw, fun d' h => (bad_last h).2.1⟩)
  | chance s =>
    cases hd with | tup hs ha => cases ha with | cons h1 h2 => cases h1; cases h2 with | cons h3 h4 => cases h4; exact .inr (.inr ⟨_, _, [], _, s, [kS "chance"], rfl, .inr (.inr (.inr rfl)), hs, .cons (.str _) .nil, Nat.le_succ 1, h3, hw, fun d' h => (bad_last h).2.2.1⟩)
end MS
end
section
set_option Elab.async false
set_option linter.all false
set_option maxRecDepth 100000
set_option maxHeartbeats 4000000
namespace MS
open PySem PySem.Spec PyProof.Rows L2 L2H GE
section
variable {P : Program} {w : World} {K : PySem.W.Frag} {mg : Str → Option Value} {base : Heap} {fT fP fW fS : Addr} {dT dP dW dS : FuncData}
def spSpoilt (K : PySem.W.Frag) (n : Nat) : Sp := fun vs H Q _ => ∃ (b l : Addr) (ns : List Int) (v : V) (s : Sh), vs = [.ref b, v] ∧ Bx b l ns H ∧ Dt K H v (Sh.data s) ∧ Sh.wf n s ∧ n ≤ 10 ∧ ∀ (v' : V) (d' : PyData) H', Dt K H' v' d' → BadD n d' → Bx b l ns H' → Gb b H H' → Q v' H'
abbrev kSpoilt : List Str := ["box", "shape", "word", "at"]
theorem sc_law_spoilt : FnScope kSpoilt ["box", "shape"] (defScope s_law_spoilt) := ⟨rfl, rfl, rfl, by decide +kernel, rfl, by decide +kernel, by decide +kernel⟩
theorem ok_law_spoilt {n : Nat} (X : DTxt P w K mg base fT fP dT dP) (OW : FnOk P w K mg base CX0 3 fW dW ["box", "shape"] (spWrong K)) (gW : mg "_law_wrong" = some (.ref fW)) (kW : PySem.W.keepIn K (.ref fW) = true) (bW : Binds K dW ["box", "shape"] [])
    (F : Fun K "_law_spoilt" "_law_spoilt" s_law_spoilt fS dS) (gS : mg "_law_spoilt" = some (.ref fS)) (bS : Binds K dS ["box", "shape"] []) (GS : FnOk P w K mg base CX0 (n + 3) fS dS ["box", "shape"] (spSpoilt K n)) :
    FnOk P w K mg base CX0 (n + 4) fS dS ["box", "shape"] (spSpoilt K (n + 1)) := by
  refine F.ok sc_law_spoilt (fun vs H Q E h => ?_) (fun cdv A outer s0 H vs Q E hr h => ?_)
  · obtain ⟨b, l, ns, v, s, rfl, _⟩ := h
    rfl
  obtain ⟨b, l, ns, v, s, rfl, hB, hd, hw, hn, q⟩ := h
  have nd := sc_law_spoilt.nd
  have hr1 : Room 1 (A.deeper (envOfC "_law_spoilt" (defScope s_law_spoilt) s0.heap.objs.size fS cdv)) := hr.mono (by omega)
  have hr3 : Room 3 (A.deeper (envOfC "_law_spoilt" (defScope s_law_spoilt) s0.heap.objs.size fS cdv)) := hr.mono (by omega)
  refine ⟨_, pss_cons (ps_set (i := 2) nd rfl (.inl rfl) (pe_ix ix_tup (pv 1) pe_int (fun _ _ => rfl)))
    (pss_cons (ps_if (PW.pt (pw_or (pt_cmpR (op_inT (MS.Room.u65 hr)) (pv 2) (pe_tup (pa_cons pe_str (pa_cons pe_str pa_nil))) (by rfl)) (pw_or1 (pt_cmpR op_eq (pe_call X.OT hr1 rfl X.gT X.kT X.bT .nil pass0 (pa_cons (pv 0) (pa_cons pe_int pa_nil))) pe_int (nomark _)))))
      (pss_one (ps_ret (pe_call OW hr3 rfl gW kW bW .nil pass0 (pa_cons (pv 0) (pa_cons (pv 1) pa_nil))))) pss_nil)
    (pss_cons (ps_if (pt_cmpR (op_inT (MS.Room.u65 hr)) (pv 2) (pe_tup (pa_cons pe_str (pa_cons pe_str pa_nil))) (by rfl))
      (pss_cons (ps_set (i := 3) nd rfl (.inl rfl) (pe_call X.OT hr1 rfl X.gT X.kT X.bT .nil pass0 (pa_cons (pv 0) (pa_cons (pe_callB call_len_seq (by rfl) X.B.len PySem.boot_len (pa_cons (pe_ix ix_tup (pv 1) pe_int (fun _ _ => rfl)) pa_nil)) pa_nil))))
      (pss_one (ps_ret (pe_tup (pa_cons (pv 2) (pa_cons
        (pe_op op_catA (pe_op op_catA (pe_slice sl_tupA (pe_ix ix_tup (pv 1) pe_int (fun _ _ => rfl)) po_none (po_some (pv 3)))
            (pe_tup (pa_cons (pe_call GS hr rfl gS F.kp bS .nil pass0 (pa_cons (pv 0) (pa_cons (pe_ix ix_tup (pe_ix ix_tup (pv 1) pe_int (fun _ _ => rfl)) (pv 3) (fun _ _ => rfl)) pa_nil))) pa_nil)))
          (pe_slice sl_tupA (pe_ix ix_tup (pv 1) pe_int (fun _ _ => rfl)) (po_some (pe_op op_add (pv 3) pe_int)) po_none)) pa_nil)))))) pss_nil)
    (pss_one (ps_ret (pe_op op_catA (pe_slice sl_tupA (pv 1) po_none (po_some (pe_op op_sub (pe_callB call_len_seq (by rfl) X.B.len PySem.boot_len (pa_cons (pv 1) pa_nil)) pe_int)))
      (pe_tup (pa_cons (pe_call GS hr rfl gS F.kp bS .nil pass0 (pa_cons (pv 0) (pa_cons (pe_ix ix_tup (pv 1) (pe_op op_sub (pe_callB call_len_seq (by rfl) X.B.len PySem.boot_len (pa_cons (pv 1) pa_nil)) pe_int) (fun _ _ => rfl)) pa_nil))) pa_nil))))))), ?_⟩
  have sz2 : 2 ≤ sizeLine := by rw [sizeLine_eq]; decide
  have wrong : ∀ (H1 : Hp), Bx b l ns H1 → Gb b H H1 → spWrong K [.ref b, v] H1 Q fun _ _ _ => False := fun H1 B1 g1 =>
    ⟨b, l, ns, v, s, n + 1, rfl, B1, Dt.gx hB.not g1 hd, hw, fun v' d' H' h1 h2 h3 h4 => q v' d' H' h1 h2 h3 (g1.trans h4)⟩
  rcases told4 hd hw with ⟨x, a, v2, xs, rfl, hx, hs, h2, hwx, hl1, hl4⟩ | ⟨x, a, ys, rfl, hx, hs⟩ | ⟨x, a, ys, v2, s2, ds, rfl, hx, hs, hds, hdl, h2, hw2, hbad⟩
  · have c1 : ([kS "letters", kS "self"].any fun z => PyData.eqv z (kS x)) = false ∧ ([kS "both", kS "either"].any fun z => PyData.eqv z (kS x)) = true ∧ SeqAt.shaped (kS x) = true := by
      rcases hx with rfl | rfl <;> exact ⟨by decide +kernel, by decide +kernel, by decide +kernel⟩
    refine ⟨_, rfl, a, _, _, _, rfl, rfl, hs, atI_nat (j := 0) rfl, ?_⟩
    refine ⟨_, rfl, sz2, fun p1 hp1 => ⟨kS x, [kS "letters", kS "self"], .str _, two_in hp1, c1.2.2, by decide +kernel, _, rfl, ifF c1.1 ?_⟩⟩
    have g1 : Gb b H (upd H p1 (.tup [.str "letters", .str "self"])) := Gx.new hp1
    refine ⟨_, rfl, b, l, ns, 3, rfl, by decide, by decide, hB.new hp1, fun r H2 _ _ B2 g2 => ⟨rfl, _, rfl, ite2 (fun _ => ⟨_, rfl, _, rfl, wrong H2 B2 (g1.trans g2)⟩) (fun _ => ?_)⟩⟩
    have g2 : Gb b H H2 := g1.trans g2
    refine ⟨_, rfl, sz2, fun p2 hp2 => ⟨kS x, [kS "both", kS "either"], .str _, two_in hp2, c1.2.2, by decide +kernel, _, rfl, ifT c1.2.1 ?_⟩⟩
    have g3 : Gb b H (upd H2 p2 (.tup [.str "both", .str "either"])) := g2.then hp2
    have B3 : Bx b l ns (upd H2 p2 (.tup [.str "both", .str "either"])) := B2.new hp2
    cases h2 with
    | @tup a2 ys _ hs2 ha2 =>
      have ely : ys.length = xs.length := by rw [ha2.length, Sh.datas_map, List.length_map]
      have at_s : ∀ {H' : Hp}, Gb b H H' → SqT K H' a [.str x, .ref a2] := fun g => SqT.gx hB.not g hs
      have at_y : ∀ {H' : Hp}, Gb b H H' → SqT K H' a2 ys := fun g => SqT.gx hB.not g hs2
      have at_d : ∀ {H' : Hp}, Gb b H H' → Dt K H' (.ref a2) (.tuple (Sh.datas xs)) := fun g => .tup (at_y g) (DtAll.gx hB.not g ha2)
      refine ⟨_, rfl, _, rfl, a, _, _, _, rfl, rfl, at_s g3, atI_nat (j := 1) rfl, a2, ys, rfl, .inr (at_y g3), b, l, ns, _, rfl, by omega, by omega, B3, fun r H4 r0 r1 B4 g4 => ?_⟩
      have g4 : Gb b H H4 := g3.trans g4
      obtain ⟨i, rfl⟩ : ∃ i : Nat, r = (i : Int) := ⟨r.toNat, by omega⟩
      have hi : i < ys.length := by omega
      have hix : i < xs.length := by omega
      refine ⟨_, rfl, _, rfl, a, _, _, _, rfl, rfl, at_s g4, atI_nat (j := 1) rfl, _, rfl, _, rfl, sl_data (at_d g4) fun u H5 g5 du => ?_⟩
      rw [cut_to] at du
      have B5 : Bx b l ns H5 := B4.gr g5
      have g5 : Gb b H H5 := g4.trans (Gx.of_gr g5)
      have ey : ys[i]? = some ys[i] := List.getElem?_eq_getElem hi
      obtain ⟨dx, hdx, hdt⟩ := ha2.of_get ey
      rw [Sh.datas_map, List.getElem?_map] at hdx
      obtain ⟨sx, hsx, rfl⟩ := Option.map_eq_some_iff.mp hdx
      refine ⟨_, rfl, _, rfl, a, _, _, _, rfl, rfl, at_s g5, atI_nat (j := 1) rfl, _, rfl, a2, _, _, _, rfl, rfl, at_y g5, atI_nat ey, b, l, ns, _, sx, rfl, B5, Dt.gx hB.not g5 hdt, hwx sx (List.mem_of_getElem? hsx), by omega, fun v' d' H6 e6 bad6 B6 g6 => ?_⟩
      refine ⟨Nat.le_trans (show 1 ≤ 2 by decide) sz2, fun p3 hp3 => cat_data ((Dt.gx B5.not g6 du).new hp3) (Dt.mk (.cons e6 .nil) hp3) ?_ ?_ fun z H7 g7 dz => ?_⟩
      · rw [List.length_take, Sh.datas_map, List.length_map]; omega
      · exact (show 1 ≤ 100 by decide)
      have B7 : Bx b l ns H7 := (B6.new hp3).gr g7
      have g7 : Gb b H H7 := ((g5.trans g6).then hp3).trans (Gx.of_gr g7)
      refine ⟨_, rfl, a, _, _, _, rfl, rfl, at_s g7, atI_nat (j := 1) rfl, _, rfl, _, _, rfl, rfl, _, rfl, ?_⟩
      unfold tNoPart
      change rSlA K (.ref a2) (some ((i : Int) + 1)) none H7 _
      refine sl_data (lo := some ((i : Int) + 1)) (hi := none) (at_d g7) fun u2 H8 g8 du2 => ?_
      rw [show ((i : Int) + 1) = ((i + 1 : Nat) : Int) by omega, cut_from] at du2
      refine cat_data (dz.gr g8) du2 ?_ ?_ fun z2 H9 g9 dz2 => ⟨sz2, fun p4 hp4 => ?_⟩
      · rw [List.length_append, List.length_take, Sh.datas_map, List.length_map]
        exact Nat.le_trans (Nat.add_le_add_right (Nat.min_le_right _ _) 1) (by omega)
      · rw [List.length_drop, Sh.datas_map, List.length_map]; omega
      have h1 := Sh.depths_le (Sh.depth_le n) (xs.take i) fun y hy => hwx y (List.mem_of_mem_take hy)
      have h2 := Sh.depths_le (Sh.depth_le n) (xs.drop (i + 1)) fun y hy => hwx y (List.mem_of_mem_drop hy)
      rw [Sh.datas_map, List.map_take, ← Sh.datas_map] at h1
      rw [Sh.datas_map, List.map_drop, ← Sh.datas_map] at h2
      exact q _ _ _ (Dt.mk (.cons (.str _) (.cons dz2 .nil)) hp4) (bad_in hx bad6 ⟨by omega, h1.2⟩ ⟨by omega, h2.2⟩) (((B7.gr g8).gr g9).new hp4) (((g7.trans (Gx.of_gr g8)).trans (Gx.of_gr g9)).then hp4)
  · have c1 : ([kS "letters", kS "self"].any fun z => PyData.eqv z (kS x)) = true ∧ SeqAt.shaped (kS x) = true := by
      rcases hx with rfl | rfl <;> exact ⟨by decide +kernel, by decide +kernel⟩
    refine ⟨_, rfl, a, _, _, _, rfl, rfl, hs, atI_nat (j := 0) rfl, ?_⟩
    exact ⟨_, rfl, sz2, fun p1 hp1 => ⟨kS x, [kS "letters", kS "self"], .str _, two_in hp1, c1.2, by decide +kernel, _, rfl, ifT c1.1 ⟨_, rfl, _, rfl, wrong _ (hB.new hp1) (Gx.new hp1)⟩⟩⟩
  · have c1 : ([kS "letters", kS "self"].any fun z => PyData.eqv z (kS x)) = false ∧ ([kS "both", kS "either"].any fun z => PyData.eqv z (kS x)) = false ∧ SeqAt.shaped (kS x) = true := by
      rcases hx with rfl | rfl | rfl | rfl <;> exact ⟨by decide +kernel, by decide +kernel, by decide +kernel⟩
    refine ⟨_, rfl, a, _, _, _, rfl, rfl, hs, atI_nat (j := 0) rfl, ?_⟩
    refine ⟨_, rfl, sz2, fun p1 hp1 => ⟨kS x, [kS "letters", kS "self"], .str _, two_in hp1, c1.2.2, by decide +kernel, _, rfl, ifF c1.1 ?_⟩⟩
    have g1 : Gb b H (upd H p1 (.tup [.str "letters", .str "self"])) := Gx.new hp1
    refine ⟨_, rfl, b, l, ns, 3, rfl, by decide, by decide, hB.new hp1, fun r H2 _ _ B2 g2 => ⟨rfl, _, rfl, ite2 (fun _ => ⟨_, rfl, _, rfl, wrong H2 B2 (g1.trans g2)⟩) (fun _ => ?_)⟩⟩
    have g2 : Gb b H H2 := g1.trans g2
    refine ⟨_, rfl, sz2, fun p2 hp2 => ⟨kS x, [kS "both", kS "either"], .str _, two_in hp2, c1.2.2, by decide +kernel, _, rfl, ifF c1.2.1 ?_⟩⟩
    have g3 : Gb b H (upd H2 p2 (.tup [.str "both", .str "either"])) := g2.then hp2
    have B3 : Bx b l ns (upd H2 p2 (.tup [.str "both", .str "either"])) := B2.new hp2
    have at_s : ∀ {H' : Hp}, Gb b H H' → SqT K H' a (.str x :: ys ++ [v2]) := fun g => SqT.gx hB.not g hs
    have eall : DtAll K H (.str x :: ys ++ [v2]) (ds ++ [Sh.data s2]) := hds.append (.cons h2 .nil)
    have at_d : ∀ {H' : Hp}, Gb b H H' → Dt K H' (.ref a) (.tuple (ds ++ [Sh.data s2])) := fun g => .tup (at_s g) (DtAll.gx hB.not g eall)
    have ed : (V.str x :: ys).length = ds.length := hds.length
    have elen : (((V.str x :: ys ++ [v2]).length : Nat) : Int) - 1 = ((ds.length : Nat) : Int) := by
      rw [List.length_append, ed, List.length_singleton]
      omega
    have eat : atI (V.str x :: ys ++ [v2]) ((((V.str x :: ys ++ [v2]).length : Nat) : Int) - 1) = some v2 := by
      rw [elen, ← ed]
      exact atI_nat (by simp)
    refine ⟨_, rfl, _, rfl, a, _, rfl, .inr (at_s g3), _, _, rfl, rfl, _, rfl, sl_data (at_d g3) fun u H4 g4 du => ?_⟩
    rw [elen, cut_to, List.take_left] at du
    have B4 : Bx b l ns H4 := B3.gr g4
    have g4 : Gb b H H4 := g3.trans (Gx.of_gr g4)
    refine ⟨_, rfl, _, rfl, _, rfl, a, _, rfl, .inr (at_s g4), _, _, rfl, rfl, a, _, _, _, rfl, rfl, at_s g4, eat, b, l, ns, v2, s2, rfl, B4, Dt.gx hB.not g4 h2, hw2, by omega, fun v' d' H5 e5 bad5 B5 g5 => ?_⟩
    refine ⟨Nat.le_trans (show 1 ≤ 2 by decide) sz2, fun p3 hp3 => cat_data ((Dt.gx B4.not g5 du).new hp3) (Dt.mk (.cons e5 .nil) hp3) (by omega) (show 1 ≤ 100 by decide) fun z H6 g6 dz => ?_⟩
    exact q z _ H6 dz (hbad d' bad5) ((B5.new hp3).gr g6) (((g4.trans g5).then hp3).trans (Gx.of_gr g6))
theorem all_law_spoilt (X : DTxt P w K mg base fT fP dT dP) (OW : FnOk P w K mg base CX0 3 fW dW ["box", "shape"] (spWrong K)) (gW : mg "_law_wrong" = some (.ref fW)) (kW : PySem.W.keepIn K (.ref fW) = true) (bW : Binds K dW ["box", "shape"] [])
    (F : Fun K "_law_spoilt" "_law_spoilt" s_law_spoilt fS dS) (gS : mg "_law_spoilt" = some (.ref fS)) (bS : Binds K dS ["box", "shape"] []) : ∀ n : Nat, FnOk P w K mg base CX0 (n + 3) fS dS ["box", "shape"] (spSpoilt K n)
  | 0 => by
    have no : ∀ vs H Q E, ¬ spSpoilt K 0 vs H Q E := fun vs H Q E h => by
      obtain ⟨_, _, _, _, _, _, _, _, h, _⟩ := h
      exact h
    exact ⟨fun vs H Q E h => absurd h (no vs H Q E), fun A outer s H args us vs Q E _ _ _ _ h => absurd h (no vs H Q E)⟩
  | n + 1 => ok_law_spoilt X OW gW kW bW F gS bS (all_law_spoilt X OW gW kW bW F gS bS n)
end
end MS
end
section
set_option Elab.async false
set_option linter.all false
set_option maxRecDepth 100000
set_option maxHeartbeats 4000000
namespace MS
open PySem PySem.Spec PyProof.Rows L2 L2H GE
abbrev s_law_tower : Stmt := top 54
abbrev s_law_wide : Stmt := top 55
def argE (n : Nat) : Expr → Expr
  | .Call _ args _ _ => args.getD n (.Constant .none 0 ⟨0, 0, 0, 0⟩)
  | _ => .Constant .none 0 ⟨0, 0, 0, 0⟩
def forB : Stmt → List Stmt
  | .For _ _ b _ _ => b
  | _ => []
structure Tw (k : Nat) (s : Sh) : Prop where
  wf : Sh.wf (k + 1) s
  sz : Sh.size s ≤ 1 + 4 * k
  no : ∀ n, n ≤ k → nested n (Sh.data s) = false
def steps0 : List Sh := [.self, .letters 5]
def steps (s : Sh) : List Sh := [.some s, .many s, .chance s, .after 4 s, .both [.self, s], .either [s], .both [s, .self], .either [.self, s, .letters 4], .both [.self, .self, s, .self]]
def stepD (d : PyData) : List PyData := [.tuple [kS "some", d], .tuple [kS "many", d], .tuple [kS "chance", d], .tuple [kS "after", .int 4, d], .tuple [kS "both", .tuple [.tuple [kS "self"], d]], .tuple [kS "either", .tuple [d]], .tuple [kS "both", .tuple [d, .tuple [kS "self"]]], .tuple [kS "either", .tuple [.tuple [kS "self"], d, .tuple [kS "letters", .int 4]]], .tuple [kS "both", .tuple [.tuple [kS "self"], .tuple [kS "self"], d, .tuple [kS "self"]]]]
theorem steps_data (s : Sh) : (steps s).map Sh.data = stepD (Sh.data s) := rfl
theorem tw0 : ∀ s ∈ steps0, Tw 0 s := by
  intro s hs
  simp only [steps0, List.mem_cons, List.not_mem_nil, or_false] at hs
  rcases hs with rfl | rfl
  · exact ⟨trivial, by decide, fun n hn => by rw [Nat.le_zero.mp hn]; rfl⟩
  · exact ⟨⟨by decide, by decide⟩, by decide, fun n hn => by rw [Nat.le_zero.mp hn]; rfl⟩
theorem tw_step {k : Nat} {s : Sh} (h : Tw k s) : ∀ s' ∈ steps s, Tw (k + 1) s' := by
  obtain ⟨hw, hz, hn⟩ := h
  have one : ∀ s' : Sh, Sh.wf (k + 2) s' → Sh.size s' ≤ 4 + Sh.size s → (∀ n, nested n (Sh.data s) = false → nested (n + 1) (Sh.data s') = false) → Tw (k + 1) s' := fun s' h1 h2 h3 =>
    ⟨h1, by omega, fun n hn' => by
      cases n with
      | zero => rfl
      | succ n => exact h3 n (hn n (by omega))⟩
  have many : ∀ (n : Nat) (xs : List Sh), s ∈ xs → nested n (Sh.data s) = false → areN (nested n) (.tuple (Sh.datas xs)) = false := fun n xs hm h => by
    rw [Sh.datas_map]
    have z : (xs.map Sh.data).all (nested n) = false := by
      rw [List.all_eq_false]
      exact ⟨Sh.data s, List.mem_map_of_mem hm, by rw [h]; decide⟩
    show (_ && _ && (xs.map Sh.data).all (nested n)) = false
    rw [z, Bool.and_false]
  intro s' hs
  simp only [steps, List.mem_cons, List.not_mem_nil, or_false] at hs
  rcases hs with rfl | rfl | rfl | rfl | rfl | rfl | rfl | rfl | rfl
  · exact one _ hw (by simp only [Sh.size]; omega) fun n h => (nested_some n _).trans h
  · exact one _ hw (by simp only [Sh.size]; omega) fun n h => h
  · exact one _ hw (by simp only [Sh.size]; omega) fun n h => h
  · exact one _ ⟨by decide, hw⟩ (by simp only [Sh.size]; omega) fun n h => by
      show (numBelow (.int ((4 : Nat) : Int)) 5 && nested n (Sh.data s)) = false
      rw [h, Bool.and_false]
  · exact one _ ⟨by show 1 ≤ 2; decide, by show 2 ≤ 4; decide, by simp [Sh.wf, hw]⟩ (by simp only [Sh.size, Sh.sizes]; omega) fun n h => many n [.self, s] (by simp) h
  · exact one _ ⟨by show 1 ≤ 1; decide, by show 1 ≤ 4; decide, by simp [Sh.wf, hw]⟩ (by simp only [Sh.size, Sh.sizes]; omega) fun n h => many n [s] (by simp) h
  · exact one _ ⟨by show 1 ≤ 2; decide, by show 2 ≤ 4; decide, by simp [Sh.wf, hw]⟩ (by simp only [Sh.size, Sh.sizes]; omega) fun n h => many n [s, .self] (by simp) h
  · exact one _ ⟨by show 1 ≤ 3; decide, by show 3 ≤ 4; decide, by simp [Sh.wf, hw]⟩ (by simp only [Sh.size, Sh.sizes]; omega) fun n h => many n [.self, s, .letters 4] (by simp) h
  · exact one _ ⟨by show 1 ≤ 4; decide, by show 4 ≤ 4; decide, by simp [Sh.wf, hw]⟩ (by simp only [Sh.size, Sh.sizes]; omega) fun n h => many n [.self, .self, s, .self] (by simp) h
section
variable {P : Program} {w : World} {K : PySem.W.Frag} {mg : Str → Option Value} {base : Heap} {f fT fP : Addr} {fd dT dP : FuncData}
def spTower (K : PySem.W.Frag) : Sp := fun vs H Q _ => ∃ (b l : Addr) (ns : List Int) (k : Nat), vs = [.ref b, .int ((k + 1 : Nat) : Int)] ∧ k ≤ 6 ∧ Bx b l ns H ∧ ∀ (v : V) (s : Sh) H', Dt K H' v (Sh.data s) → Tw k s → Bx b l ns H' → Gb b H H' → Q v H'
abbrev kTower : List Str := ["box", "levels", "shape", "k"]
theorem sc_law_tower : FnScope kTower ["box", "levels"] (defScope s_law_tower) := ⟨rfl, rfl, rfl, by decide +kernel, rfl, by decide +kernel, by decide +kernel⟩
theorem ok_law_tower (X : DTxt P w K mg base fT fP dT dP) (F : Fun K "_law_tower" "_law_tower" s_law_tower f fd) : FnOk P w K mg base CX0 3 f fd ["box", "levels"] (spTower K) := by
  refine F.ok sc_law_tower (fun vs H Q E h => ?_) (fun cdv A outer s0 H vs Q E hr h => ?_)
  · obtain ⟨b, l, ns, k, rfl, _⟩ := h
    rfl
  obtain ⟨b, l, ns, k, rfl, hk, hB, q⟩ := h
  have nd := sc_law_tower.nd
  obtain ⟨t0, ht0, hy0⟩ : ∃ t, PE (cxOf CX0 P w K mg base kTower "_law_tower" (defScope s_law_tower) f cdv A outer s0 H E).nox (argE 1 (asgE ((defBody s_law_tower).getD 0 (.Pass ⟨0, 0, 0, 0⟩)))) (tLst t) ∧ ∀ H0 σ, YA K H0 σ t (steps0.map Sh.data) :=
    ⟨_, (pe_lst (pa_cons (pe_tup (pa_cons pe_str (pa_nil))) (pa_cons (pe_tup (pa_cons pe_str (pa_cons pe_int (pa_nil)))) (pa_nil)))), fun H0 σ => (yCons (yTup (yCons (yStr _) (yNil))) (yCons (yTup (yCons (yStr _) (yCons (yInt _) (yNil)))) (yNil)))⟩
  obtain ⟨t1, ht1, hy1⟩ : ∃ t, PE (cxOf CX0 P w K mg base kTower "_law_tower" (defScope s_law_tower) f cdv A outer s0 H E).nox (argE 1 (asgE ((forB ((defBody s_law_tower).getD 1 (.Pass ⟨0, 0, 0, 0⟩))).getD 0 (.Pass ⟨0, 0, 0, 0⟩)))) (tLst t) ∧ ∀ H0 σ d, YE K H0 σ (tVar 2) d → YA K H0 σ t (stepD d) :=
    ⟨_, (pe_lst (pa_cons (pe_tup (pa_cons pe_str (pa_cons (pv 2) (pa_nil)))) (pa_cons (pe_tup (pa_cons pe_str (pa_cons (pv 2) (pa_nil)))) (pa_cons (pe_tup (pa_cons pe_str (pa_cons (pv 2) (pa_nil)))) (pa_cons (pe_tup (pa_cons pe_str (pa_cons pe_int (pa_cons (pv 2) (pa_nil))))) (pa_cons (pe_tup (pa_cons pe_str (pa_cons (pe_tup (pa_cons (pe_tup (pa_cons pe_str (pa_nil))) (pa_cons (pv 2) (pa_nil)))) (pa_nil)))) (pa_cons (pe_tup (pa_cons pe_str (pa_cons (pe_tup (pa_cons (pv 2) (pa_nil))) (pa_nil)))) (pa_cons (pe_tup (pa_cons pe_str (pa_cons (pe_tup (pa_cons (pv 2) (pa_cons (pe_tup (pa_cons pe_str (pa_nil))) (pa_nil)))) (pa_nil)))) (pa_cons (pe_tup (pa_cons pe_str (pa_cons (pe_tup (pa_cons (pe_tup (pa_cons pe_str (pa_nil))) (pa_cons (pv 2) (pa_cons (pe_tup (pa_cons pe_str (pa_cons pe_int (pa_nil)))) (pa_nil))))) (pa_nil)))) (pa_cons (pe_tup (pa_cons pe_str (pa_cons (pe_tup (pa_cons (pe_tup (pa_cons pe_str (pa_nil))) (pa_cons (pe_tup (pa_cons pe_str (pa_nil))) (pa_cons (pv 2) (pa_cons (pe_tup (pa_cons pe_str (pa_nil))) (pa_nil)))))) (pa_nil)))) (pa_nil))))))))))), fun H0 σ d y_shape => (yCons (yTup (yCons (yStr _) (yCons y_shape (yNil)))) (yCons (yTup (yCons (yStr _) (yCons y_shape (yNil)))) (yCons (yTup (yCons (yStr _) (yCons y_shape (yNil)))) (yCons (yTup (yCons (yStr _) (yCons (yInt _) (yCons y_shape (yNil))))) (yCons (yTup (yCons (yStr _) (yCons (yTup (yCons (yTup (yCons (yStr _) (yNil))) (yCons y_shape (yNil)))) (yNil)))) (yCons (yTup (yCons (yStr _) (yCons (yTup (yCons y_shape (yNil))) (yNil)))) (yCons (yTup (yCons (yStr _) (yCons (yTup (yCons y_shape (yCons (yTup (yCons (yStr _) (yNil))) (yNil)))) (yNil)))) (yCons (yTup (yCons (yStr _) (yCons (yTup (yCons (yTup (yCons (yStr _) (yNil))) (yCons y_shape (yCons (yTup (yCons (yStr _) (yCons (yInt _) (yNil)))) (yNil))))) (yNil)))) (yCons (yTup (yCons (yStr _) (yCons (yTup (yCons (yTup (yCons (yStr _) (yNil))) (yCons (yTup (yCons (yStr _) (yNil))) (yCons y_shape (yCons (yTup (yCons (yStr _) (yNil))) (yNil)))))) (yNil)))) (yNil))))))))))⟩
  refine ⟨_, pss_cons (ps_set (i := 2) nd rfl (.inl rfl) (pe_call X.OP hr rfl X.gP X.kP X.bP .nil pass0 (pa_cons (pv 0) (pa_cons ht0 pa_nil))))
    (pss_cons (ps_for PassesOwn.never rfl (pi_range1 (by rfl) X.B2.range (pa_cons (pe_op op_sub (pv 1) pe_int) pa_nil)) (pg_name (i := 3) nd rfl (Or.inl rfl))
      (pss_one (ps_set (i := 2) nd rfl (.inl rfl) (pe_call X.OP hr rfl X.gP X.kP X.bP .nil pass0 (pa_cons (pv 0) (pa_cons ht1 pa_nil))))))
    (pss_one (ps_ret (pv 2)))), ?_⟩
  -- one pick out of a menu of shapes
  have pick : ∀ (H1 H2 : Hp) (vs : List V) (ss : List Sh) (R : VK), Bx b l ns H1 → Gr H1 H2 → DtAll K H2 vs (ss.map Sh.data) → 1 ≤ ss.length → ss.length ≤ 1000 → (∀ (v : V) (s : Sh) H', s ∈ ss → Dt K H' v (Sh.data s) → Bx b l ns H' → Gb b H1 H' → R v H') →
      vs.length ≤ sizeLine ∧ ∀ pl, H2 pl = none → spPick [.ref b, .ref pl] (upd H2 pl (.lst vs)) R fun _ _ _ => False := fun H1 H2 vs ss R B1 g1 ha l1 l2 hR => by
    have hlen : vs.length = ss.length := by rw [ha.length, List.length_map]
    refine ⟨by rw [hlen, sizeLine_eq]; omega, fun pl hl => ?_⟩
    have g2 : Gr H1 (upd H2 pl (.lst vs)) := g1.then hl
    have B2 : Bx b l ns (upd H2 pl (.lst vs)) := B1.gr g2
    refine ⟨b, l, pl, ns, vs, rfl, B2, upd_same, fun z => (B1.gr g1).nb hl z.symm, by omega, by omega, fun v H4 hv B4 g4 => ?_⟩
    obtain ⟨x, hx, hdx⟩ := DtAll.mem ha hv
    obtain ⟨s, hs, rfl⟩ := List.mem_map.mp hx
    exact hR v s H4 hs (Dt.gx B2.not g4 (hdx.new hl)) B4 ((Gx.of_gr g2).trans g4)
  refine ⟨_, rfl, ?_⟩
  refine hy0 H _ _ _ Gx.refl fun vs0 H1 g1 ha => ?_
  refine (pick H H1 vs0 steps0 _ hB g1 ha (by decide) (by decide) fun v s H2 hs hd B2 g2 => ?_)
  have ek : (((k + 1 : Nat) : Int) - 1).toNat = k := by omega
  refine ⟨_, rfl, _, _, rfl, rfl, _, rfl, by omega, by omega, ?_⟩
  rw [ek]
  refine for_range (fun i σ H' => ∃ (v : V) (s : Sh) (o : Option V), σ = [some (.ref b), some (.int ((k + 1 : Nat) : Int)), some v, o] ∧ Dt K H' v (Sh.data s) ∧ Tw i s ∧ Bx b l ns H' ∧ Gb b H H') ⟨v, s, none, rfl, hd, tw0 s hs, B2, g2⟩
    (fun i σ H3 hi p => ?_) fun σ H3 p => ?_
  · obtain ⟨v3, s3, o, rfl, d3, t3, B3, g3⟩ := p
    refine ⟨_, rfl, ?_⟩
    refine hy1 H3 _ (Sh.data s3) (yVar rfl d3) _ _ Gx.refl fun vs4 H4 g4 ha4 => ?_
    rw [← steps_data] at ha4
    exact pick H3 H4 vs4 (steps s3) _ B3 g4 ha4 (Nat.le_of_ble_eq_true rfl) (Nat.le_of_ble_eq_true rfl) fun v5 s5 H5 hs5 hd5 B5 g5 => ⟨v5, s5, _, rfl, hd5, tw_step t3 s5 hs5, B5, g3.trans g5⟩
  · obtain ⟨v3, s3, o, rfl, d3, t3, B3, g3⟩ := p
    exact ⟨_, rfl, q v3 s3 H3 d3 t3 B3 g3⟩
end
end MS
end
section
set_option Elab.async false
set_option linter.all false
set_option maxRecDepth 100000
set_option maxHeartbeats 4000000
namespace MS
open PySem PySem.Spec PyProof.Rows L2 L2H GE
def fiveS : Sh := .both [.self, .self, .self, .self]
def lastS (more : Bool) : Sh := if more then .some .self else .self
def wideS (more : Bool) : Sh := .both [.either [fiveS, fiveS, fiveS, fiveS], .both [fiveS, fiveS, fiveS], .self, lastS more]
theorem wide_wf (more : Bool) : Sh.wf 6 (wideS more) := by
  cases more <;> simp [wideS, lastS, fiveS, Sh.wf]
theorem wide_size (more : Bool) : Sh.size (wideS more) = if more then 41 else 40 := by cases more <;> rfl
def litS : PyData := .tuple [kS "self"]
def litF : PyData := .tuple [kS "both", .tuple [litS, litS, litS, litS]]
section
variable {P : Program} {w : World} {K : PySem.W.Frag} {mg : Str → Option Value} {base : Heap} {f : Addr} {fd : FuncData}
def spWide (K : PySem.W.Frag) : Sp := fun vs H Q _ => ∃ more : Bool, vs = [.bl more] ∧ ∀ (v : V) H', Gr H H' → Dt K H' v (Sh.data (wideS more)) → Q v H'
abbrev kWide : List Str := ["more", "five", "last"]
theorem sc_law_wide : FnScope kWide ["more"] (defScope s_law_wide) := ⟨rfl, rfl, rfl, by decide +kernel, rfl, by decide +kernel, by decide +kernel⟩
theorem yS {H0 : Hp} {σ : St} : YE K H0 σ (tTup (tCons (tC (.str "self")) tNil)) litS := yTup (yCons (yStr _) yNil)
theorem yF {H0 : Hp} {σ : St} : YE K H0 σ (tTup (tCons (tC (.str "both")) (tCons (tOp (rRepT K) (tTup (tCons (tTup (tCons (tC (.str "self")) tNil)) tNil)) (tC (.int 4))) tNil))) litF := yTup (yCons (yStr _) (yCons (yRep 4 yS) yNil))
theorem ok_law_wide {k : Nat} (F : Fun K "_law_wide" "_law_wide" s_law_wide f fd) : FnOk P w K mg base CX0 (k + 1) f fd ["more"] (spWide K) := by
  refine F.ok sc_law_wide (fun vs H Q E h => ?_) (fun cdv A outer s0 H vs Q E hr h => ?_)
  · obtain ⟨more, rfl, _⟩ := h
    rfl
  obtain ⟨more, rfl, q⟩ := h
  have nd := sc_law_wide.nd
  refine ⟨_, pss_cons (ps_set (i := 1) nd rfl (.inl rfl) (pe_tup (pa_cons pe_str (pa_cons (pe_op op_repT (pe_tup (pa_cons (pe_tup (pa_cons pe_str pa_nil)) pa_nil)) pe_int) pa_nil))))
    (pss_cons (ps_set (i := 2) nd rfl (.inl rfl) (pe_ifExp (pt_val (pv 0)) (pe_tup (pa_cons pe_str (pa_cons (pe_tup (pa_cons pe_str pa_nil)) pa_nil))) (pe_tup (pa_cons pe_str pa_nil))))
    (pss_one (ps_ret (pe_tup (pa_cons pe_str (pa_cons (pe_tup (pa_cons (pe_tup (pa_cons pe_str (pa_cons (pe_op op_repT (pe_tup (pa_cons (pv 1) pa_nil)) pe_int) pa_nil)))
      (pa_cons (pe_tup (pa_cons pe_str (pa_cons (pe_op op_repT (pe_tup (pa_cons (pv 1) pa_nil)) pe_int) pa_nil))) (pa_cons (pe_tup (pa_cons pe_str pa_nil)) (pa_cons (pv 2) pa_nil))))) pa_nil)))))), ?_⟩
  unfold tSeq tAsg
  refine (yF (K := K) (H0 := H)) H _ Gx.refl fun v5 H1 g1 d1 => ?_
  have fin : ∀ (v6 : V) (H2 : Hp), Gr H1 H2 → Dt K H2 v6 (Sh.data (lastS more)) → tTup (tCons (tC (.str "both")) (tCons (tTup (tCons (tTup (tCons (tC (.str "either")) (tCons (tOp (rRepT K) (tTup (tCons (tVar 1) tNil)) (tC (.int 4))) tNil)))
      (tCons (tTup (tCons (tC (.str "both")) (tCons (tOp (rRepT K) (tTup (tCons (tVar 1) tNil)) (tC (.int 3))) tNil))) (tCons (tTup (tCons (tC (.str "self")) tNil)) (tCons (tVar 2) tNil))))) tNil)) [some (.bl more), some v5, some v6] H2 Q := fun v6 H2 g2 d6 => by
    have y5 : YE K H2 [some (.bl more), some v5, some v6] (tVar 1) litF := yVar rfl (d1.gr g2)
    have y6 : YE K H2 [some (.bl more), some v5, some v6] (tVar 2) (Sh.data (lastS more)) := yVar rfl d6
    have y : YE K H2 [some (.bl more), some v5, some v6] _ (.tuple [kS "both", .tuple [.tuple [kS "either", .tuple [litF, litF, litF, litF]], .tuple [kS "both", .tuple [litF, litF, litF]], litS, Sh.data (lastS more)]]) :=
      yTup (yCons (yStr _) (yCons (yTup (yCons (yTup (yCons (yStr _) (yCons (yRep 4 y5) yNil))) (yCons (yTup (yCons (yStr _) (yCons (yRep 3 y5) yNil))) (yCons yS (yCons y6 yNil))))) yNil))
    exact y H2 Q Gx.refl fun v H' g d => q v H' ((g1.trans g2).trans g) d
  cases more with
  | true =>
    refine ⟨_, rfl, _, rfl, ?_⟩
    exact (yTup (yCons (yStr _) (yCons yS yNil)) : YE K H1 _ _ (.tuple [kS "some", litS])) H1 _ Gx.refl fun v6 H2 g2 d6 => fin v6 H2 g2 d6
  | false =>
    refine ⟨_, rfl, _, rfl, ?_⟩
    exact yS H1 _ Gx.refl fun v6 H2 g2 d6 => fin v6 H2 g2 d6
end
end MS
end
section
set_option Elab.async false
set_option linter.all false
set_option maxRecDepth 100000
set_option maxHeartbeats 4000000
namespace MS
open PySem PySem.Spec PyProof.Rows L2 L2H GE
abbrev s_law : Stmt := top 56
def refD : PyData := .tuple [kS "refused", kS "shape"]
section
variable {X : Cx}
/-- repr of the pair that tells a refusal -/
theorem call_reprP (hg : X.A.guards = some []) (hu : X.A.units + 65 < cLine) : CallR X (.builtin "repr") (fun xs H Q => ∃ v : V, xs = [v] ∧ Dt X.K H v refD ∧ Q (.str refD.shown) H) := by
  intro pins s σ H xs us Q I r h
  obtain ⟨v, rfl, hd, q⟩ := h
  cases r with
  | cons ru rr =>
    cases rr
    rename_i u
    obtain ⟨as, rd⟩ := Dp.reads I refD v u (Dt.dp _ _ hd) ru
    cases hd with
    | tup hs ha =>
      cases ru
      exact repr_of_reads' rd (by decide +kernel) (fun z => absurd z (by decide +kernel)) hg (by show X.A.units + (1 + 1) < cLine; omega) (fun _ _ e => e) (fun h' u tk hk => ⟨.str _, H, I.kept hk, ⟨_, rfl⟩, q⟩) (by decide +kernel)
end
/-- a def's run in one place alone -/
theorem run_at {CX : CXT} {P : Program} {w : World} {K : PySem.W.Frag} {mg : Str → Option Value} {base : Heap} {x qual : Str} {st : Stmt} {f : Addr} {fd : FuncData} {N ps : List Str} {k : Nat} (F : Fun K x qual st f fd) (S : FnScope N ps (defScope st)) {A : Around} {outer : List Env} {s : Shared} {H : Hp} {args : Args} {us : List Value} {vs : List V} {Q : VK} {E : XK}
    (hr : Room (k + 1) A) (e0 : Env0 P w K mg base A outer s H) (hb : BindsTo s fd args (ps.zip us)) (r : Vals vs us) (hl : vs.length = ps.length)
    (hbody : ∀ cdv : Value, Room k (A.deeper (envOfC qual (defScope st) s.heap.objs.size f cdv)) → ∃ t, PSs (cxOf CX P w K mg base N qual (defScope st) f cdv A outer s H E) (defBody st) t ∧ t { nx := fun _ H' => Q .non H', rt := Q } (L2.start N vs) H) :
    codeAny (model P w) A (.call (.ref f) args) (CR CX outer P w H s Q E) s := by
  obtain ⟨oc, od, kV, doc, pm, an, cdv, ct, osl, rfl, lk, hcd⟩ := F.ex
  obtain ⟨t, ht, hq⟩ := hbody cdv (hr.deeper _)
  -- the same def, with a word that says just this
  have kb : ∀ b o, base.get? b = some o → s.heap.get? b = some o := fun b o e => (e0.bs b o e).1
  have kin : K.In s.heap := e0.mod.kin.keeps kb
  have names : ∀ y ∈ ps.zip us, (defScope st).names.lookup y.1 = some .local ∨ ((defScope st).names.lookup y.1 = some .cell ∧ ((cellsFrom (s.heap.objs.size + 1) (defScope st).names []).lookup y.1).isSome = true) := fun ⟨n, v⟩ hy =>
    (S.par n (List.of_mem_zip hy).1).imp id fun q => ⟨q, PySem.W.cellsFrom_some _ _ _ (.inl q)⟩
  refine codeAny_call_function hr.depth (kin _ _ lk) rfl S.co S.gen rfl (PySem.W.codeRec_of kin hcd) (hb _ _ _ _ (wpAny_newFunctionEnv_cells S.kind names fun env he s1 x => ?_))
  subst he
  refine ⟨(e0.mod.nolimit.keeps kb).keeps x.toInCall.keep, codeAny_func (wpAny_mono (ht.run [] s1 (L2.start N vs) H _ (inv_start S hr.hd e0 hl r x) hq) (fun fl s' hs => ?_) fun e s' hs => hs)⟩
  cases fl with
  | ret u =>
    obtain ⟨v, σ', H', J, rv, q⟩ := hs
    exact ⟨v, H', J.os, J.bare, J.base, J.hok, rv, q⟩
  | next =>
    obtain ⟨σ', H', J, q⟩ := hs
    exact ⟨V.non, H', J.os, J.bare, J.base, J.hok, rfl, q⟩
  | brk =>
    obtain ⟨_, _, _, q⟩ := hs
    exact False.elim q
  | cont =>
    obtain ⟨_, _, _, q⟩ := hs
    exact False.elim q
end MS
end
section
set_option Elab.async false
set_option linter.all false
set_option maxRecDepth 100000
set_option maxHeartbeats 4000000
namespace MS
open PySem PySem.Spec PyProof.Rows L2 L2H GE
structure LTxt (P : Program) (w : World) (K : PySem.W.Frag) (mg : Str → Option Value) (base : Heap) (fT fP fB fS fZ fO fQ fR fW : Addr) (dT dP dB dS dZ dO dQ dR dW : FuncData) (T1 T2 : Addr) : Prop where
  D : DTxt P w K mg base fT fP dT dP
  rp : mg "repr" = none
  OB : FnOk P w K mg base CX0 1 fB dB ["script"] (spBox K)
  gB : mg "_law_box" = some (.ref fB)
  kB : PySem.W.keepIn K (.ref fB) = true
  bB : Binds K dB ["script"] []
  OS : FnOk P w K mg base CX0 8 fS dS ["box", "levels"] (spShape K 6)
  gS : mg "_law_shape" = some (.ref fS)
  kS : PySem.W.keepIn K (.ref fS) = true
  bS : Binds K dS ["box", "levels"] []
  OZ : FnOk P w K mg base CX0 6 fZ dZ ["shape"] (spLSize K 6)
  gZ : mg "_law_size" = some (.ref fZ)
  kZ : PySem.W.keepIn K (.ref fZ) = true
  bZ : Binds K dZ ["shape"] []
  OO : FnOk P w K mg base (EA.CX EA.Za P w) 24 fO dO ["way", "shape"] (spTold K T1 T2)
  gO : mg "_law_told" = some (.ref fO)
  kO : PySem.W.keepIn K (.ref fO) = true
  bO : Binds K dO ["way", "shape"] []
  OQ : FnOk P w K mg base CX0 9 fQ dQ ["box", "shape"] (spSpoilt K 6)
  gQ : mg "_law_spoilt" = some (.ref fQ)
  kQ : PySem.W.keepIn K (.ref fQ) = true
  bQ : Binds K dQ ["box", "shape"] []
  OR : FnOk P w K mg base CX0 3 fR dR ["box", "levels"] (spTower K)
  gR : mg "_law_tower" = some (.ref fR)
  kR : PySem.W.keepIn K (.ref fR) = true
  bR : Binds K dR ["box", "levels"] []
  OW : FnOk P w K mg base CX0 1 fW dW ["more"] (spWide K)
  gW : mg "_law_wide" = some (.ref fW)
  kW : PySem.W.keepIn K (.ref fW) = true
  bW : Binds K dW ["more"] []
abbrev kLaw : List Str := ["script", "box", "turn", "shape", "many", "due", "bad", "way"]
theorem sc_law : FnScope kLaw ["script"] (defScope s_law) := ⟨rfl, rfl, rfl, by decide +kernel, rfl, by decide +kernel, by decide +kernel⟩
section
variable {P : Program} {w : World} {K : PySem.W.Frag} {mg : Str → Option Value} {base : Heap} {f fT fP fB fS fZ fO fQ fR fW : Addr} {fd dT dP dB dS dZ dO dQ dR dW : FuncData} {T1 T2 : Addr}
theorem law_at (X : LTxt P w K mg base fT fP fB fS fZ fO fQ fR fW dT dP dB dS dZ dO dQ dR dW T1 T2) {cdv : Value} {A : Around} {outer : List Env} {s : Shared} {H0 : Hp} {E : XK} (hg : A.guards = some [])
    (hr : Room 24 (A.deeper (envOfC "law" (defScope s_law) s.heap.objs.size f cdv))) :
    ∃ t, PSs (cxOf CX0 P w K mg base kLaw "law" (defScope s_law) f cdv A outer s H0 E).nox (defBody s_law) t ∧ ∀ (a : Addr) (ns : List Int) (H : Hp), ns.length ≤ 63 → GxR.TabG H T1 → GxR.TabG H T2 → SqL K H a (ns.map V.int) →
      t { nx := fun _ _ => V.non = V.bl true, rt := fun v _ => v = .bl true } (L2.start kLaw [.ref a]) H := by
  have nd := sc_law.nd
  have hr1 : Room 1 (A.deeper (envOfC "law" (defScope s_law) s.heap.objs.size f cdv)) := hr.mono (by omega)
  have hr3 : Room 3 (A.deeper (envOfC "law" (defScope s_law) s.heap.objs.size f cdv)) := hr.mono (by omega)
  have hr6 : Room 6 (A.deeper (envOfC "law" (defScope s_law) s.heap.objs.size f cdv)) := hr.mono (by omega)
  have hr8 : Room 8 (A.deeper (envOfC "law" (defScope s_law) s.heap.objs.size f cdv)) := hr.mono (by omega)
  have hr9 : Room 9 (A.deeper (envOfC "law" (defScope s_law) s.heap.objs.size f cdv)) := hr.mono (by omega)
  have rep : CallR (cxOf CX0 P w K mg base kLaw "law" (defScope s_law) f cdv A outer s H0 E).nox (.builtin "repr") _ := CallR.or SkE.call_repr_int (call_reprP hg (MS.Room.u65 hr))
  have hu : (cxOf CX0 P w K mg base kLaw "law" (defScope s_law) f cdv A outer s H0 E).nox.A.units + 64 < cLine := by
    have := hr.un
    show (A.deeper (envOfC "law" (defScope s_law) s.heap.objs.size f cdv)).units + 64 < cLine
    omega
  refine ⟨_, (pss_cons (ps_set (i := 1) nd rfl (.inl rfl) (pe_call X.OB hr1 rfl X.gB X.kB X.bB .nil pass0 (pa_cons (pv 0) pa_nil)))
    (pss_cons (ps_for PassesOwn.never rfl (pi_range1 (by rfl) X.D.B2.range (pa_cons pe_int pa_nil)) (pg_name (i := 2) nd rfl (Or.inl rfl))
      (pss_cons (ps_set (i := 3) nd rfl (.inl rfl) (pe_call X.OS hr8 rfl X.gS X.kS X.bS .nil pass0 (pa_cons (pv 1) (pa_cons (pe_op op_add pe_int (pe_call X.D.OT hr1 rfl X.D.gT X.D.kT X.D.bT .nil pass0 (pa_cons (pv 1) (pa_cons pe_int pa_nil)))) pa_nil))))
      (pss_cons (ps_set (i := 4) nd rfl (.inl rfl) (pe_call X.OZ hr6 rfl X.gZ X.kZ X.bZ .nil pass0 (pa_cons (pv 3) pa_nil)))
      (pss_cons (ps_set (i := 5) nd rfl (.inl rfl) (pe_ifExp (pt_cmpR op_le (pv 4) pe_int (nomark _)) pe_str (pe_tup (pa_cons pe_str (pa_cons pe_str pa_nil)))))
      (pss_cons (ps_if (PW.pt (pw_or (pt_cmpR (op_neD hu) (pe_call X.OO hr rfl X.gO X.kO X.bO .nil EA.pass_none (pa_cons pe_int (pa_cons (pv 3) pa_nil))) (pv 5) (nomark _)) (pw_or1 (pt_cmpR op_ne (pe_callB rep (by rfl) X.rp (by decide +kernel) (pa_cons (pe_call X.OO hr rfl X.gO X.kO X.bO .nil EA.pass_none (pa_cons pe_int (pa_cons (pv 3) pa_nil))) pa_nil)) (pe_callB rep (by rfl) X.rp (by decide +kernel) (pa_cons (pe_ifExp (pt_cmpR op_le (pv 4) pe_int (nomark _)) (pv 4) (pe_tup (pa_cons pe_str (pa_cons pe_str pa_nil)))) pa_nil)) (nomark _))))) (pss_one (ps_ret pe_bl)) pss_nil)
      (pss_cons (ps_set (i := 6) nd rfl (.inl rfl) (pe_call X.OQ hr9 rfl X.gQ X.kQ X.bQ .nil pass0 (pa_cons (pv 1) (pa_cons (pv 3) pa_nil))))
      (pss_one (ps_for PassesOwn.never rfl (pi_range1 (by rfl) X.D.B2.range (pa_cons pe_int pa_nil)) (pg_name (i := 7) nd rfl (Or.inl rfl)) (pss_one (ps_if (pt_cmpR (op_neD hu) (pe_call X.OO hr rfl X.gO X.kO X.bO .nil EA.pass_none (pa_cons (pv 7) (pa_cons (pv 6) pa_nil))) (pe_tup (pa_cons pe_str (pa_cons pe_str pa_nil))) (by rfl)) (pss_one (ps_ret pe_bl)) pss_nil))))))))))
    (pss_cons (ps_if (PW.pt (pw_or (pt_cmpR op_ne (pe_call X.OO hr rfl X.gO X.kO X.bO .nil EA.pass_none (pa_cons pe_int (pa_cons (pe_call X.OR hr3 rfl X.gR X.kR X.bR .nil pass0 (pa_cons (pv 1) (pa_cons pe_int pa_nil))) pa_nil))) pe_str (nomark _)) (pw_or1 (pt_cmpR (op_neD hu) (pe_call X.OO hr rfl X.gO X.kO X.bO .nil EA.pass_none (pa_cons pe_int (pa_cons (pe_call X.OR hr3 rfl X.gR X.kR X.bR .nil pass0 (pa_cons (pv 1) (pa_cons pe_int pa_nil))) pa_nil))) (pe_tup (pa_cons pe_str (pa_cons pe_str pa_nil))) (by rfl))))) (pss_one (ps_ret pe_bl)) pss_nil)
    (pss_cons (ps_if (PW.pt (pw_or (pt_cmpR op_ne (pe_call X.OZ hr6 rfl X.gZ X.kZ X.bZ .nil pass0 (pa_cons (pe_call X.OW hr1 rfl X.gW X.kW X.bW .nil pass0 (pa_cons pe_bl pa_nil)) pa_nil)) pe_int (nomark _)) (pw_or1 (pt_cmpR (op_neD hu) (pe_call X.OO hr rfl X.gO X.kO X.bO .nil EA.pass_none (pa_cons pe_int (pa_cons (pe_call X.OW hr1 rfl X.gW X.kW X.bW .nil pass0 (pa_cons pe_bl pa_nil)) pa_nil))) (pe_tup (pa_cons pe_str (pa_cons pe_str pa_nil))) (by rfl))))) (pss_one (ps_ret pe_bl)) pss_nil)
    (pss_one (ps_ret (pe_and (pe_cmpR op_eq (pe_call X.OO hr rfl X.gO X.kO X.bO .nil EA.pass_none (pa_cons pe_int (pa_cons (pe_call X.OW hr1 rfl X.gW X.kW X.bW .nil pass0 (pa_cons pe_bl pa_nil)) pa_nil))) pe_int (nomark _)) (pe_one (pe_cmpR op_eq (pe_call X.OO hr rfl X.gO X.kO X.bO .nil EA.pass_none (pa_cons pe_int (pa_cons (pe_call X.OW hr1 rfl X.gW X.kW X.bW .nil pass0 (pa_cons pe_bl pa_nil)) pa_nil))) pe_str (nomark _)))))))))), ?_⟩
  intro a ns H hl t1 t2 hS
  have sz2 : 2 ≤ sizeLine := by rw [sizeLine_eq]; decide
  have pairD : ∀ {H' : Hp} {p : Addr}, H' p = some (.tup [.str "refused", .str "shape"]) → Dt K H' (.ref p) refD := fun h => .tup (SqT.of h) (.cons (.str _) (.cons (.str _) .nil))
  have shP : SeqAt.shaped refD = true := by decide +kernel
  have eqP : (!PyData.eqv refD refD) = false := by decide +kernel
  have shL : SeqAt.shaped (kS "let") = true := by decide +kernel
  have eqL : (!PyData.eqv (kS "let") (kS "let")) = false := by decide +kernel
  refine ⟨_, rfl, a, ns, rfl, hl, hS, fun b l ms H1 g1 B1 => ?_⟩
  refine ⟨3, rfl, by decide, by decide, for_range (n := 3) (fun _ σ H' => (∃ y2 y3 y4 y5 y6 y7, σ = [some (.ref a), some (.ref b), y2, y3, y4, y5, y6, y7]) ∧ Bx b l ms H' ∧ GxR.TabG H' T1 ∧ GxR.TabG H' T2) ⟨⟨_, _, _, _, _, _, rfl⟩, B1, g1.tab _ t1, g1.tab _ t2⟩ (fun i σ H2 hi p => ?_) fun σ H2 p => ?_⟩
  · obtain ⟨⟨y2, y3, y4, y5, y6, y7, rfl⟩, B2, ta2, tb2⟩ := p
    refine ⟨_, rfl, _, rfl, b, l, ms, 6, rfl, by decide, by decide, B2, fun r H3 r0 r6 B3 g3 => ?_⟩
    obtain ⟨m, hm⟩ : ∃ m : Nat, (m : Int) = 1 + r := ⟨(1 + r).toNat, by omega⟩
    refine ⟨1, r, rfl, rfl, b, l, ms, m, by rw [hm]; rfl, by omega, by omega, B3, fun v sh H4 d4 w4 B4 g4 => ?_⟩
    have w6 : Sh.wf 6 sh := Sh.wf_mono w4 6 (by omega)
    have g4 : Gb b H2 H4 := g3.trans g4
    have shd := Sh.shaped w6 (by decide)
    refine ⟨_, rfl, v, sh, rfl, d4, w6, by decide, fun H5 g5 => ?_⟩
    have d5 := d4.gr g5
    have B5 := B4.gr g5
    have ta5 := g5.tab _ (g4.tab _ ta2)
    have tb5 := g5.tab _ (g4.tab _ tb2)
    have rest : ∀ (D : Ends) (z2 z4 z5 z6 z7 : Option V) (H6 : Hp), (∀ σ H', ((∃ y2 y3 y4 y5 y6 y7, σ = [some (.ref a), some (.ref b), y2, y3, y4, y5, y6, y7]) ∧ Bx b l ms H' ∧ GxR.TabG H' T1 ∧ GxR.TabG H' T2) → D.nx σ H') → Gr H5 H6 →
        tSeq (tAsg (tCall (spSpoilt K 6) [] E0 (tCons (tVar 1) (tCons (tVar 3) tNil))) (gName 6)) (tFor (iRng1 (tCons (tC (.int 4)) tNil)) (gName 7) (tIfS (tTest (tOp (rNeD K) (tCall (spTold K T1 T2) [] E0 (tCons (tVar 7) (tCons (tVar 6) tNil)))
          (tTup (tCons (tC (.str "refused")) (tCons (tC (.str "shape")) tNil))))) (tRet (tC (.bl false))) tNext)) D [some (.ref a), some (.ref b), z2, some v, z4, z5, z6, z7] H6 := by
      intro D z2 z4 z5 z6 z7 H6 hD g6
      refine ⟨_, rfl, _, rfl, b, l, ms, v, sh, rfl, B5.gr g6, d5.gr g6, w6, by decide, fun v7 d7 H7 e7 bad7 B7 g7 => ?_⟩
      have ta7 := g7.tab _ (g6.tab _ ta5)
      have tb7 := g7.tab _ (g6.tab _ tb5)
      refine ⟨4, rfl, by decide, by decide, for_range (n := 4) (fun _ σ H' => (∃ y2 y3 y4 y5 y7, σ = [some (.ref a), some (.ref b), y2, y3, y4, y5, some v7, y7]) ∧ Gr H7 H') ⟨⟨_, _, _, _, _, rfl⟩, Gx.refl⟩ (fun j σ H8 hj p => ?_) fun σ H8 p => ?_⟩
      · obtain ⟨⟨x2, x3, x4, x5, x7, rfl⟩, g8⟩ := p
        refine ⟨_, rfl, _, rfl, j, v7, d7, by rw [Int.zero_add]; rfl, by omega, e7.gr g8, bad7.shaped (by decide), g8.tab _ ta7, g8.tab _ tb7, .inl ⟨bad7.no 6 (by decide), fun p9 H9 g9 e9 => ?_⟩⟩
        refine ⟨sz2, fun pq hq => ⟨refD, refD, Dt.dp _ _ ((pairD e9).new hq), Dt.dp _ _ (pairD upd_same), shP, shP, _, rfl, ifF eqP ?_⟩⟩
        exact ⟨⟨_, _, _, _, _, rfl⟩, (g8.trans g9).then hq⟩
      · obtain ⟨⟨x2, x3, x4, x5, x7, rfl⟩, g8⟩ := p
        exact hD _ _ ⟨⟨_, _, _, _, _, _, rfl⟩, B7.gr g8, g8.tab _ ta7, g8.tab _ tb7⟩
    refine ⟨_, rfl, _, _, rfl, rfl, _, rfl, ite2 (fun c => ?_) (fun c => ?_)⟩
    · have c' : Sh.size sh ≤ 40 := by
        have := of_decide_eq_true c
        omega
      have lg : ((Sh.size sh : Nat) : Int).natAbs.log2 < 1920 := by
        rw [Int.natAbs_natCast]
        exact Nat.lt_of_le_of_lt (Nat.log2_le_self _) (by omega)
      refine ⟨_, rfl, 0, v, Sh.data sh, rfl, by decide, d5, shd, ta5, tb5, .inr ⟨sh, rfl, w6, .inl ⟨rfl, fun _ H6 g6 => ?_⟩, fun no => absurd c' no⟩⟩
      refine ⟨_, rfl, kS "let", kS "let", .str _, .str _, shL, shL, _, rfl, ifF eqL ?_⟩
      refine ⟨_, rfl, 1, v, Sh.data sh, rfl, by decide, d5.gr g6, shd, g6.tab _ ta5, g6.tab _ tb5, .inr ⟨sh, rfl, w6, .inr ⟨rfl, fun _ H7 g7 => ?_⟩, fun no => absurd c' no⟩⟩
      refine .inl ⟨_, rfl, lg, ?_⟩
      refine ⟨_, rfl, _, _, rfl, rfl, _, rfl, ifT c ⟨_, rfl, .inl ⟨_, rfl, lg, rfl, _, rfl, ifF (by simp) ?_⟩⟩⟩
      exact rest _ _ _ _ _ _ H7 (fun _ _ h => h) (g6.trans g7)
    · have c' : ¬ Sh.size sh ≤ 40 := by
        have := of_decide_eq_false (Bool.eq_false_iff.mpr c)
        omega
      refine ⟨sz2, fun p1 hp1 => ?_⟩
      have g5b : Gr H5 (upd H5 p1 (.tup [.str "refused", .str "shape"])) := Gx.new hp1
      have eD : (upd H5 p1 (.tup [.str "refused", .str "shape"])) p1 = some (.tup [.str "refused", .str "shape"]) := upd_same
      refine ⟨_, rfl, 0, v, Sh.data sh, rfl, by decide, d5.gr g5b, shd, g5b.tab _ ta5, g5b.tab _ tb5, .inr ⟨sh, rfl, w6, .inl ⟨rfl, fun yes => absurd yes c'⟩, fun _ p6 H6 g6 e6 => ?_⟩⟩
      refine ⟨_, rfl, refD, refD, Dt.dp _ _ (pairD e6), Dt.dp _ _ ((pairD eD).gr g6), shP, shP, _, rfl, ifF eqP ?_⟩
      have g6 : Gr H5 H6 := g5b.trans g6
      refine ⟨_, rfl, 1, v, Sh.data sh, rfl, by decide, d5.gr g6, shd, g6.tab _ ta5, g6.tab _ tb5, .inr ⟨sh, rfl, w6, .inr ⟨rfl, fun yes => absurd yes c'⟩, fun _ p7 H7 g7 e7 => ?_⟩⟩
      refine .inr ⟨_, rfl, pairD e7, ?_⟩
      refine ⟨_, rfl, _, _, rfl, rfl, _, rfl, ifF (Bool.eq_false_iff.mpr c) ⟨sz2, fun p8 hp8 => .inr ⟨_, rfl, pairD upd_same, rfl, _, rfl, ifF (by simp) ?_⟩⟩⟩
      exact rest _ _ _ _ _ _ _ (fun _ _ h => h) ((g6.trans g7).then hp8)
  · obtain ⟨⟨y2, y3, y4, y5, y6, y7, rfl⟩, B2, ta2, tb2⟩ := p
    refine ⟨_, rfl, b, l, ms, 5, rfl, by decide, B2, fun v3 s3 H3 d3 tw3 B3 g3 => ?_⟩
    have z3 := tw3.sz
    refine ⟨0, v3, _, rfl, by decide, d3, Sh.shaped tw3.wf (by decide), g3.tab _ ta2, g3.tab _ tb2, .inr ⟨s3, rfl, tw3.wf, .inl ⟨rfl, fun _ H4 g4 => ?_⟩, fun no => absurd (by omega) no⟩⟩
    have g4 : Gb b H2 H4 := g3.trans (Gx.of_gr g4)
    refine ⟨rfl, _, rfl, ifF (by decide +kernel) ?_⟩
    refine ⟨_, rfl, b, l, ms, 6, rfl, by decide, Bx.gr B3 (by assumption), fun v5 s5 H5 d5 tw5 B5 g5 => ?_⟩
    have g5 : Gb b H2 H5 := g4.trans g5
    refine ⟨0, v5, _, rfl, by decide, d5, Sh.shaped tw5.wf (by decide), g5.tab _ ta2, g5.tab _ tb2, .inl ⟨tw5.no 6 (by decide), fun p6 H6 g6 e6 => ?_⟩⟩
    refine ⟨sz2, fun p7 hp7 => ⟨refD, refD, Dt.dp _ _ ((pairD e6).new hp7), Dt.dp _ _ (pairD upd_same), shP, shP, _, rfl, ifF eqP ?_⟩⟩
    have g7 : Gb b H2 (upd H6 p7 (.tup [.str "refused", .str "shape"])) := (g5.trans (Gx.of_gr g6)).then hp7
    refine ⟨false, rfl, fun v8 H8 g8 d8 => ⟨v8, wideS false, rfl, d8, wide_wf false, by decide, fun H9 g9 => ⟨rfl, _, rfl, neI_F rfl ?_⟩⟩⟩
    have g9 : Gb b H2 H9 := (g7.trans (Gx.of_gr g8)).trans (Gx.of_gr g9)
    have shW : ∀ m, SeqAt.shaped (Sh.data (wideS m)) = true := fun m => Sh.shaped (wide_wf m) (by decide)
    refine ⟨true, rfl, fun v10 H10 g10 d10 => ⟨0, v10, _, rfl, by decide, d10, shW true, g10.tab _ (g9.tab _ ta2), g10.tab _ (g9.tab _ tb2), .inr ⟨wideS true, rfl, wide_wf true, .inl ⟨rfl, fun yes => absurd yes (by decide)⟩, fun _ p11 H11 g11 e11 => ?_⟩⟩⟩
    refine ⟨sz2, fun p12 hp12 => ⟨refD, refD, Dt.dp _ _ ((pairD e11).new hp12), Dt.dp _ _ (pairD upd_same), shP, shP, _, rfl, ifF eqP ?_⟩⟩
    have g12 : Gb b H2 (upd H11 p12 (.tup [.str "refused", .str "shape"])) := ((g9.trans (Gx.of_gr g10)).trans (Gx.of_gr g11)).then hp12
    refine ⟨false, rfl, fun v13 H13 g13 d13 => ⟨1, v13, _, rfl, by decide, d13, shW false, g13.tab _ (g12.tab _ ta2), g13.tab _ (g12.tab _ tb2), .inr ⟨wideS false, rfl, wide_wf false, .inr ⟨rfl, fun _ H14 g14 => ⟨rfl, _, rfl, eqI_T rfl ?_⟩⟩, fun no => absurd (by decide) no⟩⟩⟩
    have g14 : Gb b H2 H14 := (g12.trans (Gx.of_gr g13)).trans (Gx.of_gr g14)
    exact ⟨false, rfl, fun v15 H15 g15 d15 => ⟨0, v15, _, rfl, by decide, d15, shW false, g15.tab _ (g14.tab _ ta2), g15.tab _ (g14.tab _ tb2), .inr ⟨wideS false, rfl, wide_wf false, .inl ⟨rfl, fun _ H16 g16 => ⟨rfl, congrArg V.bl (decide_eq_true rfl)⟩⟩, fun no => absurd (by decide) no⟩⟩⟩
end
end MS
end
section
set_option Elab.async false
set_option linter.all false
set_option maxRecDepth 100000
set_option maxHeartbeats 4000000
/-! The end of a row whose law is run in one place alone (where no repr is under way). -/
namespace MS
open PySem PySem.Spec PyProof.Rows L2 L2H GE
abbrev lstO (vs : List Value) : Obj := { cls := .type "list", data := .seq vs.toArray }
abbrev tab0 : Obj := { cls := .none, data := .fields #[] }
structure Gd (K : PySem.W.Frag) (mg mb : Str → Option Value) (s₁ : Shared) (cs : List (Addr × Addr)) (a : Addr) (vs : List Value) (ns : List Int) : Prop where
  kin : K.In s₁.heap
  glob : s₁.heap.Ns mainGlobals mg
  blt : s₁.heap.Ns builtinsNs mb
  same : ∀ x : Str, x ≠ "__name__" → mb x = bootBuiltins x
  lim : s₁.heap.NoLimit
  gens : s₁.gens = #[]
  tab : ∀ p ∈ cs, s₁.heap.get? p.2 = some tab0
  ntab : ∀ p ∈ cs, K.lookup p.2 = none
  code : ∀ p ∈ cs, PySem.W.CodeHd s₁.heap p.1 p.2
  bm : ∃ (bm : Addr) (ob : Obj), mg "__builtins__" = some (.ref bm) ∧ bm ≠ builtinsNs ∧ s₁.heap.get? bm = some ob ∧ ob.cls = .type "module" ∧ ob.dict = some builtinsNs ∧ ob.data = .plain
  obj : s₁.heap.get? a = some (lstO vs)
  nums : IntsAre vs ns
  len : ns.length ≤ sizeLine
def H1 (K : PySem.W.Frag) (cs : List (Addr × Addr)) (a : Addr) (vs : List Value) (ns : List Int) : Hp := fun b =>
  if b ∈ cs.map (·.2) then some (.tbl #[]) else if b = a ∧ (K.lookup a).isNone = true then some (.frz (lstO vs) (.lst (ns.map V.int))) else none
section
variable {P : Program} {w : World} {K : PySem.W.Frag} {mg mb : Str → Option Value} {s₁ : Shared} {cs : List (Addr × Addr)} {a : Addr} {vs : List Value} {ns : List Int}
theorem tabs_at (G : Gd K mg mb s₁ cs a vs ns) {b : Addr} (hb : b ∈ cs.map (·.2)) : s₁.heap.get? b = some tab0 ∧ K.lookup b = none := by
  obtain ⟨p, hp, rfl⟩ := List.mem_map.mp hb
  exact ⟨G.tab p hp, G.ntab p hp⟩
theorem a_no_tab (G : Gd K mg mb s₁ cs a vs ns) : a ∉ cs.map (·.2) := fun z => by
  have q := G.obj.symm.trans (tabs_at G z).1
  have q2 : Data.seq vs.toArray = Data.fields #[] := congrArg Obj.data (Option.some.inj q)
  cases q2
theorem H1_cases (b : Addr) : H1 K cs a vs ns b = none ∨ (b ∈ cs.map (·.2) ∧ H1 K cs a vs ns b = some (.tbl #[])) ∨ (b = a ∧ K.lookup a = none ∧ H1 K cs a vs ns b = some (.frz (lstO vs) (.lst (ns.map V.int)))) := by
  by_cases h1 : b ∈ cs.map (·.2)
  · exact .inr (.inl ⟨h1, if_pos h1⟩)
  · by_cases h2 : b = a ∧ (K.lookup a).isNone = true
    · exact .inr (.inr ⟨h2.1, Option.isNone_iff_eq_none.mp h2.2, (if_neg h1).trans (if_pos h2)⟩)
    · exact .inl ((if_neg h1).trans (if_neg h2))
theorem H1_none (G : Gd K mg mb s₁ cs a vs ns) {b : Addr} {o : Obj} (e : s₁.heap.get? b = some o) (h : o ≠ tab0) (h2 : o ≠ lstO vs) : H1 K cs a vs ns b = none := by
  rcases H1_cases (K := K) (cs := cs) (a := a) (vs := vs) (ns := ns) b with z | ⟨z, _⟩ | ⟨z, _, _⟩
  · exact z
  · exact absurd (Option.some.inj (e.symm.trans (tabs_at G z).1)) h
  · rw [z] at e
    exact absurd (Option.some.inj (e.symm.trans G.obj)) h2
theorem H1_K (G : Gd K mg mb s₁ cs a vs ns) {b : Addr} {o : Obj} (e : K.lookup b = some o) : H1 K cs a vs ns b = none := by
  rcases H1_cases (K := K) (cs := cs) (a := a) (vs := vs) (ns := ns) b with z | ⟨z, _⟩ | ⟨z, z2, _⟩
  · exact z
  · exact absurd (e.symm.trans (tabs_at G z).2) (by simp)
  · rw [z, z2] at e
    cases e
theorem H1_hok (G : Gd K mg mb s₁ cs a vs ns) : HOk P w (H1 K cs a vs ns) s₁.heap := fun b u e => by
  rcases H1_cases (K := K) (cs := cs) (a := a) (vs := vs) (ns := ns) b with z | ⟨z, z2⟩ | ⟨z, _, z2⟩
  · rw [z] at e
    cases e
  · rw [z2] at e
    cases e
    exact (tabs_at G z).1
  · rw [z2] at e
    cases e
    rw [z]
    exact ⟨G.obj, by rw [List.length_map]; exact G.len, vs, _, vals_ints G.nums, G.obj⟩
abbrev B1 (K : PySem.W.Frag) (s₁ : Shared) (cs : List (Addr × Addr)) (a : Addr) (vs : List Value) (ns : List Int) : Heap := hidT s₁.heap (H1 K cs a vs ns)
theorem ns_B1 (G : Gd K mg mb s₁ cs a vs ns) {b : Addr} {m : Str → Option Value} (h : s₁.heap.Ns b m) : (B1 K s₁ cs a vs ns).Ns b m := by
  obtain ⟨o, es, ep, e, d, r⟩ := h
  refine ⟨o, es, ep, hidT_get e (H1_none G e (fun z => ?_) fun z => ?_), d, r⟩
  · rw [z] at d; cases d
  · rw [z] at d; cases d
theorem env1 (G : Gd K mg mb s₁ cs a vs ns) : Env0 P w K mg (B1 K s₁ cs a vs ns) callerA [] s₁ (H1 K cs a vs ns) where
  frames := rfl
  mod := ⟨fun b o e => hidT_get (G.kin b o e) (H1_K G e), ns_B1 G G.glob, ⟨mb, ns_B1 G G.blt, G.same⟩, let ⟨mc, q1, q2⟩ := G.lim; ⟨mc, ns_B1 G q1, q2⟩⟩
  bs := fun b o e => of_hidT e
  bsz := Nat.le_of_eq (hidT_size _ _)
  funs := trivial
  frf := fun b hb => absurd (show b ∈ ([] : List Addr) from hb) (by simp)
  hok := H1_hok G
  bare := .of_eq G.gens
theorem tabB1 (G : Gd K mg mb s₁ cs a vs ns) : ∀ p ∈ cs, GxR.TabB (B1 K s₁ cs a vs ns) mg p.1 p.2 := fun p hp => by
  have hTp := G.tab p hp
  refine ⟨?_, ?_, fun z => ?_⟩
  · obtain ⟨o, us, file, tf, flags, tg, inF, text, tt, e1, r⟩ := G.code p hp
    refine ⟨o, us, file, tf, flags, tg, inF, text, tt, hidT_get e1 (H1_none G e1 (fun z => ?_) fun z => ?_), r⟩
    · obtain ⟨_, r2, r3, _⟩ := r
      rw [z] at r2
      cases r2
      simp at r3
    · obtain ⟨_, r2, _⟩ := r
      rw [z] at r2
      cases r2
  · obtain ⟨bm, ob, b1, b2, b3, b4, b5, b6⟩ := G.bm
    have other : ∀ {q : Addr} {oq : Obj}, s₁.heap.get? q = some oq → oq.data ≠ .plain → bm ≠ q := fun {q oq} e h z => by
      rw [z, e] at b3
      cases b3
      exact h b6
    obtain ⟨o, es, ep, e, hd, _⟩ := G.glob
    refine ⟨bm, ob, b1, b2, other e (by rw [hd]; simp), other hTp (by simp), hidT_get b3 (H1_none G b3 (fun z => ?_) fun z => ?_), b4, b5, b6⟩
    · rw [z] at b6; cases b6
    · rw [z] at b6; cases b6
  · obtain ⟨o, es, ep, e, hd, _⟩ := G.glob
    rw [z, hTp] at e
    cases e
    cases hd
theorem sq1 (G : Gd K mg mb s₁ cs a vs ns) : SqL K (H1 K cs a vs ns) a (ns.map V.int) := by
  cases hk : K.lookup a with
  | none => exact .inl (.inr ⟨lstO vs, (if_neg (a_no_tab G)).trans (if_pos ⟨rfl, by rw [hk]; rfl⟩)⟩)
  | some o =>
    have e := G.kin a o hk
    rw [G.obj] at e
    cases e
    exact .inr ⟨_, vs.toArray, _, hk, rfl, rfl, rfl, by rw [List.size_toArray, G.nums.length]; exact G.len, by simpa using vals_ints G.nums⟩
theorem tabH1 : ∀ p ∈ cs, H1 K cs a vs ns p.2 = some (.tbl #[]) := fun p hp => if_pos (List.mem_map.mpr ⟨p, hp, rfl⟩)
/-- what a run from there leaves -/
theorem left1 (G : Gd K mg mb s₁ cs a vs ns) {H' : Hp} {s' : Shared} (un : Un (frs []) [] (H1 K cs a vs ns) H' s₁.heap s'.heap) (hok' : HOk P w H' s'.heap) : OldK s₁.heap s'.heap := by
  have grown : ∀ b ∈ cs.map (·.2), ∃ more : Array Value, s'.heap.get? b = some { cls := .none, data := .fields more } := fun b hb => by
    obtain ⟨p, hp, rfl⟩ := List.mem_map.mp hb
    obtain ⟨more, z⟩ := un.tbls p.2 #[] (tabH1 p hp)
    exact ⟨_, hok' p.2 _ z⟩
  have key : ∀ b o, b ∉ cs.map (·.2) → s₁.heap.get? b = some o → s'.heap.get? b = some o := fun b o nb e => by
    rcases H1_cases (K := K) (cs := cs) (a := a) (vs := vs) (ns := ns) b with z | ⟨z, _⟩ | ⟨z, _, z2⟩
    · exact un.keep b o e z (fun m => absurd (show b ∈ ([] : List Addr) from m) (by simp)) (by simp)
    · exact absurd z nb
    · obtain ⟨e2, _⟩ := hok' b _ (un.frzs b _ _ z2)
      rw [z] at e e2 ⊢
      rw [G.obj] at e
      cases e
      exact e2
  refine ⟨fun b o e => ?_, fun b o e => ?_⟩
  · by_cases hb : b ∈ cs.map (·.2)
    · obtain ⟨more, hm⟩ := grown b hb
      have e0 := (tabs_at G hb).1
      obtain ⟨p, hp, rfl⟩ := List.mem_map.mp hb
      rw [e0] at e
      cases e
      exact .inr (.inl ⟨((G.code p hp).tab e0).isCodeTable, rfl, #[], more, rfl, by rw [Array.empty_append]; exact hm⟩)
    · exact .inl (key b o hb e)
  · by_cases hb : b ∈ cs.map (·.2)
    · obtain ⟨more, hm⟩ := grown b hb
      exact ⟨_, hm⟩
    · exact ⟨o, key b o hb e⟩
theorem end1 {fa : Addr} (G : Gd K mg mb s₁ cs a vs ns) (h : codeAny (model P w) callerA (.call (.ref fa) ⟨[.ref a], []⟩) (CR CX0 [] P w (H1 K cs a vs ns) s₁ (fun v _ => v = .bl true) fun _ _ _ => False) s₁) :
    codeAny (model P w) callerA (.call (.ref fa) ⟨[.ref a], []⟩) (fun r s' => r = .ok (.ret (.bool true)) ∧ OldK s₁.heap s'.heap ∧ s'.os = s₁.os ∧ AllBare s'.gens) s₁ := by
  refine codeAny_mono h fun r s' q => ?_
  cases r with
  | error e => exact False.elim q
  | ok fl =>
    cases fl with
    | next => exact False.elim q
    | brk => exact False.elim q
    | cont => exact False.elim q
    | ret u =>
      obtain ⟨v, H', os, bare, un, hok', r', q⟩ := q
      have q' : v = .bl true := q
      subst q'
      obtain rfl : u = Value.bool true := r'
      exact ⟨rfl, left1 G un hok', os, bare⟩
end
end MS
end
section
set_option Elab.async false
set_option linter.all false
set_option maxRecDepth 100000
set_option maxHeartbeats 4000000
namespace MS
open PySem PySem.Spec PyProof.Rows L2 L2H GE
theorem all_mk {P : Program} {w : World} {K : PySem.W.Frag} {h : Heap} {mg : Str → Option Value} {fa : Addr} (X : K.In h) (G : h.Ns mainGlobals mg) (hfa : mg "law" = some (.ref fa))
    {f0 f1 f2 f3 f4 f5 f6 f7 f8 f9 f10 f11 f12 f13 f14 f15 f16 f17 f18 f19 f20 f21 cA cI T1 T2 CBadShape CBadSystem CBadState CBadFormula CBadMap CTooMuch CManyshapedError : Addr} {oc0 kV0 dc0 pm0 ct0 cd0 oc1 kV1 dc1 pm1 ct1 cd1 oc2 kV2 dc2 pm2 ct2 cd2 oc3 kV3 dc3 pm3 ct3 oc4 kV4 dc4 pm4 ct4 cd4 oc5 kV5 dc5 pm5 ct5 oc6 kV6 dc6 pm6 ct6 cd6 oc7 kV7 dc7 pm7 ct7 cd7 oc8 kV8 dc8 pm8 ct8 cd8 oc9 kV9 dc9 pm9 ct9 cd9 oc10 kV10 dc10 pm10 ct10 cd10 oc11 kV11 dc11 pm11 ct11 cd11 oc12 kV12 dc12 pm12 ct12 cd12 oc13 kV13 dc13 pm13 ct13 cd13 oc14 kV14 dc14 pm14 ct14 cd14 oc15 kV15 dc15 pm15 ct15 cd15 oc16 kV16 dc16 pm16 ct16 cd16 oc17 kV17 dc17 pm17 ct17 cd17 oc18 kV18 dc18 pm18 ct18 cd18 oc19 kV19 dc19 pm19 ct19 cd19 oc20 kV20 dc20 pm20 ct20 cd20 oc21 kV21 dc21 pm21 ct21 cd21 : Value} {od0 an0 od1 an1 od2 an2 od3 an3 od4 an4 od5 an5 od6 an6 od7 an7 od8 an8 od9 an9 od10 an10 od11 an11 od12 an12 od13 an13 od14 an14 od15 an15 od16 an16 od17 an17 od18 an18 od19 an19 od20 an20 od21 an21 : Option Addr} {sl0 sl1 sl2 sl3 sl4 sl5 sl6 sl7 sl8 sl9 sl10 sl11 sl12 sl13 sl14 sl15 sl16 sl17 sl18 sl19 sl20 sl21 : Array (Option Value)} {tMOST_AFTER tMOST_LETTERS tMOST_BESIDE tMOST_LEVELS tMOST_SHAPES : Tok}
    (a0 : PySem.W.nsIn K mainGlobals "is_number" = some (some (.ref f0)))
    (l0 : K.lookup f0 = some ⟨oc0, od0, .func (PySem.W.fnOf "is_number" "is_number" (defArgs s_is_number) (defBody s_is_number) (defScope s_is_number) .none kV0 dc0 pm0 an0 cd0 ct0), sl0⟩)
    (c0 : PySem.W.codeIn K cd0 "is_number" = true)
    (k0 : PySem.W.keepIn K (.ref f0) = true)
    (a1 : PySem.W.nsIn K mainGlobals "is_number_below" = some (some (.ref f1)))
    (l1 : K.lookup f1 = some ⟨oc1, od1, .func (PySem.W.fnOf "is_number_below" "is_number_below" (defArgs s_is_number_below) (defBody s_is_number_below) (defScope s_is_number_below) .none kV1 dc1 pm1 an1 cd1 ct1), sl1⟩)
    (c1 : PySem.W.codeIn K cd1 "is_number_below" = true)
    (k1 : PySem.W.keepIn K (.ref f1) = true)
    (a2 : PySem.W.nsIn K mainGlobals "is_nested" = some (some (.ref f2)))
    (l2 : K.lookup f2 = some ⟨oc2, od2, .func (PySem.W.fnOf "is_nested" "is_nested" (defArgs s_is_nested) (defBody s_is_nested) (defScope s_is_nested) .none kV2 dc2 pm2 an2 cd2 ct2), sl2⟩)
    (c2 : PySem.W.codeIn K cd2 "is_nested" = true)
    (k2 : PySem.W.keepIn K (.ref f2) = true)
    (a3 : PySem.W.nsIn K mainGlobals "are_nested" = some (some (.ref f3)))
    (l3 : K.lookup f3 = some ⟨oc3, od3, .func (PySem.W.fnOf "are_nested" "are_nested" (defArgs s_are_nested) (defBody s_are_nested) (defScope s_are_nested) .none kV3 dc3 pm3 an3 (.ref cA) ct3), sl3⟩)
    (c3 : PySem.W.codeIn K (.ref cA) "are_nested" = true)
    (k3 : PySem.W.keepIn K (.ref f3) = true)
    (a4 : PySem.W.nsIn K mainGlobals "shapes_below" = some (some (.ref f4)))
    (l4 : K.lookup f4 = some ⟨oc4, od4, .func (PySem.W.fnOf "shapes_below" "shapes_below" (defArgs s_shapes_below) (defBody s_shapes_below) (defScope s_shapes_below) .none kV4 dc4 pm4 an4 cd4 ct4), sl4⟩)
    (c4 : PySem.W.codeIn K cd4 "shapes_below" = true)
    (k4 : PySem.W.keepIn K (.ref f4) = true)
    (a5 : PySem.W.nsIn K mainGlobals "shapes_in" = some (some (.ref f5)))
    (l5 : K.lookup f5 = some ⟨oc5, od5, .func (PySem.W.fnOf "shapes_in" "shapes_in" (defArgs s_shapes_in) (defBody s_shapes_in) (defScope s_shapes_in) .none kV5 dc5 pm5 an5 (.ref cI) ct5), sl5⟩)
    (c5 : PySem.W.codeIn K (.ref cI) "shapes_in" = true)
    (k5 : PySem.W.keepIn K (.ref f5) = true)
    (a6 : PySem.W.nsIn K mainGlobals "check_shape" = some (some (.ref f6)))
    (l6 : K.lookup f6 = some ⟨oc6, od6, .func (PySem.W.fnOf "check_shape" "check_shape" (defArgs s_check_shape) (defBody s_check_shape) (defScope s_check_shape) .none kV6 dc6 pm6 an6 cd6 ct6), sl6⟩)
    (c6 : PySem.W.codeIn K cd6 "check_shape" = true)
    (k6 : PySem.W.keepIn K (.ref f6) = true)
    (a7 : PySem.W.nsIn K mainGlobals "size" = some (some (.ref f7)))
    (l7 : K.lookup f7 = some ⟨oc7, od7, .func (PySem.W.fnOf "size" "size" (defArgs s_size) (defBody s_size) (defScope s_size) .none kV7 dc7 pm7 an7 cd7 ct7), sl7⟩)
    (c7 : PySem.W.codeIn K cd7 "size" = true)
    (k7 : PySem.W.keepIn K (.ref f7) = true)
    (a8 : PySem.W.nsIn K mainGlobals "is_value" = some (some (.ref f8)))
    (l8 : K.lookup f8 = some ⟨oc8, od8, .func (PySem.W.fnOf "is_value" "is_value" (defArgs s_is_value) (defBody s_is_value) (defScope s_is_value) .none kV8 dc8 pm8 an8 cd8 ct8), sl8⟩)
    (c8 : PySem.W.codeIn K cd8 "is_value" = true)
    (k8 : PySem.W.keepIn K (.ref f8) = true)
    (a9 : PySem.W.nsIn K mainGlobals "count_values" = some (some (.ref f9)))
    (l9 : K.lookup f9 = some ⟨oc9, od9, .func (PySem.W.fnOf "count_values" "count_values" (defArgs s_count_values) (defBody s_count_values) (defScope s_count_values) .none kV9 dc9 pm9 an9 cd9 ct9), sl9⟩)
    (c9 : PySem.W.codeIn K cd9 "count_values" = true)
    (k9 : PySem.W.keepIn K (.ref f9) = true)
    (a10 : PySem.W.nsIn K mainGlobals "_law_box" = some (some (.ref f10)))
    (l10 : K.lookup f10 = some ⟨oc10, od10, .func (PySem.W.fnOf "_law_box" "_law_box" (defArgs s_law_box) (defBody s_law_box) (defScope s_law_box) .none kV10 dc10 pm10 an10 cd10 ct10), sl10⟩)
    (c10 : PySem.W.codeIn K cd10 "_law_box" = true)
    (k10 : PySem.W.keepIn K (.ref f10) = true)
    (a11 : PySem.W.nsIn K mainGlobals "_law_take" = some (some (.ref f11)))
    (l11 : K.lookup f11 = some ⟨oc11, od11, .func (PySem.W.fnOf "_law_take" "_law_take" (defArgs s_law_take) (defBody s_law_take) (defScope s_law_take) .none kV11 dc11 pm11 an11 cd11 ct11), sl11⟩)
    (c11 : PySem.W.codeIn K cd11 "_law_take" = true)
    (k11 : PySem.W.keepIn K (.ref f11) = true)
    (a12 : PySem.W.nsIn K mainGlobals "_law_pick" = some (some (.ref f12)))
    (l12 : K.lookup f12 = some ⟨oc12, od12, .func (PySem.W.fnOf "_law_pick" "_law_pick" (defArgs s_law_pick) (defBody s_law_pick) (defScope s_law_pick) .none kV12 dc12 pm12 an12 cd12 ct12), sl12⟩)
    (c12 : PySem.W.codeIn K cd12 "_law_pick" = true)
    (k12 : PySem.W.keepIn K (.ref f12) = true)
    (a13 : PySem.W.nsIn K mainGlobals "_law_shape" = some (some (.ref f13)))
    (l13 : K.lookup f13 = some ⟨oc13, od13, .func (PySem.W.fnOf "_law_shape" "_law_shape" (defArgs s_law_shape) (defBody s_law_shape) (defScope s_law_shape) .none kV13 dc13 pm13 an13 cd13 ct13), sl13⟩)
    (c13 : PySem.W.codeIn K cd13 "_law_shape" = true)
    (k13 : PySem.W.keepIn K (.ref f13) = true)
    (a14 : PySem.W.nsIn K mainGlobals "_law_class" = some (some (.ref f14)))
    (l14 : K.lookup f14 = some ⟨oc14, od14, .func (PySem.W.fnOf "_law_class" "_law_class" (defArgs s_law_class) (defBody s_law_class) (defScope s_law_class) .none kV14 dc14 pm14 an14 cd14 ct14), sl14⟩)
    (c14 : PySem.W.codeIn K cd14 "_law_class" = true)
    (k14 : PySem.W.keepIn K (.ref f14) = true)
    (a15 : PySem.W.nsIn K mainGlobals "_law_size" = some (some (.ref f15)))
    (l15 : K.lookup f15 = some ⟨oc15, od15, .func (PySem.W.fnOf "_law_size" "_law_size" (defArgs s_law_size) (defBody s_law_size) (defScope s_law_size) .none kV15 dc15 pm15 an15 cd15 ct15), sl15⟩)
    (c15 : PySem.W.codeIn K cd15 "_law_size" = true)
    (k15 : PySem.W.keepIn K (.ref f15) = true)
    (a16 : PySem.W.nsIn K mainGlobals "_law_told" = some (some (.ref f16)))
    (l16 : K.lookup f16 = some ⟨oc16, od16, .func (PySem.W.fnOf "_law_told" "_law_told" (defArgs s_law_told) (defBody s_law_told) (defScope s_law_told) .none kV16 dc16 pm16 an16 cd16 ct16), sl16⟩)
    (c16 : PySem.W.codeIn K cd16 "_law_told" = true)
    (k16 : PySem.W.keepIn K (.ref f16) = true)
    (a17 : PySem.W.nsIn K mainGlobals "_law_wrong" = some (some (.ref f17)))
    (l17 : K.lookup f17 = some ⟨oc17, od17, .func (PySem.W.fnOf "_law_wrong" "_law_wrong" (defArgs s_law_wrong) (defBody s_law_wrong) (defScope s_law_wrong) .none kV17 dc17 pm17 an17 cd17 ct17), sl17⟩)
    (c17 : PySem.W.codeIn K cd17 "_law_wrong" = true)
    (k17 : PySem.W.keepIn K (.ref f17) = true)
    (a18 : PySem.W.nsIn K mainGlobals "_law_spoilt" = some (some (.ref f18)))
    (l18 : K.lookup f18 = some ⟨oc18, od18, .func (PySem.W.fnOf "_law_spoilt" "_law_spoilt" (defArgs s_law_spoilt) (defBody s_law_spoilt) (defScope s_law_spoilt) .none kV18 dc18 pm18 an18 cd18 ct18), sl18⟩)
    (c18 : PySem.W.codeIn K cd18 "_law_spoilt" = true)
    (k18 : PySem.W.keepIn K (.ref f18) = true)
    (a19 : PySem.W.nsIn K mainGlobals "_law_tower" = some (some (.ref f19)))
    (l19 : K.lookup f19 = some ⟨oc19, od19, .func (PySem.W.fnOf "_law_tower" "_law_tower" (defArgs s_law_tower) (defBody s_law_tower) (defScope s_law_tower) .none kV19 dc19 pm19 an19 cd19 ct19), sl19⟩)
    (c19 : PySem.W.codeIn K cd19 "_law_tower" = true)
    (k19 : PySem.W.keepIn K (.ref f19) = true)
    (a20 : PySem.W.nsIn K mainGlobals "_law_wide" = some (some (.ref f20)))
    (l20 : K.lookup f20 = some ⟨oc20, od20, .func (PySem.W.fnOf "_law_wide" "_law_wide" (defArgs s_law_wide) (defBody s_law_wide) (defScope s_law_wide) .none kV20 dc20 pm20 an20 cd20 ct20), sl20⟩)
    (c20 : PySem.W.codeIn K cd20 "_law_wide" = true)
    (k20 : PySem.W.keepIn K (.ref f20) = true)
    (a21 : PySem.W.nsIn K mainGlobals "law" = some (some (.ref f21)))
    (l21 : K.lookup f21 = some ⟨oc21, od21, .func (PySem.W.fnOf "law" "law" (defArgs s_law) (defBody s_law) (defScope s_law) .none kV21 dc21 pm21 an21 cd21 ct21), sl21⟩)
    (c21 : PySem.W.codeIn K cd21 "law" = true)
    (k21 : PySem.W.keepIn K (.ref f21) = true)
    (qMOST_AFTER : PySem.W.nsIn K mainGlobals "MOST_AFTER" = some (some (.int 4 tMOST_AFTER)))
    (qMOST_LETTERS : PySem.W.nsIn K mainGlobals "MOST_LETTERS" = some (some (.int 5 tMOST_LETTERS)))
    (qMOST_BESIDE : PySem.W.nsIn K mainGlobals "MOST_BESIDE" = some (some (.int 4 tMOST_BESIDE)))
    (qMOST_LEVELS : PySem.W.nsIn K mainGlobals "MOST_LEVELS" = some (some (.int 6 tMOST_LEVELS)))
    (qMOST_SHAPES : PySem.W.nsIn K mainGlobals "MOST_SHAPES" = some (some (.int 40 tMOST_SHAPES)))
    (nisinstance : PySem.W.nsIn K mainGlobals "isinstance" = some none)
    (nint : PySem.W.nsIn K mainGlobals "int" = some none)
    (nbool : PySem.W.nsIn K mainGlobals "bool" = some none)
    (ntuple : PySem.W.nsIn K mainGlobals "tuple" = some none)
    (nlen : PySem.W.nsIn K mainGlobals "len" = some none)
    (nall : PySem.W.nsIn K mainGlobals "all" = some none)
    (nsum : PySem.W.nsIn K mainGlobals "sum" = some none)
    (nabs : PySem.W.nsIn K mainGlobals "abs" = some none)
    (nrange : PySem.W.nsIn K mainGlobals "range" = some none)
    (nstr : PySem.W.nsIn K mainGlobals "str" = some none)
    (nValueError : PySem.W.nsIn K mainGlobals "ValueError" = some none)
    (nrepr : PySem.W.nsIn K mainGlobals "repr" = some none)
    (gBadShape : PySem.W.nsIn K mainGlobals "BadShape" = some (some (.ref CBadShape)))
    (gBadSystem : PySem.W.nsIn K mainGlobals "BadSystem" = some (some (.ref CBadSystem)))
    (gBadState : PySem.W.nsIn K mainGlobals "BadState" = some (some (.ref CBadState)))
    (gBadFormula : PySem.W.nsIn K mainGlobals "BadFormula" = some (some (.ref CBadFormula)))
    (gBadMap : PySem.W.nsIn K mainGlobals "BadMap" = some (some (.ref CBadMap)))
    (gTooMuch : PySem.W.nsIn K mainGlobals "TooMuch" = some (some (.ref CTooMuch)))
    (gManyshapedError : PySem.W.nsIn K mainGlobals "ManyshapedError" = some (some (.ref CManyshapedError)))
    (iBadSystem : PySem.W.kitOne K (.ref CBadShape) (.ref CBadSystem) = some false)
    (iBadState : PySem.W.kitOne K (.ref CBadShape) (.ref CBadState) = some false)
    (iBadFormula : PySem.W.kitOne K (.ref CBadShape) (.ref CBadFormula) = some false)
    (iBadMap : PySem.W.kitOne K (.ref CBadShape) (.ref CBadMap) = some false)
    (iTooMuch : PySem.W.kitOne K (.ref CBadShape) (.ref CTooMuch) = some false)
    (iS : PySem.W.kitOne K (.ref CBadShape) (.ref CBadShape) = some true)
    (iV : PySem.W.kitOne K (.ref CBadShape) (.type "ValueError") = some true)
    (xM : PySem.W.exmOne K (.ref CBadShape) (.ref CManyshapedError) = some true)
    (kC : PySem.W.keepIn K (.ref CBadShape) = true)
    (xC : PySem.W.excIn K CBadShape [.type "ValueError", .type "Exception", .type "BaseException", .type "object"] "ValueError.__new__" = true)
    (bC : PySem.W.subIn K (.ref CBadShape) (.type "BaseException") = some true)
    (tC : PySem.W.typeIn K (.ref CBadShape) = some (.type "type"))
    (ehg : PySem.W.findIn K (.ref CBadShape) "__getattribute__" = some (some (.builtin "BaseException.__getattribute__")))
    (ehk : PySem.W.findIn K (.ref CBadShape) "__getattr__" = some none)
    (ehd : PySem.W.hasDictIn K CBadShape = true)
    (eha : PySem.W.findIn K (.ref CBadShape) "__class__" = some (some (.builtin "object.__class__")))
    (ehn : PySem.W.specialIn K (.builtin "object.__class__") "__get__" = some (some (.builtin "getset_descriptor.__get__")))
    (eht : PySem.W.takesIn K (.builtin "object.__class__") = some true)
    (ehm : PySem.W.mroIn K CBadShape (.type "object") = some true)
    (ehS : PySem.W.findIn K (.ref CBadShape) "__str__" = some (some (.builtin "BaseException.__str__"))) :
    ∀ (base : Heap), K.In base → base.Ns mainGlobals mg → GxR.TabB base mg cA T1 → GxR.TabB base mg cI T2 → ∀ (s : Shared) (H : Hp) (a : Addr) (ns : List Int), Env0 P w K mg base callerA [] s H →
      GxR.TabG H T1 → GxR.TabG H T2 → SqL K H a (ns.map V.int) → ns.length ≤ 63 → codeAny (model P w) callerA (.call (.ref fa) ⟨[.ref a], []⟩) (CR CX0 [] P w H s (fun v _ => v = .bl true) fun _ _ _ => False) s := by
  have e := hfa.symm.trans (PySem.W.mg_of X G a21)
  cases e
  have B : Blt mg := ⟨PySem.W.mg_none_of X G nisinstance, PySem.W.mg_none_of X G nint, PySem.W.mg_none_of X G nbool, PySem.W.mg_none_of X G ntuple, PySem.W.mg_none_of X G nlen, PySem.W.mg_none_of X G nall, PySem.W.mg_none_of X G nsum⟩
  have B2 : Blt2 mg := ⟨PySem.W.mg_none_of X G nabs, PySem.W.mg_none_of X G nint, PySem.W.mg_none_of X G nlen, PySem.W.mg_none_of X G nrange⟩
  have F0 := fun_mk (st := s_is_number) l0 c0 k0
  have b0 := F0.binds (ps := ["x"]) fun _ _ _ _ _ _ us hl => match us, hl with | [_], _ => rfl
  have g0 := PySem.W.mg_of X G a0
  have F1 := fun_mk (st := s_is_number_below) l1 c1 k1
  have b1 := F1.binds (ps := ["x", "end"]) fun _ _ _ _ _ _ us hl => match us, hl with | [_, _], _ => rfl
  have g1 := PySem.W.mg_of X G a1
  have F2 := fun_mk (st := s_is_nested) l2 c2 k2
  have b2 := F2.binds (ps := ["shape", "levels"]) fun _ _ _ _ _ _ us hl => match us, hl with | [_, _], _ => rfl
  have g2 := PySem.W.mg_of X G a2
  have F3 := fun_mk (st := s_are_nested) l3 c3 k3
  have b3 := F3.binds (ps := ["shapes", "levels"]) fun _ _ _ _ _ _ us hl => match us, hl with | [_, _], _ => rfl
  have g3 := PySem.W.mg_of X G a3
  have F4 := fun_mk (st := s_shapes_below) l4 c4 k4
  have b4 := F4.binds (ps := ["shape"]) fun _ _ _ _ _ _ us hl => match us, hl with | [_], _ => rfl
  have g4 := PySem.W.mg_of X G a4
  have F5 := fun_mk (st := s_shapes_in) l5 c5 k5
  have b5 := F5.binds (ps := ["shape"]) fun _ _ _ _ _ _ us hl => match us, hl with | [_], _ => rfl
  have g5 := PySem.W.mg_of X G a5
  have F6 := fun_mk (st := s_check_shape) l6 c6 k6
  have b6 := F6.binds (ps := ["shape"]) fun _ _ _ _ _ _ us hl => match us, hl with | [_], _ => rfl
  have g6 := PySem.W.mg_of X G a6
  have F7 := fun_mk (st := s_size) l7 c7 k7
  have b7 := F7.binds (ps := ["shape"]) fun _ _ _ _ _ _ us hl => match us, hl with | [_], _ => rfl
  have g7 := PySem.W.mg_of X G a7
  have F8 := fun_mk (st := s_is_value) l8 c8 k8
  have b8 := F8.binds (ps := ["shape", "states", "x"]) fun _ _ _ _ _ _ us hl => match us, hl with | [_, _, _], _ => rfl
  have g8 := PySem.W.mg_of X G a8
  have F9 := fun_mk (st := s_count_values) l9 c9 k9
  have b9 := F9.binds (ps := ["shape", "states"]) fun _ _ _ _ _ _ us hl => match us, hl with | [_, _], _ => rfl
  have g9 := PySem.W.mg_of X G a9
  have F10 := fun_mk (st := s_law_box) l10 c10 k10
  have b10 := F10.binds (ps := ["script"]) fun _ _ _ _ _ _ us hl => match us, hl with | [_], _ => rfl
  have g10 := PySem.W.mg_of X G a10
  have F11 := fun_mk (st := s_law_take) l11 c11 k11
  have b11 := F11.binds (ps := ["box", "m"]) fun _ _ _ _ _ _ us hl => match us, hl with | [_, _], _ => rfl
  have g11 := PySem.W.mg_of X G a11
  have F12 := fun_mk (st := s_law_pick) l12 c12 k12
  have b12 := F12.binds (ps := ["box", "menu"]) fun _ _ _ _ _ _ us hl => match us, hl with | [_, _], _ => rfl
  have g12 := PySem.W.mg_of X G a12
  have F13 := fun_mk (st := s_law_shape) l13 c13 k13
  have b13 := F13.binds (ps := ["box", "levels"]) fun _ _ _ _ _ _ us hl => match us, hl with | [_, _], _ => rfl
  have g13 := PySem.W.mg_of X G a13
  have F14 := fun_mk (st := s_law_class) l14 c14 k14
  have b14 := F14.binds (ps := ["e"]) fun _ _ _ _ _ _ us hl => match us, hl with | [_], _ => rfl
  have g14 := PySem.W.mg_of X G a14
  have F15 := fun_mk (st := s_law_size) l15 c15 k15
  have b15 := F15.binds (ps := ["shape"]) fun _ _ _ _ _ _ us hl => match us, hl with | [_], _ => rfl
  have g15 := PySem.W.mg_of X G a15
  have F16 := fun_mk (st := s_law_told) l16 c16 k16
  have b16 := F16.binds (ps := ["way", "shape"]) fun _ _ _ _ _ _ us hl => match us, hl with | [_, _], _ => rfl
  have g16 := PySem.W.mg_of X G a16
  have F17 := fun_mk (st := s_law_wrong) l17 c17 k17
  have b17 := F17.binds (ps := ["box", "shape"]) fun _ _ _ _ _ _ us hl => match us, hl with | [_, _], _ => rfl
  have g17 := PySem.W.mg_of X G a17
  have F18 := fun_mk (st := s_law_spoilt) l18 c18 k18
  have b18 := F18.binds (ps := ["box", "shape"]) fun _ _ _ _ _ _ us hl => match us, hl with | [_, _], _ => rfl
  have g18 := PySem.W.mg_of X G a18
  have F19 := fun_mk (st := s_law_tower) l19 c19 k19
  have b19 := F19.binds (ps := ["box", "levels"]) fun _ _ _ _ _ _ us hl => match us, hl with | [_, _], _ => rfl
  have g19 := PySem.W.mg_of X G a19
  have F20 := fun_mk (st := s_law_wide) l20 c20 k20
  have b20 := F20.binds (ps := ["more"]) fun _ _ _ _ _ _ us hl => match us, hl with | [_], _ => rfl
  have g20 := PySem.W.mg_of X G a20
  have F21 := fun_mk (st := s_law) l21 c21 k21
  have b21 := F21.binds (ps := ["script"]) fun _ _ _ _ _ _ us hl => match us, hl with | [_], _ => rfl
  have g21 := PySem.W.mg_of X G a21
  have FC3 : FunC K "are_nested" "are_nested" s_are_nested f3 _ cA := ⟨_, _, _, _, _, _, _, _, rfl, l3, c3⟩
  have FC5 : FunC K "shapes_in" "shapes_in" s_shapes_in f5 _ cI := ⟨_, _, _, _, _, _, _, _, rfl, l5, c5⟩
  have Z : CTxt K mg CBadShape := ⟨PySem.W.mg_of X G gBadShape, kC, xC, bC, tC, ⟨_, PySem.W.mg_of X G qMOST_LEVELS⟩, ⟨_, PySem.W.mg_of X G qMOST_SHAPES⟩⟩
  have KX : KTxt K mg CBadShape := ⟨PySem.W.mg_none_of X G nisinstance, PySem.W.mg_none_of X G nstr, PySem.W.mg_none_of X G nValueError, ⟨ehg, ehk, bC, ehd, eha, ehn, eht, ehm⟩, ehS, bC, PySem.W.mg_of X G gBadShape, iS, iV, ⟨_, PySem.W.mg_of X G gBadSystem, iBadSystem⟩, ⟨_, PySem.W.mg_of X G gBadState, iBadState⟩, ⟨_, PySem.W.mg_of X G gBadFormula, iBadFormula⟩, ⟨_, PySem.W.mg_of X G gBadMap, iBadMap⟩, ⟨_, PySem.W.mg_of X G gTooMuch, iTooMuch⟩⟩
  intro base hb hn TA TI s H a ns e0 t1 t2 hS hl
  have OB := ok_is_number_below (P := P) (w := w) (base := base) F1 (ok_is_number (k := 0) B F0) g0 k0 b0
  have NX : NTxt P w K mg base f2 f3 f1 _ _ _ cA T1 := ⟨B, F2, FC3, k3, k1, g2, g3, g1, b2, b3, b1, ⟨_, PySem.W.mg_of X G qMOST_AFTER⟩, ⟨_, PySem.W.mg_of X G qMOST_LETTERS⟩, ⟨_, PySem.W.mg_of X G qMOST_BESIDE⟩, OB, TA⟩
  have IX : ITxt P w K mg base f5 f4 _ _ cI T2 := ⟨B, FC5, k5, g5, b5, F4, g4, b4, TI⟩
  have SX : STxt P w K mg base f2 f5 _ _ T1 T2 := ⟨(both_nested NX 7).1, g2, k2, b2, all_in IX 6, g5, k5, b5⟩
  have OC := ok_check_shape F6 SX Z
  have OS := ok_size F7 OC g6 k6 b6 SX
  have OV := ok_is_value F8 OC g6 k6 b6
  have OO := ok_count_values F9 OC g6 k6 b6
  have OT := ok_law_take (P := P) (w := w) (base := base) (k := 0) B2 F11
  have OP := ok_law_pick B2 F12 OT g11 k11 b11
  have DX : DTxt P w K mg base f11 f12 _ _ := ⟨B, B2, OT, g11, k11, b11, OP, g12, k12, b12⟩
  have TX : TTxt P w K mg base f6 f7 f8 f9 f14 _ _ _ _ _ CBadShape CManyshapedError T1 T2 := ⟨OC, g6, k6, b6, OS, g7, k7, b7, OV, g8, k8, b8, OO, g9, k9, b9, ok_law_class KX F14, g14, k14, b14, PySem.W.mg_of X G gManyshapedError, xM⟩
  have OW := ok_law_wrong (k := 0) DX F17
  have LX : LTxt P w K mg base f11 f12 f10 f13 f15 f16 f18 f19 f20 _ _ _ _ _ _ _ _ _ T1 T2 := ⟨DX, PySem.W.mg_none_of X G nrepr, ok_law_box B2 F10, g10, k10, b10, all_shape DX F13 g13 b13 6, g13, k13, b13, all_law_size B F15 g15 b15 6, g15, k15, b15, ok_law_told TX F16, g16, k16, b16, all_law_spoilt DX OW g17 k17 b17 F18 g18 b18 6, g18, k18, b18, ok_law_tower DX F19, g19, k19, b19, ok_law_wide F20, g20, k20, b20⟩
  refine run_at (k := 24) (N := kLaw) (ps := ["script"]) (us := [.ref a]) (vs := [.ref a]) F21 sc_law ⟨rfl, by decide, by decide⟩ e0 (.of_eq rfl) (.cons rfl .nil) rfl fun cdv hr => ?_
  obtain ⟨t, ht, hq⟩ := law_at LX (cdv := cdv) (outer := []) (s := s) (H0 := H) (E := fun _ _ _ => False) (A := callerA) rfl hr
  exact ⟨t, ht.nox, hq a ns H hl t1 t2 hS⟩
/-- the end -/
theorem walk1 {l : PySem.W.OpenLaw} {q : Program} {loose : List Str} {XP : (Str → Option Value) → Heap → Prop} {YP : World → Heap → Prop} {d : DefRec} {K : Params → PySem.W.Frag} (hn : l.most = some 63) (hdf : d.params.defaults = []) (hY : ∀ (w : World) (h : Heap), YP w h → (K w.params).In h)
    (F : ∀ (w : World) (s₀ s₁ : Shared) (mg mb : Str → Option Value) (fa : Addr), PySem.W.Ground q loose [] XP w s₀ mg mb s₁.heap → (K w.params).In s₁.heap → mg d.name = some (.ref fa) → ∃ (cA cI T1 T2 : Addr), (K w.params).lookup T1 = none ∧ (K w.params).lookup T2 = none ∧
      (PySem.W.CodeHd s₁.heap cA T1 ∧ s₁.heap.get? T1 = some tab0) ∧ (PySem.W.CodeHd s₁.heap cI T2 ∧ s₁.heap.get? T2 = some tab0) ∧
      ∀ (base : Heap), (K w.params).In base → base.Ns mainGlobals mg → GxR.TabB base mg cA T1 → GxR.TabB base mg cI T2 → ∀ (s : Shared) (H : Hp) (a : Addr) (ns : List Int), Env0 l.prog w (K w.params) mg base callerA [] s H →
        GxR.TabG H T1 → GxR.TabG H T2 → SqL (K w.params) H a (ns.map V.int) → ns.length ≤ 63 → codeAny (model l.prog w) callerA (.call (.ref fa) ⟨[.ref a], []⟩) (CR CX0 [] l.prog w H s (fun v _ => v = .bl true) fun _ _ _ => False) s) :
    PySem.W.WalkO q loose XP YP l.row.toRowW d [] (fun f vs => PySem.call f vs) := by
  refine Att.attach_callB hn hdf fun w s₀ s₁ mg mb fa o pm cd doc a vs ns G Y ho hd hcd hmg hobj hnum hlen hbits hg => ?_
  obtain ⟨cA, cI, T1, T2, n1, n2, ⟨h1, e1⟩, ⟨h2, e2⟩, hF⟩ := F w s₀ s₁ mg mb fa G (hY w _ Y) hmg
  have two : ∀ {R : Addr × Addr → Prop}, R (cA, T1) → R (cI, T2) → ∀ p ∈ [(cA, T1), (cI, T2)], R p := fun r1 r2 p hp => by
    rcases List.mem_cons.mp hp with z | z
    · rw [z]; exact r1
    · rw [List.mem_singleton.mp z]; exact r2
  have D : Gd (K w.params) mg mb s₁ [(cA, T1), (cI, T2)] a vs ns := ⟨hY w _ Y, G.T.g, G.T.b, G.T.builtins, G.T.nolimit, hg, two (R := fun p => s₁.heap.get? p.2 = some tab0) e1 e2, two (R := fun p => (K w.params).lookup p.2 = none) n1 n2, two (R := fun p => PySem.W.CodeHd s₁.heap p.1 p.2) h1 h2, G.T.bmain, hobj, hnum, Nat.le_trans hlen (by decide)⟩
  have E := env1 (P := l.prog) (w := w) D
  exact end1 D (hF _ E.mod.kin E.mod.glob (tabB1 D (cA, T1) List.mem_cons_self) (tabB1 D (cI, T2) (List.mem_cons_of_mem _ List.mem_cons_self)) s₁ _ a ns E ⟨#[], tabH1 (cA, T1) List.mem_cons_self, trivial⟩ ⟨#[], tabH1 (cI, T2) (List.mem_cons_of_mem _ List.mem_cons_self), trivial⟩ (sq1 D) hlen)
/-- all that the head must tell -/
theorem fin {P : Program} {w : World} {q : Program} {loose : List Str} {XP : (Str → Option Value) → Heap → Prop} {K : PySem.W.Frag} {s₀ s₁ : Shared} {mg mb : Str → Option Value} {fa : Addr} (G : PySem.W.Ground q loose [] XP w s₀ mg mb s₁.heap) (X : K.In s₁.heap) (hfa : mg "law" = some (.ref fa))
    {f0 f1 f2 f3 f4 f5 f6 f7 f8 f9 f10 f11 f12 f13 f14 f15 f16 f17 f18 f19 f20 f21 cA cI T1 T2 CBadShape CBadSystem CBadState CBadFormula CBadMap CTooMuch CManyshapedError : Addr} {oc0 kV0 dc0 pm0 ct0 cd0 oc1 kV1 dc1 pm1 ct1 cd1 oc2 kV2 dc2 pm2 ct2 cd2 oc3 kV3 dc3 pm3 ct3 oc4 kV4 dc4 pm4 ct4 cd4 oc5 kV5 dc5 pm5 ct5 oc6 kV6 dc6 pm6 ct6 cd6 oc7 kV7 dc7 pm7 ct7 cd7 oc8 kV8 dc8 pm8 ct8 cd8 oc9 kV9 dc9 pm9 ct9 cd9 oc10 kV10 dc10 pm10 ct10 cd10 oc11 kV11 dc11 pm11 ct11 cd11 oc12 kV12 dc12 pm12 ct12 cd12 oc13 kV13 dc13 pm13 ct13 cd13 oc14 kV14 dc14 pm14 ct14 cd14 oc15 kV15 dc15 pm15 ct15 cd15 oc16 kV16 dc16 pm16 ct16 cd16 oc17 kV17 dc17 pm17 ct17 cd17 oc18 kV18 dc18 pm18 ct18 cd18 oc19 kV19 dc19 pm19 ct19 cd19 oc20 kV20 dc20 pm20 ct20 cd20 oc21 kV21 dc21 pm21 ct21 cd21 : Value} {od0 an0 od1 an1 od2 an2 od3 an3 od4 an4 od5 an5 od6 an6 od7 an7 od8 an8 od9 an9 od10 an10 od11 an11 od12 an12 od13 an13 od14 an14 od15 an15 od16 an16 od17 an17 od18 an18 od19 an19 od20 an20 od21 an21 : Option Addr} {sl0 sl1 sl2 sl3 sl4 sl5 sl6 sl7 sl8 sl9 sl10 sl11 sl12 sl13 sl14 sl15 sl16 sl17 sl18 sl19 sl20 sl21 : Array (Option Value)} {tMOST_AFTER tMOST_LETTERS tMOST_BESIDE tMOST_LEVELS tMOST_SHAPES : Tok} {oA oI : Value} {dA dI : Option Addr} {vA vI : Array Value} {sA sI : Array (Option Value)}
    (a0 : PySem.W.nsIn K mainGlobals "is_number" = some (some (.ref f0)))
    (l0 : K.lookup f0 = some ⟨oc0, od0, .func (PySem.W.fnOf "is_number" "is_number" (defArgs s_is_number) (defBody s_is_number) (defScope s_is_number) .none kV0 dc0 pm0 an0 cd0 ct0), sl0⟩)
    (c0 : PySem.W.codeIn K cd0 "is_number" = true)
    (k0 : PySem.W.keepIn K (.ref f0) = true)
    (a1 : PySem.W.nsIn K mainGlobals "is_number_below" = some (some (.ref f1)))
    (l1 : K.lookup f1 = some ⟨oc1, od1, .func (PySem.W.fnOf "is_number_below" "is_number_below" (defArgs s_is_number_below) (defBody s_is_number_below) (defScope s_is_number_below) .none kV1 dc1 pm1 an1 cd1 ct1), sl1⟩)
    (c1 : PySem.W.codeIn K cd1 "is_number_below" = true)
    (k1 : PySem.W.keepIn K (.ref f1) = true)
    (a2 : PySem.W.nsIn K mainGlobals "is_nested" = some (some (.ref f2)))
    (l2 : K.lookup f2 = some ⟨oc2, od2, .func (PySem.W.fnOf "is_nested" "is_nested" (defArgs s_is_nested) (defBody s_is_nested) (defScope s_is_nested) .none kV2 dc2 pm2 an2 cd2 ct2), sl2⟩)
    (c2 : PySem.W.codeIn K cd2 "is_nested" = true)
    (k2 : PySem.W.keepIn K (.ref f2) = true)
    (a3 : PySem.W.nsIn K mainGlobals "are_nested" = some (some (.ref f3)))
    (l3 : K.lookup f3 = some ⟨oc3, od3, .func (PySem.W.fnOf "are_nested" "are_nested" (defArgs s_are_nested) (defBody s_are_nested) (defScope s_are_nested) .none kV3 dc3 pm3 an3 (.ref cA) ct3), sl3⟩)
    (c3 : PySem.W.codeIn K (.ref cA) "are_nested" = true)
    (k3 : PySem.W.keepIn K (.ref f3) = true)
    (a4 : PySem.W.nsIn K mainGlobals "shapes_below" = some (some (.ref f4)))
    (l4 : K.lookup f4 = some ⟨oc4, od4, .func (PySem.W.fnOf "shapes_below" "shapes_below" (defArgs s_shapes_below) (defBody s_shapes_below) (defScope s_shapes_below) .none kV4 dc4 pm4 an4 cd4 ct4), sl4⟩)
    (c4 : PySem.W.codeIn K cd4 "shapes_below" = true)
    (k4 : PySem.W.keepIn K (.ref f4) = true)
    (a5 : PySem.W.nsIn K mainGlobals "shapes_in" = some (some (.ref f5)))
    (l5 : K.lookup f5 = some ⟨oc5, od5, .func (PySem.W.fnOf "shapes_in" "shapes_in" (defArgs s_shapes_in) (defBody s_shapes_in) (defScope s_shapes_in) .none kV5 dc5 pm5 an5 (.ref cI) ct5), sl5⟩)
    (c5 : PySem.W.codeIn K (.ref cI) "shapes_in" = true)
    (k5 : PySem.W.keepIn K (.ref f5) = true)
    (a6 : PySem.W.nsIn K mainGlobals "check_shape" = some (some (.ref f6)))
    (l6 : K.lookup f6 = some ⟨oc6, od6, .func (PySem.W.fnOf "check_shape" "check_shape" (defArgs s_check_shape) (defBody s_check_shape) (defScope s_check_shape) .none kV6 dc6 pm6 an6 cd6 ct6), sl6⟩)
    (c6 : PySem.W.codeIn K cd6 "check_shape" = true)
    (k6 : PySem.W.keepIn K (.ref f6) = true)
    (a7 : PySem.W.nsIn K mainGlobals "size" = some (some (.ref f7)))
    (l7 : K.lookup f7 = some ⟨oc7, od7, .func (PySem.W.fnOf "size" "size" (defArgs s_size) (defBody s_size) (defScope s_size) .none kV7 dc7 pm7 an7 cd7 ct7), sl7⟩)
    (c7 : PySem.W.codeIn K cd7 "size" = true)
    (k7 : PySem.W.keepIn K (.ref f7) = true)
    (a8 : PySem.W.nsIn K mainGlobals "is_value" = some (some (.ref f8)))
    (l8 : K.lookup f8 = some ⟨oc8, od8, .func (PySem.W.fnOf "is_value" "is_value" (defArgs s_is_value) (defBody s_is_value) (defScope s_is_value) .none kV8 dc8 pm8 an8 cd8 ct8), sl8⟩)
    (c8 : PySem.W.codeIn K cd8 "is_value" = true)
    (k8 : PySem.W.keepIn K (.ref f8) = true)
    (a9 : PySem.W.nsIn K mainGlobals "count_values" = some (some (.ref f9)))
    (l9 : K.lookup f9 = some ⟨oc9, od9, .func (PySem.W.fnOf "count_values" "count_values" (defArgs s_count_values) (defBody s_count_values) (defScope s_count_values) .none kV9 dc9 pm9 an9 cd9 ct9), sl9⟩)
    (c9 : PySem.W.codeIn K cd9 "count_values" = true)
    (k9 : PySem.W.keepIn K (.ref f9) = true)
    (a10 : PySem.W.nsIn K mainGlobals "_law_box" = some (some (.ref f10)))
    (l10 : K.lookup f10 = some ⟨oc10, od10, .func (PySem.W.fnOf "_law_box" "_law_box" (defArgs s_law_box) (defBody s_law_box) (defScope s_law_box) .none kV10 dc10 pm10 an10 cd10 ct10), sl10⟩)
    (c10 : PySem.W.codeIn K cd10 "_law_box" = true)
    (k10 : PySem.W.keepIn K (.ref f10) = true)
    (a11 : PySem.W.nsIn K mainGlobals "_law_take" = some (some (.ref f11)))
    (l11 : K.lookup f11 = some ⟨oc11, od11, .func (PySem.W.fnOf "_law_take" "_law_take" (defArgs s_law_take) (defBody s_law_take) (defScope s_law_take) .none kV11 dc11 pm11 an11 cd11 ct11), sl11⟩)
    (c11 : PySem.W.codeIn K cd11 "_law_take" = true)
    (k11 : PySem.W.keepIn K (.ref f11) = true)
    (a12 : PySem.W.nsIn K mainGlobals "_law_pick" = some (some (.ref f12)))
    (l12 : K.lookup f12 = some ⟨oc12, od12, .func (PySem.W.fnOf "_law_pick" "_law_pick" (defArgs s_law_pick) (defBody s_law_pick) (defScope s_law_pick) .none kV12 dc12 pm12 an12 cd12 ct12), sl12⟩)
    (c12 : PySem.W.codeIn K cd12 "_law_pick" = true)
    (k12 : PySem.W.keepIn K (.ref f12) = true)
    (a13 : PySem.W.nsIn K mainGlobals "_law_shape" = some (some (.ref f13)))
    (l13 : K.lookup f13 = some ⟨oc13, od13, .func (PySem.W.fnOf "_law_shape" "_law_shape" (defArgs s_law_shape) (defBody s_law_shape) (defScope s_law_shape) .none kV13 dc13 pm13 an13 cd13 ct13), sl13⟩)
    (c13 : PySem.W.codeIn K cd13 "_law_shape" = true)
    (k13 : PySem.W.keepIn K (.ref f13) = true)
    (a14 : PySem.W.nsIn K mainGlobals "_law_class" = some (some (.ref f14)))
    (l14 : K.lookup f14 = some ⟨oc14, od14, .func (PySem.W.fnOf "_law_class" "_law_class" (defArgs s_law_class) (defBody s_law_class) (defScope s_law_class) .none kV14 dc14 pm14 an14 cd14 ct14), sl14⟩)
    (c14 : PySem.W.codeIn K cd14 "_law_class" = true)
    (k14 : PySem.W.keepIn K (.ref f14) = true)
    (a15 : PySem.W.nsIn K mainGlobals "_law_size" = some (some (.ref f15)))
    (l15 : K.lookup f15 = some ⟨oc15, od15, .func (PySem.W.fnOf "_law_size" "_law_size" (defArgs s_law_size) (defBody s_law_size) (defScope s_law_size) .none kV15 dc15 pm15 an15 cd15 ct15), sl15⟩)
    (c15 : PySem.W.codeIn K cd15 "_law_size" = true)
    (k15 : PySem.W.keepIn K (.ref f15) = true)
    (a16 : PySem.W.nsIn K mainGlobals "_law_told" = some (some (.ref f16)))
    (l16 : K.lookup f16 = some ⟨oc16, od16, .func (PySem.W.fnOf "_law_told" "_law_told" (defArgs s_law_told) (defBody s_law_told) (defScope s_law_told) .none kV16 dc16 pm16 an16 cd16 ct16), sl16⟩)
    (c16 : PySem.W.codeIn K cd16 "_law_told" = true)
    (k16 : PySem.W.keepIn K (.ref f16) = true)
    (a17 : PySem.W.nsIn K mainGlobals "_law_wrong" = some (some (.ref f17)))
    (l17 : K.lookup f17 = some ⟨oc17, od17, .func (PySem.W.fnOf "_law_wrong" "_law_wrong" (defArgs s_law_wrong) (defBody s_law_wrong) (defScope s_law_wrong) .none kV17 dc17 pm17 an17 cd17 ct17), sl17⟩)
    (c17 : PySem.W.codeIn K cd17 "_law_wrong" = true)
    (k17 : PySem.W.keepIn K (.ref f17) = true)
    (a18 : PySem.W.nsIn K mainGlobals "_law_spoilt" = some (some (.ref f18)))
    (l18 : K.lookup f18 = some ⟨oc18, od18, .func (PySem.W.fnOf "_law_spoilt" "_law_spoilt" (defArgs s_law_spoilt) (defBody s_law_spoilt) (defScope s_law_spoilt) .none kV18 dc18 pm18 an18 cd18 ct18), sl18⟩)
    (c18 : PySem.W.codeIn K cd18 "_law_spoilt" = true)
    (k18 : PySem.W.keepIn K (.ref f18) = true)
    (a19 : PySem.W.nsIn K mainGlobals "_law_tower" = some (some (.ref f19)))
    (l19 : K.lookup f19 = some ⟨oc19, od19, .func (PySem.W.fnOf "_law_tower" "_law_tower" (defArgs s_law_tower) (defBody s_law_tower) (defScope s_law_tower) .none kV19 dc19 pm19 an19 cd19 ct19), sl19⟩)
    (c19 : PySem.W.codeIn K cd19 "_law_tower" = true)
    (k19 : PySem.W.keepIn K (.ref f19) = true)
    (a20 : PySem.W.nsIn K mainGlobals "_law_wide" = some (some (.ref f20)))
    (l20 : K.lookup f20 = some ⟨oc20, od20, .func (PySem.W.fnOf "_law_wide" "_law_wide" (defArgs s_law_wide) (defBody s_law_wide) (defScope s_law_wide) .none kV20 dc20 pm20 an20 cd20 ct20), sl20⟩)
    (c20 : PySem.W.codeIn K cd20 "_law_wide" = true)
    (k20 : PySem.W.keepIn K (.ref f20) = true)
    (a21 : PySem.W.nsIn K mainGlobals "law" = some (some (.ref f21)))
    (l21 : K.lookup f21 = some ⟨oc21, od21, .func (PySem.W.fnOf "law" "law" (defArgs s_law) (defBody s_law) (defScope s_law) .none kV21 dc21 pm21 an21 cd21 ct21), sl21⟩)
    (c21 : PySem.W.codeIn K cd21 "law" = true)
    (k21 : PySem.W.keepIn K (.ref f21) = true)
    (qMOST_AFTER : PySem.W.nsIn K mainGlobals "MOST_AFTER" = some (some (.int 4 tMOST_AFTER)))
    (qMOST_LETTERS : PySem.W.nsIn K mainGlobals "MOST_LETTERS" = some (some (.int 5 tMOST_LETTERS)))
    (qMOST_BESIDE : PySem.W.nsIn K mainGlobals "MOST_BESIDE" = some (some (.int 4 tMOST_BESIDE)))
    (qMOST_LEVELS : PySem.W.nsIn K mainGlobals "MOST_LEVELS" = some (some (.int 6 tMOST_LEVELS)))
    (qMOST_SHAPES : PySem.W.nsIn K mainGlobals "MOST_SHAPES" = some (some (.int 40 tMOST_SHAPES)))
    (nisinstance : PySem.W.nsIn K mainGlobals "isinstance" = some none)
    (nint : PySem.W.nsIn K mainGlobals "int" = some none)
    (nbool : PySem.W.nsIn K mainGlobals "bool" = some none)
    (ntuple : PySem.W.nsIn K mainGlobals "tuple" = some none)
    (nlen : PySem.W.nsIn K mainGlobals "len" = some none)
    (nall : PySem.W.nsIn K mainGlobals "all" = some none)
    (nsum : PySem.W.nsIn K mainGlobals "sum" = some none)
    (nabs : PySem.W.nsIn K mainGlobals "abs" = some none)
    (nrange : PySem.W.nsIn K mainGlobals "range" = some none)
    (nstr : PySem.W.nsIn K mainGlobals "str" = some none)
    (nValueError : PySem.W.nsIn K mainGlobals "ValueError" = some none)
    (nrepr : PySem.W.nsIn K mainGlobals "repr" = some none)
    (gBadShape : PySem.W.nsIn K mainGlobals "BadShape" = some (some (.ref CBadShape)))
    (gBadSystem : PySem.W.nsIn K mainGlobals "BadSystem" = some (some (.ref CBadSystem)))
    (gBadState : PySem.W.nsIn K mainGlobals "BadState" = some (some (.ref CBadState)))
    (gBadFormula : PySem.W.nsIn K mainGlobals "BadFormula" = some (some (.ref CBadFormula)))
    (gBadMap : PySem.W.nsIn K mainGlobals "BadMap" = some (some (.ref CBadMap)))
    (gTooMuch : PySem.W.nsIn K mainGlobals "TooMuch" = some (some (.ref CTooMuch)))
    (gManyshapedError : PySem.W.nsIn K mainGlobals "ManyshapedError" = some (some (.ref CManyshapedError)))
    (iBadSystem : PySem.W.kitOne K (.ref CBadShape) (.ref CBadSystem) = some false)
    (iBadState : PySem.W.kitOne K (.ref CBadShape) (.ref CBadState) = some false)
    (iBadFormula : PySem.W.kitOne K (.ref CBadShape) (.ref CBadFormula) = some false)
    (iBadMap : PySem.W.kitOne K (.ref CBadShape) (.ref CBadMap) = some false)
    (iTooMuch : PySem.W.kitOne K (.ref CBadShape) (.ref CTooMuch) = some false)
    (iS : PySem.W.kitOne K (.ref CBadShape) (.ref CBadShape) = some true)
    (iV : PySem.W.kitOne K (.ref CBadShape) (.type "ValueError") = some true)
    (xM : PySem.W.exmOne K (.ref CBadShape) (.ref CManyshapedError) = some true)
    (kC : PySem.W.keepIn K (.ref CBadShape) = true)
    (xC : PySem.W.excIn K CBadShape [.type "ValueError", .type "Exception", .type "BaseException", .type "object"] "ValueError.__new__" = true)
    (bC : PySem.W.subIn K (.ref CBadShape) (.type "BaseException") = some true)
    (tC : PySem.W.typeIn K (.ref CBadShape) = some (.type "type"))
    (ehg : PySem.W.findIn K (.ref CBadShape) "__getattribute__" = some (some (.builtin "BaseException.__getattribute__")))
    (ehk : PySem.W.findIn K (.ref CBadShape) "__getattr__" = some none)
    (ehd : PySem.W.hasDictIn K CBadShape = true)
    (eha : PySem.W.findIn K (.ref CBadShape) "__class__" = some (some (.builtin "object.__class__")))
    (ehn : PySem.W.specialIn K (.builtin "object.__class__") "__get__" = some (some (.builtin "getset_descriptor.__get__")))
    (eht : PySem.W.takesIn K (.builtin "object.__class__") = some true)
    (ehm : PySem.W.mroIn K CBadShape (.type "object") = some true)
    (ehS : PySem.W.findIn K (.ref CBadShape) "__str__" = some (some (.builtin "BaseException.__str__")))
    (v1 : K.lookup cA = some ⟨oA, dA, .fields vA, sA⟩) (p1 : vA[11]? = some (.ref T1)) (h1 : PySem.W.tabIn K "are_nested" = some (cA, T1)) (m1 : K.lookup T1 = none) (r1 : ((recsOf q).find? fun e => e.name == ("are_nested" : Str)).isSome = true)
    (v2 : K.lookup cI = some ⟨oI, dI, .fields vI, sI⟩) (p2 : vI[11]? = some (.ref T2)) (h2 : PySem.W.tabIn K "shapes_in" = some (cI, T2)) (m2 : K.lookup T2 = none) (r2 : ((recsOf q).find? fun e => e.name == ("shapes_in" : Str)).isSome = true) :
    ∃ (cA cI T1 T2 : Addr), K.lookup T1 = none ∧ K.lookup T2 = none ∧ (PySem.W.CodeHd s₁.heap cA T1 ∧ s₁.heap.get? T1 = some tab0) ∧ (PySem.W.CodeHd s₁.heap cI T2 ∧ s₁.heap.get? T2 = some tab0) ∧
      ∀ (base : Heap), K.In base → base.Ns mainGlobals mg → GxR.TabB base mg cA T1 → GxR.TabB base mg cI T2 → ∀ (s : Shared) (H : Hp) (a : Addr) (ns : List Int), Env0 P w K mg base callerA [] s H →
        GxR.TabG H T1 → GxR.TabG H T2 → SqL K H a (ns.map V.int) → ns.length ≤ 63 → codeAny (model P w) callerA (.call (.ref fa) ⟨[.ref a], []⟩) (CR CX0 [] P w H s (fun v _ => v = .bl true) fun _ _ _ => False) s := by
  obtain ⟨d1, e1⟩ := Option.isSome_iff_exists.mp r1
  obtain ⟨d2, e2⟩ := Option.isSome_iff_exists.mp r2
  exact ⟨cA, cI, T1, T2, m1, m2, PySem.W.tab_of G.T X e1 h1, PySem.W.tab_of G.T X e2 h2, all_mk X G.T.g hfa a0 l0 c0 k0 a1 l1 c1 k1 a2 l2 c2 k2 a3 l3 c3 k3 a4 l4 c4 k4 a5 l5 c5 k5 a6 l6 c6 k6 a7 l7 c7 k7 a8 l8 c8 k8 a9 l9 c9 k9 a10 l10 c10 k10 a11 l11 c11 k11 a12 l12 c12 k12 a13 l13 c13 k13 a14 l14 c14 k14 a15 l15 c15 k15 a16 l16 c16 k16 a17 l17 c17 k17 a18 l18 c18 k18 a19 l19 c19 k19 a20 l20 c20 k20 a21 l21 c21 k21 qMOST_AFTER qMOST_LETTERS qMOST_BESIDE qMOST_LEVELS qMOST_SHAPES nisinstance nint nbool ntuple nlen nall nsum nabs nrange nstr nValueError nrepr gBadShape gBadSystem gBadState gBadFormula gBadMap gTooMuch gManyshapedError iBadSystem iBadState iBadFormula iBadMap iTooMuch iS iV xM kC xC bC tC ehg ehk ehd eha ehn eht ehm ehS⟩
end MS
end
section
set_option Elab.async false
set_option linter.all false
set_option maxRecDepth 100000
open PySem PySem.W PyProof.Rows
set_option maxHeartbeats 0 in
theorem PySem.Challenge.cw_manyshaped_k01_what_is_a_shape_holds : PySem.Challenge.rw_manyshaped_k01_what_is_a_shape.Holds := by
  w_on; o_law; k_head; (case hw => w_witness2)
  k_fill
  refine MS.walk1 (l := PySem.Challenge.rw_manyshaped_k01_what_is_a_shape) rfl rfl (fun w h Y => PySem.W.kIn_of Y) ?F
  case F =>
    intro w s₀ s₁ mg mb fa G KX hmg
    refine' MS.fin G KX hmg ?a0 ?l0 ?c0 ?k0 ?a1 ?l1 ?c1 ?k1 ?a2 ?l2 ?c2 ?k2 ?a3 ?l3 ?c3 ?k3 ?a4 ?l4 ?c4 ?k4 ?a5 ?l5 ?c5 ?k5 ?a6 ?l6 ?c6 ?k6 ?a7 ?l7 ?c7 ?k7 ?a8 ?l8 ?c8 ?k8 ?a9 ?l9 ?c9 ?k9 ?a10 ?l10 ?c10 ?k10 ?a11 ?l11 ?c11 ?k11 ?a12 ?l12 ?c12 ?k12 ?a13 ?l13 ?c13 ?k13 ?a14 ?l14 ?c14 ?k14 ?a15 ?l15 ?c15 ?k15 ?a16 ?l16 ?c16 ?k16 ?a17 ?l17 ?c17 ?k17 ?a18 ?l18 ?c18 ?k18 ?a19 ?l19 ?c19 ?k19 ?a20 ?l20 ?c20 ?k20 ?a21 ?l21 ?c21 ?k21 ?qMOST_AFTER ?qMOST_LETTERS ?qMOST_BESIDE ?qMOST_LEVELS ?qMOST_SHAPES ?nisinstance ?nint ?nbool ?ntuple ?nlen ?nall ?nsum ?nabs ?nrange ?nstr ?nValueError ?nrepr ?gBadShape ?gBadSystem ?gBadState ?gBadFormula ?gBadMap ?gTooMuch ?gManyshapedError ?iBadSystem ?iBadState ?iBadFormula ?iBadMap ?iTooMuch ?iS ?iV ?xM ?kC ?xC ?bC ?tC ?ehg ?ehk ?ehd ?eha ?ehn ?eht ?ehm ?ehS ?v1 ?p1 ?h1 ?m1 ?r1 ?v2 ?p2 ?h2 ?m2 ?r2
    (case a0 => k_is)
    (case l0 => k_is)
    (case c0 => k_is)
    (case k0 => k_is)
    (case a1 => k_is)
    (case l1 => k_is)
    (case c1 => k_is)
    (case k1 => k_is)
    (case a2 => k_is)
    (case l2 => k_is)
    (case c2 => k_is)
    (case k2 => k_is)
    (case a3 => k_is)
    (case l3 => k_is)
    (case c3 => k_is)
    (case k3 => k_is)
    (case a4 => k_is)
    (case l4 => k_is)
    (case c4 => k_is)
    (case k4 => k_is)
    (case a5 => k_is)
    (case l5 => k_is)
    (case c5 => k_is)
    (case k5 => k_is)
    (case a6 => k_is)
    (case l6 => k_is)
    (case c6 => k_is)
    (case k6 => k_is)
    (case a7 => k_is)
    (case l7 => k_is)
    (case c7 => k_is)
    (case k7 => k_is)
    (case a8 => k_is)
    (case l8 => k_is)
    (case c8 => k_is)
    (case k8 => k_is)
    (case a9 => k_is)
    (case l9 => k_is)
    (case c9 => k_is)
    (case k9 => k_is)
    (case a10 => k_is)
    (case l10 => k_is)
    (case c10 => k_is)
    (case k10 => k_is)
    (case a11 => k_is)
    (case l11 => k_is)
    (case c11 => k_is)
    (case k11 => k_is)
    (case a12 => k_is)
    (case l12 => k_is)
    (case c12 => k_is)
    (case k12 => k_is)
    (case a13 => k_is)
    (case l13 => k_is)
    (case c13 => k_is)
    (case k13 => k_is)
    (case a14 => k_is)
    (case l14 => k_is)
    (case c14 => k_is)
    (case k14 => k_is)
    (case a15 => k_is)
    (case l15 => k_is)
    (case c15 => k_is)
    (case k15 => k_is)
    (case a16 => k_is)
    (case l16 => k_is)
    (case c16 => k_is)
    (case k16 => k_is)
    (case a17 => k_is)
    (case l17 => k_is)
    (case c17 => k_is)
    (case k17 => k_is)
    (case a18 => k_is)
    (case l18 => k_is)
    (case c18 => k_is)
    (case k18 => k_is)
    (case a19 => k_is)
    (case l19 => k_is)
    (case c19 => k_is)
    (case k19 => k_is)
    (case a20 => k_is)
    (case l20 => k_is)
    (case c20 => k_is)
    (case k20 => k_is)
    (case a21 => k_is)
    (case l21 => k_is)
    (case c21 => k_is)
    (case k21 => k_is)
    (case qMOST_AFTER => k_is)
    (case qMOST_LETTERS => k_is)
    (case qMOST_BESIDE => k_is)
    (case qMOST_LEVELS => k_is)
    (case qMOST_SHAPES => k_is)
    (case nisinstance => k_is)
    (case nint => k_is)
    (case nbool => k_is)
    (case ntuple => k_is)
    (case nlen => k_is)
    (case nall => k_is)
    (case nsum => k_is)
    (case nabs => k_is)
    (case nrange => k_is)
    (case nstr => k_is)
    (case nValueError => k_is)
    (case nrepr => k_is)
    (case gBadShape => k_is)
    (case gBadSystem => k_is)
    (case gBadState => k_is)
    (case gBadFormula => k_is)
    (case gBadMap => k_is)
    (case gTooMuch => k_is)
    (case gManyshapedError => k_is)
    (case iBadSystem => kernel_rfl)
    (case iBadState => kernel_rfl)
    (case iBadFormula => kernel_rfl)
    (case iBadMap => kernel_rfl)
    (case iTooMuch => kernel_rfl)
    (case iS => kernel_rfl)
    (case iV => kernel_rfl)
    (case xM => kernel_rfl)
    (case kC => k_is)
    (case xC => k_exc)
    (case bC => k_is)
    (case tC => k_is)
    (case ehg => k_is)
    (case ehk => k_is)
    (case ehd => k_is)
    (case eha => k_is)
    (case ehn => k_is)
    (case eht => k_is)
    (case ehm => k_is)
    (case ehS => k_is)
    (case v1 => k_is)
    (case p1 => exact rfl)
    (case h1 => kernel_rfl)
    (case m1 => kernel_rfl)
    (case r1 => kernel_rfl)
    (case v2 => k_is)
    (case p2 => exact rfl)
    (case h2 => kernel_rfl)
    (case m2 => kernel_rfl)
    (case r2 => kernel_rfl)
end
