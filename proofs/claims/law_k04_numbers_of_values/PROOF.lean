import PyProof.Rows.All
import Wide.All
import OpenK.AllK
import Wide.FinOn
import HandS.ForMost
import HandS.GenCall
import HandS.GenList
import HandS.AnyAll
import PyProof.GenQ
import HandS.ForExc
import HandS.ExcCtx
import HandS.HotCalls
import HandS.Small
import KE.KExcStr
import HandS.ExcIs
import HandS.IsInst
import HandS.Deep
import HandS.TupAny
import HandS.TupMul
import HandS.Gcd
import KE.KMathGC
import HandS.TupLe
import PyProof.P3Statements
import HandS.Zip
import KE.GoesMore
import KE.GoesZip
import KE.GoesEnum
import HandS.Comp
import HandS.Wide
import HandS.SortRule
import HandS.SortInts
import HandS.Conv
import HandS.RaiseMore
import HandS.EndTab
import PyProof.ReprRoads
import PySem.Challenge.RW_manyshaped_k04_numbers_of_values
section
set_option Elab.async false
set_option linter.all false
set_option maxRecDepth 100000
set_option maxHeartbeats 2000000
/-! A generator expression whose element may call: its turns over the layer's invariant. -/
namespace GE
open PySem PySem.Spec PyProof.Rows L2 GenW
abbrev St := L2.St
/-- the consumer's own objects, out of the generator's reach -/
structure SOk (gX : Cx) (fp S : List Addr) : Prop where
  young : ∀ b ∈ S, gX.s_0.heap.objs.size ≤ b
  loc : ∀ b ∈ S, b ≠ gX.env.locals
  cell : ∀ b ∈ S, ∀ x c, gX.env.cells.lookup x = some c → c ≠ b
  pn : ∀ b ∈ S, ∀ p ∈ gX.pn, p.1 ≠ b
  fs : ∀ b ∈ S, b ∉ gX.fs
  fp : ∀ b ∈ S, b ∉ fp
def SThere (S : List Addr) (h : Heap) : Prop := ∀ b ∈ S, ∃ o, h.get? b = some o ∧ ∀ v, o.data ≠ .cell v
/-- while the generator sleeps -/
structure Awake (S : List Addr) (s s' : Shared) : Prop where
  os : s'.os = s.os
  bare : AllBare s'.gens
  keep : ∀ b o, b ∉ S → s.heap.get? b = some o → s'.heap.get? b = some o
  there : SThere S s'.heap
/-- the iterator's own objects, towards the generator's context -/
def FpS (gX : Cx) (fp : List Addr) : Prop := ∀ b ∈ fp, b ≠ gX.env.locals ∧ b ∉ gX.fs ∧ (b ∈ gX.ex ∨ gX.s_0.heap.objs.size ≤ b) ∧ (∀ x c, gX.env.cells.lookup x = some c → c ≠ b) ∧ ∀ p ∈ gX.pn, p.1 ≠ b
section
variable {gX : Cx} {S fp : List Addr} {τ : St} {H : Hp} {s s' : Shared}
theorem mem_pins {h : Heap} {p : Addr × Obj} (hp : p ∈ pinsAt S h) : p.1 ∈ S ∧ h.get? p.1 = some p.2 := of_pinsAt hp
theorem inv_S {h : Heap} (hS : SThere S h) (I : Inv gX (pinsAt S h) τ H s) : ∀ b ∈ S, H b = none ∧ s.heap.get? b = h.get? b := fun b hb => by
  obtain ⟨o, e, d⟩ := hS b hb
  have q := I.pin (b, o) (List.mem_append_right _ (mem_pinsAt hb e))
  exact ⟨q.2.1, q.1.trans e.symm⟩
/-- behind the sleep -/
theorem inv_awake {h : Heap} (SO : SOk gX fp S) (hS : SThere S h) (I : Inv gX (pinsAt S h) τ H s) (z : Awake S s s') : Inv gX (pinsAt S s'.heap) τ H s' := by
  have hn := inv_S hS I
  have I0 : Inv gX [] τ H s := I.pins_of fun p hp => absurd hp (by simp)
  have nt : ∀ b u, H b = some u → b ∉ S := fun b u q hb => by rw [(hn b hb).1] at q; cases q
  have hL : gX.env.locals ∉ S := fun hb => SO.loc _ hb rfl
  have J : Inv gX [] τ H s' := by
    obtain ⟨hh, g, d, t, o⟩ := s'
    have ho : o = s.os := z.os
    subst ho
    refine I0.step (g' := g) (t' := t) (d' := d) (ch := S) (fun b hb => ⟨.inr (SO.young b hb), SO.loc b hb, fun x c e => SO.cell b hb x c e, fun p hp => ?_⟩)
      (fun b ob _ _ hc q _ => z.keep b ob hc q) (fun b ob _ _ hc q _ => ⟨ob.slots, z.keep b ob hc q⟩) (fun _ _ _ _ n => n) (fun b ob hc q => ⟨ob, z.keep b ob hc q⟩)
      (fun _ _ q => q) (fun _ _ _ q => q) (fun b ps q => ⟨#[], by rw [q]; simp⟩) (fun m hm => ?_) (fun b u q => ?_) z.bare
    · rcases List.mem_append.mp hp with hp | hp
      · exact SO.pn b hb p hp
      · simp at hp
    · obtain ⟨ob, es, ep, ho, r⟩ := hm
      exact ⟨ob, es, ep, z.keep _ ob hL ho, r⟩
    · refine (I0.hok b u q).stay (fun c v hc y => z.keep c v ?_ y) (fun _ y => y) fun _ _ y => y
      rcases hc with y | y
      · rw [y]; exact nt b u q
      · exact nt c _ y
  refine J.pins_of fun p hp => ?_
  obtain ⟨hb, e⟩ := mem_pins hp
  obtain ⟨o, e2, d⟩ := z.there p.1 hb
  rw [e2] at e
  cases e
  exact ⟨e2, (hn p.1 hb).1, SO.loc _ hb, SO.fs _ hb, d⟩
/-- the first wake: S has just been made -/
theorem inv_first (SO : SOk gX fp S) (I : Inv gX [] τ H s) (hn : ∀ b ∈ S, H b = none) (hS : SThere S s.heap) : Inv gX (pinsAt S s.heap) τ H s := by
  refine I.pins_of fun p hp => ?_
  obtain ⟨hb, e⟩ := mem_pins hp
  obtain ⟨o, e2, d⟩ := hS p.1 hb
  rw [e2] at e
  cases e
  exact ⟨e2, hn p.1 hb, SO.loc _ hb, SO.fs _ hb, d⟩
theorem fp_ok {h : Heap} (SO : SOk gX fp S) (F : FpS gX fp) (hf : ∀ b ∈ fp, H b = none) : ∀ b ∈ fp, FpOk gX (pinsAt S h) H b := fun b hb => by
  obtain ⟨f1, f2, f3, f4, f5⟩ := F b hb
  refine ⟨hf b hb, f1, f2, f3, f4, fun p hp => ?_⟩
  rcases List.mem_append.mp hp with hp | hp
  · exact f5 p hp
  · exact fun z => SO.fp p.1 (mem_pins hp).1 (by rw [z]; exact hb)
end
section
variable {α : Type}
/-- an item is out: W is the consumer's word, C what the element's reading gives him -/
def GYd (gX : Cx) (S fp : List Addr) (tn : Nat → Heap → Prop) (K : α → Heap → Prop) (W : Nat → Nat → α → St → Hp → Prop) (C : Nat → Nat → α → St → V → Hp → Prop) : Protocol := fun n s₀ v s kap =>
  ∃ i m al τ x H, RelV x v ∧ Inv gX (pinsAt S s₀.heap) τ H s ∧ SThere S s₀.heap ∧ K al s₀.heap ∧ C i m al τ x H ∧ ∀ m' al', m' < m → W (i + 1) m' al' τ H → ∀ s', K al' s'.heap → Awake S s s' → kap (.send .none) s'
def GRd (gX : Cx) (S : List Addr) (K : α → Heap → Prop) (Fin : Nat → α → St → Hp → Prop) : Nat → Shared → Shared → Prop := fun n s₀ s =>
  ∃ i al τ H, Inv gX (pinsAt S s₀.heap) τ H s ∧ SThere S s₀.heap ∧ K al s₀.heap ∧ Fin i al τ H
/-- the consumer's word turns -/
def Turns (J : It) (gt : TG) (te : TE) (W : Nat → Nat → α → St → Hp → Prop) (Fin : Nat → α → St → Hp → Prop) (C : Nat → Nat → α → St → V → Hp → Prop) : Prop :=
  ∀ i m al τ H, W i m al τ H → (J.stop i H ∧ Fin i al τ H) ∨ (J.go i H ∧ ∀ x H', J.yld i H x H' → gt x τ H' fun τ2 H2 => te τ2 H2 fun v H3 => C i m al τ2 v H3)
variable {gX : Cx} {A : Around} {elt iter tg : Expr} {scope : Scope} {pos : Pos} {it : Addr} {S fp : List Addr} {tn : Nat → Heap → Prop} {J : It} {gt : TG} {te : TE} {K : α → Heap → Prop}
  {W : Nat → Nat → α → St → Hp → Prop} {Fin : Nat → α → St → Hp → Prop} {C : Nat → Nat → α → St → V → Hp → Prop}
theorem seg_loop (T : Turn gX.prog gX.w gX.K tg J fp it tn) (hov : gX.A = A.deeper gX.env) (hc : gX.calm = true) (hxe : gX.xe = fun _ _ => False) (hg : PG gX tg gt) (he : PE gX elt te)
    (hco : gX.env.scope.isCoroutine = false) (SO : SOk gX fp S) (F : FpS gX fp) (turn : Turns J gt te W Fin C) :
    ∀ (n i m : Nat) (al : α) (τ : St) (H : Hp) (s₀ s : Shared), m < n → W i m al τ H → SThere S s₀.heap → K al s₀.heap → Inv gX (pinsAt S s₀.heap) τ H s → tn i s.heap → (∀ b ∈ fp, H b = none) →
      Seg (model gX.prog gX.w) A (fun n s₀ r s₁ => r = .ok .next ∧ GRd gX S K Fin n s₀ s₁) (GYd gX S fp tn K W C) n s₀ (.compLoop (.GeneratorExp elt [⟨tg, iter, [], 0⟩] scope pos) 0 (.ref it) .none gX.env)
        ((model gX.prog gX.w).den (.compLoop (.GeneratorExp elt [⟨tg, iter, [], 0⟩] scope pos) 0 (.ref it) .none gX.env)) [] s := by
  have ov : A.over (.compLoop (.GeneratorExp elt [⟨tg, iter, [], 0⟩] scope pos) 0 (.ref it) .none gX.env) [] = gX.A := by rw [hov]; rfl
  have noE : ∀ {n : Nat} {s₀ : Shared} {t : Sem PySem.Fin} (x : Value) (s' : Shared), gX.xe x s' → Seg (model gX.prog gX.w) A (fun n s₀ r s₁ => r = .ok .next ∧ GRd gX S K Fin n s₀ s₁) (GYd gX S fp tn K W C) n s₀ (.compLoop (.GeneratorExp elt [⟨tg, iter, [], 0⟩] scope pos) 0 (.ref it) .none gX.env) t [] s' := fun {n s₀ t} x s' hx => by
    rw [hxe] at hx
    exact hx.elim
  intro n
  induction n with
  | zero => intro i m al τ H s₀ s h; omega
  | succ n ih =>
    intro i m al τ H s₀ s hmn hW hS hK I hst hf
    show Seg _ A _ _ _ s₀ _ ((compTurn (.GeneratorExp elt [⟨tg, iter, [], 0⟩] scope pos) 0 (.ref it) .none gX.env).onRaise (leaving gX.env)) [] s
    rw [compTurn_gen, Sem.onRaise_eq_wrap]
    refine seg_bind_wrap (wpAny_standAt ?_)
    rcases turn i m al τ H hW with ⟨stop, fin⟩ | ⟨go, step⟩
    · refine seg_bind_wrap ?_
      rw [ov]
      refine wpAny_mono (T.done gX rfl rfl rfl hc i _ s τ H gX.xe I (fp_ok SO F hf) hst stop) (fun r s1 h1 => ?_) (fun x s' hx => noE x s' hx)
      obtain ⟨rfl, I1⟩ := h1
      exact seg_end (.ok .next) ⟨rfl, i, al, τ, H, I1, hS, hK, fin⟩
    · refine seg_bind_wrap ?_
      rw [ov]
      refine wpAny_mono (T.item gX rfl rfl rfl hc i _ s τ H gX.xe I (fp_ok SO F hf) hst go) (fun r s1 h1 => ?_) (fun x s' hx => noE x s' hx)
      obtain ⟨u, rfl, h1⟩ := h1
      refine seg_bind_wrap ?_
      rw [ov]
      refine wpAny_mono h1 (fun _ s2 h2 => ?_) (fun x s' hx => noE x s' hx)
      obtain ⟨x, H2, I2, rx, hy, st2, f2⟩ := h2
      have I2' := I2.pinned (fp_ok SO F f2) (T.obj _ _ st2)
      refine seg_bind_wrap ?_
      rw [ov]
      refine wpAny_mono (hg.run _ s2 τ H2 x u _ I2' rx (step x H2 hy)) (fun _ s3 h3 => ?_) (fun x s' hx => noE x s' hx)
      obtain ⟨τ3, H3, I3, q3⟩ := h3
      simp only [List.forIn_nil]
      refine seg_bind_wrap (wpAny_pure ?_)
      simp only [if_true]
      have hy : ∀ v, yieldOut gX.env v = yieldValue v := fun v => by simp only [yieldOut, hco, Bool.false_eq_true, if_false]
      simp only [hy]
      rw [Sem.bind_eq_wrap', Sem.bind_eq_wrap', Sem.wrap_wrap, Sem.wrap_wrap]
      refine seg_wrap ?_
      rw [ov]
      refine wpAny_mono (he.run _ s3 τ3 H3 _ I3 q3) (fun y s4 h4 => ?_) (fun x s' hx => noE x s' hx)
      obtain ⟨v, H4, I4, rv, hC⟩ := h4
      refine seg_at (seg_yield rfl rfl rfl ⟨i, m, al, τ3, v, H4, rv, I4.unpinned, hS, hK, hC, fun m' al' hm' hW' s5 hK' hw => ?_⟩)
      have keepfp : ∀ b ∈ fp, ∀ o, s2.heap.get? b = some o → s5.heap.get? b = some o := fun b hb o e =>
        hw.keep b o (fun z => SO.fp b z hb) ((I4.pin (b, o) (List.mem_append_right _ (List.mem_append_right _ (mem_pinsAt hb e)))).1)
      refine seg_again rfl (ih (i + 1) m' al' τ3 H4 s5 s5 (by omega) hW' hw.there hK' (inv_awake SO hS I4.unpinned hw) (T.keep _ _ _ st2 keepfp) fun b hb => ?_)
      obtain ⟨o, e, d⟩ := T.obj _ _ st2 b hb
      exact (I4.pin (b, o) (List.mem_append_right _ (List.mem_append_right _ (mem_pinsAt hb e)))).2.1
theorem seg_start (T : Turn gX.prog gX.w gX.K tg J fp it tn) (hov : gX.A = A.deeper gX.env) (hc : gX.calm = true) (hxe : gX.xe = fun _ _ => False) (hg : PG gX tg gt) (he : PE gX elt te)
    (hco : gX.env.scope.isCoroutine = false) (SO : SOk gX fp S) (F : FpS gX fp) (turn : Turns J gt te W Fin C) {n m : Nat} {al : α} {τ : St} {H : Hp} {s₀ s : Shared}
    (hm : m < n) (hW : W 0 m al τ H) (hS : SThere S s₀.heap) (hK : K al s₀.heap) (I : Inv gX (pinsAt S s₀.heap) τ H s) (hst : tn 0 s.heap) (hf : ∀ b ∈ fp, H b = none) :
    Seg (model gX.prog gX.w) A (fun n s₀ r s₁ => r = .ok .next ∧ GRd gX S K Fin n s₀ s₁) (GYd gX S fp tn K W C) n s₀ (.compStart (.GeneratorExp elt [⟨tg, iter, [], 0⟩] scope pos) 0 (.ref it) .none gX.env)
      ((model gX.prog gX.w).den (.compStart (.GeneratorExp elt [⟨tg, iter, [], 0⟩] scope pos) 0 (.ref it) .none gX.env)) [] s := by
  have loop := seg_loop (iter := iter) (scope := scope) (pos := pos) T hov hc hxe hg he hco SO F turn n 0 m al τ H s₀ s hm hW hS hK I hst hf
  show Seg _ A _ _ _ s₀ _ ((compStart (.GeneratorExp elt [⟨tg, iter, [], 0⟩] scope pos) 0 (.ref it) .none gX.env).onRaise (leaving gX.env)) [] s
  unfold compStart
  rw [Sem.onRaise_eq_wrap]
  show Seg _ A _ _ _ s₀ _ ((ask >>= _).wrap _ _ _ _) [] s
  refine seg_bind_wrap (wpAny_askSetting ?_)
  split
  · exact seg_again rfl loop
  · first
      | exact seg_bind_wrap (wpAny_rule (seg_bind_wrap (wpAny_standAt (seg_bind_wrap (T.self _ 0 s _ _ hst (seg_again rfl loop))))))
      | (refine seg_bind_wrap (wpAny_rule ?_); show Seg _ A _ _ _ s₀ _ ((standAt iter.pos >>= _).wrap _ _ _ _) [] s; exact seg_bind_wrap (wpAny_standAt (seg_bind_wrap (T.self _ 0 s _ _ hst (seg_again rfl loop)))))

/-! ### waking -/
theorem inv_same {pins : List (Addr × Obj)} {τ : St} {H : Hp} {s s' : Shared} (I : Inv gX pins τ H s) (hh : s'.heap = s.heap) (ho : s'.os = s.os) (hb : AllBare s'.gens) : Inv gX pins τ H s' :=
  I.call' (ch := []) ho (by rw [hh]; exact Un.refl) (by rw [hh]; exact I.hok) hb fun b z => by simp at z
/-- ready to be woken -/
def Rdy (gX : Cx) (S fp : List Addr) (tn : Nat → Heap → Prop) (K : α → Heap → Prop) (W : Nat → Nat → α → St → Hp → Prop) (Fin : Nat → α → St → Hp → Prop) (C : Nat → Nat → α → St → V → Hp → Prop) (A : Around) (a : Addr) (g n : Nat) (s : Shared) : Prop :=
  s.heap.IsGen a g ∧ s.heap.NoLimit ∧ ∃ gs, s.gens[g]? = some gs ∧ gs.Goes (model gX.prog gX.w) A.in1 (fun n s₀ r s₁ => r = .ok .next ∧ GRd gX S K Fin n s₀ s₁) (GYd gX S fp tn K W C) n (.send .none) (s.setGen g .running)
theorem next_ge {A : Around} {a : Addr} {g n : Nat} {go : Obj} {s : Shared} {Q : Option Value → Shared → Prop} {E : Value → Shared → Prop} (hh : A.handled = none) (hroom : A.depth < recursionLimit) (SO : SOk gX fp S)
    (hpn : (a, go) ∈ gX.pn) (hgo : ∀ h : Heap, h.get? a = some go → h.IsGen a g) (h : Rdy gX S fp tn K W Fin C A a g n s)
    (hend : ∀ s1 i al τ H, Inv gX (pinsAt S s.heap) τ H s1 → SThere S s.heap → K al s.heap → Fin i al τ H → Q none s1)
    (hyld : ∀ v x i m al τ H s1, Inv gX (pinsAt S s.heap) τ H s1 → SThere S s.heap → K al s.heap → RelV x v → C i m al τ x H →
      (∀ m' al' s2, m' < m → W (i + 1) m' al' τ H → K al' s2.heap → Awake S s1 s2 → s2.gens[g]? = s1.gens[g]? → ∃ n', n = n' + 1 ∧ Rdy gX S fp tn K W Fin C A a g n' s2) → Q (some v) s1) :
    wpAny (model gX.prog gX.w) A (pyNext (.ref a)) Q E s := by
  obtain ⟨hg, hl, gs, hgs, hgoes⟩ := h
  have hgl : g < s.gens.size := (Array.getElem?_eq_some_iff.mp hgs).1
  refine wpAny_gsz (n := g + 1) hgl ?_
  refine wpAny_pyNext_genexpQ (P := GRd gX S K Fin) hh hl hroom hg hgs hgoes (fun v s₁ gs' hb hv => ?_) (fun s₁ hp h' hk => ?_)
  · intro hsz
    obtain ⟨i, m, al, τ, x, H, rx, I, hS, hK, hC, hk⟩ := hv
    have hbare : AllBare (s₁.setGen g gs').gens := allBare_setGen I.bare hb
    have I1 : Inv gX (pinsAt S s.heap) τ H (s₁.setGen g gs') := inv_same I rfl rfl hbare
    refine hyld v x i m al τ H _ I1 hS hK rx hC fun m' al' s2 hm' hW' hK' hw hgen => ?_
    have hg1 : g < s₁.gens.size := by
      have q : (s₁.setGen g gs').gens.size = s₁.gens.size := setGen_size _ _ _
      have q2 : g + 1 ≤ (s₁.setGen g gs').gens.size := hsz
      omega
    have hgs2 : s2.gens[g]? = some gs' := hgen.trans (setGen_at hg1)
    have I2 := inv_awake SO hS I1 hw
    have haS : a ∉ S := fun hb => SO.pn a hb _ hpn rfl
    have ha2 : s2.heap.get? a = some go := (I2.pin (a, go) (List.mem_append_left _ hpn)).1
    have hK3 : K al' (s2.setGen g .running).heap := hK'
    have hw3 : Awake S s₁ (s2.setGen g .running) := ⟨hw.os, allBare_setGen hw.bare rfl, hw.keep, hw.there⟩
    have goes := hk m' al' hm' hW' _ hK3 hw3
    cases n with
    | zero => exact goes.elim
    | succ n' => exact ⟨n', rfl, hgo _ ha2, I2.nolimit, gs', hgs2, goes⟩
  · intro hsz
    obtain ⟨i, al, τ, H, I, hS, hK, hF⟩ := hp
    have I1 : Inv gX (pinsAt S s.heap) τ H (s₁.setGen g .finished) := inv_same I rfl rfl (allBare_setGen I.bare rfl)
    exact hend _ i al τ H (I1.kept (h' := h') (t' := (s₁.setGen g .finished).toks) hk) hS hK hF
end

/-! ### the making -/
/-- the generator expression's scope: its own names, captured names (with their places in the def) -/
structure GScp (X : Cx) (scope : Scope) (own : List Str) (cap : List (Str × Nat)) : Prop where
  kind : scope.kind = .function
  co : scope.isCoroutine = false
  cell : ∀ y ∈ scope.names, y.2 ≠ .cell
  dot : scope.names.lookup (".0" : Str) = some NameKind.local
  free : ∀ y ∈ scope.names, y.2 = .free → X.env.scope.names.lookup y.1 = some .cell ∨ X.env.scope.names.lookup y.1 = some .free
  cap : ∀ p ∈ cap, X.N[p.2]? = some p.1 ∧ scope.names.lookup p.1 = some .free
abbrev gN (own : List Str) (cap : List (Str × Nat)) : List Str := own ++ cap.map (·.1)
def gSt (own : List Str) (cap : List (Str × Nat)) (σ : St) : St := own.map (fun _ => none) ++ cap.map fun p => (σ[p.2]?).join
/-- the generator's own context -/
abbrev gcx (X : Cx) (sc : Shared) (H1 : Hp) (A : Around) (N : List Str) (cenv : Env) (ex : List Addr) (pn : List (Addr × Obj)) : Cx :=
  { X with A := A.deeper cenv, N := N, s_0 := sc, H_0 := H1, env := cenv, outer := X.stack, stack := cenv :: X.stack, ex := ex, fn := fun _ => false, calm := true, pn := pn, xe := fun _ _ => False }
/-- a generator that has not begun -/
def Made (X : Cx) (pins : List (Addr × Obj)) (σ : St) (elt tg iter : Expr) (scope : Scope) (gpos : Pos) (own : List Str) (cap : List (Str × Nat)) (J : It) (H2 : Hp) (a : Addr) (s5 : Shared) : Prop :=
  ∃ (g : Nat) (s4 : Shared) (cenv : Env) (it : Addr) (fp : List Addr) (tn : Nat → Heap → Prop) (go : Obj) (code : Value),
    cenv = genEnv scope (cloFrom X.env.cells scope.names []) s4.heap.objs.size code builtinsNs X.env ∧ Inv X pins σ H2 s4 ∧ Turn X.prog X.w X.K tg J fp it tn ∧ tn 0 s5.heap ∧ (∀ b ∈ fp, FpOk X pins H2 b ∧ b < s4.heap.objs.size) ∧
    (∀ h : Heap, h.get? a = some go → h.IsGen a g) ∧ s5.heap.get? a = some go ∧ s4.heap.objs.size < a ∧ s5.heap.objs.size = a + 1 ∧ s5.os = s4.os ∧ AllBare s5.gens ∧
    s5.gens[g]? = some (.fresh (.compStart (.GeneratorExp elt [⟨tg, iter, [], 0⟩] scope gpos) 0 (.ref it) .none cenv)) ∧
    ∀ Aw : Around, Aw.handled = none → Aw.frames = some X.stack → Inv (gcx X s4 H2 Aw (gN own cap) cenv fp [(a, go)]) [] (gSt own cap σ) H2 s5
section
variable {X : Cx} {pins : List (Addr × Obj)} {σ : St} {H : Hp} {s : Shared}
theorem gSt_own {own : List Str} {cap : List (Str × Nat)} {i : Nat} {v : V} (h : (gSt own cap σ)[i]? = some (some v)) : ∃ (j : Nat) (p : Str × Nat), cap[j]? = some p ∧ (gN own cap)[i]? = some p.1 ∧ σ[p.2]? = some (some v) := by
  unfold gSt at h
  by_cases hi : i < (own.map fun _ => (none : Option V)).length
  · rw [List.getElem?_append_left hi, List.getElem?_map] at h
    cases e : own[i]? with
    | none => rw [e] at h; cases h
    | some x => rw [e] at h; cases h
  · have hle : (own.map fun _ => (none : Option V)).length ≤ i := Nat.le_of_not_lt hi
    rw [List.getElem?_append_right hle, List.getElem?_map, List.length_map] at h
    cases e : cap[i - own.length]? with
    | none => rw [e] at h; cases h
    | some p =>
      rw [e] at h
      refine ⟨i - own.length, p, e, ?_, ?_⟩
      · rw [List.length_map] at hle
        unfold gN
        rw [List.getElem?_append_right hle, List.getElem?_map, e]
        rfl
      · have h' : (σ[p.2]?).join = some v := Option.some.inj h
        cases q : σ[p.2]? with
        | none => rw [q] at h'; cases h'
        | some o =>
          rw [q] at h'
          have h2 : o = some v := h'
          rw [h2]
theorem inv_made {s4 : Shared} {H2 : Hp} {A : Around} {scope : Scope} {own : List Str} {cap : List (Str × Nat)} {code : Value} {fp : List Addr} {a it : Addr} {go : Obj} {h' : Heap} {gs' : Array GenState} {tk : Nat}
    (I : Inv X pins σ H2 s4) (hN : X.N.Nodup) (S : GScp X scope own cap) (hfp : ∀ b ∈ fp, FpOk X pins H2 b ∧ b < s4.heap.objs.size) (hA : A.handled = none) (hfr : A.frames = some X.stack)
    (hn : h'.Ns s4.heap.objs.size (fun y => if y = ".0" then some (.ref it) else none)) (hk : ∀ b o, s4.heap.get? b = some o → h'.get? b = some o) (ha : h'.get? a = some go) (haC : s4.heap.objs.size < a) (hgd : ∀ v, go.data ≠ .cell v) (hb : AllBare gs') :
    Inv (gcx X s4 H2 A (gN own cap) (genEnv scope (cloFrom X.env.cells scope.names []) s4.heap.objs.size code builtinsNs X.env) fp [(a, go)]) [] (gSt own cap σ) H2 { s4 with heap := h', gens := gs', toks := tk } := by
  have hfree : ∀ y ∈ scope.names, y.2 = .free → ∃ c, X.env.cells.lookup y.1 = some c := fun y hy e => by
    rcases S.free y hy e with k | k
    · exact I.ok.has _ (.inl k)
    · exact I.ok.has _ (.inr k)
  have cm : ∀ {y c}, (cloFrom X.env.cells scope.names []).lookup y = some c → X.env.cells.lookup y = some c := fun {y c} hm => by
    rcases cloFrom_mem (PySem.mem_of_lookup hm) with hm | ⟨h1, rfl⟩
    · cases hm
    · obtain ⟨c, hc⟩ := hfree _ h1 rfl
      rw [hc]
      rfl
  have look : ∀ {y}, scope.names.lookup y = some .free → ∃ c, (cloFrom X.env.cells scope.names []).lookup y = some c ∧ X.env.cells.lookup y = some c := fun {y} hl => by
    have hy : (y, NameKind.free) ∈ scope.names := PySem.mem_of_lookup hl
    obtain ⟨c', e'⟩ := mem_lookup (cloFrom_has (cells := X.env.cells) (acc := []) hy)
    exact ⟨c', e', cm e'⟩
  have fresh : ∀ b, s4.heap.objs.size ≤ b → H2 b = none := fun b hb => I.hok.fresh hb
  refine ⟨⟨I.ok.mod, S.kind, I.ok.glob, rfl, Nat.le_refl _, fun y z c e1 e2 => I.ok.inj y z c (cm e1) (cm e2), fun y hy => ?_, fun y c z e => Bool.noConfusion (show false = true from z), fun _ => hA, Around.frames_deeper hfr, .inr ⟨rfl, rfl⟩, fun b hb => ⟨Nat.ne_of_lt (hfp b hb).2, fun y c e z => (hfp b hb).1.2.2.2.2.1 y c (cm e) z⟩,
      I.bs, Nat.le_trans I.ok.bsz I.sz, fun b o e hb => ?_, fun b hb z => ?_, I.stack, I.stkFree⟩, rfl, hb, Un.kept hk, ⟨_, hn, fun i x v h1 h2 h3 => ?_⟩, fun y c e => ?_, fresh _ (Nat.le_refl _), fun y c e => I.freeC y c (cm e), fun p hp => ?_, I.hok.kept hk, ?_⟩
  · have hy : scope.names.lookup y = some .cell ∨ scope.names.lookup y = some .free := hy
    rcases hy with hy | hy
    · exact absurd rfl (S.cell _ (PySem.mem_of_lookup hy))
    · obtain ⟨c, h1, _⟩ := look hy
      exact ⟨c, h1⟩
  · rcases (hfp b hb).1.2.2.2.1 with z | z
    · exact I.ok.noex b o e z
    · exact absurd (Nat.lt_of_lt_of_le (Nat.lt_of_lt_of_le (Heap.lt_size e) I.ok.bsz) z) (Nat.lt_irrefl _)
  · have f := (hfp b hb).1
    rcases List.mem_cons.mp (I.stkSub b z) with y | y
    · exact f.2.1 y
    · exact f.2.2.1 y
  · obtain ⟨j, p, hj, hi, hv⟩ := gSt_own h2
    have hx : x = p.1 := Option.some.inj (h1.symm.trans hi)
    subst hx
    obtain ⟨c1, c2⟩ := S.cap p (List.mem_of_getElem? hj)
    obtain ⟨c, hc, hc'⟩ := look c2
    obtain ⟨m, hm, hl⟩ := I.loc
    have kX := S.free (p.1, .free) (PySem.mem_of_lookup c2) rfl
    have vis : Vis X.env.scope p.1 := by
      rcases kX with k | k
      · exact .inr (.inl k)
      · exact .inr (.inr k)
    obtain ⟨u, ru, l⟩ := hl p.2 p.1 v c1 hv vis
    refine ⟨u, ru, .inr ⟨.inr c2, c, hc, ?_⟩⟩
    rcases l with ⟨k, _⟩ | ⟨_, c0, e0, z⟩
    · have k' : X.env.scope.names.lookup p.1 = some .local := k
      rcases kX with k2 | k2
      · rw [k'] at k2; cases k2
      · rw [k'] at k2; cases k2
    · rw [hc'] at e0
      cases e0
      obtain ⟨o, ho, hd⟩ := z
      exact ⟨o, hk _ _ ho, hd⟩
  · obtain ⟨v, o, ho, hd⟩ := I.cell y c (cm e)
    exact ⟨v, o, hk _ _ ho, hd⟩
  · have ep : p = (a, go) := by simpa using hp
    subst ep
    refine ⟨ha, fresh a (Nat.le_of_lt haC), Nat.ne_of_gt haC, fun hm => ?_, hgd⟩
    have hm : a ∈ frs X.stack := hm
    rcases List.mem_cons.mp (I.stkSub a hm) with y | y
    · have := I.lt
      rw [← y] at this
      exact absurd (Nat.lt_trans this haC) (Nat.lt_irrefl _)
    · exact I.nofs (Nat.le_of_lt haC) y
  · unfold gSt gN
    rw [List.length_append, List.length_append, List.length_map, List.length_map, List.length_map]
theorem gen_new {c P : Addr} {elt tg iter : Expr} {gpos : Pos} {scope : Scope} {own : List Str} {cap : List (Str × Nat)} {wi : TI} {k : Nat} {Q' : Value → Shared → Prop} {R : It → Hp → Prop}
    (hr : Room k X.A) (hN : X.N.Nodup) (TB : GxR.TabB X.base X.mg c P) (hcode : X.env.code = .ref c) (S : GScp X scope own cap) (hi : PI X tg iter wi)
    (hs : ∀ v, genFold iter X.env v = pure v) (I : Inv X pins σ H s) (h : wi σ H fun J H1 => GxR.TabG H1 P ∧ R J H1)
    (hQ : ∀ J H1 H2 a s5, R J H1 → GxR.Tabbed P H1 H2 → Made X pins σ elt tg iter scope gpos own cap J H2 a s5 → Q' (.ref a) s5) :
    wpAny (model X.prog X.w) X.A (eval (.GeneratorExp elt [⟨tg, iter, [], 0⟩] scope gpos) X.env) Q' X.xe s := by
  have hfree : ∀ y ∈ scope.names, y.2 = .free → ∃ c, X.env.cells.lookup y.1 = some c := fun y hy e => by
    rcases S.free y hy e with k | k
    · exact I.ok.has _ (.inl k)
    · exact I.ok.has _ (.inr k)
  refine wpAny_GeneratorExp_make S.co (closure_ok hfree) S.cell S.dot S.kind (by have := hr.dp; omega) ?_ hs
  refine thn (hi.run pins s σ H _ I h) fun xv s1 h1 => thn h1 fun itv s2 h2 => ?_
  obtain ⟨it, fp, tn, J, H1, rfl, I2, T, st2, f2, ⟨ps, hP, ht⟩, q⟩ := h2
  refine ⟨I2.nolimit, ?_⟩
  have hP2 : s2.heap.get? P = some { cls := .none, data := .fields ps } := I2.hok P _ hP
  have cd : PySem.W.CodeHd s2.heap c P := TB.code.keeps fun b u e => I2.bk b u e
  have cont : ∀ (code : Value) (H2 : Hp) (s4 : Shared), Inv X pins σ H2 s4 → GxR.Tabbed P H1 H2 → (∀ b o, b ≠ P → s2.heap.get? b = some o → s4.heap.get? b = some o) →
      wpAny (model X.prog X.w) X.A (builtinsFor X.env.globals X.env.builtins) (fun bi s₄ =>
        ∀ h', h'.Ns s₄.heap.objs.size (fun y => if y = ".0" then some (.ref it) else none) → Heap.SameBut s₄.heap.objs.size (s₄.heap.push { cls := .type "frame", data := .dict #[] }) h' →
          Q' (.ref h'.objs.size) { s₄ with
            gens := s₄.gens.push (.fresh (.compStart (.GeneratorExp elt [⟨tg, iter, [], 0⟩] scope gpos) 0 (.ref it) .none (genEnv scope (cloFrom X.env.cells scope.names []) s₄.heap.objs.size code bi X.env))),
            toks := s₄.toks + 1 + 1 + 1,
            heap := h'.push { cls := .type "generator", data := .fields #[.int s₄.gens.size 0, .str "<genexpr>" (s₄.toks + 1), .str (X.env.qual ++ "<genexpr>") (s₄.toks + 1 + 1)] } }) X.xe s4 := by
    intro code H2 s4 I4 hT k4
    obtain ⟨bm, ob, e1, e2, e3, e4, e5, e6, e7, e8⟩ := TB.bm
    refine wpAny_builtinsFor (m := X.mg) (by rw [I4.ok.glob]; exact I4.mod.glob.keeps I4.bk) e1 e2 (I4.bk _ _ e5) e6 e7 e8 ?_
    intro h' hn' hs'
    have hsz : h'.objs.size = s4.heap.objs.size + 1 := by rw [hs'.1, Heap.size_push]
    have keep' : ∀ b o, s4.heap.get? b = some o → h'.get? b = some o := fun b o e => hs'.extBut b o (Nat.ne_of_lt (Heap.lt_size e)) (Heap.get?_push_of_some _ e)
    have nfp : ∀ b ∈ fp, b ≠ P := fun b hb z => by
      have := (f2 b hb).1
      rw [z, hP] at this
      cases this
    have hf4 : ∀ b ∈ fp, FpOk X pins H2 b ∧ b < s4.heap.objs.size := fun b hb => by
      obtain ⟨f0, fr⟩ := f2 b hb
      refine ⟨⟨by rw [hT.2 b (nfp b hb)]; exact f0, fr⟩, ?_⟩
      obtain ⟨o, e, _⟩ := T.obj _ _ st2 b hb
      exact Heap.lt_size (k4 b o (nfp b hb) e)
    have hgs : AllBare (s4.gens.push (.fresh (.compStart (.GeneratorExp elt [⟨tg, iter, [], 0⟩] scope gpos) 0 (.ref it) .none (genEnv scope (cloFrom X.env.cells scope.names []) s4.heap.objs.size code builtinsNs X.env)))) := AllBare.push I4.bare rfl
    refine hQ J H1 H2 h'.objs.size _ q hT ⟨s4.gens.size, s4, _, it, fp, tn, _, code, rfl, I4, T, ?_, hf4, fun h e => ⟨_, _, _, e, rfl, rfl, rfl⟩, Heap.get?_push_size _ rfl, by omega, by rw [Heap.size_push], rfl, hgs, Array.getElem?_push_size .., fun Aw hA hfr => ?_⟩
    · exact T.keep _ _ _ st2 fun b hb o e => Heap.get?_push_of_some _ (keep' b o (k4 b o (nfp b hb) e))
    · exact inv_made (own := own) (cap := cap) (code := code) I4 hN S hf4 hA hfr (hn'.push _) (fun b o e => Heap.get?_push_of_some _ (keep' b o e)) (Heap.get?_push_size _ rfl) (by omega) (fun v z => by cases z) hgs
  cases hf : codeAmong gpos ps.toList with
  | none =>
    refine wpAny_genexprCodeX hcode (cd.code hP2 ht) (cd.tab hP2) hf fun c' h' tk hx hge hlt hco' _ htab' _ => ?_
    obtain ⟨o1, vs, f1, tf, fl, tg', inF, tx, tt, op, _, _, _, _, _, _, _, _, _, htr, _⟩ := hco'
    have J4 := GxR.inv_tab (h' := h') (g' := s2.gens) (d' := s2.drawn) (t' := tk) I2 hP (fun b o hb e => hx b o hb e) htab'.2 I2.bare
    exact cont _ _ _ J4 ⟨⟨_, upd_same, htr⟩, fun b hb => upd_ne hb⟩ fun b o hb e => hx b o hb e
  | some cv =>
    refine wpAny_genexprCode_hit hcode (cd.code hP2 ht) hf ?_
    exact cont cv H1 s2 I2 ⟨⟨ps, hP, ht⟩, fun _ _ => rfl⟩ fun _ _ _ e => e
end

/-! ### all, any -/
theorem sok_nil {gX : Cx} {fp : List Addr} : SOk gX fp [] := ⟨fun b h => by simp at h, fun b h => by simp at h, fun b h => by simp at h, fun b h => by simp at h, fun b h => by simp at h, fun b h => by simp at h⟩
theorem pins_nil {gX : Cx} {τ : St} {H : Hp} {s : Shared} {h : Heap} (I : Inv gX (pinsAt [] h) τ H s) : Inv gX [] τ H s := I
section
variable {gX : Cx} {fp : List Addr} {tn : Nat → Heap → Prop} {W : Nat → Nat → Unit → St → Hp → Prop} {Fin : Nat → Unit → St → Hp → Prop} {Stop : St → Hp → Prop} {A : Around} {R : Result → Shared → Prop} {a : Addr} {g : Nat} {go : Obj}
/-- what the consumer of truth values wants of an element: r, then the next turn; not r, then the end -/
def CB (r : Bool) (W : Nat → Nat → Unit → St → Hp → Prop) (Stop : St → Hp → Prop) : Nat → Nat → Unit → St → V → Hp → Prop := fun i m _ τ v H => ∃ b, v = .bl b ∧ if b = r then ∃ m', m' < m ∧ W (i + 1) m' () τ H else Stop τ H
theorem all_loop (hh : A.handled = none) (hroom : A.depth < recursionLimit) (hpn : (a, go) ∈ gX.pn) (hgo : ∀ h : Heap, h.get? a = some go → h.IsGen a g)
    (hEnd : ∀ s' i τ H, Inv gX [] τ H s' → Fin i () τ H → R (.ok (.ret (.bool true))) s') (hStop : ∀ s' τ H, Inv gX [] τ H s' → Stop τ H → R (.ok (.ret (.bool false))) s') :
    ∀ (n : Nat) (s : Shared), Rdy gX [] fp tn (fun _ _ => True) W Fin (CB true W Stop) A.in1 a g n s → codeAny (model gX.prog gX.w) A (.builtin "all.loop" ⟨[.ref a], []⟩) R s := by
  intro n
  induction n with
  | zero =>
    intro s h
    refine codeAny_builtin F.entry_all_loop ?_
    rw [Around.under_plainId F.plain_all_loop _]
    show wpAny _ A.in1 (pyNext (.ref a) >>= _) _ _ s
    refine wpAny_bind (next_ge (A := A.in1) hh hroom sok_nil hpn hgo h (fun s1 i al τ H I _ _ hF => ?_) fun v x i m al τ H s1 I _ _ rx hC hk => ?_)
    · exact wpAny_bind (wpAny_rule (wpAny_pure (hEnd s1 i τ H (pins_nil I) hF)))
    · obtain ⟨b, rfl, hb⟩ := hC
      have ev : v = Value.bool b := rx
      subst ev
      refine wpAny_bind (wpAny_holding (wpAny_truthy_bool ?_))
      refine wpAny_bind (wpAny_letGo ?_)
      cases b with
      | true =>
        rw [if_pos rfl] at hb
        obtain ⟨m', hm, w⟩ := hb
        obtain ⟨n', e, _⟩ := hk m' () s1 hm w trivial ⟨rfl, I.bare, fun _ _ _ e => e, fun b z => by simp at z⟩ rfl
        omega
      | false =>
        rw [if_neg Bool.false_ne_true] at hb
        simp only [Bool.false_eq_true, if_false]
        exact wpAny_bind (wpAny_rule (wpAny_pure (hStop s1 τ H (pins_nil I) hb)))
  | succ n ih =>
    intro s h
    refine codeAny_builtin F.entry_all_loop ?_
    rw [Around.under_plainId F.plain_all_loop _]
    show wpAny _ A.in1 (pyNext (.ref a) >>= _) _ _ s
    refine wpAny_bind (next_ge (A := A.in1) hh hroom sok_nil hpn hgo h (fun s1 i al τ H I _ _ hF => ?_) fun v x i m al τ H s1 I _ _ rx hC hk => ?_)
    · exact wpAny_bind (wpAny_rule (wpAny_pure (hEnd s1 i τ H (pins_nil I) hF)))
    · obtain ⟨b, rfl, hb⟩ := hC
      have ev : v = Value.bool b := rx
      subst ev
      refine wpAny_bind (wpAny_holding (wpAny_truthy_bool ?_))
      refine wpAny_bind (wpAny_letGo ?_)
      cases b with
      | true =>
        rw [if_pos rfl] at hb
        obtain ⟨m', hm, w⟩ := hb
        obtain ⟨n', e, hR⟩ := hk m' () s1 hm w trivial ⟨rfl, I.bare, fun _ _ _ e => e, fun b z => by simp at z⟩ rfl
        simp only [if_true]
        have e' : n' = n := by omega
        subst e'
        exact wpAny_pure ⟨plainId_quiet F.plain_all_loop _, ih _ hR⟩
      | false =>
        rw [if_neg Bool.false_ne_true] at hb
        simp only [Bool.false_eq_true, if_false]
        exact wpAny_bind (wpAny_rule (wpAny_pure (hStop s1 τ H (pins_nil I) hb)))
theorem any_loop (hh : A.handled = none) (hroom : A.depth < recursionLimit) (hpn : (a, go) ∈ gX.pn) (hgo : ∀ h : Heap, h.get? a = some go → h.IsGen a g)
    (hEnd : ∀ s' i τ H, Inv gX [] τ H s' → Fin i () τ H → R (.ok (.ret (.bool false))) s') (hStop : ∀ s' τ H, Inv gX [] τ H s' → Stop τ H → R (.ok (.ret (.bool true))) s') :
    ∀ (n : Nat) (s : Shared), Rdy gX [] fp tn (fun _ _ => True) W Fin (CB false W Stop) A.in1 a g n s → codeAny (model gX.prog gX.w) A (.builtin "any.loop" ⟨[.ref a], []⟩) R s := by
  intro n
  induction n with
  | zero =>
    intro s h
    refine codeAny_builtin F.entry_any_loop ?_
    rw [Around.under_plainId F.plain_any_loop _]
    show wpAny _ A.in1 (pyNext (.ref a) >>= _) _ _ s
    refine wpAny_bind (next_ge (A := A.in1) hh hroom sok_nil hpn hgo h (fun s1 i al τ H I _ _ hF => ?_) fun v x i m al τ H s1 I _ _ rx hC hk => ?_)
    · exact wpAny_bind (wpAny_rule (wpAny_pure (hEnd s1 i τ H (pins_nil I) hF)))
    · obtain ⟨b, rfl, hb⟩ := hC
      have ev : v = Value.bool b := rx
      subst ev
      refine wpAny_bind (wpAny_holding (wpAny_truthy_bool ?_))
      refine wpAny_bind (wpAny_letGo ?_)
      cases b with
      | false =>
        rw [if_pos rfl] at hb
        obtain ⟨m', hm, w⟩ := hb
        obtain ⟨n', e, _⟩ := hk m' () s1 hm w trivial ⟨rfl, I.bare, fun _ _ _ e => e, fun b z => by simp at z⟩ rfl
        omega
      | true =>
        rw [if_neg (by decide)] at hb
        simp only [if_true]
        exact wpAny_bind (wpAny_rule (wpAny_pure (hStop s1 τ H (pins_nil I) hb)))
  | succ n ih =>
    intro s h
    refine codeAny_builtin F.entry_any_loop ?_
    rw [Around.under_plainId F.plain_any_loop _]
    show wpAny _ A.in1 (pyNext (.ref a) >>= _) _ _ s
    refine wpAny_bind (next_ge (A := A.in1) hh hroom sok_nil hpn hgo h (fun s1 i al τ H I _ _ hF => ?_) fun v x i m al τ H s1 I _ _ rx hC hk => ?_)
    · exact wpAny_bind (wpAny_rule (wpAny_pure (hEnd s1 i τ H (pins_nil I) hF)))
    · obtain ⟨b, rfl, hb⟩ := hC
      have ev : v = Value.bool b := rx
      subst ev
      refine wpAny_bind (wpAny_holding (wpAny_truthy_bool ?_))
      refine wpAny_bind (wpAny_letGo ?_)
      cases b with
      | false =>
        rw [if_pos rfl] at hb
        obtain ⟨m', hm, w⟩ := hb
        obtain ⟨n', e, hR⟩ := hk m' () s1 hm w trivial ⟨rfl, I.bare, fun _ _ _ e => e, fun b z => by simp at z⟩ rfl
        simp only [Bool.false_eq_true, if_false]
        have e' : n' = n := by omega
        subst e'
        exact wpAny_pure ⟨plainId_quiet F.plain_any_loop _, ih _ hR⟩
      | true =>
        rw [if_neg (by decide)] at hb
        simp only [if_true]
        exact wpAny_bind (wpAny_rule (wpAny_pure (hStop s1 τ H (pins_nil I) hb)))
end
/-- the element's parts hold wherever the generator runs -/
abbrev EltOk (X : Cx) (Aw : Around) (scope : Scope) (own : List Str) (cap : List (Str × Nat)) (tg elt : Expr) (gt : TG) (te : TE) : Prop :=
  ∀ (sc : Shared) (H1 : Hp) (cl : List (Str × Addr)) (C : Addr) (code : Value) (ex : List Addr) (pn : List (Addr × Obj)),
    PG (gcx X sc H1 Aw (gN own cap) (genEnv scope cl C code builtinsNs X.env) ex pn) tg gt ∧ PE (gcx X sc H1 Aw (gN own cap) (genEnv scope cl C code builtinsNs X.env) ex pn) elt te
theorem room_gen {k : Nat} {A : Around} (hr : Room (k + 1) A) (env : Env) : Room k ((A.in1.in1).deeper env) := by
  refine ⟨hr.hd, ?_, ?_⟩
  · have := hr.dp
    show A.depth + 1 + 3 * k + 5 < _
    omega
  · have := hr.un
    show A.units + 1 + 1 + 3 + 16 * k + 200 < _
    omega
section
variable {α : Type} {X : Cx} {pins : List (Addr × Obj)} {σ : St} {elt tg iter : Expr} {scope : Scope} {gpos : Pos} {own : List Str} {cap : List (Str × Nat)} {J : It} {H2 : Hp} {a : Addr} {s5 : Shared} {gt : TG} {te : TE} {Aw : Around}
/-- the generator's static facts, and its way back to the def -/
structure Live (X : Cx) (pins : List (Addr × Obj)) (σ : St) (H2 : Hp) (gX : Cx) (fp : List Addr) (a : Addr) (g : Nat) (go : Obj) (s5 : Shared) : Prop where
  prog : gX.prog = X.prog
  w : gX.w = X.w
  pn : (a, go) ∈ gX.pn
  pn1 : ∀ p ∈ gX.pn, p.1 = a
  isGen : ∀ h : Heap, h.get? a = some go → h.IsGen a g
  sz : s5.heap.objs.size = a + 1
  s0 : gX.s_0.heap.objs.size < a
  envl : gX.env.locals = gX.s_0.heap.objs.size
  cells : ∀ x c, gX.env.cells.lookup x = some c → c < gX.s_0.heap.objs.size
  fps : ∀ b ∈ fp, b < gX.s_0.heap.objs.size
  fs : ∀ b ∈ gX.fs, b < gX.s_0.heap.objs.size
  back : ∀ {τ : St} {H' : Hp} {s' : Shared}, Inv gX [] τ H' s' → Inv X pins σ H' s'
theorem Live.sok {gX : Cx} {fp : List Addr} {g : Nat} {go : Obj} (L : Live X pins σ H2 gX fp a g go s5) {S : List Addr} (hS : ∀ b ∈ S, a < b) : SOk gX fp S where
  young := fun b hb => Nat.le_of_lt (Nat.lt_trans L.s0 (hS b hb))
  loc := fun b hb e => by have h1 := hS b hb; rw [e, L.envl] at h1; exact Nat.lt_irrefl _ (Nat.lt_trans h1 L.s0)
  cell := fun b hb x c e z => by have h3 := L.cells x c e; rw [z] at h3; exact Nat.lt_irrefl _ (Nat.lt_trans (Nat.lt_trans h3 L.s0) (hS b hb))
  pn := fun b hb p hp z => by have h1 := hS b hb; rw [← z, L.pn1 p hp] at h1; exact Nat.lt_irrefl _ h1
  fs := fun b hb z => Nat.lt_irrefl _ (Nat.lt_trans (Nat.lt_trans (L.fs b z) L.s0) (hS b hb))
  fp := fun b hb z => Nat.lt_irrefl _ (Nat.lt_trans (Nat.lt_trans (L.fps b z) L.s0) (hS b hb))
/-- the generator, before its first turn, for any consumer -/
theorem Made.live (hm : Made X pins σ elt tg iter scope gpos own cap J H2 a s5) (S : GScp X scope own cap) (hh : Aw.handled = none) (hfr : Aw.frames = some X.stack) (hel : EltOk X Aw scope own cap tg elt gt te) :
    ∃ (gX : Cx) (fp : List Addr) (tn : Nat → Heap → Prop) (g : Nat) (go : Obj), Live X pins σ H2 gX fp a g go s5 ∧ Inv gX [] (gSt own cap σ) H2 s5 ∧
      ∀ {α : Type} {K : α → Heap → Prop} {W : Nat → Nat → α → St → Hp → Prop} {Fin : Nat → α → St → Hp → Prop} {C : Nat → Nat → α → St → V → Hp → Prop} {S : List Addr} {A : Around} {m : Nat} {al : α} {s : Shared},
        A.in1 = Aw → Turns J gt te W Fin C → (∀ b ∈ S, a < b) → (∀ b o, s5.heap.get? b = some o → s.heap.get? b = some o) → s.os = s5.os → s.gens = s5.gens → SThere S s.heap → K al s.heap → W 0 m al (gSt own cap σ) H2 →
        Rdy gX S fp tn K W Fin C A a g (m + 1) s := by
  obtain ⟨g, s4, cenv, it, fp, tn, go, code, rfl, I4, T, st, hfp, hgen, hga, ha1, ha2, hos, hb, hgs, hI⟩ := hm
  have IG := hI Aw hh hfr
  have hfree : ∀ y ∈ scope.names, y.2 = .free → ∃ c, X.env.cells.lookup y.1 = some c := fun y hy e => by
    rcases S.free y hy e with k | k
    · exact I4.ok.has _ (.inl k)
    · exact I4.ok.has _ (.inr k)
  have cm : ∀ {y c}, (cloFrom X.env.cells scope.names []).lookup y = some c → X.env.cells.lookup y = some c := fun {y c} hm => by
    rcases cloFrom_mem (PySem.mem_of_lookup hm) with hm | ⟨h1, rfl⟩
    · cases hm
    · obtain ⟨c, hc⟩ := hfree _ h1 rfl
      rw [hc]
      rfl
  have cz : ∀ {y c}, (cloFrom X.env.cells scope.names []).lookup y = some c → c < s4.heap.objs.size := fun {y c} e => by
    obtain ⟨v, o, ho, _⟩ := I4.cell y c (cm e)
    exact Heap.lt_size ho
  have L : Live X pins σ H2 (gcx X s4 H2 Aw (gN own cap) (genEnv scope (cloFrom X.env.cells scope.names []) s4.heap.objs.size code builtinsNs X.env) fp [(a, go)]) fp a g go s5 :=
    { prog := rfl, w := rfl, pn := List.mem_cons_self, pn1 := fun p hp => by rw [List.mem_singleton.mp hp], isGen := hgen, sz := ha2, s0 := ha1, envl := rfl, cells := fun x c e => cz e, fps := fun b hb => (hfp b hb).2,
      fs := fun b hb => by
        have hb : b ∈ frs X.stack := hb
        rcases List.mem_cons.mp (I4.stkSub b hb) with y | y
        · rw [y]; exact I4.lt
        · obtain ⟨_, o, ho, _⟩ := I4.ok.funs.mem y
          exact Nat.lt_of_lt_of_le (Heap.lt_size ho) I4.sz,
      back := fun {τ H' s'} J => I4.call' (ch := fp) J.os J.base J.hok J.bare fun b hb => ⟨(hfp b hb).1.2.2.2.1, (hfp b hb).1.2.1, (hfp b hb).1.2.2.2.2.1, (hfp b hb).1.2.2.2.2.2⟩ }
  refine ⟨_, fp, tn, g, go, L, IG, fun {α K W Fin C S' A m al s} eA turn hS hk ho hgn hth hK hW => ?_⟩
  have SO := L.sok hS
  have IS : Inv _ [] (gSt own cap σ) H2 s := IG.call' (ch := []) ho (Un.kept hk) (IG.hok.kept hk) (by rw [hgn]; exact hb) fun b z => by simp at z
  have hnS : ∀ b ∈ S', H2 b = none := fun b hb => IG.hok.fresh (by rw [ha2]; exact hS b hb)
  refine ⟨(hgen _ hga).keeps hk, IS.nolimit, _, by rw [hgn]; exact hgs, ?_⟩
  rw [eA]
  refine ⟨rfl, ?_⟩
  obtain ⟨hg', he'⟩ := hel s4 H2 (cloFrom X.env.cells scope.names []) s4.heap.objs.size code fp [(a, go)]
  have IR : Inv _ [] (gSt own cap σ) H2 (s.setGen g .running) := inv_same IS rfl rfl (allBare_setGen IS.bare rfl)
  refine seg_start (gX := gcx X s4 H2 Aw (gN own cap) (genEnv scope (cloFrom X.env.cells scope.names []) s4.heap.objs.size code builtinsNs X.env) fp [(a, go)]) (J := J) (tg := tg) (tn := tn) (gt := gt) (te := te) T rfl rfl rfl hg' he' S.co SO (fun b hb => ⟨?_, ?_, .inl hb, fun x c e z => ?_, fun p hp z => ?_⟩) turn (m := m) (al := al) (Nat.lt_succ_self m) hW hth hK
    (inv_first SO IR hnS hth) (T.keep _ _ _ st fun b hb o e => hk b o e) fun b hb => (hfp b hb).1.1
  · exact Nat.ne_of_lt (hfp b hb).2
  · have f := (hfp b hb).1
    intro z
    rcases List.mem_cons.mp (I4.stkSub b z) with y | y
    · exact f.2.1 y
    · exact f.2.2.1 y
  · exact (hfp b hb).1.2.2.2.2.1 x c (cm e) z
  · have h1 := (hfp b hb).2
    have h2 := L.pn1 p hp
    rw [← z, h2] at h1
    exact Nat.lt_irrefl _ (Nat.lt_trans h1 ha1)
end

/-! ### sum -/
def KS (S : Addr) : Int → Heap → Prop := fun al h => ∃ t c, h.get? S = some { cls := .type "list", dict := none, data := .seq #[.int al t] c, slots := #[] }
def CS (W : Nat → Nat → Int → St → Hp → Prop) : Nat → Nat → Int → St → V → Hp → Prop := fun i m al τ v H => ∃ k : Int, v = .int k ∧ InLong k ∧ InLong (al + k) ∧ ∃ m', m' < m ∧ W (i + 1) m' (al + k) τ H
theorem KS.inj {S : Addr} {a b : Int} {h : Heap} (x : KS S a h) (y : KS S b h) : a = b := by
  obtain ⟨t, c, e⟩ := x
  obtain ⟨t', c', e'⟩ := y
  rw [e] at e'
  injection e' with e'
  injection e' with _ _ e' _
  injection e' with e' _
  have e2 : [Value.int a t] = [Value.int b t'] := congrArg Array.toList e'
  injection e2 with e2 _
  injection e2 with e2 _
section
variable {gX : Cx} {fp : List Addr} {tn : Nat → Heap → Prop} {W : Nat → Nat → Int → St → Hp → Prop} {Fin : Nat → Int → St → Hp → Prop} {A : Around} {R : Result → Shared → Prop} {a S : Addr} {g : Nat} {go : Obj}
theorem sum_loop (hh : A.handled = none) (hroom : A.depth < recursionLimit) (SO : SOk gX fp [S]) (hpn : (a, go) ∈ gX.pn) (hgo : ∀ h : Heap, h.get? a = some go → h.IsGen a g)
    (hEnd : ∀ s' i al t τ H, Inv gX [] τ H s' → Fin i al τ H → R (.ok (.ret (.int al t))) s') :
    ∀ (n : Nat) (al : Int) (s : Shared), KS S al s.heap → Rdy gX [S] fp tn (KS S) W Fin (CS W) A.in1 a g n s → codeAny (model gX.prog gX.w) A (.builtin "sum.loop" ⟨[.ref a, .ref S, rawInt 0, rawInt 0], []⟩) R s := by
  intro n
  induction n using Nat.strongRecOn with
  | ind n ih =>
    intro al s hK h
    obtain ⟨tA, c, hS⟩ := _root_.id hK
    refine codeAny_builtin F.entry_sum_loop ?_
    rw [Around.under_plainId F.plain_sum_loop _]
    show wpAny _ A.in1 (seqItems? (.ref S) >>= _) _ _ s
    refine wpAny_bind (wpAny_seqItems hS rfl ?_)
    show wpAny _ A.in1 (tryCatch (pyNext (.ref a)) _ >>= _) _ _ s
    refine wpAny_bind (wpAny_tryCatch (next_ge (A := A.in1) hh hroom SO hpn hgo h (fun s1 i al1 τ H I _ hK1 hF => ?_) fun v x i m al1 τ H s1 I hth hK1 rx hC hk => ?_))
    · have e := KS.inj hK hK1
      subst e
      exact wpAny_pure (hEnd s1 i al tA τ H (I.pins_of fun p hp => absurd hp (by simp)) hF)
    · have e := KS.inj hK hK1
      subst e
      obtain ⟨k, rfl, ⟨f1, f2⟩, ⟨f3, f4⟩, m', hm, w⟩ := hC
      obtain ⟨t, rfl⟩ := (show ∃ t, v = Value.int k t from rx)
      have hS' : s1.heap.get? S = some { cls := .type "list", dict := none, data := .seq #[.int al tA] c, slots := #[] } := ((inv_S hth I) S (List.mem_singleton.mpr rfl)).2.trans hS
      have hc : ((decide (-(2 ^ 63) ≤ k) && decide (k < 2 ^ 63)) && (decide (-(2 ^ 63) ≤ al + k) && decide (al + k < 2 ^ 63))) = true := by
        simp only [Bool.and_eq_true, decide_eq_true_eq]
        exact ⟨⟨f1, f2⟩, f3, f4⟩
      show wpAny _ A.in1 (if (_ : Bool) = true then (mkInt (al + k) >>= _) else _) _ _ _
      split
      · refine wpAny_bind (wpAny_mkInt ?_)
        show wpAny _ A.in1 (updateSeq S (fun _ => #[.int (al + k) s1.toks]) >>= _) _ _ _
        refine wpAny_bind ?_
        refine wpAny_updateSeq hS' rfl (wpAny_pure ⟨plainId_quiet F.plain_sum_loop _, ?_⟩)
        have hS3 := Heap.get?_update_self (Obj.mapSeq fun _ => #[Value.int (al + k) s1.toks]) hS' rfl
        have hK3 : KS S (al + k) (s1.heap.update S (Obj.mapSeq fun _ => #[Value.int (al + k) s1.toks])) := ⟨_, _, hS3⟩
        obtain ⟨n', e, hR⟩ := hk m' (al + k) { s1 with heap := s1.heap.update S (Obj.mapSeq fun _ => #[Value.int (al + k) s1.toks]), toks := s1.toks + 1 } hm w hK3
          ⟨rfl, I.bare, fun b o hb e => (Heap.get?_update_other _ _ (fun z => hb (by rw [z]; exact List.mem_singleton.mpr rfl))).trans e, fun b hb => by
            rw [List.mem_singleton.mp hb]
            exact ⟨_, hS3, fun v z => by cases z⟩⟩ rfl
        exact ih n' (by omega) (al + k) _ hK3 hR
      · rename_i hneg
        exact absurd hc hneg
end
/-! ### the expressions -/
def tBoolG (r : Bool) (P : Addr) (own : List Str) (cap : List (Str × Nat)) (wi : TI) (gt : TG) (te : TE) : TE := fun σ H Q => wi σ H fun J H1 => GxR.TabG H1 P ∧ ∀ H2, GxR.Tabbed P H1 H2 →
  ∃ W : Nat → Nat → Unit → St → Hp → Prop, (∃ m, W 0 m () (gSt own cap σ) H2) ∧ Turns J gt te W (fun _ _ _ H => Q (.bl r) H) (CB r W fun _ H => Q (.bl (!r)) H)
abbrev tAllG := tBoolG true
abbrev tAnyG := tBoolG false
def tSumG (P : Addr) (own : List Str) (cap : List (Str × Nat)) (wi : TI) (gt : TG) (te : TE) : TE := fun σ H Q => wi σ H fun J H1 => GxR.TabG H1 P ∧ ∀ H2, GxR.Tabbed P H1 H2 →
  ∃ W : Nat → Nat → Int → St → Hp → Prop, (∃ m, W 0 m 0 (gSt own cap σ) H2) ∧ Turns J gt te W (fun _ al _ H => Q (.int al) H) (CS W)
section
variable {X : Cx} {c P : Addr} {elt tg iter : Expr} {p pos gpos : Pos} {scope : Scope} {own : List Str} {cap : List (Str × Nat)} {wi : TI} {gt : TG} {te : TE} {k : Nat}
theorem pe_allG (hr : Room k X.A) (hg : Gl X "all") (hm : X.mg "all" = none) (hb : bootBuiltins "all" = some (.builtin "all")) (hN : X.N.Nodup) (TB : GxR.TabB X.base X.mg c P) (hcode : X.env.code = .ref c) (S : GScp X scope own cap)
    (hi : PI X tg iter wi) (hel : EltOk X X.A.in1.in1 scope own cap tg elt gt te) (hs : ∀ v, genFold iter X.env v = pure v)
    (he : starEach [.GeneratorExp elt [⟨tg, iter, [], 0⟩] scope gpos] X.env = (false, eval (.GeneratorExp elt [⟨tg, iter, [], 0⟩] scope gpos) X.env) :: starEach [] X.env := by rfl) :
    PE X (.Call (.Name "all" p) [.GeneratorExp elt [⟨tg, iter, [], 0⟩] scope gpos] [] pos) (tAllG P own cap wi gt te) := by
  refine ⟨fun pins s σ H Q I h => ?_⟩
  refine wpAny_Call_Name_kw (ld_blt I hg hm hb ?_)
  refine PyProof.Rows.callWith_builtin1 ?_ he (by rfl)
  rw [he]
  show wpAny _ _ (spliced ((false, eval (.GeneratorExp elt [⟨tg, iter, [], 0⟩] scope gpos) X.env) :: backTo pos (starEach [] X.env))) _ _ s
  refine Calls.spliced_cons (gen_new hr hN TB hcode S hi hs I h fun J H1 H2 a s5 hR hT hM => ?_)
  refine Calls.spliced_nil ?_
  obtain ⟨W, ⟨m, hW⟩, turn⟩ := hR H2 hT
  obtain ⟨gX, fp, tn, g, go, L, IG, hRdy⟩ := hM.live S (Aw := X.A.in1.in1) hr.hd (I.ok.frames) hel
  have hg5 : s5.heap.IsGen a g := L.isGen _ (IG.pin (a, go) (List.mem_append_left _ L.pn)).1
  refine call_function_tree F.kind_all F.plain_all F.entry_all (F.args_all1 _) ?_
  unfold Builtin.«all»
  refine wpAny_bind (m := oneArg "all" _) (wpAny_pure ?_)
  refine wpAny_bind (wpAny_pyIter_gen hg5 ?_)
  have rdy := hRdy (K := fun _ _ => True) (S := []) (A := X.A.in1) (al := ()) (s := s5) rfl turn (fun b z => by simp at z) (fun _ _ e => e) rfl rfl (fun b z => by simp at z) trivial hW
  have lp := all_loop (A := X.A) (R := fun r s' => match r with | .ok (.ret v) => EP X pins σ Q v s' | .error e => X.xe e s' | _ => False) hr.hd (by have := hr.dp; omega) L.pn L.isGen (fun s' i τ H' J hF => ⟨.bl true, H', L.back J, rfl, hF⟩) (fun s' τ H' J hF => ⟨.bl false, H', L.back J, rfl, hF⟩) (m + 1) s5 rdy
  rw [L.prog, L.w] at lp
  refine wpAny_pure ⟨plainId_quiet F.plain_all_loop _, codeAny_mono lp fun r s' hq => ?_⟩
  cases r with
  | error e => exact hq
  | ok fl => cases fl <;> exact hq
theorem pe_anyG (hr : Room k X.A) (hg : Gl X "any") (hm : X.mg "any" = none) (hb : bootBuiltins "any" = some (.builtin "any")) (hN : X.N.Nodup) (TB : GxR.TabB X.base X.mg c P) (hcode : X.env.code = .ref c) (S : GScp X scope own cap)
    (hi : PI X tg iter wi) (hel : EltOk X X.A.in1.in1 scope own cap tg elt gt te) (hs : ∀ v, genFold iter X.env v = pure v)
    (he : starEach [.GeneratorExp elt [⟨tg, iter, [], 0⟩] scope gpos] X.env = (false, eval (.GeneratorExp elt [⟨tg, iter, [], 0⟩] scope gpos) X.env) :: starEach [] X.env := by rfl) :
    PE X (.Call (.Name "any" p) [.GeneratorExp elt [⟨tg, iter, [], 0⟩] scope gpos] [] pos) (tAnyG P own cap wi gt te) := by
  refine ⟨fun pins s σ H Q I h => ?_⟩
  refine wpAny_Call_Name_kw (ld_blt I hg hm hb ?_)
  refine PyProof.Rows.callWith_builtin1 ?_ he (by rfl)
  rw [he]
  show wpAny _ _ (spliced ((false, eval (.GeneratorExp elt [⟨tg, iter, [], 0⟩] scope gpos) X.env) :: backTo pos (starEach [] X.env))) _ _ s
  refine Calls.spliced_cons (gen_new hr hN TB hcode S hi hs I h fun J H1 H2 a s5 hR hT hM => ?_)
  refine Calls.spliced_nil ?_
  obtain ⟨W, ⟨m, hW⟩, turn⟩ := hR H2 hT
  obtain ⟨gX, fp, tn, g, go, L, IG, hRdy⟩ := hM.live S (Aw := X.A.in1.in1) hr.hd (I.ok.frames) hel
  have hg5 : s5.heap.IsGen a g := L.isGen _ (IG.pin (a, go) (List.mem_append_left _ L.pn)).1
  refine call_function_tree F.kind_any F.plain_any F.entry_any (F.args_any1 _) ?_
  unfold Builtin.«any»
  refine wpAny_bind (m := oneArg "any" _) (wpAny_pure ?_)
  refine wpAny_bind (wpAny_pyIter_gen hg5 ?_)
  have rdy := hRdy (K := fun _ _ => True) (S := []) (A := X.A.in1) (al := ()) (s := s5) rfl turn (fun b z => by simp at z) (fun _ _ e => e) rfl rfl (fun b z => by simp at z) trivial hW
  have lp := any_loop (A := X.A) (R := fun r s' => match r with | .ok (.ret v) => EP X pins σ Q v s' | .error e => X.xe e s' | _ => False) hr.hd (by have := hr.dp; omega) L.pn L.isGen (fun s' i τ H' J hF => ⟨.bl false, H', L.back J, rfl, hF⟩) (fun s' τ H' J hF => ⟨.bl true, H', L.back J, rfl, hF⟩) (m + 1) s5 rdy
  rw [L.prog, L.w] at lp
  refine wpAny_pure ⟨plainId_quiet F.plain_any_loop _, codeAny_mono lp fun r s' hq => ?_⟩
  cases r with
  | error e => exact hq
  | ok fl => cases fl <;> exact hq
theorem pe_sumG (hr : Room k X.A) (hg : Gl X "sum") (hm : X.mg "sum" = none) (hb : bootBuiltins "sum" = some (.builtin "sum")) (hN : X.N.Nodup) (TB : GxR.TabB X.base X.mg c P) (hcode : X.env.code = .ref c) (S : GScp X scope own cap)
    (hi : PI X tg iter wi) (hel : EltOk X X.A.in1.in1 scope own cap tg elt gt te) (hs : ∀ v, genFold iter X.env v = pure v)
    (he : starEach [.GeneratorExp elt [⟨tg, iter, [], 0⟩] scope gpos] X.env = (false, eval (.GeneratorExp elt [⟨tg, iter, [], 0⟩] scope gpos) X.env) :: starEach [] X.env := by rfl) :
    PE X (.Call (.Name "sum" p) [.GeneratorExp elt [⟨tg, iter, [], 0⟩] scope gpos] [] pos) (tSumG P own cap wi gt te) := by
  refine ⟨fun pins s σ H Q I h => ?_⟩
  refine wpAny_Call_Name_kw (ld_blt I hg hm hb ?_)
  refine PyProof.Rows.callWith_builtin1 ?_ he (by rfl)
  rw [he]
  show wpAny _ _ (spliced ((false, eval (.GeneratorExp elt [⟨tg, iter, [], 0⟩] scope gpos) X.env) :: backTo pos (starEach [] X.env))) _ _ s
  refine Calls.spliced_cons (gen_new hr hN TB hcode S hi hs I h fun J H1 H2 a s5 hR hT hM => ?_)
  refine Calls.spliced_nil ?_
  obtain ⟨W, ⟨m, hW⟩, turn⟩ := hR H2 hT
  obtain ⟨gX, fp, tn, g, go, L, IG, hRdy⟩ := hM.live S (Aw := X.A.in1.in1) hr.hd (I.ok.frames) hel
  have hg5 : s5.heap.IsGen a g := L.isGen _ (IG.pin (a, go) (List.mem_append_left _ L.pn)).1
  refine call_function_tree F.kind_sum F.plain_sum F.entry_sum (F.args_sum1 _) ?_
  unfold Builtin.«sum»
  simp only [List.length_cons, List.length_nil]
  rw [if_neg (by decide)]
  refine wpAny_bind (wpAny_of_eq (show Builtin.Builtins.bindParams "sum" ["start"] 0 { } = pure [none] from rfl) ?_)
  refine wpAny_bind (wpAny_pyIter_gen hg5 ?_)
  refine wpAny_bind (wpAny_mkInt ?_)
  refine wpAny_bind (wpAny_pure ?_)
  simp only [List.forIn_cons, List.forIn_nil]
  refine wpAny_bind (wpAny_bind (wpAny_bind (wpAny_isInstance (T := "int") (b := false) (typeIs_int _ _ _) PySem.sub_int_str ?_)))
  simp only [Bool.false_eq_true, if_false]
  refine wpAny_pure (wpAny_bind (wpAny_bind (wpAny_isInstance (T := "int") (b := false) (typeIs_int _ _ _) PySem.sub_int_bytes ?_)))
  simp only [Bool.false_eq_true, if_false]
  refine wpAny_pure (wpAny_bind (wpAny_bind (wpAny_isInstance (T := "int") (b := false) (typeIs_int _ _ _) PySem.sub_int_bytearray ?_)))
  simp only [Bool.false_eq_true, if_false]
  refine wpAny_pure (wpAny_pure ?_)
  refine wpAny_bind (wpAny_newObj_type ?_)
  have hSa : ∀ b ∈ [s5.heap.objs.size], a < b := fun b hb => by rw [List.mem_singleton.mp hb, L.sz]; exact Nat.lt_succ_self a
  have SO := L.sok hSa
  have hS0 : (s5.heap.push { cls := .type "list", data := .seq #[.int 0 s5.toks] }).get? s5.heap.objs.size = some { cls := .type "list", data := .seq #[.int 0 s5.toks] } := Heap.get?_push_size _ rfl
  have hK0 : KS s5.heap.objs.size 0 (s5.heap.push { cls := .type "list", data := .seq #[.int 0 s5.toks] }) := ⟨_, _, hS0⟩
  have rdy := hRdy (K := KS s5.heap.objs.size) (S := [s5.heap.objs.size]) (A := X.A.in1) (al := 0) (s := { s5 with heap := s5.heap.push { cls := .type "list", data := .seq #[.int 0 s5.toks] }, toks := s5.toks + 1 }) rfl turn hSa (fun _ _ e => Heap.get?_push_of_some _ e) rfl rfl
    (fun b z => by rw [List.mem_singleton.mp z]; exact ⟨_, hS0, fun v q => by cases q⟩) hK0 hW
  have lp := sum_loop (A := X.A) (R := fun r s' => match r with | .ok (.ret v) => EP X pins σ Q v s' | .error e => X.xe e s' | _ => False) hr.hd (by have := hr.dp; omega) SO L.pn L.isGen (fun s' i al t τ H' J hF => ⟨.int al, H', L.back J, ⟨t, rfl⟩, hF⟩) (m + 1) 0 _ hK0 rdy
  rw [L.prog, L.w] at lp
  refine wpAny_pure ⟨plainId_quiet F.plain_sum_loop _, codeAny_mono lp fun r s' hq => ?_⟩
  cases r with
  | error e => exact hq
  | ok fl => cases fl <;> exact hq
end
/-! ### over a tuple, a list that stands -/
/-- the word: i turns are done, Pv holds -/
def Wn {α : Type} (n : Nat) (Pv : Nat → α → St → Hp → Prop) : Nat → Nat → α → St → Hp → Prop := fun i m al τ H => m = n - i ∧ i ≤ n ∧ Pv i al τ H
theorem cb_on {r : Bool} {n i : Nat} {Pv : Nat → Unit → St → Hp → Prop} {Stop : St → Hp → Prop} {τ : St} {H : Hp} (hi : i < n) (h : Pv (i + 1) () τ H) : CB r (Wn n Pv) Stop i (n - i) () τ (.bl r) H :=
  ⟨r, rfl, by rw [if_pos rfl]; exact ⟨n - (i + 1), by omega, rfl, hi, h⟩⟩
theorem cb_off {r b : Bool} {n i : Nat} {Pv : Nat → Unit → St → Hp → Prop} {Stop : St → Hp → Prop} {τ : St} {H : Hp} (hb : b ≠ r) (h : Stop τ H) : CB r (Wn n Pv) Stop i (n - i) () τ (.bl b) H :=
  ⟨b, rfl, by rw [if_neg hb]; exact h⟩
theorem cs_on {n i : Nat} {Pv : Nat → Int → St → Hp → Prop} {τ : St} {H : Hp} {al k : Int} (hi : i < n) (h1 : InLong k) (h2 : InLong (al + k)) (h : Pv (i + 1) (al + k) τ H) : CS (Wn n Pv) i (n - i) al τ (.int k) H :=
  ⟨k, rfl, h1, h2, n - (i + 1), by omega, rfl, hi, h⟩
section
variable {α : Type} {K : PySem.W.Frag} {a : Addr} {xs : List V} {gt : TG} {te : TE} {Fin : Nat → α → St → Hp → Prop} {C : Nat → Nat → α → St → V → Hp → Prop} {Pv : Nat → α → St → Hp → Prop}
theorem turns_tup (hl : ∀ i al τ H, i ≤ xs.length → Pv i al τ H → SqT K H a xs)
    (hs : ∀ i x al τ H, xs[i]? = some x → Pv i al τ H → gt x τ H fun τ2 H2 => te τ2 H2 fun v H3 => C i (xs.length - i) al τ2 v H3) (hd : ∀ al τ H, Pv xs.length al τ H → Fin xs.length al τ H) :
    Turns (Itt K a) gt te (Wn xs.length Pv) Fin C := by
  rintro i m al τ H ⟨rfl, hi, p⟩
  have q := hl i al τ H hi p
  by_cases hlt : i < xs.length
  · refine .inr ⟨⟨xs, xs[i], q, List.getElem?_eq_getElem hlt⟩, fun x H' y => ?_⟩
    obtain ⟨rfl, y⟩ := y
    exact hs i x al τ _ (y xs q) p
  · have e : i = xs.length := by omega
    subst e
    exact .inl ⟨⟨xs, q, Nat.le_refl _⟩, hd al τ H p⟩
theorem turns_list (hl : ∀ i al τ H, i ≤ xs.length → Pv i al τ H → SqL K H a xs)
    (hs : ∀ i x al τ H, xs[i]? = some x → Pv i al τ H → gt x τ H fun τ2 H2 => te τ2 H2 fun v H3 => C i (xs.length - i) al τ2 v H3) (hd : ∀ al τ H, Pv xs.length al τ H → Fin xs.length al τ H) :
    Turns (Itl K a) gt te (Wn xs.length Pv) Fin C := by
  rintro i m al τ H ⟨rfl, hi, p⟩
  have q := hl i al τ H hi p
  by_cases hlt : i < xs.length
  · refine .inr ⟨⟨xs, xs[i], q, List.getElem?_eq_getElem hlt⟩, fun x H' y => ?_⟩
    obtain ⟨rfl, y⟩ := y
    exact hs i x al τ _ (y xs q) p
  · have e : i = xs.length := by omega
    subst e
    exact .inl ⟨⟨xs, q, Nat.le_refl _⟩, hd al τ H p⟩
end
/-! ### a def with a generator expression: its code object is known -/
section
variable {P : Program} {w : World} {K : PySem.W.Frag} {mg : Str → Option Value} {base : Heap}
def FunC (K : PySem.W.Frag) (x qual : Str) (st : Stmt) (f : Addr) (fd : FuncData) (c : Addr) : Prop :=
  ∃ (oc : Value) (od : Option Addr) (kV doc pm ct : Value) (an : Option Addr) (osl : Array (Option Value)), fd = PySem.W.fnOf x qual (defArgs st) (defBody st) (defScope st) .none kV doc pm an (.ref c) ct ∧
    K.lookup f = some ⟨oc, od, .func (PySem.W.fnOf x qual (defArgs st) (defBody st) (defScope st) .none kV doc pm an (.ref c) ct), osl⟩ ∧ PySem.W.codeIn K (.ref c) qual = true
theorem FunC.fun {x qual : Str} {st : Stmt} {f c : Addr} {fd : FuncData} (F : FunC K x qual st f fd c) (kp : PySem.W.keepIn K (.ref f) = true) : Fun K x qual st f fd := by
  obtain ⟨oc, od, kV, doc, pm, ct, an, osl, rfl, lk, hcd⟩ := F
  exact fun_mk lk hcd kp
theorem FunC.ok {x qual : Str} {st : Stmt} {f c : Addr} {fd : FuncData} {N ps : List Str} {CX : CXT} {k : Nat} {sp : Sp} (F : FunC K x qual st f fd c) (S : FnScope N ps (defScope st)) (len : ∀ vs H Q E, sp vs H Q E → vs.length = ps.length)
    (hbody : ∀ (A : Around) (outer : List Env) (s : Shared) (H : Hp) (vs : List V) (Q : VK) (E : XK), Room k (A.deeper (envOfC qual (defScope st) s.heap.objs.size f (.ref c))) → sp vs H Q E →
      ∃ t, PSs (cxOf CX P w K mg base N qual (defScope st) f (.ref c) A outer s H E) (defBody st) t ∧ t { nx := fun _ H' => Q .non H', rt := Q } (start N vs) H) : FnOk P w K mg base CX (k + 1) f fd ps sp := by
  obtain ⟨oc, od, kV, doc, pm, ct, an, osl, rfl, lk, hcd⟩ := F
  exact fn_of lk hcd S len fun A outer s H vs Q E hr hsp => hbody A outer s H vs Q E hr hsp
end
end GE
end
section
set_option Elab.async false
set_option linter.all false
set_option maxRecDepth 100000
set_option maxHeartbeats 2000000
/-! Exceptions of which more is kept than class and dict: any word Z of the exception's object that its travel leaves true. -/
namespace EA
open PySem PySem.Spec PyProof.Rows L2
abbrev St := L2.St
abbrev ZW := Value → Option Addr → Obj → Prop
structure ZOk (Z : ZW) : Prop where
  steady : ∀ c d, PXN.Steady1 (Z c d)
  cls : ∀ c d o, Z c d o → o.cls = c
/-- in the air of X, with its word -/
structure Air (Z : ZW) (X : Cx) (W : WX) (u : Value) (s' : Shared) (a : Addr) (B : Heap) (sI : Shared) (pins : List (Addr × Obj)) (σ : St) (H : Hp) (cls : Value) (d : Option Addr) : Prop where
  eq : u = .ref a
  inv : Inv X pins σ H sI
  ground : ∀ b o, sI.heap.get? b = some o → b ∉ frs X.stack → B.get? b = some o
  up : sI.heap.UpToSlots s'.heap
  sky : Sky B X.stack a (Z cls d) X.env.locals s'.heap
  free : H a = none
  os : s'.os = sI.os
  bare : AllBare s'.gens
  want : W cls d σ H
def XE (Z : ZW) (X : Cx) (W : WX) (u : Value) (s' : Shared) : Prop := ∃ a B sI pins σ H cls d, Air Z X W u s' a B sI pins σ H cls d
def Takes (Z : ZW) (X : Cx) (W : WX) : Prop := ∀ u s', XE Z X W u s' → X.xe u s'
theorem Takes.imp {Z : ZW} {X : Cx} {W W' : WX} (t : Takes Z X W) (h : ∀ c d σ H, W' c d σ H → W c d σ H) : Takes Z X W' := fun u s' x => by
  obtain ⟨a, B, sI, pins, σ, H, cls, d, y⟩ := x
  exact t u s' ⟨a, B, sI, pins, σ, H, cls, d, { y with want := h _ _ _ _ y.want }⟩
/-- out of a call -/
def CX (Z : ZW) (P : Program) (w : World) : CXT := fun outer H s E u s' =>
  ∃ (a : Addr) (B : Heap) (H' : Hp) (cls : Value) (d : Option Addr), u = .ref a ∧ HandSPX.FlyingZ B outer a (Z cls d) s'.heap ∧ HOk P w H' B ∧ UB (frs outer) H H' s.heap B s'.heap ∧ H' a = none ∧ s'.os = s.os ∧ AllBare s'.gens ∧ E cls d H'
section
variable {Z : ZW} {X : Cx} {pins : List (Addr × Obj)} {σ : St} {H : Hp} {sI s s' : Shared} {B : Heap} {W : WX} {E : XK}
theorem XE.of_call (I : Inv X pins σ H s) (hW : ∀ cls d H', E cls d H' → W cls d σ H') {u : Value} (c : CX Z X.prog X.w X.stack H s E u s') : XE Z X W u s' := by
  obtain ⟨a, B, H', cls, d, rfl, fly, hok, ub, na, os, ag, hE⟩ := c
  -- the ground and our frames, without the exception's own objects
  obtain ⟨G, hG, hG'⟩ := restrict s'.heap fun b => (B.get? b).isSome || decide (b ∈ frs X.stack)
  have onB : ∀ b o, B.get? b = some o → G.get? b = some o := fun b o e => (hG b (by simp [e])).trans (fly.1 b o e)
  have onF : ∀ b ∈ frs X.stack, G.get? b = s'.heap.get? b := fun b hb => hG b (by simp [hb])
  have back : ∀ b o, G.get? b = some o → s'.heap.get? b = some o ∧ ((∃ o', B.get? b = some o') ∨ b ∈ frs X.stack) := fun b o e => by
    cases q : ((B.get? b).isSome || decide (b ∈ frs X.stack)) with
    | false =>
      have z := hG' b q
      rw [e] at z
      cases z
    | true =>
      rw [hG b q] at e
      rw [Bool.or_eq_true, decide_eq_true_eq] at q
      exact ⟨e, q.imp Option.isSome_iff_exists.mp _root_.id⟩
  refine ⟨a, B, { s with heap := G, gens := s'.gens, drawn := s'.drawn, toks := s'.toks }, pins, σ, H', cls, d, ⟨rfl, ?_, fun b o e hb => ?_, Heap.UpToSlots.of_keeps fun b o e => (back b o e).1, .inr (.inl fly), na, os, ag, hW _ _ _ hE⟩⟩
  · refine I.call (ch := []) ⟨fun b o e n hb _ => onB b o (ub.keep b o e n hb), fun b o e n hb _ => ?_, fun b o e n _ => ub.free b o e n, fun b o e _ => ?_, ub.tups, ub.frzs, ub.tbls⟩ (hok.kept onB) ag (fun _ z => nomatch z)
    · obtain ⟨sl, q⟩ := ub.slot b o e hb
      exact ⟨sl, (onF b hb).trans q⟩
    · by_cases hb : b ∈ frs X.stack
      · obtain ⟨sl, q⟩ := ub.slot b o e hb
        exact ⟨_, (onF b hb).trans q⟩
      · obtain ⟨o', q⟩ := ub.there b o e hb
        exact ⟨o', onB b o' q⟩
  · obtain ⟨e', h⟩ := back b o e
    rcases h with ⟨o', q⟩ | h
    · have z := fly.1 b o' q
      rw [e'] at z
      cases z
      exact q
    · exact absurd h hb
theorem XE.new {a : Addr} {oe : Obj} {vs : Array Value} {cls : Value} {d : Option Addr} (I : Inv X pins σ H sI) (k : ∀ b o, sI.heap.get? b = some o → s'.heap.get? b = some o) (hne : sI.heap.get? a = none) (he : s'.heap.get? a = some oe)
    (hz : Z cls d oe) (hd : oe.data = .fields vs) (h1 : vs[1]? = some .none) (na : H a = none) (os : s'.os = sI.os) (ag : AllBare s'.gens) (w : W cls d σ H) : XE Z X W (.ref a) s' := by
  have gone : (PySem.W.hideAll sI.heap (frs X.stack)).get? a = none := by
    cases q : (PySem.W.hideAll sI.heap (frs X.stack)).get? a with
    | none => rfl
    | some o =>
      have z := PySem.W.of_hideAll _ q
      rw [hne] at z
      cases z
  exact ⟨a, PySem.W.hideAll sI.heap (frs X.stack), sI, pins, σ, H, cls, d, ⟨rfl, I, fun b o e hb => PySem.W.hideAll_get _ e hb, Heap.UpToSlots.of_keeps k,
    .inl ⟨fun b o e => k b o (PySem.W.of_hideAll _ e), gone, Heap.FunFrames.of_keeps (fun b o e _ => ⟨o, k b o e, rfl⟩) (funFrames_none I.stack fun b hb => PySem.W.hideAll_none _ hb), oe, vs, he, hz, hd, h1⟩, na, os, ag, w⟩⟩
/-- it leaves the def's frame -/
theorem XE.leave (zk : ZOk Z) (hs : X.stack = X.env :: X.outer) (hf : X.env.frame = some X.env.locals) (hex : X.ex = []) {E₁ : Value → Shared → Prop} (hW : ∀ cls d σ H, W cls d σ H → E cls d H) {u : Value} (x : XE Z X W u s') :
    wpAny (model X.prog X.w) X.A (leaving X.env u) (fun _ s'' => CX Z X.prog X.w X.outer X.H_0 X.s_0 E u s'') E₁ s' := by
  obtain ⟨a, B, sI, pins, σ, H, cls, d, y⟩ := x
  have I := y.inv
  have ue := y.eq
  subst ue
  have hfr : X.A.frames = some (X.env :: X.outer) := I.ok.frames.trans (by rw [hs])
  have old : ∀ b o, X.s_0.heap.get? b = some o → b ∉ X.fs → b ∉ frs X.stack := fun b o e hb hm => by
    rcases List.mem_cons.mp (I.stkSub b hm) with z | z
    · have h1 := Nat.lt_of_lt_of_le (Heap.lt_size e) I.ok.above
      rw [z] at h1
      exact Nat.lt_irrefl _ h1
    · exact hb z
  have noex : ∀ b, b ∉ X.ex := fun b hb => by
    rw [hex] at hb
    simp at hb
  have fin : ∀ h', HandSPX.FlyingZ B X.outer a (Z cls d) h' → s'.heap.UpToSlots h' → CX Z X.prog X.w X.outer X.H_0 X.s_0 E (.ref a) { s' with heap := h' } := fun h' fl up' => by
    refine ⟨a, B, H, cls, d, rfl, fl, I.inGround y.ground, ⟨fun b o e n hb => y.ground b o (I.base.keep b o e n hb (noex b)) (old b o e hb), fun b o e hb => ?_, fun b o e n => I.base.free b o e n (noex b), fun b o e hb => ?_, I.base.tups, I.base.frzs, I.base.tbls⟩,
      y.free, y.os.trans I.os, y.bare, hW _ _ _ _ y.want⟩
    · obtain ⟨_, o₀, e₀, hnf⟩ := I.ok.funs.mem hb
      have eo := Option.some.inj (e.symm.trans e₀)
      subst eo
      obtain ⟨sl, e1⟩ := I.base.slot b o e (I.ok.frf b hb) hb (noex b)
      obtain ⟨sl2, e2⟩ := y.up b _ e1 hnf
      obtain ⟨sl3, e3⟩ := up' b _ e2 hnf
      exact ⟨sl3, e3⟩
    · obtain ⟨o', e1⟩ := I.base.there b o e (noex b)
      exact ⟨o', y.ground b o' e1 (old b o e hb)⟩
  have sky := y.sky
  rw [hs] at sky
  rcases sky with ⟨g1, g2, g3, oe, vs, g4, g5, g6, g7⟩ | fl | hd
  · exact PXN.leaving_firstZ (zk.steady _ _) hfr g3 hf g4 g1 g2 g6 g7 g5 fin
  · exact PXN.leaves_onZ (zk.steady _ _) hfr hf fl fin
  · exact HandSPX.leaves_heldZ hf hd fin
theorem takes_of (zk : ZOk Z) (hs : X.stack = X.env :: X.outer) (hf : X.env.frame = some X.env.locals) (hex : X.ex = []) {E₁ : Value → Shared → Prop}
    (hx : X.xe = fun e s' => wpAny (model X.prog X.w) X.A (leaving X.env e) (fun _ s'' => CX Z X.prog X.w X.outer X.H_0 X.s_0 E e s'') E₁ s') : Takes Z X (fun cls d _ H => E cls d H) := fun u s' x => by
  rw [hx]
  exact XE.leave (W := fun cls d _ H => E cls d H) (E := E) zk hs hf hex (fun _ _ _ _ h => h) x
theorem passes_call (tk : Takes Z X W) (hW : ∀ cls d σ H, E cls d H → W cls d σ H) : Passes (CX Z X.prog X.w) X E := fun _ σ _ _ e s' I c => tk e s' (XE.of_call I (fun cls d H' h => hW cls d σ H' h) c)
theorem passAt (tk : Takes Z X W) (σ : St) : PassesAt (CX Z X.prog X.w) X σ (WE W σ) := fun _ _ _ e s' I c => tk e s' (XE.of_call I (fun _ _ _ h => h) c)
/-- where the callee lets nothing out -/
theorem pass_none : Passes (CX Z X.prog X.w) X E0 := fun _ _ _ _ _ _ _ h => by
  obtain ⟨_, _, _, _, _, _, _, _, _, _, _, _, z⟩ := h
  exact z.elim
theorem takes0 : Takes Z X (fun _ _ _ _ => False) := fun _ _ x => by
  obtain ⟨_, _, _, _, _, _, _, _, y⟩ := x
  exact y.want.elim
theorem land {M : Model} {A : Around} {E₁ : Value → Shared → Prop} {env : Env} {outer : List Env} {L a : Addr} {Zo : Obj → Prop} {Q : Unit → Shared → Prop} (hZ : PXN.Steady1 Zo) (hfr : A.frames = some (env :: outer)) (hf : env.frame = some L)
    (x : Sky B (env :: outer) a Zo L s.heap) (hQ : ∀ h', HandSPX.FlyingZ B (env :: outer) a Zo h' → s.heap.UpToSlots h' → Q () { s with heap := h' }) :
    wpAny M A (noteFrame (.ref a) env) (fun _ s₂ => wpAny M A (setFlight (.ref a) none) Q E₁ s₂) E₁ s :=
  L2N.Sky.land hZ hfr hf x hQ
end
/-- an expression that makes an exception -/
def MkP (Z : ZW) (X : Cx) (pins : List (Addr × Obj)) (σ : St) (Q : XK) (u : Value) (s' : Shared) : Prop :=
  ∃ (a : Addr) (oe : Obj) (vs : Array Value) (sI : Shared) (H' : Hp) (cls : Value) (d : Option Addr), u = .ref a ∧ Inv X pins σ H' sI ∧ (∀ b o, sI.heap.get? b = some o → s'.heap.get? b = some o) ∧ sI.heap.get? a = none ∧ s'.heap.get? a = some oe ∧
    Z cls d oe ∧ oe.data = .fields vs ∧ vs[1]? = some .none ∧ H' a = none ∧ s'.os = sI.os ∧ AllBare s'.gens ∧ Raises X cls ∧ Q cls d H'
def PMk (Z : ZW) (X : Cx) (e : Expr) (t : St → Hp → XK → Prop) : Prop :=
  ∀ (pins : List (Addr × Obj)) (s : Shared) (σ : St) (H : Hp) (Q : XK), Inv X pins σ H s → t σ H Q → wpAny (model X.prog X.w) X.A (eval e X.env) (MkP Z X pins σ Q) X.xe s
theorem ps_raise {Z : ZW} (zk : ZOk Z) {X : Cx} {W : WX} {e : Expr} {t : St → Hp → XK → Prop} {pos : Pos} (hc : X.calm = true) (tk : Takes Z X W) (he : PMk Z X e t) : PS X (.Raise (some e) none pos) (fun _ σ H => t σ H fun cls d H' => W cls d σ H') := by
  refine ⟨fun pins s σ H D I h => ?_⟩
  show wpAny _ _ (do standAt pos; raiseStmt X.env (some (do let v ← eval e X.env; standAt pos; pure v)) none) _ _ _
  refine wpAny_bind (wpAny_standAt (raise_made (I.ok.hd hc) (wpAny_bind (wpAny_mono (he pins s σ H _ I h) (fun u s1 hu => wpAny_bind (wpAny_standAt (wpAny_pure ?_))) fun _ _ x => x))))
  obtain ⟨a, oe, vs, sI, H', cls, d, rfl, J, k, hne, ha, hz, hd, h1, na, os, ag, r, q⟩ := hu
  obtain ⟨r1, r2⟩ := r (model X.prog X.w) s1.heap (J.kIn.keeps k)
  exact ⟨a, oe, vs, cls, rfl, ha, zk.cls _ _ _ hz, hd, h1, r1, r2, tk _ _ (XE.new J k hne ha hz hd h1 na os ag q)⟩
/-- as Fun.okX, with such exceptions -/
theorem okX {Z : ZW} {P : Program} {w : World} {K : PySem.W.Frag} {mg : Str → Option Value} {base : Heap} {x qual : Str} {st : Stmt} {f : Addr} {fd : FuncData} {N ps : List Str} {k : Nat} {sp : Sp} (F : Fun K x qual st f fd) (S : FnScope N ps (defScope st)) (len : ∀ vs H Q E, sp vs H Q E → vs.length = ps.length)
    (hbody : ∀ (cdv : Value) (A : Around) (outer : List Env) (s : Shared) (H : Hp) (vs : List V) (Q : VK) (E : XK), Room k (A.deeper (envOfC qual (defScope st) s.heap.objs.size f cdv)) → sp vs H Q E →
      ∃ t, PSs (cxOf (CX Z P w) P w K mg base N qual (defScope st) f cdv A outer s H E) (defBody st) t ∧ t { nx := fun _ H' => Q .non H', rt := Q } (start N vs) H) : FnOk P w K mg base (CX Z P w) (k + 1) f fd ps sp := by
  obtain ⟨oc, od, kV, doc, pm, an, cdv, ct, osl, rfl, lk, hcd⟩ := F.ex
  exact fn_of lk hcd S len fun A outer s H vs Q E hr hsp => hbody cdv A outer s H vs Q E hr hsp
/-! ### try: body, except x as n: suite -/
section
variable {Z : ZW} {X : Cx} {x n : Str} {c : Value} {i : Nat} {body suite : List Stmt} {b₀ : Stmt} {np pos pos' : Pos} {tb : WX → TS} {ts : Addr → Value → Option Addr → TS} {Wout : WX}
theorem ps_try_as (zk : ZOk Z) (hs : X.stack = X.env :: X.outer) (hf : X.env.frame = some X.env.locals) (hN : X.N.Nodup) (hi : X.N[i]? = some n) (hln : X.env.kindOf n = some .local) (hc : Names X x c) (tk : Takes Z X Wout)
    (hb : ∀ (W : WX) (pn : List (Addr × Obj)) (xe : Value → Shared → Prop), Takes Z (X.tr pn xe) W → PassesOwn (model X.prog X.w) X.A X.env xe → PSs (X.tr pn xe) body (tb W))
    (hsu : ∀ (a : Addr) (oe : Obj) (cls : Value) (d : Option Addr) (pn : List (Addr × Obj)), Z cls d oe → (∃ vs, oe.data = .fields vs) → PSs (X.suite a ((a, oe) :: pn)) (b₀ :: suite) (ts a cls d)) :
    PS X (.Try body [.ExceptHandler (some (.Name x np)) (some n) (b₀ :: suite) pos'] [] [] pos) (fun D σ H => tb (wAs X.K c i ts Wout D) D σ H) := by
  refine ⟨fun pins s σ H D I h => ?_⟩
  have ok := I.ok
  have hfr : X.A.frames = some (X.env :: X.outer) := ok.frames.trans (by rw [hs])
  refine wpAny_Try_except ?_
  refine wpAny_mono ((hb (wAs X.K c i ts Wout D) (X.pn ++ pins) (fun e s₁ => wpAny (model X.prog X.w) X.A (noteFrame e X.env) (fun _ s₂ => wpAny (model X.prog X.w) X.A (setFlight e none) (fun _ s₃ =>
    wpAny (model X.prog X.w) X.A (handleBy e X.env [.ExceptHandler (some (.Name x np)) (some n) (b₀ :: suite) pos']) (SP X pins D) X.xe s₃) X.xe s₂) X.xe s₁) (fun u s' xx => ?_) PassesOwn.looking).run [] s σ H D (I.toTry _) h) (fun f s1 hsp => ?_) (fun e s1 he => he)
  · obtain ⟨a, B, sI, pins', σ', H', cls, d, y⟩ := xx
    have ue := y.eq
    subst ue
    obtain ⟨b, hb1, hyes, hno⟩ := y.want
    have J : Inv X pins σ' H' sI := y.inv.ofTry ok
    have sky : Sky B (X.env :: X.outer) a (Z cls d) X.env.locals s'.heap := by
      rw [← hs]
      exact y.sky
    show wpAny (model X.prog X.w) X.A (noteFrame (.ref a) X.env) _ _ _
    refine land (zk.steady _ _) hfr hf sky fun h3 fl3 up3 => ?_
    have J3 : Inv X pins σ' H' { s' with heap := h3 } := J.landed y.ground fl3.1 (y.up.trans up3) y.os y.bare
    obtain ⟨oe3, vs3, he3, hz3, hd3⟩ := fl3.there
    have nfr : a ∉ frs (X.env :: X.outer) := fun hm => by
      obtain ⟨_, o', e', hnf⟩ := fl3.2.2.1.mem hm
      have eo := Option.some.inj (he3.symm.trans e')
      subst eo
      exact hnf _ hd3
    have nL : a ≠ X.env.locals := fun z => nfr (List.mem_filterMap.mpr ⟨X.env, List.mem_cons_self, by rw [hf, z]⟩)
    have nF : a ∉ X.fs := fun hm => by
      obtain ⟨e, he, q⟩ := List.mem_filterMap.mp hm
      exact nfr (List.mem_filterMap.mpr ⟨e, List.mem_cons_of_mem _ he, q⟩)
    have S3 := J3.suite he3 hd3 y.free nL nF
    refine wpAny_handleBy_cons (codeAny_handlers_test ?_) (by intro q; cases q)
    have LT : PySem.W.Looks (model X.prog X.w) h3 (typeOf (.ref a)) cls := fun A Q E s k q => wpAny_typeOf_ref (k _ _ he3) (by rw [zk.cls _ _ _ hz3]; exact q)
    have LM := PySem.W.exm_one (M := model X.prog X.w) (J3.kIn) LT hb1
    have named : ∀ {Q : Value → Shared → Prop} {E : Value → Shared → Prop}, Q c { s' with heap := h3 } → wpAny (model X.prog X.w) (X.A.mark (some (.ref a))) (eval (.Name x np) X.env) Q E { s' with heap := h3 } := fun {Q E} q => by
      obtain ⟨hg, hdbg, hm | ⟨hm, hv, hnn⟩⟩ := hc
      · exact ld_glob (X := X.suite a ((a, oe3) :: (X.pn ++ pins))) S3 hg hm q hdbg
      · exact ld_blt (X := X.suite a ((a, oe3) :: (X.pn ++ pins))) S3 hg hm hv q hnn hdbg
    refine named (LM.here ?_)
    cases b with
    | true =>
      refine codeAny_handlers_suite_as ?_
      refine HandSPX.lands_againZ fl3 fun h4 fl4 up4 => ?_
      have J4 : Inv X pins σ' H' { s' with heap := h4 } := J.landed y.ground fl4.1 ((y.up.trans up3).trans up4) y.os y.bare
      obtain ⟨oe4, vs4, he4, hz4, hd4⟩ := fl4.there
      have S4 := J4.suite he4 hd4 y.free nL nF
      refine store_ok (X := X.suite a ((a, oe4) :: (X.pn ++ pins))) (v := .ref a) S4 hN hi (.inl hln) rfl (fun s5 S5 => ?_) (.inr hln)
      refine wpAny_mono ((hsu a oe4 cls d (X.pn ++ pins) hz4 ⟨_, hd4⟩).run [] s5 _ H' _ S5 (hyes rfl a y.free)) (fun f s6 hsp => ?_) (fun _ _ z => False.elim z)
      have done : ∀ {σ6 : St} {H6 : Hp} {Q : Shared → Prop}, Inv (X.suite a ((a, oe4) :: (X.pn ++ pins))) [] σ6 H6 s6 → (∀ s7, Inv X pins (σ6.set i none) H6 s7 → Q s7) →
          wpAny (model X.prog X.w) X.A (do bindName X.env n .none; unbindBehindTheSuite X.env n pos') (fun _ s7 => Q s7) X.xe s6 := fun {σ6 H6 Q} S6 hq => gone_ok (S6.unsuite ok) hN hi hln hq
      cases f with
      | next =>
        obtain ⟨σ6, H6, S6, q6⟩ := hsp
        exact done S6 fun s7 J7 => ⟨_, _, J7, q6⟩
      | brk =>
        obtain ⟨σ6, H6, S6, q6⟩ := hsp
        exact done S6 fun s7 J7 => ⟨_, _, J7, q6⟩
      | cont =>
        obtain ⟨σ6, H6, S6, q6⟩ := hsp
        exact done S6 fun s7 J7 => ⟨_, _, J7, q6⟩
      | ret u =>
        obtain ⟨v6, σ6, H6, S6, r6, q6⟩ := hsp
        exact done S6 fun s7 J7 => ⟨_, _, _, J7, r6, q6⟩
    | false =>
      show wpAny _ X.A (handleBy (.ref a) X.env []) _ _ _
      refine wpAny_handleBy_nil ?_
      obtain ⟨k1, k2, k3, oe, vs, T, oT, ts', he, hz, hd, h1, hr⟩ := id fl3
      unfold PySem.passOn
      refine wpAny_bind (wpAny_field he hd h1 ?_)
      rw [if_neg (show ¬ ((Value.ref T == Value.none) = true) from by simp)]
      have fin : wpAny (model X.prog X.w) X.A (setFlight (.ref a) X.env.frame) (fun _ s4 => wpAny (model X.prog X.w) X.A (throw (.ref a) : Sem Flow) (SP X pins D) X.xe s4) X.xe { s' with heap := h3 } := by
        rw [hf]
        refine HandSPX.setFlight_upZ fl3 fun h4 hh4 up4 => wpAny_throw (tk _ _ ?_)
        exact ⟨a, B, sI, pins, σ', H', cls, d, ⟨rfl, J, y.ground, (y.up.trans up3).trans up4, .inr (.inr (by rw [hs]; exact hh4)), y.free, y.os, y.bare, hno rfl⟩⟩
      first
        | exact wpAny_bind (wpAny_pure (wpAny_bind fin))
        | exact wpAny_bind fin
  · cases f with
    | next =>
      obtain ⟨σ', H', J', q⟩ := hsp
      exact wpAny_execs_nil ⟨σ', H', J'.ofTry ok, q⟩
    | brk =>
      obtain ⟨σ', H', J', q⟩ := hsp
      exact ⟨σ', H', J'.ofTry ok, q⟩
    | cont =>
      obtain ⟨σ', H', J', q⟩ := hsp
      exact ⟨σ', H', J'.ofTry ok, q⟩
    | ret u =>
      obtain ⟨v, σ', H', J', r, q⟩ := hsp
      exact ⟨v, σ', H', J'.ofTry ok, r, q⟩
end
end EA
end
section
set_option Elab.async false
set_option linter.all false
set_option maxRecDepth 100000
set_option maxHeartbeats 2000000
/-! The word Za: an own exception's class and its args; raising one without arguments; a def that looks at the handled exception. -/
namespace EA
open PySem PySem.Spec PyProof.Rows L2 L2H
/-- class, no dict, no context, the args at d -/
def ArgsAt (d : Option Addr) (o : Obj) : Prop := ∃ t, d = some t ∧ ∀ vs : Array Value, o.data = .fields vs → vs[0]? = some (.ref t)
theorem steady_args {d : Option Addr} : PXN.Steady1 (ArgsAt d) := fun o v h => by
  obtain ⟨t, e, h⟩ := h
  refine ⟨t, e, ?_⟩
  obtain ⟨c, dd, dt, sl⟩ := o
  cases dt with
  | fields vs0 =>
    intro vs q
    have q2 : vs0.setIfInBounds 1 v = vs := Data.fields.inj q
    have q3 : (vs0.setIfInBounds 1 v)[0]? = vs0[0]? := by simp [Array.getElem?_setIfInBounds]
    rw [← q2, q3]
    exact h vs0 rfl
  | _ =>
    intro vs q
    exact Data.noConfusion q
def Za : ZW := fun cls d o => (o.cls = cls ∧ o.dict = none) ∧ PXN.CtxN o ∧ ArgsAt d o
theorem zaOk : ZOk Za := ⟨fun _ _ => PXN.steady_and (PXN.steady_and PXN.steady_cls PXN.steady_dict) (PXN.steady_and PXN.steady_ctx steady_args), fun _ _ _ h => h.1.1⟩
section
variable {P : Program} {w : World} {H : Hp} {h h' : Heap} {t : Addr} {o : HO} {fs ex : List Addr}
theorem un_gone (k : ∀ b u, h.get? b = some u → h'.get? b = some u) (ht : h.get? t = none) (hn : H t = none) : Un fs ex H (upd H t o) h h' := by
  have ne : ∀ b u, h.get? b = some u → b ≠ t := fun b u q z => by rw [z, ht] at q; cases q
  exact ⟨fun b u q _ _ _ => k b u q, fun b u q _ _ _ => ⟨u.slots, k b u q⟩, fun b u q n _ => by rw [upd_ne (ne b u q)]; exact n, fun b u q _ => ⟨u, k b u q⟩,
    fun b xs q => by rw [upd_ne (ne_of_none q hn)]; exact q, fun b u xs q => by rw [upd_ne (ne_of_none q hn)]; exact q, fun b ps q => ⟨#[], by rw [upd_ne (ne_of_none q hn), q]; simp⟩⟩
theorem hok_gone (x : HOk P w H h) (k : ∀ b u, h.get? b = some u → h'.get? b = some u) (hn : H t = none) (new : ObjOk P w (upd H t o) h' t o) : HOk P w (upd H t o) h' := fun b u e => by
  by_cases hb : b = t
  · subst hb
    rw [upd_same] at e
    cases e
    exact new
  · rw [upd_ne hb] at e
    exact (x b u e).stay (fun c v _ q => k c v q) (fun c q => by rw [upd_ne (ne_of_none q hn)]; exact q) fun c xs q => by rw [upd_ne (ne_of_none q hn)]; exact q
end
section
variable {X : Cx} {C : Addr} {bmB : List Value} {B newId initId : String}
/-- X() -/
theorem pmk0 {x : Str} {p pos : Pos} (F : ExcBaseFacts B newId initId bmB) (q : PySem.W.excIn X.K C bmB newId = true) (gC : X.mg x = some (.ref C)) (kC : PySem.W.keepIn X.K (.ref C) = true) (r : Raises X (.ref C)) (hg : Gl X x)
    (hdb : (x == ("__debug__" : Str)) = false := by decide) : PMk Za X (.Call (.Name x p) [] [] pos) (fun _ H Q => ∀ t, H t = none → Q (.ref C) (some t) (upd H t (.tup []))) := by
  intro pins s σ H Q I h
  refine wpAny_Call_Name_kw (ld_glob I hg gC ?_ hdb)
  refine PySem.W.callWith_K0 (first := []) I.kIn kC ?_
  show wpAny _ _ (call (.ref C) []) _ _ _
  obtain ⟨bm, N, nm, qn, bs, hdct, sn, sub, ab, col, dd, k0, k1, k2, k3, k5, mN, hC, hN, hni, T⟩ := exc_obj I.kIn q
  refine wpAny_call_exc_subT F T hC hN hni (fun h' e hm => ?_) (Nat.zero_le _)
  obtain ⟨t, he, ht0, ht⟩ := hm.there
  have ne : e ≠ t := fun z => by
    rw [z, ht] at he
    cases he
  obtain ⟨G, g1, g2⟩ := restrict h' fun b => decide (b ≠ e)
  have gk : ∀ b, b ≠ e → G.get? b = h'.get? b := fun b hb => g1 b (decide_eq_true hb)
  have ge : G.get? e = none := g2 e (by simp)
  have old : ∀ b o, s.heap.get? b = some o → G.get? b = some o := fun b o z => (gk b (fun y => by rw [y, hm.new] at z; cases z)).trans (hm.keeps b o z)
  have nt : H t = none := I.hok.gone ht0
  have nE : H e = none := I.hok.gone hm.new
  have ob : ObjOk X.prog X.w (upd H t (.tup [])) G t (.tup []) := ⟨Nat.zero_le _, [], .nil, _, (gk t (Ne.symm ne)).trans ht, rfl, _, rfl⟩
  have J : Inv X pins σ (upd H t (.tup [])) { s with heap := G } := I.un (h' := G) (t' := s.toks) (un_gone old ht0 nt) (hok_gone I.hok old nt ob)
  refine ⟨e, _, _, { s with heap := G }, _, .ref C, some t, rfl, J, fun b o z => ?_, ge, he, ⟨⟨rfl, rfl⟩, fun vs z => by cases z; rfl, t, rfl, fun vs z => by cases z; rfl⟩, rfl, rfl, ?_, rfl, I.bare, r, h t nt⟩
  · by_cases hb : b = e
    · have z' : G.get? b = some o := z
      rw [hb, ge] at z'
      cases z'
    · exact (gk b hb).symm.trans z
  · rw [upd_ne ne]
    exact nE
end
/-! ### a def that is called with the handled exception -/
abbrev SpA := Addr → Value → Option Addr → Sp
structure FnA (P : Program) (w : World) (K : PySem.W.Frag) (mg : Str → Option Value) (base : Heap) (k : Nat) (f : Addr) (fd : FuncData) (ps : List Str) (sp : SpA) : Prop where
  len : ∀ a cls d vs H Q E, sp a cls d vs H Q E → vs.length = ps.length
  run : ∀ (A : Around) (outer : List Env) (s : Shared) (H : Hp) (args : Args) (us : List Value) (vs : List V) (Q : VK) (E : XK) (p : Addr × Obj) (cls : Value) (d : Option Addr), RoomH k A → Hot1 A p → PinOk outer H s p → Za cls d p.2 → Env0 P w K mg base A outer s H → BindsTo s fd args (ps.zip us) → Vals vs us →
    sp p.1 cls d vs H Q E → codeAny (model P w) A (.call (.ref f) args) (CR CX0 outer P w H s Q E) s
theorem fn_ofA {P : Program} {w : World} {K : PySem.W.Frag} {mg : Str → Option Value} {base : Heap} {k : Nat} {f : Addr} {name qual : Str} {params : Arguments} {body : List Stmt} {scope : Scope} {dV kV doc pm cdv ct oc : Value} {an od : Option Addr}
    {osl : Array (Option Value)} {N ps : List Str} {sp : SpA} (lk : K.lookup f = some ⟨oc, od, .func (PySem.W.fnOf name qual params body scope dV kV doc pm an cdv ct), osl⟩) (hcd : PySem.W.codeIn K cdv qual = true) (S : FnScope N ps scope)
    (len : ∀ a cls d vs H Q E, sp a cls d vs H Q E → vs.length = ps.length)
    (hbody : ∀ (A : Around) (outer : List Env) (s : Shared) (H : Hp) (vs : List V) (Q : VK) (E : XK) (p : Addr × Obj) (cls : Value) (d : Option Addr), Hot1 A p → Za cls d p.2 → RoomH k (A.deeper (envOfC qual scope s.heap.objs.size f cdv)) → sp p.1 cls d vs H Q E →
      ∃ t, PSs (cxH CX0 P w K mg base N qual scope f cdv A outer s H E p) body t ∧ t { nx := fun _ H' => Q .non H', rt := Q } (L2.start N vs) H) :
    FnA P w K mg base (k + 1) f (PySem.W.fnOf name qual params body scope dV kV doc pm an cdv ct) ps sp := by
  refine ⟨len, fun A outer s H args us vs Q E p cls d hr hot hpin hz e0 hb r hsp => ?_⟩
  have kb : ∀ b o, base.get? b = some o → s.heap.get? b = some o := fun b o e => (e0.bs b o e).1
  have kin : K.In s.heap := e0.mod.kin.keeps kb
  have names : ∀ y ∈ ps.zip us, scope.names.lookup y.1 = some .local ∨ (scope.names.lookup y.1 = some .cell ∧ ((cellsFrom (s.heap.objs.size + 1) scope.names []).lookup y.1).isSome = true) := fun ⟨n, v⟩ hy => by
    rcases S.par n (List.of_mem_zip hy).1 with q | q
    · exact .inl q
    · exact .inr ⟨q, PySem.W.cellsFrom_some _ _ _ (.inl q)⟩
  refine codeAny_call_function hr.depth (kin _ _ lk) rfl S.co S.gen rfl (PySem.W.codeRec_of kin hcd) (hb _ _ _ _ (wpAny_newFunctionEnv_cells S.kind names fun env he s1 x => ?_))
  subst he
  refine ⟨(e0.mod.nolimit.keeps kb).keeps x.toInCall.keep, codeAny_func ?_⟩
  obtain ⟨t, ht, hq⟩ := hbody A outer s H vs Q E p cls d hot hz (hr.deeper _) hsp
  refine wpAny_mono (ht.run [] s1 (L2.start N vs) H _ (inv_startH S hpin e0 (len _ _ _ _ _ _ _ hsp) r x) hq) (fun fl s' hs => ?_) fun e s' hs => hs
  cases fl with
  | ret u =>
    obtain ⟨v, σ', H', J, rv, q⟩ := hs
    exact ⟨v, H', J.os, J.bare, J.base, J.hok, rv, q⟩
  | next =>
    obtain ⟨σ', H', J, q⟩ := hs
    exact ⟨V.non, H', J.os, J.bare, J.base, J.hok, rfl, q⟩
  | brk =>
    obtain ⟨_, _, _, q⟩ := hs
    exact False.elim q
  | cont =>
    obtain ⟨_, _, _, q⟩ := hs
    exact False.elim q
theorem okA {P : Program} {w : World} {K : PySem.W.Frag} {mg : Str → Option Value} {base : Heap} {x qual : Str} {st : Stmt} {f : Addr} {fd : FuncData} {N ps : List Str} {k : Nat} {sp : SpA} (F : Fun K x qual st f fd) (S : FnScope N ps (defScope st)) (len : ∀ a cls d vs H Q E, sp a cls d vs H Q E → vs.length = ps.length)
    (hbody : ∀ (cdv : Value) (A : Around) (outer : List Env) (s : Shared) (H : Hp) (vs : List V) (Q : VK) (E : XK) (p : Addr × Obj) (cls : Value) (d : Option Addr), Hot1 A p → Za cls d p.2 → RoomH k (A.deeper (envOfC qual (defScope st) s.heap.objs.size f cdv)) → sp p.1 cls d vs H Q E →
      ∃ t, PSs (cxH CX0 P w K mg base N qual (defScope st) f cdv A outer s H E p) (defBody st) t ∧ t { nx := fun _ H' => Q .non H', rt := Q } (L2.start N vs) H) : FnA P w K mg base (k + 1) f fd ps sp := by
  obtain ⟨oc, od, kV, doc, pm, an, cdv, ct, osl, rfl, lk, hcd⟩ := F.ex
  exact fn_ofA lk hcd S len fun A outer s H vs Q E p cls d h1 h2 h3 h4 => hbody cdv A outer s H vs Q E p cls d h1 h2 h3 h4
/-- f(e) in the suite of the handled exception a -/
def tCallA (a : Addr) (cls : Value) (d : Option Addr) (sp : SpA) (t : TA) : TE := fun σ H Q => t σ H fun vs H1 => sp a cls d vs H1 Q fun _ _ _ => False
theorem pe_callA {X : Cx} {a : Addr} {oe : Obj} {cls : Value} {d : Option Addr} {pn : List (Addr × Obj)} {k : Nat} {f : Addr} {fd : FuncData} {ps : List Str} {sp : SpA} {x : Str} {q pos : Pos} {e : Expr} {es : List Expr} {t : TA}
    (hz : Za cls d oe) (hf : ∃ vs, oe.data = .fields vs) (F : FnA X.prog X.w X.K X.mg X.base k f fd ps sp) (hr : RoomH k X.A) (hg : Gl X x) (hm : X.mg x = some (.ref f)) (hk : PySem.W.keepIn X.K (.ref f) = true) (hb : Binds X.K fd ps [])
    (ha : PA (X.suite a ((a, oe) :: pn)) (e :: es) t) (hdb : (x == ("__debug__" : Str)) = false := by decide) (he : starEach (e :: es) X.env = (false, eval e X.env) :: starEach es X.env := by rfl) (hpl : (backTo pos (starEach es X.env)).any (·.1) = false := by rfl) :
    PE (X.suite a ((a, oe) :: pn)) (.Call (.Name x q) (e :: es) [] pos) (tCallA a cls d sp t) := by
  refine ⟨fun pins s σ H Q I h => ?_⟩
  refine wpAny_Call_Name_kw (ld_glob I hg hm ?_ hdb)
  refine PySem.W.callWith_K (h₀ := X.base) I.ok.mod.kin hk (thn (ha.run pos pins s σ H _ I h) fun us s1 ⟨vs, H1, I1, r, q⟩ => ⟨I1.kIn, ?_⟩) he hpl
  have hl : us.length = ps.length := by rw [← r.length]; exact F.len _ _ _ _ _ _ _ q
  have b := hb s1 us I1.kIn (by rw [List.append_nil]; exact hl)
  rw [List.append_nil] at b
  have P1 := I1.pin (a, oe) (List.mem_append_left _ List.mem_cons_self)
  have hpin : PinOk X.stack H1 s1 (a, oe) := ⟨P1.1, P1.2.1, fun hm => (List.mem_cons.mp (I1.stkSub a hm)).elim P1.2.2.1 P1.2.2.2.1, P1.2.2.2.2⟩
  obtain ⟨ws, hw⟩ := hf
  have hot : Hot1 (X.suite a ((a, oe) :: pn)).A (a, oe) := ⟨rfl, ws, hw, hz.2.1 ws hw⟩
  refine wpAny_call (codeAny_mono (F.run (X.suite a ((a, oe) :: pn)).A X.stack s1 H1 ⟨us, []⟩ us vs Q _ (a, oe) cls d ⟨hr.dp, hr.un⟩ hot hpin hz I1.env0 b r q) fun r s' hq => ?_)
  cases r with
  | error e => exact False.elim hq
  | ok fl =>
    cases fl with
    | ret u => exact I1.after hq
    | next => exact False.elim hq
    | brk => exact False.elim hq
    | cont => exact False.elim hq
/-! isinstance(e, c), str(e): e the exception that is pinned -/
section
variable {X : Cx} {a D t : Addr} {oe : Obj}
theorem call_isA (C : L2.ExcC X.K D) (hz : Za (.ref D) (some t) oe) (hf : ∃ vs, oe.data = .fields vs) (hp : (a, oe) ∈ X.pn) : CallR X (.builtin "isinstance") (rIsE X.K D a) := by
  intro pins s σ H xs us Q I r h
  obtain ⟨c, cv, b, rfl, hcv, e, q⟩ := h
  obtain ⟨u1, u2, rfl, r1, r2⟩ := vals2 r
  obtain rfl : u1 = Value.ref a := r1
  have ec := hcv _ r2
  subst ec
  obtain ⟨hget, _⟩ := I.pin (a, oe) (List.mem_append_left _ hp)
  obtain ⟨vs, hv⟩ := hf
  have J : PySem.W.InstAt s.heap a oe D none := by
    obtain ⟨oc, od, oda, osl⟩ := oe
    obtain ⟨⟨h1, h2⟩, _⟩ := hz
    dsimp only at h1 h2 hv
    subst h1 h2 hv
    exact ⟨hget, rfl, rfl, trivial⟩
  exact PySem.W.kia_one (PySem.W.handS_kitx_exc C.hg C.hk C.hs C.hd C.ha C.hn C.ht C.hm) I.kIn J e (fun z => nomatch z) fun tk => ⟨.bl b, H, I.kept (t' := tk) fun _ _ z => z, rfl, q⟩
def rStrA (a t : Addr) : List V → Hp → VK → Prop := fun xs H Q => xs = [.ref a] ∧ H t = some (.tup []) ∧ Q (.str Str.empty) H
theorem call_strA (hu : X.A.units + 2 < cLine) (hs : PySem.W.findIn X.K (.ref D) "__str__" = some (some (.builtin "BaseException.__str__"))) (hB : PySem.W.subIn X.K (.ref D) (.type "BaseException") = some true)
    (hz : Za (.ref D) (some t) oe) (hf : ∃ vs, oe.data = .fields vs) (hp : (a, oe) ∈ X.pn) : CallR X (.type "str") (rStrA a t) := by
  intro pins s σ H xs us Q I r h
  obtain ⟨rfl, ht, q⟩ := h
  cases r with
  | cons rx rr =>
    cases rr
    rename_i u
    obtain rfl : u = Value.ref a := rx
    obtain ⟨hget, _⟩ := I.pin (a, oe) (List.mem_append_left _ hp)
    obtain ⟨vs, hv⟩ := hf
    obtain ⟨⟨h1, h2⟩, _, t', et, hargs⟩ := hz
    cases et
    obtain ⟨_, its, rv, o, e1, e2, n, e3⟩ := (show ObjOk X.prog X.w H s.heap t (.tup []) from I.hok t _ ht)
    cases rv
    exact PySem.P.str_of_C_none hu ⟨I.kIn, oe, vs, hget, h1, hv, hargs vs hv⟩ ⟨o, n, e1, e2, e3⟩ hs hB ⟨.str Str.empty, H, I.tok _, ⟨_, rfl⟩, q⟩
end
end EA
end
section
set_option Elab.async false
set_option linter.all false
set_option maxRecDepth 100000
set_option maxHeartbeats 2000000
/-! Data without lists; what calls leave of the heap. -/
namespace MS
open PySem PySem.Spec PyProof.Rows L2
abbrev St := L2.St
mutual
inductive Dt (K : PySem.W.Frag) (H : Hp) : V → PyData → Prop
  | non : Dt K H .non .none
  | bl (b : Bool) : Dt K H (.bl b) (.bool b)
  | int (i : Int) : Dt K H (.int i) (.int i)
  | str (x : Str) : Dt K H (.str x) (.str x)
  | tup {a : Addr} {xs : List V} {ds : List PyData} : SqT K H a xs → DtAll K H xs ds → Dt K H (.ref a) (.tuple ds)
inductive DtAll (K : PySem.W.Frag) (H : Hp) : List V → List PyData → Prop
  | nil : DtAll K H [] []
  | cons {v : V} {vs : List V} {d : PyData} {ds : List PyData} : Dt K H v d → DtAll K H vs ds → DtAll K H (v :: vs) (d :: ds)
end
section
variable {K : PySem.W.Frag} {H H' : Hp}
mutual
theorem Dt.dp : ∀ (d : PyData) (v : V), Dt K H v d → Dp K H v d
  | .none, _, h => by cases h; exact .non
  | .bool b, _, h => by cases h; exact .bl b
  | .int i, _, h => by cases h; exact .int i
  | .str x, _, h => by cases h; exact .str x
  | .tuple ds, _, h => by
    cases h with
    | tup hs ha => exact .tup hs (DtAll.dp ds _ ha)
  | .list _, _, h => by cases h
  | .dict _, _, h => by cases h
theorem DtAll.dp : ∀ (ds : List PyData) (vs : List V), DtAll K H vs ds → DpAll K H vs ds
  | [], _, h => by cases h; exact .nil
  | d :: ds, _, h => by
    cases h with
    | cons h1 h2 => exact .cons (Dt.dp d _ h1) (DtAll.dp ds _ h2)
end
theorem DtAll.length : ∀ {vs : List V} {ds : List PyData}, DtAll K H vs ds → vs.length = ds.length
  | _, [], h => by cases h; rfl
  | _, _ :: ds, h => by
    cases h with
    | cons h1 h2 => rw [List.length_cons, List.length_cons, DtAll.length h2]
theorem DtAll.get : ∀ {vs : List V} {ds : List PyData} {i : Nat} {d : PyData}, DtAll K H vs ds → ds[i]? = some d → ∃ v, vs[i]? = some v ∧ Dt K H v d
  | _, [], _, _, h, e => by simp at e
  | _, x :: ds, 0, d, h, e => by
    cases h with
    | cons h1 h2 =>
      simp at e
      subst e
      exact ⟨_, rfl, h1⟩
  | _, x :: ds, i + 1, d, h, e => by
    cases h with
    | cons h1 h2 =>
      obtain ⟨v, hv, hd⟩ := DtAll.get (i := i) h2 (by simpa using e)
      exact ⟨v, by simpa using hv, hd⟩
theorem DtAll.of_get : ∀ {vs : List V} {ds : List PyData} {i : Nat} {v : V}, DtAll K H vs ds → vs[i]? = some v → ∃ d, ds[i]? = some d ∧ Dt K H v d
  | _, [], _, _, h, e => by cases h; simp at e
  | _, x :: ds, 0, v, h, e => by
    cases h with
    | cons h1 h2 =>
      simp at e
      subst e
      exact ⟨_, rfl, h1⟩
  | _, x :: ds, i + 1, v, h, e => by
    cases h with
    | cons h1 h2 =>
      obtain ⟨d, hv, hd⟩ := DtAll.of_get (i := i) h2 (by simpa using e)
      exact ⟨d, by simpa using hv, hd⟩
theorem DtAll.append : ∀ {vs us : List V} {ds es : List PyData}, DtAll K H vs ds → DtAll K H us es → DtAll K H (vs ++ us) (ds ++ es)
  | _, _, [], _, h, h2 => by cases h; exact h2
  | _, _, _ :: ds, _, h, h2 => by
    cases h with
    | cons a b => exact .cons a (DtAll.append b h2)
theorem DtAll.take : ∀ {vs : List V} {ds : List PyData} (n : Nat), DtAll K H vs ds → DtAll K H (vs.take n) (ds.take n)
  | _, _, 0, _ => .nil
  | _, [], n + 1, h => by cases h; exact .nil
  | _, _ :: ds, n + 1, h => by
    cases h with
    | cons a b => exact .cons a (DtAll.take n b)
theorem DtAll.drop : ∀ {vs : List V} {ds : List PyData} (n : Nat), DtAll K H vs ds → DtAll K H (vs.drop n) (ds.drop n)
  | _, _, 0, h => h
  | _, [], n + 1, h => by cases h; exact .nil
  | _, _ :: ds, n + 1, h => by
    cases h with
    | cons a b => exact DtAll.drop n b

/-- what stood stands (but for what is at an address of B), the tables are tables -/
structure Gx (B : Addr → Prop) (H H' : Hp) : Prop where
  keep : ∀ a o, H a = some o → ¬ B a → (∀ ps, o ≠ .tbl ps) → H' a = some o
  tab : ∀ P, GxR.TabG H P → GxR.TabG H' P
abbrev Gr : Hp → Hp → Prop := Gx fun _ => False
theorem Gx.refl {B : Addr → Prop} : Gx B H H := ⟨fun _ _ e _ _ => e, fun _ h => h⟩
theorem Gx.trans {B : Addr → Prop} {H2 : Hp} (x : Gx B H H') (y : Gx B H' H2) : Gx B H H2 := ⟨fun a o e nb nt => y.keep a o (x.keep a o e nb nt) nb nt, fun P h => y.tab P (x.tab P h)⟩
theorem Gx.of_gr {B : Addr → Prop} (x : Gr H H') : Gx B H H' := ⟨fun a o e _ nt => x.keep a o e (fun z => z) nt, x.tab⟩
theorem Gx.new {B : Addr → Prop} {p : Addr} {o : HO} (h : H p = none) : Gx B H (upd H p o) := ⟨fun a u e _ _ => by rw [upd_ne (ne_of_none e h)]; exact e, fun P ⟨ps, e, t⟩ => ⟨ps, by rw [upd_ne (ne_of_none e h)]; exact e, t⟩⟩
theorem Gx.tabbed {B : Addr → Prop} {P : Addr} (t : GxR.TabG H P) (x : GxR.Tabbed P H H') : Gx B H H' := by
  obtain ⟨g, k⟩ := x
  refine ⟨fun a o e _ nt => ?_, fun P' h => ?_⟩
  · have ne : a ≠ P := fun z => by
      obtain ⟨ps, e2, _⟩ := t
      rw [z, e2] at e
      cases e
      exact nt ps rfl
    rw [k a ne]
    exact e
  · by_cases hP : P' = P
    · rw [hP]; exact g
    · obtain ⟨ps, e, q⟩ := h
      exact ⟨ps, by rw [k P' hP]; exact e, q⟩
/-- no tuple stands at an address of B -/
def NoT (B : Addr → Prop) (H : Hp) : Prop := ∀ a, B a → (∃ xs, H a = some (.lst xs))
theorem SqT.gx {B : Addr → Prop} {a : Addr} {xs : List V} (hB : NoT B H) (x : Gx B H H') (h : SqT K H a xs) : SqT K H' a xs := by
  rcases h with h | h
  · have nb : ¬ B a := fun z => by
      obtain ⟨ys, e⟩ := hB a z
      rcases h with h | ⟨o, h⟩
      · rw [h] at e; cases e
      · rw [h] at e; cases e
    rcases h with h | ⟨o, h⟩
    · exact .inl (.inl (x.keep _ _ h nb fun ps z => by cases z))
    · exact .inl (.inr ⟨o, x.keep _ _ h nb fun ps z => by cases z⟩)
  · exact .inr h
theorem NoT.none : NoT (fun _ => False) H := fun _ z => z.elim
mutual
theorem Dt.gx {B : Addr → Prop} (hB : NoT B H) (x : Gx B H H') : ∀ {d : PyData} {v : V}, Dt K H v d → Dt K H' v d
  | .none, _, h => by cases h; exact .non
  | .bool b, _, h => by cases h; exact .bl b
  | .int i, _, h => by cases h; exact .int i
  | .str x, _, h => by cases h; exact .str x
  | .tuple ds, _, h => by
    cases h with
    | tup hs ha => exact .tup (SqT.gx hB x hs) (DtAll.gx hB x ha)
  | .list _, _, h => by cases h
  | .dict _, _, h => by cases h
theorem DtAll.gx {B : Addr → Prop} (hB : NoT B H) (x : Gx B H H') : ∀ {ds : List PyData} {vs : List V}, DtAll K H vs ds → DtAll K H' vs ds
  | [], _, h => by cases h; exact .nil
  | d :: ds, _, h => by
    cases h with
    | cons h1 h2 => exact .cons (Dt.gx hB x h1) (DtAll.gx hB x h2)
end
theorem Dt.gr {d : PyData} {v : V} (x : Gr H H') (h : Dt K H v d) : Dt K H' v d := Dt.gx NoT.none x h
theorem DtAll.gr {ds : List PyData} {vs : List V} (x : Gr H H') (h : DtAll K H vs ds) : DtAll K H' vs ds := DtAll.gx NoT.none x h
/-! ### types -/
def tyD : PyData → String
  | .none => "NoneType"
  | .bool _ => "bool"
  | .int _ => "int"
  | .str _ => "str"
  | .tuple _ => "tuple"
  | .list _ => "list"
  | .dict _ => "dict"
theorem SqT.ty {a : Addr} {xs : List V} (h : SqT K H a xs) : TyX K H (.ref a) (.type "tuple") := by
  rcases h with (h | ⟨o, h⟩) | ⟨o, its, n, e, c, _⟩
  · exact .base (.tup h)
  · exact .fTuple h
  · exact .kTuple e c
theorem Dt.ty : ∀ {d : PyData} {v : V}, Dt K H v d → TyX K H v (.type (tyD d))
  | .none, _, h => by cases h; exact .base .non
  | .bool b, _, h => by cases h; exact .base (.bl b)
  | .int i, _, h => by cases h; exact .base (.int i)
  | .str x, _, h => by cases h; exact .base (.str x)
  | .tuple ds, _, h => by
    cases h with
    | tup hs ha => exact SqT.ty hs
  | .list _, _, h => by cases h
  | .dict _, _, h => by cases h
end
/-! ### in, repr -/
section
variable {X : Cx}
def rInT (K : PySem.W.Frag) : R2 := fun x y H Q => ∃ d ds, Dt K H x d ∧ Dt K H y (.tuple ds) ∧ SeqAt.shaped d = true ∧ SeqAt.shaped (.tuple ds) = true ∧ Q (.bl (ds.any fun z => PyData.eqv z d)) H
theorem op_inT (hu : X.A.units + 65 < cLine) : OpR X (compareOp .In) (rInT X.K) := by
  intro pins s σ H x y v u Q I rx ry h
  obtain ⟨d, ds, hd, he, sd, se, q⟩ := h
  obtain ⟨as, r1⟩ := Dp.reads I d x v (Dt.dp _ _ hd) rx
  obtain ⟨bs, r2⟩ := Dp.reads I (.tuple ds) y u (Dt.dp _ _ he) ry
  have hroom : X.A.units + 1 + min (PyData.depthAll ds) d.depth < cLine := by
    have h1 := SeqAt.depth_of_shaped sd
    have h2 : min (PyData.depthAll ds) d.depth ≤ d.depth := Nat.min_le_right _ _
    omega
  exact SeqAt.in_tuple_reads r2 r1 (SeqAt.canLay_of_shaped se) (SeqAt.canLay_of_shaped sd) hroom ⟨.bl _, H, I, rfl, q⟩
end
end MS
end
section
set_option Elab.async false
set_option linter.all false
set_option maxRecDepth 100000
set_option maxHeartbeats 4000000
namespace M4
open PySem PySem.Spec PyProof.Rows L2 MS
def top (i : Nat) : Stmt := PySem.Challenge.pw_manyshaped_k04_numbers_of_values.main.body.getD i (.Pass ⟨0, 0, 0, 0⟩)
abbrev s_is_number : Stmt := top 11
abbrev s_is_number_below : Stmt := top 12
abbrev s_is_nested : Stmt := top 13
abbrev s_are_nested : Stmt := top 14
abbrev s_shapes_below : Stmt := top 15
abbrev s_shapes_in : Stmt := top 16
/-- the built-ins that the text uses keep their names -/
structure Blt (mg : Str → Option Value) : Prop where
  isi : mg "isinstance" = none
  int : mg "int" = none
  bool : mg "bool" = none
  tuple : mg "tuple" = none
  len : mg "len" = none
  all : mg "all" = none
  sum : mg "sum" = none
/-! ### the mirror -/
def isNum : PyData → Bool
  | .int _ => true
  | _ => false
def numBelow (d : PyData) (e : Int) : Bool := match d with
  | .int i => decide (0 ≤ i) && decide (i < e)
  | _ => false
section
variable {P : Program} {w : World} {K : PySem.W.Frag} {mg : Str → Option Value} {base : Heap}
/-! ### is_number -/
def spIsNum (K : PySem.W.Frag) : Sp := fun vs H Q _ => ∃ v d, vs = [v] ∧ Dt K H v d ∧ Q (.bl (isNum d)) H
theorem sc_is_number : FnScope ["x"] ["x"] (defScope s_is_number) := ⟨rfl, rfl, rfl, by decide +kernel, rfl, by decide +kernel, by decide +kernel⟩
def isIntD : PyData → Bool
  | .int _ | .bool _ => true
  | _ => false
def isBoolD : PyData → Bool
  | .bool _ => true
  | _ => false
def isTupD : PyData → Bool
  | .tuple _ => true
  | _ => false
theorem kit_int {K : PySem.W.Frag} {d : PyData} {v : V} {H : Hp} (h : Dt K H v d) : PySem.W.kitOne K (.type (tyD d)) (.type "int") = some (isIntD d) := by
  cases h with
  | non => exact kit_ty (a := "NoneType") (r := false) (by decide +kernel)
  | bl b => exact kit_ty (a := "bool") (r := true) (by decide +kernel)
  | int i => exact kit_ty (a := "int") (r := true) (by decide +kernel)
  | str x => exact kit_ty (a := "str") (r := false) (by decide +kernel)
  | tup _ _ => exact kit_ty (a := "tuple") (r := false) (by decide +kernel)
theorem kit_bool {K : PySem.W.Frag} {d : PyData} {v : V} {H : Hp} (h : Dt K H v d) : PySem.W.kitOne K (.type (tyD d)) (.type "bool") = some (isBoolD d) := by
  cases h with
  | non => exact kit_ty (a := "NoneType") (r := false) (by decide +kernel)
  | bl b => exact kit_ty (a := "bool") (r := true) (by decide +kernel)
  | int i => exact kit_ty (a := "int") (r := false) (by decide +kernel)
  | str x => exact kit_ty (a := "str") (r := false) (by decide +kernel)
  | tup _ _ => exact kit_ty (a := "tuple") (r := false) (by decide +kernel)
theorem kit_tuple {K : PySem.W.Frag} {d : PyData} {v : V} {H : Hp} (h : Dt K H v d) : PySem.W.kitOne K (.type (tyD d)) (.type "tuple") = some (isTupD d) := by
  cases h with
  | non => exact kit_ty (a := "NoneType") (r := false) (by decide +kernel)
  | bl b => exact kit_ty (a := "bool") (r := false) (by decide +kernel)
  | int i => exact kit_ty (a := "int") (r := false) (by decide +kernel)
  | str x => exact kit_ty (a := "str") (r := false) (by decide +kernel)
  | tup _ _ => exact kit_ty (a := "tuple") (r := true) (by decide +kernel)
theorem ok_is_number {f : Addr} {fd : FuncData} {k : Nat} (B : Blt mg) (F : Fun K "is_number" "is_number" s_is_number f fd) : FnOk P w K mg base CX0 (k + 1) f fd ["x"] (spIsNum K) := by
  refine F.ok sc_is_number (fun vs H Q E h => ?_) (fun cdv A outer s H vs Q E hr h => ?_)
  · obtain ⟨v, d, rfl, _⟩ := h
    rfl
  obtain ⟨v, d, rfl, hd, q⟩ := h
  refine ⟨_, pss_one (ps_ret (pe_and (pe_callB call_isi (by rfl) B.isi (by decide +kernel) (pa_cons (pv 0) (pa_cons (pe_bltn (by rfl) B.int (by decide +kernel) (v := .ty "int") rfl) pa_nil)))
    (pe_one (pe_not (pe_callB call_isi (by rfl) B.isi (by decide +kernel) (pa_cons (pv 0) (pa_cons (pe_bltn (by rfl) B.bool (by decide +kernel) (v := .ty "bool") rfl) pa_nil))))))), ?_⟩
  refine ⟨_, rfl, _, _, _, _, _, rfl, .ty _, hd.ty, kit_int hd, _, rfl, ?_⟩
  cases hd with
  | int i => exact ⟨_, rfl, _, _, _, _, _, rfl, .ty _, (Dt.int (H := H) i).ty, kit_bool (Dt.int (H := H) i), _, rfl, q⟩
  | bl b => exact ⟨_, rfl, _, _, _, _, _, rfl, .ty _, (Dt.bl (H := H) b).ty, kit_bool (Dt.bl (H := H) b), _, rfl, q⟩
  | non => exact q
  | str x => exact q
  | tup hs ha => exact q
/-! ### is_number_below -/
def spNumBelow (K : PySem.W.Frag) : Sp := fun vs H Q _ => ∃ v d e, vs = [v, .int e] ∧ Dt K H v d ∧ Q (.bl (numBelow d e)) H
theorem sc_is_number_below : FnScope ["x", "end"] ["x", "end"] (defScope s_is_number_below) := ⟨rfl, rfl, rfl, by decide +kernel, rfl, by decide +kernel, by decide +kernel⟩
theorem ok_is_number_below {f g : Addr} {fd gd : FuncData} {k : Nat} (F : Fun K "is_number_below" "is_number_below" s_is_number_below f fd) (G : FnOk P w K mg base CX0 k g gd ["x"] (spIsNum K)) (mG : mg "is_number" = some (.ref g)) (kG : PySem.W.keepIn K (.ref g) = true) (bG : Binds K gd ["x"] []) :
    FnOk P w K mg base CX0 (k + 1) f fd ["x", "end"] (spNumBelow K) := by
  refine F.ok sc_is_number_below (fun vs H Q E h => ?_) (fun cdv A outer s H vs Q E hr h => ?_)
  · obtain ⟨v, d, e, rfl, _⟩ := h
    rfl
  obtain ⟨v, d, e, rfl, hd, q⟩ := h
  refine ⟨_, pss_one (ps_ret (pe_and (pe_call G hr rfl mG kG bG .nil pass0 (pa_cons (pv 0) pa_nil))
    (pe_one (pe_chain op_le op_lt pe_int (pv 0) (pv 1))))), ?_⟩
  refine ⟨_, rfl, _, _, rfl, hd, _, rfl, ?_⟩
  cases hd with
  | int i =>
    refine ⟨_, rfl, _, _, rfl, rfl, _, rfl, ite2 (fun c => ?_) (fun c => ?_)⟩
    · refine ⟨_, rfl, _, _, rfl, rfl, ?_⟩
      have e1 : numBelow (.int i) e = decide (i < e) := by
        show (decide (0 ≤ i) && decide (i < e)) = _
        rw [show decide (0 ≤ i) = true from c, Bool.true_and]
      rw [e1] at q
      exact q
    · have e1 : numBelow (.int i) e = false := by
        show (decide (0 ≤ i) && decide (i < e)) = _
        rw [show decide (0 ≤ i) = false from Bool.eq_false_iff.mpr c, Bool.false_and]
      rw [e1] at q
      exact q
  | non => exact q
  | bl b => exact q
  | str x => exact q
  | tup hs ha => exact q
end
end M4
end
section
set_option Elab.async false
set_option linter.all false
set_option maxRecDepth 100000
set_option maxHeartbeats 4000000
/-! Shapes as a datatype. -/
namespace MS
open PySem PySem.Spec PyProof.Rows L2
abbrev kS (x : Str) : PyData := .str x
inductive Sh where
  | letters (k : Nat)
  | self
  | both (xs : List Sh)
  | either (xs : List Sh)
  | after (n : Nat) (s : Sh)
  | some (s : Sh)
  | many (s : Sh)
  | chance (s : Sh)
namespace Sh
mutual
def data : Sh → PyData
  | letters k => .tuple [kS "letters", .int k]
  | self => .tuple [kS "self"]
  | both xs => .tuple [kS "both", .tuple (datas xs)]
  | either xs => .tuple [kS "either", .tuple (datas xs)]
  | after n s => .tuple [kS "after", .int n, data s]
  | some s => .tuple [kS "some", data s]
  | many s => .tuple [kS "many", data s]
  | chance s => .tuple [kS "chance", data s]
def datas : List Sh → List PyData
  | [] => []
  | x :: xs => data x :: datas xs
end
mutual
def size : Sh → Nat
  | letters _ => 1
  | self => 1
  | both xs => 1 + sizes xs
  | either xs => 1 + sizes xs
  | after _ s => 1 + size s
  | some s => 1 + size s
  | many s => 1 + size s
  | chance s => 1 + size s
def sizes : List Sh → Nat
  | [] => 0
  | x :: xs => size x + sizes xs
end
def wf : Nat → Sh → Prop
  | 0, _ => False
  | _ + 1, letters k => 1 ≤ k ∧ k ≤ 5
  | _ + 1, self => True
  | n + 1, both xs => 1 ≤ xs.length ∧ xs.length ≤ 4 ∧ ∀ x ∈ xs, wf n x
  | n + 1, either xs => 1 ≤ xs.length ∧ xs.length ≤ 4 ∧ ∀ x ∈ xs, wf n x
  | n + 1, after k s => k ≤ 4 ∧ wf n s
  | n + 1, some s => wf n s
  | n + 1, many s => wf n s
  | n + 1, chance s => wf n s
def inner : Sh → List Sh
  | letters _ => []
  | self => []
  | both xs => xs
  | either xs => xs
  | after _ s => [s]
  | some s => [s]
  | many s => [s]
  | chance s => [s]
theorem datas_map : ∀ xs : List Sh, datas xs = xs.map data
  | [] => rfl
  | x :: xs => by rw [datas, datas_map xs, List.map_cons]
theorem size_eq (s : Sh) : size s = 1 + sizes (inner s) := by
  cases s <;> simp [size, sizes, inner]
theorem size_pos (s : Sh) : 1 ≤ size s := by rw [size_eq]; omega
theorem wf_inner {n : Nat} {s : Sh} (h : wf (n + 1) s) : (inner s).length ≤ 4 ∧ ∀ x ∈ inner s, wf n x := by
  cases s with
  | letters k => exact ⟨Nat.zero_le _, fun x hx => by cases hx⟩
  | self => exact ⟨Nat.zero_le _, fun x hx => by cases hx⟩
  | both xs => exact ⟨h.2.1, h.2.2⟩
  | either xs => exact ⟨h.2.1, h.2.2⟩
  | after k s => exact ⟨(by decide : 1 ≤ 4), fun x hx => by rw [List.mem_singleton.mp hx]; exact h.2⟩
  | some s => exact ⟨(by decide : 1 ≤ 4), fun x hx => by rw [List.mem_singleton.mp hx]; exact h⟩
  | many s => exact ⟨(by decide : 1 ≤ 4), fun x hx => by rw [List.mem_singleton.mp hx]; exact h⟩
  | chance s => exact ⟨(by decide : 1 ≤ 4), fun x hx => by rw [List.mem_singleton.mp hx]; exact h⟩
theorem wf_mono {n : Nat} : ∀ {s : Sh}, wf n s → ∀ m, n ≤ m → wf m s := by
  induction n with
  | zero => intro s h; exact h.elim
  | succ n ih =>
    intro s h m hm
    obtain ⟨m, rfl⟩ : ∃ k, m = k + 1 := ⟨m - 1, by omega⟩
    cases s with
    | letters k => exact h
    | self => exact h
    | both xs => exact ⟨h.1, h.2.1, fun x hx => ih (h.2.2 x hx) m (by omega)⟩
    | either xs => exact ⟨h.1, h.2.1, fun x hx => ih (h.2.2 x hx) m (by omega)⟩
    | after k s => exact ⟨h.1, ih h.2 m (by omega)⟩
    | some s => exact ih (s := s) h m (by omega)
    | many s => exact ih (s := s) h m (by omega)
    | chance s => exact ih (s := s) h m (by omega)
/-- so many shapes at most are in a shape of so many levels -/
def cap : Nat → Nat
  | 0 => 0
  | n + 1 => 1 + 4 * cap n
theorem sizes_le {n : Nat} (hs : ∀ s, wf n s → size s ≤ cap n) : ∀ xs : List Sh, (∀ x ∈ xs, wf n x) → sizes xs ≤ xs.length * cap n
  | [], _ => by simp [sizes]
  | x :: xs, h => by
    have h1 := hs x (h x List.mem_cons_self)
    have h2 := sizes_le hs xs fun y hy => h y (List.mem_cons_of_mem _ hy)
    rw [sizes, List.length_cons, Nat.succ_mul]
    omega
theorem size_le : ∀ (n : Nat) (s : Sh), wf n s → size s ≤ cap n
  | 0, _, h => h.elim
  | n + 1, s, h => by
    obtain ⟨h1, h2⟩ := wf_inner h
    have h3 := sizes_le (size_le n) (inner s) h2
    have h4 : (inner s).length * cap n ≤ 4 * cap n := Nat.mul_le_mul_right _ h1
    rw [size_eq, cap]
    omega
theorem sizes_take_succ {xs : List Sh} {i : Nat} {x : Sh} (h : xs[i]? = .some x) : sizes (xs.take (i + 1)) = sizes (xs.take i) + size x := by
  induction xs generalizing i with
  | nil => simp at h
  | cons y ys ih =>
    cases i with
    | zero =>
      simp at h
      subst h
      simp [sizes]
    | succ i =>
      have h' : ys[i]? = .some x := by simpa using h
      have e := ih h'
      simp only [List.take_succ_cons, sizes]
      omega
theorem sizes_take_le (xs : List Sh) : ∀ i, sizes (xs.take i) ≤ sizes xs := by
  induction xs with
  | nil => intro i; simp [sizes]
  | cons y ys ih =>
    intro i
    cases i with
    | zero => simp [sizes]
    | succ i =>
      have := ih i
      simp only [List.take_succ_cons, sizes]
      omega
/-! depth of the data -/
theorem depths_le {n : Nat} (hs : ∀ s, wf n s → (data s).depth ≤ 2 * n ∧ (data s).canLay0 = true) : ∀ xs : List Sh, (∀ x ∈ xs, wf n x) → PyData.depthAll (datas xs) ≤ 2 * n ∧ PyData.canLayAll0 (datas xs) = true
  | [], _ => ⟨Nat.zero_le _, rfl⟩
  | x :: xs, h => by
    obtain ⟨h1, l1⟩ := hs x (h x List.mem_cons_self)
    obtain ⟨h2, l2⟩ := depths_le hs xs fun y hy => h y (List.mem_cons_of_mem _ hy)
    rw [datas]
    simp only [PyData.depthAll, PyData.canLayAll0, l1, l2, Bool.and_self]
    exact ⟨by omega, trivial⟩
theorem depth_le : ∀ (n : Nat) (s : Sh), wf n s → (data s).depth ≤ 2 * n ∧ (data s).canLay0 = true
  | 0, _, h => h.elim
  | n + 1, s, h => by
    have ih := depth_le n
    have o : ∀ x : Str, PyData.strOk x = true → (kS x).canLay0 = true := fun x h => by simp only [kS, PyData.canLay0, h]
    have d0 : ∀ x : Str, (kS x).depth = 0 := fun x => by simp only [kS, PyData.depth]
    have o1 := o "letters" (by decide +kernel)
    have o2 := o "self" (by decide +kernel)
    have o3 := o "both" (by decide +kernel)
    have o4 := o "either" (by decide +kernel)
    have o5 := o "after" (by decide +kernel)
    have o6 := o "some" (by decide +kernel)
    have o7 := o "many" (by decide +kernel)
    have o8 := o "chance" (by decide +kernel)
    cases s with
    | letters k => simp only [data, PyData.depth, PyData.depthAll, PyData.canLay0, PyData.canLayAll0, d0, o1, Bool.and_self]; exact ⟨by omega, by decide +kernel⟩
    | self => simp only [data, PyData.depth, PyData.depthAll, PyData.canLay0, PyData.canLayAll0, d0, o2, Bool.and_self]; exact ⟨by omega, by decide +kernel⟩
    | both xs =>
      obtain ⟨h1, h2⟩ := depths_le ih xs h.2.2
      simp only [data, PyData.depth, PyData.depthAll, PyData.canLay0, PyData.canLayAll0, d0, o3, h2, Bool.and_self]
      exact ⟨by omega, by decide +kernel⟩
    | either xs =>
      obtain ⟨h1, h2⟩ := depths_le ih xs h.2.2
      simp only [data, PyData.depth, PyData.depthAll, PyData.canLay0, PyData.canLayAll0, d0, o4, h2, Bool.and_self]
      exact ⟨by omega, by decide +kernel⟩
    | after k s =>
      obtain ⟨h1, h2⟩ := ih s h.2
      simp only [data, PyData.depth, PyData.depthAll, PyData.canLay0, PyData.canLayAll0, d0, o5, h2, Bool.and_self]
      exact ⟨by omega, by decide +kernel⟩
    | some s =>
      obtain ⟨h1, h2⟩ := ih s h
      simp only [data, PyData.depth, PyData.depthAll, PyData.canLay0, PyData.canLayAll0, d0, o6, h2, Bool.and_self]
      exact ⟨by omega, by decide +kernel⟩
    | many s =>
      obtain ⟨h1, h2⟩ := ih s h
      simp only [data, PyData.depth, PyData.depthAll, PyData.canLay0, PyData.canLayAll0, d0, o7, h2, Bool.and_self]
      exact ⟨by omega, by decide +kernel⟩
    | chance s =>
      obtain ⟨h1, h2⟩ := ih s h
      simp only [data, PyData.depth, PyData.depthAll, PyData.canLay0, PyData.canLayAll0, d0, o8, h2, Bool.and_self]
      exact ⟨by omega, by decide +kernel⟩
theorem shaped {n : Nat} {s : Sh} (h : wf n s) (hn : n ≤ 32) : SeqAt.shaped (data s) = true := by
  obtain ⟨h1, h2⟩ := depth_le n s h
  show ((data s).canLay0 && decide ((data s).depth ≤ 64)) = true
  rw [h2, decide_eq_true (show (data s).depth ≤ 64 by omega)]
  rfl
end Sh
end MS
end
section
set_option Elab.async false
set_option linter.all false
set_option maxRecDepth 100000
set_option maxHeartbeats 4000000
namespace M4
open PySem PySem.Spec PyProof.Rows L2 GE MS
/-! ### is_nested, are_nested: the mirror -/
def areN (f : PyData → Bool) : PyData → Bool
  | .tuple ys => decide (1 ≤ ys.length) && decide (ys.length ≤ 4) && ys.all f
  | _ => false
def posD : PyData → Bool
  | .int i => decide (0 < i)
  | _ => false
def nested : Nat → PyData → Bool
  | 0, _ => false
  | l + 1, .tuple (k :: r) => match r with
    | [] => PyData.eqv k (kS "self")
    | [x] => if PyData.eqv k (kS "self") = true then false else if PyData.eqv k (kS "after") = true then false else if PyData.eqv k (kS "letters") = true then numBelow x 6 && posD x
      else if ([kS "both", kS "either"].any fun z => PyData.eqv z k) = true then areN (nested l) x else ([kS "some", kS "many", kS "chance"].any fun z => PyData.eqv z k) && nested l x
    | [x, y] => if PyData.eqv k (kS "self") = true then false else if PyData.eqv k (kS "after") = true then numBelow x 5 && nested l y else false
    | _ => false
  | _ + 1, _ => false
/-! ### what is said of data -/
theorem shaped_item {ds : List PyData} {x : PyData} (h : SeqAt.shaped (.tuple ds) = true) (hx : x ∈ ds) : SeqAt.shaped x = true := by
  have h1 := SeqAt.canLay_of_shaped h
  have h2 := SeqAt.depth_of_shaped h
  have lay : ∀ (ds : List PyData), PyData.canLayAll0 ds = true → ∀ x ∈ ds, x.canLay0 = true := by
    intro ds
    induction ds with
    | nil => intro _ x hx; cases hx
    | cons d ds ih =>
      intro h x hx
      simp only [PyData.canLayAll0, Bool.and_eq_true] at h
      rcases List.mem_cons.mp hx with e | e
      · rw [e]; exact h.1
      · exact ih h.2 x e
  have dep : ∀ (ds : List PyData), ∀ x ∈ ds, x.depth ≤ PyData.depthAll ds := by
    intro ds
    induction ds with
    | nil => intro x hx; cases hx
    | cons d ds ih =>
      intro x hx
      simp only [PyData.depthAll]
      rcases List.mem_cons.mp hx with e | e
      · rw [e]; exact Nat.le_max_left _ _
      · exact Nat.le_trans (ih x e) (Nat.le_max_right _ _)
  have d1 := dep ds x hx
  simp only [PyData.depth] at h2
  show (x.canLay0 && decide (x.depth ≤ 64)) = true
  rw [Bool.and_eq_true]
  exact ⟨lay ds h1 x hx, decide_eq_true (by omega)⟩
theorem Room.u65 {k : Nat} {A : Around} (hr : Room k A) : A.units + 65 < cLine := by have := hr.un; omega
section
variable {P : Program} {w : World} {K : PySem.W.Frag} {mg : Str → Option Value} {base : Heap}
def spNested (K : PySem.W.Frag) (T : Addr) (n : Nat) : Sp := fun vs H Q _ => ∃ (v : V) (d : PyData) (m : Nat), vs = [v, .int m] ∧ m < n ∧ Dt K H v d ∧ SeqAt.shaped d = true ∧ GxR.TabG H T ∧ ∀ H', Gr H H' → Q (.bl (nested m d)) H'
def spAreN (K : PySem.W.Frag) (T : Addr) (n : Nat) : Sp := fun vs H Q _ => ∃ (v : V) (d : PyData) (m : Nat), vs = [v, .int m] ∧ m < n ∧ Dt K H v d ∧ SeqAt.shaped d = true ∧ GxR.TabG H T ∧ ∀ H', Gr H H' → Q (.bl (areN (nested m) d)) H'
theorem sc_is_nested : FnScope ["shape", "levels", "kind"] ["shape", "levels"] (defScope s_is_nested) := ⟨rfl, rfl, rfl, by decide +kernel, rfl, by decide +kernel, by decide +kernel⟩
theorem sc_are_nested : FnScope ["shapes", "levels"] ["shapes", "levels"] (defScope s_are_nested) := ⟨rfl, rfl, rfl, by decide +kernel, rfl, by decide +kernel, by decide +kernel⟩
/-- what is_nested leans on -/
structure NTxt (P : Program) (w : World) (K : PySem.W.Frag) (mg : Str → Option Value) (base : Heap) (fN fA fB : Addr) (dN dA dB : FuncData) (cA T : Addr) : Prop where
  B : Blt mg
  FN : Fun K "is_nested" "is_nested" s_is_nested fN dN
  FA : FunC K "are_nested" "are_nested" s_are_nested fA dA cA
  kA : PySem.W.keepIn K (.ref fA) = true
  kB : PySem.W.keepIn K (.ref fB) = true
  gN : mg "is_nested" = some (.ref fN)
  gA : mg "are_nested" = some (.ref fA)
  gB : mg "is_number_below" = some (.ref fB)
  bN : Binds K dN ["shape", "levels"] []
  bA : Binds K dA ["shapes", "levels"] []
  bB : Binds K dB ["x", "end"] []
  mA : ∃ t, mg "MOST_AFTER" = some (.int 4 t)
  mL : ∃ t, mg "MOST_LETTERS" = some (.int 5 t)
  mB : ∃ t, mg "MOST_BESIDE" = some (.int 4 t)
  OB : FnOk P w K mg base CX0 2 fB dB ["x", "end"] (spNumBelow K)
  TB : GxR.TabB base mg cA T
variable {fN fA fB : Addr} {dN dA dB : FuncData} {cA T : Addr}
theorem none_nested {n : Nat} : FnOk P w K mg base CX0 n fN dN ["shape", "levels"] (spNested K T 0) := by
  have no : ∀ vs H Q E, ¬ spNested K T 0 vs H Q E := fun vs H Q E h => by
    obtain ⟨_, _, m, _, h, _⟩ := h
    omega
  exact ⟨fun vs H Q E h => absurd h (no vs H Q E), fun A outer s H args us vs Q E _ _ _ _ h => absurd h (no vs H Q E)⟩
/-! ### are_nested -/
theorem gs_are_nested {f : Addr} {cd : Value} {A : Around} {outer : List Env} {s : Shared} {H : Hp} {E : XK} {CX : CXT} (scope : Scope) (hk : scope.kind = .function) (hc : scope.isCoroutine = false) (h1 : ∀ y ∈ scope.names, y.2 ≠ .cell) (h2 : scope.names.lookup (".0" : Str) = some NameKind.local)
    (h3 : ∀ y ∈ scope.names, y.2 = .free → (defScope s_are_nested).names.lookup y.1 = some .cell ∨ (defScope s_are_nested).names.lookup y.1 = some .free) (h4 : scope.names.lookup ("levels" : Str) = some .free) :
    GScp (cxOf CX P w K mg base ["shapes", "levels"] "are_nested" (defScope s_are_nested) f cd A outer s H E) scope ["shape"] [("levels", 1)] :=
  ⟨hk, hc, h1, h2, h3, fun p hp => by rw [List.mem_singleton.mp hp]; exact ⟨rfl, h4⟩⟩
theorem ok_are_nested {n : Nat} (X : NTxt P w K mg base fN fA fB dN dA dB cA T) (GN : FnOk P w K mg base CX0 (3 * n) fN dN ["shape", "levels"] (spNested K T n)) : FnOk P w K mg base CX0 (3 * n + 2) fA dA ["shapes", "levels"] (spAreN K T n) := by
  obtain ⟨tB, mB⟩ := X.mB
  refine X.FA.ok sc_are_nested (fun vs H Q E h => ?_) (fun A outer s H vs Q E hr h => ?_)
  · obtain ⟨v, d, m, rfl, _⟩ := h
    rfl
  obtain ⟨v, d, m, rfl, hm, hd, hsh, hT, q⟩ := h
  refine ⟨_, pss_cons (ps_if (PW.pt (pw_or (pt_not (pt_val (pe_callB call_isi (by rfl) X.B.isi (by decide +kernel) (pa_cons (pv 0) (pa_cons (pe_bltn (by rfl) X.B.tuple (by decide +kernel) (v := .ty "tuple") rfl) pa_nil)))))
      (pw_or1 (pt_not (pt_chain op_le op_le pe_int (pe_callB call_len_seq (by rfl) X.B.len PySem.boot_len (pa_cons (pv 0) pa_nil)) (pe_glob rfl mB (v := .int 4) ⟨_, rfl⟩))))))
      (pss_one (ps_ret pe_bl)) pss_nil)
    (pss_one (ps_ret (pe_allG (own := ["shape"]) (cap := [("levels", 1)]) hr (by rfl) X.B.all (by decide +kernel) sc_are_nested.nd X.TB rfl
      (gs_are_nested _ rfl rfl (by decide +kernel) (by decide +kernel) (by decide +kernel) (by decide +kernel)) (pi_tup (pv 0))
      (fun sc H1 cl C code ex pn => ⟨pg_name (i := 0) (show (gN ["shape"] [("levels", 1)]).Nodup by decide +kernel) rfl (.inl rfl) (.inr rfl), pe_call GN (room_gen hr _) rfl X.gN X.FN.kp X.bN .nil pass0 (pa_cons (pv 0) (pa_cons (pv 1) pa_nil))⟩)
      (fun _ => rfl)))), ?_⟩
  refine ⟨_, rfl, _, _, _, _, _, rfl, .ty _, hd.ty, kit_tuple hd, _, rfl, ?_⟩
  cases hd with
  | non => exact iteT (q H Gx.refl)
  | bl b => exact iteT (q H Gx.refl)
  | int i => exact iteT (q H Gx.refl)
  | str x => exact iteT (q H Gx.refl)
  | @tup a xs ds hs ha =>
    have hlen := ha.length
    refine iteF ?_
    refine ⟨_, rfl, _, _, rfl, .inr hs, _, _, rfl, rfl, _, rfl, ite2 (fun c1 => ?_) (fun c1 => ?_)⟩
    · have g1 : 1 ≤ ds.length := by
        have := of_decide_eq_true c1
        omega
      refine ⟨_, _, rfl, rfl, _, rfl, ?_⟩
      by_cases g2 : ds.length ≤ 4
      · have e2 : (!decide (((xs.length : Nat) : Int) ≤ 4)) = false := by rw [Bool.not_eq_false', decide_eq_true_eq]; omega
        refine ite2 (fun z => absurd (z.symm.trans e2) (by decide)) fun _ => ?_
        have ea : areN (nested m) (.tuple ds) = ds.all (nested m) := by
          show (decide (1 ≤ ds.length) && decide (ds.length ≤ 4) && ds.all (nested m)) = _
          rw [decide_eq_true g1, decide_eq_true g2, Bool.true_and, Bool.true_and]
        rw [ea] at q
        refine ⟨_, rfl, _, rfl, ⟨_, hs⟩, hT, fun H2 hT2 => ?_⟩
        have gr2 : Gr H H2 := Gx.tabbed hT hT2
        refine ⟨Wn xs.length (fun i _ τ H' => ∃ y, τ = [y, some (V.int m)] ∧ Gr H H' ∧ ∀ j x, j < i → ds[j]? = some x → nested m x = true), ⟨xs.length, rfl, Nat.zero_le _, none, rfl, gr2, fun j x h => absurd h (Nat.not_lt_zero j)⟩,
          turns_tup (fun i _ τ H' _ hp => MS.SqT.gx NoT.none hp.choose_spec.2.1 hs) (fun i x _ τ H' hx hp => ?_) (fun _ τ H' hp => ?_)⟩
        · obtain ⟨y, rfl, gr, hall⟩ := hp
          obtain ⟨dx, hdx, hdt⟩ := ha.of_get hx
          have hi : i < xs.length := (List.getElem?_eq_some_iff.mp hx).1
          refine ⟨_, rfl, _, rfl, x, dx, m, rfl, hm, hdt.gr gr, shaped_item hsh (List.mem_of_getElem? hdx), gr.tab _ hT, fun H3 g3 => ?_⟩
          cases hb : nested m dx with
          | true =>
            refine cb_on hi ⟨_, rfl, gr.trans g3, fun j z hj hz => ?_⟩
            by_cases e : j = i
            · subst e
              rw [hdx] at hz
              cases hz
              exact hb
            · exact hall j z (by omega) hz
          | false =>
            refine cb_off (by decide) ?_
            have e : ds.all (nested m) = false := by
              rw [List.all_eq_false]
              exact ⟨dx, List.mem_of_getElem? hdx, by rw [hb]; decide⟩
            rw [e] at q
            exact q H3 (gr.trans g3)
        · obtain ⟨y, rfl, gr, hall⟩ := hp
          have e : ds.all (nested m) = true := by
            rw [List.all_eq_true]
            intro x hx
            obtain ⟨j, hj, e⟩ := List.getElem_of_mem hx
            exact hall j x (by omega) (by rw [List.getElem?_eq_getElem hj, e])
          rw [e] at q
          exact q H' gr
      · have e2 : (!decide (((xs.length : Nat) : Int) ≤ 4)) = true := by rw [Bool.not_eq_true', decide_eq_false_iff_not]; omega
        refine ite2 (fun _ => ?_) fun z => absurd e2 z
        have ea : areN (nested m) (.tuple ds) = false := by
          show (decide (1 ≤ ds.length) && decide (ds.length ≤ 4) && ds.all (nested m)) = _
          rw [decide_eq_false g2, Bool.and_false, Bool.false_and]
        rw [ea] at q
        exact q H Gx.refl
    · have g1 : ¬ 1 ≤ ds.length := by
        intro z
        exact c1 (decide_eq_true (by omega))
      refine ⟨_, rfl, ?_⟩
      refine iteT ?_
      have ea : areN (nested m) (.tuple ds) = false := by
        show (decide (1 ≤ ds.length) && decide (ds.length ≤ 4) && ds.all (nested m)) = _
        rw [decide_eq_false g1, Bool.false_and, Bool.false_and]
      rw [ea] at q
      exact q H Gx.refl
end
end M4
end
section
set_option Elab.async false
set_option linter.all false
set_option maxRecDepth 100000
set_option maxHeartbeats 4000000
namespace M4
open PySem PySem.Spec PyProof.Rows L2 GE MS
theorem eqI_T {i j : Int} {A B : Prop} (h : i = j) (a : A) : if decide (V.int i = V.int j) = true then A else B := by rw [if_pos (decide_eq_true (congrArg V.int h))]; exact a
theorem eqI_F {i j : Int} {A B : Prop} (h : i ≠ j) (b : B) : if decide (V.int i = V.int j) = true then A else B := by rw [if_neg (fun z => h (V.int.inj (of_decide_eq_true z)))]; exact b
theorem neI_T {i j : Int} {A B : Prop} (h : i ≠ j) (a : A) : if (!decide (V.int i = V.int j)) = true then A else B := by
  have e : decide (V.int i = V.int j) = false := decide_eq_false fun z => h (V.int.inj z)
  rw [e]; exact a
theorem neI_F {i j : Int} {A B : Prop} (h : i = j) (b : B) : if (!decide (V.int i = V.int j)) = true then A else B := by
  have e : decide (V.int i = V.int j) = true := decide_eq_true (congrArg V.int h)
  rw [e]; exact b
theorem eqI_val {i j : Int} : decide (V.int i = V.int j) = decide (i = j) := by
  by_cases h : i = j
  · rw [decide_eq_true h, decide_eq_true (congrArg V.int h)]
  · rw [decide_eq_false h, decide_eq_false fun z => h (V.int.inj z)]
theorem shaped_str (x : Str) (h : PyData.strOk x = true := by decide +kernel) : SeqAt.shaped (kS x) = true := by
  show ((kS x).canLay0 && decide ((kS x).depth ≤ 64)) = true
  rw [show (kS x).canLay0 = PyData.strOk x from by simp only [kS, PyData.canLay0], h]
  rfl
section
variable {P : Program} {w : World} {K : PySem.W.Frag} {mg : Str → Option Value} {base : Heap} {fN fA fB : Addr} {dN dA dB : FuncData} {cA T : Addr}
theorem ok_is_nested {n : Nat} (X : NTxt P w K mg base fN fA fB dN dA dB cA T) (GN : FnOk P w K mg base CX0 (3 * n) fN dN ["shape", "levels"] (spNested K T n)) (GA : FnOk P w K mg base CX0 (3 * n + 2) fA dA ["shapes", "levels"] (spAreN K T n)) :
    FnOk P w K mg base CX0 (3 * n + 3) fN dN ["shape", "levels"] (spNested K T (n + 1)) := by
  obtain ⟨tA, mA⟩ := X.mA
  obtain ⟨tL, mL⟩ := X.mL
  refine X.FN.ok sc_is_nested (fun vs H Q E h => ?_) (fun cdv A outer s H vs Q E hr h => ?_)
  · obtain ⟨v, d, m, rfl, _⟩ := h
    rfl
  obtain ⟨v, d, m, rfl, hm, hd, hsh, hT, q⟩ := h
  have hrN : Room (3 * n) (A.deeper (envOfC "is_nested" (defScope s_is_nested) s.heap.objs.size fN cdv)) := hr.mono (by omega)
  have hrB : Room 2 (A.deeper (envOfC "is_nested" (defScope s_is_nested) s.heap.objs.size fN cdv)) := hr.mono (by omega)
  refine ⟨_, pss_cons (ps_if (PW.pt (pw_or (pt_cmpR op_eq (pv 1) pe_int (nomark _)) (pw_or (pt_not (pt_val (pe_callB call_isi (by rfl) X.B.isi (by decide +kernel) (pa_cons (pv 0) (pa_cons (pe_bltn (by rfl) X.B.tuple (by decide +kernel) (v := .ty "tuple") rfl) pa_nil)))))
      (pw_or1 (pt_cmpR op_eq (pe_callB call_len_seq (by rfl) X.B.len PySem.boot_len (pa_cons (pv 0) pa_nil)) pe_int (nomark _))))))
      (pss_one (ps_ret pe_bl)) pss_nil)
    (pss_cons (ps_set (i := 2) sc_is_nested.nd rfl (.inl rfl) (pe_ix ix_tup (pv 0) pe_int (fun _ _ => rfl)))
    (pss_cons (ps_if (pt_cmpR (op_eqD hr.units) (pv 2) pe_str (nomark _)) (pss_one (ps_ret (pe_cmpR op_eq (pe_callB call_len_seq (by rfl) X.B.len PySem.boot_len (pa_cons (pv 0) pa_nil)) pe_int (nomark _)))) pss_nil)
    (pss_cons (ps_if (pt_cmpR (op_eqD hr.units) (pv 2) pe_str (nomark _)) (pss_one (ps_ret (pe_and (pe_cmpR op_eq (pe_callB call_len_seq (by rfl) X.B.len PySem.boot_len (pa_cons (pv 0) pa_nil)) pe_int (nomark _))
        (pe_and (pe_call X.OB hrB rfl X.gB X.kB X.bB .nil pass0 (pa_cons (pe_ix ix_tup (pv 0) pe_int (fun _ _ => rfl)) (pa_cons (pe_op op_add (pe_glob rfl mA (v := .int 4) ⟨_, rfl⟩) pe_int) pa_nil)))
        (pe_one (pe_call GN hrN rfl X.gN X.FN.kp X.bN .nil pass0 (pa_cons (pe_ix ix_tup (pv 0) pe_int (fun _ _ => rfl)) (pa_cons (pe_op op_sub (pv 1) pe_int) pa_nil)))))))) pss_nil)
    (pss_cons (ps_if (pt_cmpR op_ne (pe_callB call_len_seq (by rfl) X.B.len PySem.boot_len (pa_cons (pv 0) pa_nil)) pe_int (nomark _)) (pss_one (ps_ret pe_bl)) pss_nil)
    (pss_cons (ps_if (pt_cmpR (op_eqD hr.units) (pv 2) pe_str (nomark _)) (pss_one (ps_ret (pe_and
        (pe_call X.OB hrB rfl X.gB X.kB X.bB .nil pass0 (pa_cons (pe_ix ix_tup (pv 0) pe_int (fun _ _ => rfl)) (pa_cons (pe_op op_add (pe_glob rfl mL (v := .int 5) ⟨_, rfl⟩) pe_int) pa_nil)))
        (pe_one (pe_cmpR op_gt (pe_ix ix_tup (pv 0) pe_int (fun _ _ => rfl)) pe_int (nomark _)))))) pss_nil)
    (pss_cons (ps_if (pt_cmpR (op_inT (M4.Room.u65 hr)) (pv 2) (pe_tup (pa_cons pe_str (pa_cons pe_str pa_nil))) (by rfl))
        (pss_one (ps_ret (pe_call GA hr rfl X.gA X.kA X.bA .nil pass0 (pa_cons (pe_ix ix_tup (pv 0) pe_int (fun _ _ => rfl)) (pa_cons (pe_op op_sub (pv 1) pe_int) pa_nil))))) pss_nil)
    (pss_one (ps_ret (pe_and (pe_cmpR (op_inT (M4.Room.u65 hr)) (pv 2) (pe_tup (pa_cons pe_str (pa_cons pe_str (pa_cons pe_str pa_nil)))) (by rfl))
        (pe_one (pe_call GN hrN rfl X.gN X.FN.kp X.bN .nil pass0 (pa_cons (pe_ix ix_tup (pv 0) pe_int (fun _ _ => rfl)) (pa_cons (pe_op op_sub (pv 1) pe_int) pa_nil))))))))))))), ?_⟩
  cases m with
  | zero => exact ⟨_, rfl, rfl, _, rfl, eqI_T rfl (q H Gx.refl)⟩
  | succ l =>
    have hl : l < n := by omega
    have el : ((l + 1 : Nat) : Int) - 1 = (l : Int) := by omega
    refine ⟨_, rfl, rfl, _, rfl, eqI_F (by omega) ?_⟩
    refine ⟨_, rfl, _, _, _, _, _, rfl, .ty _, hd.ty, kit_tuple hd, _, rfl, ?_⟩
    cases hd with
    | non => exact iteT (q H Gx.refl)
    | bl b => exact iteT (q H Gx.refl)
    | int i => exact iteT (q H Gx.refl)
    | str x => exact iteT (q H Gx.refl)
    | @tup a xs ds hs ha =>
      refine iteF ?_
      cases ha with
      | nil => exact ⟨_, rfl, _, _, rfl, .inr hs, rfl, _, rfl, eqI_T rfl (q H Gx.refl)⟩
      | @cons kv ys k r hk hr' =>
        have sk : SeqAt.shaped k = true := shaped_item hsh List.mem_cons_self
        refine ⟨_, rfl, _, _, rfl, .inr hs, rfl, _, rfl, eqI_F (by rw [List.length_cons]; omega) ?_⟩
        refine ⟨_, rfl, a, _, _, _, rfl, rfl, hs, atI_nat (j := 0) rfl, ?_⟩
        refine ⟨_, rfl, k, kS "self", Dt.dp _ _ hk, .str _, sk, shaped_str "self", _, rfl, ?_⟩
        cases hr' with
        | nil =>
          -- one item
          refine ite2 (fun c1 => ?_) (fun c1 => ?_)
          · have e : nested (l + 1) (.tuple [k]) = true := c1
            rw [e] at q
            exact ⟨_, rfl, a, _, rfl, .inr hs, rfl, q H Gx.refl⟩
          · have e : nested (l + 1) (.tuple [k]) = false := Bool.eq_false_iff.mpr c1
            rw [e] at q
            refine ⟨_, rfl, k, kS "after", Dt.dp _ _ hk, .str _, sk, shaped_str "after", _, rfl, ite2 (fun c2 => ?_) (fun c2 => ?_)⟩
            · exact ⟨_, rfl, a, _, rfl, .inr hs, rfl, _, rfl, q H Gx.refl⟩
            · exact ⟨_, rfl, a, _, rfl, .inr hs, rfl, _, rfl, neI_T (by show ((0 + 1 : Nat) : Int) ≠ 2; decide) (q H Gx.refl)⟩
        | @cons xv zs x r2 hx hr2 =>
          have sx : SeqAt.shaped x = true := shaped_item hsh (List.mem_cons_of_mem _ List.mem_cons_self)
          cases hr2 with
          | nil =>
            -- two items
            refine ite2 (fun c1 => ?_) (fun c1 => ?_)
            · have e : nested (l + 1) (.tuple [k, x]) = false := if_pos c1
              rw [e] at q
              exact ⟨_, rfl, a, _, rfl, .inr hs, rfl, q H Gx.refl⟩
            refine ⟨_, rfl, k, kS "after", Dt.dp _ _ hk, .str _, sk, shaped_str "after", _, rfl, ite2 (fun c2 => ?_) (fun c2 => ?_)⟩
            · have e : nested (l + 1) (.tuple [k, x]) = false := (if_neg c1).trans (if_pos c2)
              rw [e] at q
              exact ⟨_, rfl, a, _, rfl, .inr hs, rfl, _, rfl, q H Gx.refl⟩
            refine ⟨_, rfl, a, _, rfl, .inr hs, rfl, _, rfl, neI_F rfl ?_⟩
            refine ⟨_, rfl, k, kS "letters", Dt.dp _ _ hk, .str _, sk, shaped_str "letters", _, rfl, ite2 (fun c3 => ?_) (fun c3 => ?_)⟩
            · have e : nested (l + 1) (.tuple [k, x]) = (numBelow x 6 && posD x) := (if_neg c1).trans ((if_neg c2).trans (if_pos c3))
              rw [e] at q
              refine ⟨_, rfl, a, _, _, _, rfl, rfl, hs, atI_nat (j := 1) rfl, _, _, rfl, rfl, _, _, _, rfl, hx, _, rfl, ite2 (fun c4 => ?_) (fun c4 => ?_)⟩
              · have c4 : numBelow x 6 = true := c4
                rw [c4, Bool.true_and] at q
                cases hx with
                | int i => exact ⟨_, rfl, a, _, _, _, rfl, rfl, hs, atI_nat (j := 1) rfl, _, _, rfl, rfl, q H Gx.refl⟩
                | non => exact absurd c4 (by decide)
                | bl b => exact absurd c4 (by simp [numBelow])
                | str z => exact absurd c4 (by simp [numBelow])
                | tup _ _ => exact absurd c4 (by simp [numBelow])
              · have c4 : numBelow x 6 = false := Bool.eq_false_iff.mpr c4
                rw [c4, Bool.false_and] at q
                exact q H Gx.refl
            refine ⟨_, rfl, (by show 2 ≤ sizeLine; decide), fun p1 hp1 => ?_⟩
            have g1 : Gr H (upd H p1 (.tup [.str "both", .str "either"])) := Gx.new hp1
            refine ⟨k, [kS "both", kS "either"], hk.gr g1, .tup (.inl (.inl upd_same)) (.cons (.str _) (.cons (.str _) .nil)), sk, by decide +kernel, _, rfl, ite2 (fun c4 => ?_) (fun c4 => ?_)⟩
            · have e : nested (l + 1) (.tuple [k, x]) = areN (nested l) x := (if_neg c1).trans ((if_neg c2).trans ((if_neg c3).trans (if_pos c4)))
              rw [e] at q
              refine ⟨_, rfl, a, _, _, _, rfl, rfl, MS.SqT.gx NoT.none g1 hs, atI_nat (j := 1) rfl, _, rfl, _, _, rfl, rfl, xv, x, l, ?_, hl, hx.gr g1, sx, g1.tab _ hT, fun H' g2 => q H' (g1.trans g2)⟩
              show [xv, V.int (((l + 1 : Nat) : Int) - 1)] = [xv, V.int (l : Int)]
              rw [el]
            · have e : nested (l + 1) (.tuple [k, x]) = (([kS "some", kS "many", kS "chance"].any fun z => PyData.eqv z k) && nested l x) := (if_neg c1).trans ((if_neg c2).trans ((if_neg c3).trans (if_neg c4)))
              rw [e] at q
              refine ⟨_, rfl, (by show 3 ≤ sizeLine; decide), fun p2 hp2 => ?_⟩
              have g2 : Gr H (upd (upd H p1 (.tup [.str "both", .str "either"])) p2 (.tup [.str "some", .str "many", .str "chance"])) := g1.trans (Gx.new hp2)
              refine ⟨k, [kS "some", kS "many", kS "chance"], hk.gr g2, .tup (.inl (.inl upd_same)) (.cons (.str _) (.cons (.str _) (.cons (.str _) .nil))), sk, by decide +kernel, _, rfl, ite2 (fun c5 => ?_) (fun c5 => ?_)⟩
              · rw [c5, Bool.true_and] at q
                refine ⟨_, rfl, a, _, _, _, rfl, rfl, MS.SqT.gx NoT.none g2 hs, atI_nat (j := 1) rfl, _, rfl, _, _, rfl, rfl, xv, x, l, ?_, hl, hx.gr g2, sx, g2.tab _ hT, fun H' g3 => q H' (g2.trans g3)⟩
                show [xv, V.int (((l + 1 : Nat) : Int) - 1)] = [xv, V.int (l : Int)]
                rw [el]
              · rw [Bool.eq_false_iff.mpr c5, Bool.false_and] at q
                exact q _ g2
          | @cons yv zs2 y r3 hy hr3 =>
            have sy : SeqAt.shaped y = true := shaped_item hsh (List.mem_cons_of_mem _ (List.mem_cons_of_mem _ List.mem_cons_self))
            cases hr3 with
            | nil =>
              -- three items
              refine ite2 (fun c1 => ?_) (fun c1 => ?_)
              · have e : nested (l + 1) (.tuple [k, x, y]) = false := if_pos c1
                rw [e] at q
                exact ⟨_, rfl, a, _, rfl, .inr hs, rfl, q H Gx.refl⟩
              refine ⟨_, rfl, k, kS "after", Dt.dp _ _ hk, .str _, sk, shaped_str "after", _, rfl, ite2 (fun c2 => ?_) (fun c2 => ?_)⟩
              · have e : nested (l + 1) (.tuple [k, x, y]) = (numBelow x 5 && nested l y) := (if_neg c1).trans (if_pos c2)
                rw [e] at q
                refine ⟨_, rfl, a, _, rfl, .inr hs, rfl, _, rfl, ?_⟩
                refine iteT ?_
                refine ⟨_, rfl, a, _, _, _, rfl, rfl, hs, atI_nat (j := 1) rfl, _, _, rfl, rfl, _, _, _, rfl, hx, _, rfl, ite2 (fun c4 => ?_) (fun c4 => ?_)⟩
                · have c4 : numBelow x 5 = true := c4
                  rw [c4, Bool.true_and] at q
                  refine ⟨_, rfl, a, _, _, _, rfl, rfl, hs, atI_nat (j := 2) rfl, _, rfl, _, _, rfl, rfl, yv, y, l, ?_, hl, hy, sy, hT, q⟩
                  show [yv, V.int (((l + 1 : Nat) : Int) - 1)] = [yv, V.int (l : Int)]
                  rw [el]
                · have c4 : numBelow x 5 = false := Bool.eq_false_iff.mpr c4
                  rw [c4, Bool.false_and] at q
                  exact q H Gx.refl
              · have e : nested (l + 1) (.tuple [k, x, y]) = false := (if_neg c1).trans (if_neg c2)
                rw [e] at q
                exact ⟨_, rfl, a, _, rfl, .inr hs, rfl, _, rfl, neI_T (by show ((2 + 1 : Nat) : Int) ≠ 2; decide) (q H Gx.refl)⟩
            | @cons uv zs3 u r4 hu hr4 =>
              -- four items and more
              have e : nested (l + 1) (.tuple (k :: x :: y :: u :: r4)) = false := rfl
              rw [e] at q
              have lenF : ∀ j : Int, j < 4 → (((kv :: xv :: yv :: uv :: zs3).length : Nat) : Int) ≠ j := fun j hj => by
                simp only [List.length_cons]
                omega
              have valF : ∀ j : Int, j < 4 → decide (V.int (((kv :: xv :: yv :: uv :: zs3).length : Nat) : Int) = V.int j) = false := fun j hj => decide_eq_false fun z => lenF j hj (V.int.inj z)
              refine ite2 (fun c1 => ?_) (fun c1 => ?_)
              · refine ⟨_, rfl, a, _, rfl, .inr hs, rfl, ?_⟩
                show Q (.bl (decide _)) H
                rw [valF 1 (by decide)]
                exact q H Gx.refl
              refine ⟨_, rfl, k, kS "after", Dt.dp _ _ hk, .str _, sk, shaped_str "after", _, rfl, ite2 (fun c2 => ?_) (fun c2 => ?_)⟩
              · refine ⟨_, rfl, a, _, rfl, .inr hs, rfl, _, rfl, eqI_F (lenF 3 (by decide)) (q H Gx.refl)⟩
              · exact ⟨_, rfl, a, _, rfl, .inr hs, rfl, _, rfl, neI_T (lenF 2 (by decide)) (q H Gx.refl)⟩
theorem both_nested (X : NTxt P w K mg base fN fA fB dN dA dB cA T) : ∀ n : Nat, FnOk P w K mg base CX0 (3 * n) fN dN ["shape", "levels"] (spNested K T n) ∧ FnOk P w K mg base CX0 (3 * n + 2) fA dA ["shapes", "levels"] (spAreN K T n)
  | 0 => ⟨none_nested, ok_are_nested X none_nested⟩
  | n + 1 => by
    obtain ⟨h1, h2⟩ := both_nested X n
    have h3 := ok_is_nested X h1 h2
    exact ⟨h3, ok_are_nested (n := n + 1) X h3⟩
end
end M4
end
section
set_option Elab.async false
set_option linter.all false
set_option maxRecDepth 100000
set_option maxHeartbeats 4000000
namespace M4
open PySem PySem.Spec PyProof.Rows L2 GE MS
/-! ### shapes are nested -/
theorem eqv_k (x y : Str) : PyData.eqv (kS x) (kS y) = (x == y) := by simp only [kS, PyData.eqv]
theorem numBelow_nat {k : Nat} {e : Int} (h : (k : Int) < e) : numBelow (.int k) e = true := by
  show (decide ((0 : Int) ≤ (k : Int)) && decide ((k : Int) < e)) = true
  rw [decide_eq_true (show (0 : Int) ≤ (k : Int) by omega), decide_eq_true h]
  rfl
theorem nested_data : ∀ (n : Nat) (s : Sh), Sh.wf n s → nested n (Sh.data s) = true
  | 0, _, h => h.elim
  | n + 1, s, h => by
    have ih := nested_data n
    have many : ∀ xs : List Sh, 1 ≤ xs.length → xs.length ≤ 4 → (∀ x ∈ xs, Sh.wf n x) → areN (nested n) (.tuple (Sh.datas xs)) = true := fun xs h1 h2 h3 => by
      rw [Sh.datas_map]
      show (decide (1 ≤ (xs.map Sh.data).length) && decide ((xs.map Sh.data).length ≤ 4) && (xs.map Sh.data).all (nested n)) = true
      rw [List.length_map, decide_eq_true h1, decide_eq_true h2, Bool.true_and, Bool.true_and, List.all_eq_true]
      intro d hd
      obtain ⟨x, hx, e⟩ := List.mem_map.mp hd
      rw [← e]
      exact ih x (h3 x hx)
    cases s with
    | letters k =>
      have h1 : (numBelow (.int (k : Int)) 6 && posD (.int (k : Int))) = true := by
        rw [numBelow_nat (show (k : Int) < 6 by have := h.2; omega), Bool.true_and]
        exact decide_eq_true (show (0 : Int) < (k : Int) by have := h.1; omega)
      exact h1
    | self => rfl
    | both xs => exact many xs h.1 h.2.1 h.2.2
    | either xs => exact many xs h.1 h.2.1 h.2.2
    | after k s =>
      have h1 : (numBelow (.int (k : Int)) 5 && nested n (Sh.data s)) = true := by
        rw [numBelow_nat (show (k : Int) < 5 by have := h.1; omega), Bool.true_and]
        exact ih s h.2
      exact h1
    | some s => exact ih s h
    | many s => exact ih s h
    | chance s => exact ih s h
section
variable {P : Program} {w : World} {K : PySem.W.Frag} {mg : Str → Option Value} {base : Heap} {fB fI : Addr} {dB dI : FuncData} {cI T : Addr}
/-! ### shapes_below -/
def spBelow (K : PySem.W.Frag) (n : Nat) : Sp := fun vs H Q _ => ∃ (v : V) (s : Sh), vs = [v] ∧ Dt K H v (Sh.data s) ∧ Sh.wf n s ∧ n ≤ 10 ∧ ∀ H' a, Gr H H' → Dt K H' (.ref a) (.tuple (Sh.datas (Sh.inner s))) → Q (.ref a) H'
theorem sc_shapes_below : FnScope ["shape", "kind"] ["shape"] (defScope s_shapes_below) := ⟨rfl, rfl, rfl, by decide +kernel, rfl, by decide +kernel, by decide +kernel⟩
theorem atI_last1 {x y : V} : atI [x, y] (-1) = some y := atI_last [x] y
theorem atI_last2 {x y z : V} : atI [x, y, z] (-1) = some z := atI_last [x, y] z
theorem ok_shapes_below {n k : Nat} (F : Fun K "shapes_below" "shapes_below" s_shapes_below fB dB) : FnOk P w K mg base CX0 (k + 1) fB dB ["shape"] (spBelow K n) := by
  refine F.ok sc_shapes_below (fun vs H Q E h => ?_) (fun cdv A outer s H vs Q E hr h => ?_)
  · obtain ⟨v, s, rfl, _⟩ := h
    rfl
  obtain ⟨v, s, rfl, hd, hw, hn, q⟩ := h
  have sh := Sh.shaped hw (by omega)
  refine ⟨_, pss_cons (ps_set (i := 1) sc_shapes_below.nd rfl (.inl rfl) (pe_ix ix_tup (pv 0) pe_int (fun _ _ => rfl)))
    (pss_cons (ps_if (pt_cmpR (op_inT (M4.Room.u65 hr)) (pv 1) (pe_tup (pa_cons pe_str (pa_cons pe_str pa_nil))) (by rfl)) (pss_one (ps_ret (pe_tup pa_nil))) pss_nil)
    (pss_cons (ps_if (pt_cmpR (op_inT (M4.Room.u65 hr)) (pv 1) (pe_tup (pa_cons pe_str (pa_cons pe_str pa_nil))) (by rfl)) (pss_one (ps_ret (pe_ix ix_tup (pv 0) pe_int (fun _ _ => rfl)))) pss_nil)
    (pss_one (ps_ret (pe_tup (pa_cons (pe_ix ix_tup (pv 0) (pe_un un_neg pe_int) (fun _ _ => rfl)) pa_nil)))))), ?_⟩
  have two : (2 : Nat) ≤ sizeLine := by decide
  have shq : ∀ x : Str, SeqAt.shaped (kS x) = true → SeqAt.shaped (kS x) = true := fun _ h => h
  cases s with
  | letters j =>
    cases hd with
    | @tup a xs ds hs ha =>
      cases ha with
      | @cons x1 ys _ _ h1 h2 =>
        cases h1
        refine ⟨_, rfl, a, _, _, _, rfl, rfl, hs, atI_nat (j := 0) rfl, ?_⟩
        refine ⟨_, rfl, two, fun p1 hp1 => ⟨kS "letters", [kS "letters", kS "self"], .str _, .tup (.inl (.inl upd_same)) (.cons (.str _) (.cons (.str _) .nil)), by decide +kernel, by decide +kernel, _, rfl, ?_⟩⟩
        exact iteT ⟨Nat.zero_le _, fun p2 hp2 => q _ _ ((Gx.new hp1).trans (Gx.new hp2)) (.tup (.inl (.inl upd_same)) .nil)⟩
  | self =>
    cases hd with
    | @tup a xs ds hs ha =>
      cases ha with
      | @cons x1 ys _ _ h1 h2 =>
        cases h1
        refine ⟨_, rfl, a, _, _, _, rfl, rfl, hs, atI_nat (j := 0) rfl, ?_⟩
        refine ⟨_, rfl, two, fun p1 hp1 => ⟨kS "self", [kS "letters", kS "self"], .str _, .tup (.inl (.inl upd_same)) (.cons (.str _) (.cons (.str _) .nil)), by decide +kernel, by decide +kernel, _, rfl, ?_⟩⟩
        exact iteT ⟨Nat.zero_le _, fun p2 hp2 => q _ _ ((Gx.new hp1).trans (Gx.new hp2)) (.tup (.inl (.inl upd_same)) .nil)⟩
  | both xs' =>
    cases hd with
    | @tup a xs ds hs ha =>
      cases ha with
      | @cons x1 ys _ _ h1 h2 =>
        cases h1
        cases h2 with
        | @cons x2 ys2 _ _ h3 h4 =>
          cases h4
          refine ⟨_, rfl, a, _, _, _, rfl, rfl, hs, atI_nat (j := 0) rfl, ?_⟩
          refine ⟨_, rfl, two, fun p1 hp1 => ⟨kS "both", [kS "letters", kS "self"], .str _, .tup (.inl (.inl upd_same)) (.cons (.str _) (.cons (.str _) .nil)), by decide +kernel, by decide +kernel, _, rfl, ?_⟩⟩
          refine iteF ⟨_, rfl, two, fun p2 hp2 => ⟨kS "both", [kS "both", kS "either"], .str _, .tup (.inl (.inl upd_same)) (.cons (.str _) (.cons (.str _) .nil)), by decide +kernel, by decide +kernel, _, rfl, ?_⟩⟩
          have g := (Gx.new (B := fun _ => False) (o := .tup [.str "letters", .str "self"]) hp1).trans (Gx.new (o := .tup [.str "both", .str "either"]) hp2)
          cases h3 with
          | @tup b zs _ hb hz => exact iteT ⟨_, rfl, a, _, _, _, rfl, rfl, MS.SqT.gx NoT.none g hs, atI_nat (j := 1) rfl, q _ _ g (.tup (MS.SqT.gx NoT.none g hb) (hz.gr g))⟩
  | either xs' =>
    cases hd with
    | @tup a xs ds hs ha =>
      cases ha with
      | @cons x1 ys _ _ h1 h2 =>
        cases h1
        cases h2 with
        | @cons x2 ys2 _ _ h3 h4 =>
          cases h4
          refine ⟨_, rfl, a, _, _, _, rfl, rfl, hs, atI_nat (j := 0) rfl, ?_⟩
          refine ⟨_, rfl, two, fun p1 hp1 => ⟨kS "either", [kS "letters", kS "self"], .str _, .tup (.inl (.inl upd_same)) (.cons (.str _) (.cons (.str _) .nil)), by decide +kernel, by decide +kernel, _, rfl, ?_⟩⟩
          refine iteF ⟨_, rfl, two, fun p2 hp2 => ⟨kS "either", [kS "both", kS "either"], .str _, .tup (.inl (.inl upd_same)) (.cons (.str _) (.cons (.str _) .nil)), by decide +kernel, by decide +kernel, _, rfl, ?_⟩⟩
          have g := (Gx.new (B := fun _ => False) (o := .tup [.str "letters", .str "self"]) hp1).trans (Gx.new (o := .tup [.str "both", .str "either"]) hp2)
          cases h3 with
          | @tup b zs _ hb hz => exact iteT ⟨_, rfl, a, _, _, _, rfl, rfl, MS.SqT.gx NoT.none g hs, atI_nat (j := 1) rfl, q _ _ g (.tup (MS.SqT.gx NoT.none g hb) (hz.gr g))⟩
  | after j s' =>
    cases hd with
    | @tup a xs ds hs ha =>
      cases ha with
      | @cons x1 ys _ _ h1 h2 =>
        cases h1
        cases h2 with
        | @cons x2 ys2 _ _ h3 h4 =>
          cases h4 with
          | @cons x3 ys3 _ _ h5 h6 =>
            cases h6
            refine ⟨_, rfl, a, _, _, _, rfl, rfl, hs, atI_nat (j := 0) rfl, ?_⟩
            refine ⟨_, rfl, two, fun p1 hp1 => ⟨kS "after", [kS "letters", kS "self"], .str _, .tup (.inl (.inl upd_same)) (.cons (.str _) (.cons (.str _) .nil)), by decide +kernel, by decide +kernel, _, rfl, ?_⟩⟩
            refine iteF ⟨_, rfl, two, fun p2 hp2 => ⟨kS "after", [kS "both", kS "either"], .str _, .tup (.inl (.inl upd_same)) (.cons (.str _) (.cons (.str _) .nil)), by decide +kernel, by decide +kernel, _, rfl, ?_⟩⟩
            have g := (Gx.new (B := fun _ => False) (o := .tup [.str "letters", .str "self"]) hp1).trans (Gx.new (o := .tup [.str "both", .str "either"]) hp2)
            refine iteF ⟨_, rfl, _, rfl, a, _, _, _, rfl, rfl, MS.SqT.gx NoT.none g hs, atI_last2, (by show 1 ≤ sizeLine; decide), fun p3 hp3 => ?_⟩
            exact q _ _ (g.trans (Gx.new hp3)) (.tup (.inl (.inl upd_same)) (.cons ((h5.gr g).gr (Gx.new hp3)) .nil))
  | some s' =>
    cases hd with
    | @tup a xs ds hs ha =>
      cases ha with
      | @cons x1 ys _ _ h1 h2 =>
        cases h1
        cases h2 with
        | @cons x2 ys2 _ _ h3 h4 =>
          cases h4
          refine ⟨_, rfl, a, _, _, _, rfl, rfl, hs, atI_nat (j := 0) rfl, ?_⟩
          refine ⟨_, rfl, two, fun p1 hp1 => ⟨kS "some", [kS "letters", kS "self"], .str _, .tup (.inl (.inl upd_same)) (.cons (.str _) (.cons (.str _) .nil)), by decide +kernel, by decide +kernel, _, rfl, ?_⟩⟩
          refine iteF ⟨_, rfl, two, fun p2 hp2 => ⟨kS "some", [kS "both", kS "either"], .str _, .tup (.inl (.inl upd_same)) (.cons (.str _) (.cons (.str _) .nil)), by decide +kernel, by decide +kernel, _, rfl, ?_⟩⟩
          have g := (Gx.new (B := fun _ => False) (o := .tup [.str "letters", .str "self"]) hp1).trans (Gx.new (o := .tup [.str "both", .str "either"]) hp2)
          refine iteF ⟨_, rfl, _, rfl, a, _, _, _, rfl, rfl, MS.SqT.gx NoT.none g hs, atI_last1, (by show 1 ≤ sizeLine; decide), fun p3 hp3 => ?_⟩
          exact q _ _ (g.trans (Gx.new hp3)) (.tup (.inl (.inl upd_same)) (.cons ((h3.gr g).gr (Gx.new hp3)) .nil))
  | many s' =>
    cases hd with
    | @tup a xs ds hs ha =>
      cases ha with
      | @cons x1 ys _ _ h1 h2 =>
        cases h1
        cases h2 with
        | @cons x2 ys2 _ _ h3 h4 =>
          cases h4
          refine ⟨_, rfl, a, _, _, _, rfl, rfl, hs, atI_nat (j := 0) rfl, ?_⟩
          refine ⟨_, rfl, two, fun p1 hp1 => ⟨kS "many", [kS "letters", kS "self"], .str _, .tup (.inl (.inl upd_same)) (.cons (.str _) (.cons (.str _) .nil)), by decide +kernel, by decide +kernel, _, rfl, ?_⟩⟩
          refine iteF ⟨_, rfl, two, fun p2 hp2 => ⟨kS "many", [kS "both", kS "either"], .str _, .tup (.inl (.inl upd_same)) (.cons (.str _) (.cons (.str _) .nil)), by decide +kernel, by decide +kernel, _, rfl, ?_⟩⟩
          have g := (Gx.new (B := fun _ => False) (o := .tup [.str "letters", .str "self"]) hp1).trans (Gx.new (o := .tup [.str "both", .str "either"]) hp2)
          refine iteF ⟨_, rfl, _, rfl, a, _, _, _, rfl, rfl, MS.SqT.gx NoT.none g hs, atI_last1, (by show 1 ≤ sizeLine; decide), fun p3 hp3 => ?_⟩
          exact q _ _ (g.trans (Gx.new hp3)) (.tup (.inl (.inl upd_same)) (.cons ((h3.gr g).gr (Gx.new hp3)) .nil))
  | chance s' =>
    cases hd with
    | @tup a xs ds hs ha =>
      cases ha with
      | @cons x1 ys _ _ h1 h2 =>
        cases h1
        cases h2 with
        | @cons x2 ys2 _ _ h3 h4 =>
          cases h4
          refine ⟨_, rfl, a, _, _, _, rfl, rfl, hs, atI_nat (j := 0) rfl, ?_⟩
          refine ⟨_, rfl, two, fun p1 hp1 => ⟨kS "chance", [kS "letters", kS "self"], .str _, .tup (.inl (.inl upd_same)) (.cons (.str _) (.cons (.str _) .nil)), by decide +kernel, by decide +kernel, _, rfl, ?_⟩⟩
          refine iteF ⟨_, rfl, two, fun p2 hp2 => ⟨kS "chance", [kS "both", kS "either"], .str _, .tup (.inl (.inl upd_same)) (.cons (.str _) (.cons (.str _) .nil)), by decide +kernel, by decide +kernel, _, rfl, ?_⟩⟩
          have g := (Gx.new (B := fun _ => False) (o := .tup [.str "letters", .str "self"]) hp1).trans (Gx.new (o := .tup [.str "both", .str "either"]) hp2)
          refine iteF ⟨_, rfl, _, rfl, a, _, _, _, rfl, rfl, MS.SqT.gx NoT.none g hs, atI_last1, (by show 1 ≤ sizeLine; decide), fun p3 hp3 => ?_⟩
          exact q _ _ (g.trans (Gx.new hp3)) (.tup (.inl (.inl upd_same)) (.cons ((h3.gr g).gr (Gx.new hp3)) .nil))
end
end M4
end
section
set_option Elab.async false
set_option linter.all false
set_option maxRecDepth 100000
set_option maxHeartbeats 4000000
namespace M4
open PySem PySem.Spec PyProof.Rows L2 GE MS
abbrev s_check_shape : Stmt := top 10
abbrev s_is_value : Stmt := top 22
abbrev s_count_values : Stmt := top 23
theorem cap_le : ∀ n, n ≤ 10 → Sh.cap n ≤ 349525 := by
  intro n hn
  have h : ∀ m : Fin 11, Sh.cap m.val ≤ 349525 := by decide +kernel
  exact h ⟨n, by omega⟩
section
variable {P : Program} {w : World} {K : PySem.W.Frag} {mg : Str → Option Value} {base : Heap} {fB fI : Addr} {dB dI : FuncData} {cI T : Addr}
/-! ### shapes_in -/
def spIn (K : PySem.W.Frag) (T : Addr) (n : Nat) : Sp := fun vs H Q _ => ∃ (v : V) (s : Sh), vs = [v] ∧ Dt K H v (Sh.data s) ∧ Sh.wf n s ∧ n ≤ 10 ∧ GxR.TabG H T ∧ ∀ H', Gr H H' → Q (.int (Sh.size s)) H'
theorem sc_shapes_in : FnScope ["shape"] ["shape"] (defScope s_shapes_in) := ⟨rfl, rfl, rfl, by decide +kernel, rfl, by decide +kernel, by decide +kernel⟩
structure ITxt (P : Program) (w : World) (K : PySem.W.Frag) (mg : Str → Option Value) (base : Heap) (fI fB : Addr) (dI dB : FuncData) (cI T : Addr) : Prop where
  B : Blt mg
  FI : FunC K "shapes_in" "shapes_in" s_shapes_in fI dI cI
  kI : PySem.W.keepIn K (.ref fI) = true
  gI : mg "shapes_in" = some (.ref fI)
  bI : Binds K dI ["shape"] []
  FB : Fun K "shapes_below" "shapes_below" s_shapes_below fB dB
  gB : mg "shapes_below" = some (.ref fB)
  bB : Binds K dB ["shape"] []
  TB : GxR.TabB base mg cI T
theorem gs_shapes_in {f : Addr} {cd : Value} {A : Around} {outer : List Env} {s : Shared} {H : Hp} {E : XK} {CX : CXT} (scope : Scope) (hk : scope.kind = .function) (hc : scope.isCoroutine = false) (h1 : ∀ y ∈ scope.names, y.2 ≠ .cell) (h2 : scope.names.lookup (".0" : Str) = some NameKind.local)
    (h3 : ∀ y ∈ scope.names, y.2 = .free → (defScope s_shapes_in).names.lookup y.1 = some .cell ∨ (defScope s_shapes_in).names.lookup y.1 = some .free) :
    GScp (cxOf CX P w K mg base ["shape"] "shapes_in" (defScope s_shapes_in) f cd A outer s H E) scope ["inner"] [] :=
  ⟨hk, hc, h1, h2, h3, fun p hp => by simp at hp⟩
theorem none_in {n : Nat} : FnOk P w K mg base CX0 n fI dI ["shape"] (spIn K T 0) := by
  have no : ∀ vs H Q E, ¬ spIn K T 0 vs H Q E := fun vs H Q E h => by
    obtain ⟨_, _, _, _, h, _⟩ := h
    exact h
  exact ⟨fun vs H Q E h => absurd h (no vs H Q E), fun A outer s H args us vs Q E _ _ _ _ h => absurd h (no vs H Q E)⟩
theorem ok_shapes_in {n : Nat} (X : ITxt P w K mg base fI fB dI dB cI T) (GI : FnOk P w K mg base CX0 (2 * n + 1) fI dI ["shape"] (spIn K T n)) : FnOk P w K mg base CX0 (2 * (n + 1) + 1) fI dI ["shape"] (spIn K T (n + 1)) := by
  refine X.FI.ok sc_shapes_in (fun vs H Q E h => ?_) (fun A outer s H vs Q E hr h => ?_)
  · obtain ⟨v, s, rfl, _⟩ := h
    rfl
  obtain ⟨v, s, rfl, hd, hw, hn, hT, q⟩ := h
  have GB : FnOk P w K mg base CX0 1 fB dB ["shape"] (spBelow K (n + 1)) := ok_shapes_below X.FB
  refine ⟨_, pss_one (ps_ret (pe_op op_add pe_int (pe_sumG (own := ["inner"]) (cap := []) (k := 2 * n + 1 + 1) hr (by rfl) X.B.sum (by decide +kernel) sc_shapes_in.nd X.TB rfl
      (gs_shapes_in _ rfl rfl (by decide +kernel) (by decide +kernel) (by decide +kernel)) (pi_tup (pe_call GB (hr.mono (by omega)) rfl X.gB X.FB.kp X.bB .nil pass0 (pa_cons (pv 0) pa_nil)))
      (fun sc H1 cl C code ex pn => ⟨pg_name (i := 0) (show (gN ["inner"] []).Nodup by decide +kernel) rfl (.inl rfl) (.inr rfl), pe_call GI (room_gen hr _) rfl X.gI X.kI X.bI .nil pass0 (pa_cons (pv 0) pa_nil)⟩)
      (fun _ => rfl)))), ?_⟩
  obtain ⟨hl4, hwi⟩ := Sh.wf_inner hw
  have hsz : ∀ x ∈ Sh.inner s, Sh.size x ≤ 349525 := fun x hx => Nat.le_trans (Sh.size_le n x (hwi x hx)) (cap_le n (by omega))
  have hall : Sh.sizes (Sh.inner s) ≤ 4 * 349525 := by
    have h1 := Sh.sizes_le (Sh.size_le n) (Sh.inner s) hwi
    have h2 : (Sh.inner s).length * Sh.cap n ≤ 4 * 349525 := Nat.mul_le_mul hl4 (cap_le n (by omega))
    omega
  refine ⟨v, rfl, v, s, rfl, hd, hw, hn, fun H1 a g1 ha => ?_⟩
  cases ha with
  | @tup _ xs ds hs hal =>
    have hlen : xs.length = (Sh.inner s).length := by rw [hal.length, Sh.datas_map, List.length_map]
    refine ⟨a, rfl, ⟨xs, hs⟩, g1.tab _ hT, fun H2 hT2 => ?_⟩
    have g2 : Gr H1 H2 := Gx.tabbed (g1.tab _ hT) hT2
    refine ⟨Wn xs.length (fun i al τ H' => ∃ y, τ = [y] ∧ al = ((Sh.sizes ((Sh.inner s).take i) : Nat) : Int) ∧ Gr H1 H'), ⟨xs.length, rfl, Nat.zero_le _, none, rfl, rfl, g2⟩,
      turns_tup (fun i al τ H' _ hp => MS.SqT.gx NoT.none hp.choose_spec.2.2 hs) (fun i x al τ H' hx hp => ?_) (fun al τ H' hp => ?_)⟩
    · obtain ⟨y, rfl, rfl, g3⟩ := hp
      have hi : i < xs.length := (List.getElem?_eq_some_iff.mp hx).1
      obtain ⟨dx, hdx, hdt⟩ := hal.of_get hx
      rw [Sh.datas_map, List.getElem?_map] at hdx
      obtain ⟨sx, hsx, rfl⟩ := Option.map_eq_some_iff.mp hdx
      have hm : sx ∈ Sh.inner s := List.mem_of_getElem? hsx
      have b1 := hsz sx hm
      have b2 := Sh.sizes_take_le (Sh.inner s) i
      refine ⟨x, rfl, x, sx, rfl, hdt.gr g3, hwi sx hm, by omega, g3.tab _ (g1.tab _ hT), fun H4 g4 => ?_⟩
      refine cs_on hi ⟨by omega, by omega⟩ ⟨by omega, by omega⟩ ⟨_, rfl, ?_, g3.trans g4⟩
      rw [Sh.sizes_take_succ hsx]
      omega
    · obtain ⟨y, rfl, rfl, g3⟩ := hp
      refine ⟨1, _, rfl, rfl, ?_⟩
      have e : (1 : Int) + ((Sh.sizes ((Sh.inner s).take xs.length) : Nat) : Int) = ((Sh.size s : Nat) : Int) := by
        rw [Sh.size_eq s, List.take_of_length_le (by omega)]
        omega
      show Q (.int ((1 : Int) + ((Sh.sizes ((Sh.inner s).take xs.length) : Nat) : Int))) H'
      rw [e]
      exact q H' (g1.trans g3)
theorem all_in (X : ITxt P w K mg base fI fB dI dB cI T) : ∀ n : Nat, FnOk P w K mg base CX0 (2 * n + 1) fI dI ["shape"] (spIn K T n)
  | 0 => none_in
  | n + 1 => ok_shapes_in X (all_in X n)
/-! ### check_shape, size, is_value, count_values -/
/-- refused by the class at C -/
def Rz (C : Addr) (E : XK) (H : Hp) : Prop := ∀ t H', Gr H H' → H' t = some (.tup []) → E (.ref C) (some t) H'
theorem Rz.later {C : Addr} {E : XK} {H H' : Hp} (h : Rz C E H) (g : Gr H H') : Rz C E H' := fun t H2 g2 e => h t H2 (g.trans g2) e
structure CTxt (K : PySem.W.Frag) (mg : Str → Option Value) (C : Addr) : Prop where
  gC : mg "BadShape" = some (.ref C)
  kC : PySem.W.keepIn K (.ref C) = true
  xC : PySem.W.excIn K C [.type "ValueError", .type "Exception", .type "BaseException", .type "object"] "ValueError.__new__" = true
  bC : PySem.W.subIn K (.ref C) (.type "BaseException") = some true
  tC : PySem.W.typeIn K (.ref C) = some (.type "type")
  mV : ∃ t, mg "MOST_LEVELS" = some (.int 6 t)
  mS : ∃ t, mg "MOST_SHAPES" = some (.int 40 t)
def CkIn (K : PySem.W.Frag) (C T1 T2 : Addr) (v : V) (H : Hp) (E : XK) (ok : Sh → Hp → Prop) : Prop := ∃ d, Dt K H v d ∧ SeqAt.shaped d = true ∧ GxR.TabG H T1 ∧ GxR.TabG H T2 ∧
  ((nested 6 d = false ∧ Rz C E H) ∨ ∃ s, d = Sh.data s ∧ Sh.wf 6 s ∧ (Sh.size s ≤ 40 → ∀ H', Gr H H' → ok s H') ∧ (¬ Sh.size s ≤ 40 → Rz C E H))
def spCheck (K : PySem.W.Frag) (C T1 T2 : Addr) : Sp := fun vs H Q E => ∃ v, vs = [v] ∧ CkIn K C T1 T2 v H E fun _ H' => Q .non H'
def spSize (K : PySem.W.Frag) (C T1 T2 : Addr) : Sp := fun vs H Q E => ∃ v, vs = [v] ∧ CkIn K C T1 T2 v H E fun s H' => Q (.int (Sh.size s)) H'
def spBad (K : PySem.W.Frag) (C T1 T2 : Addr) (n : Nat) : Sp := fun vs H Q E => ∃ v r d, vs = v :: r ∧ r.length = n ∧ Dt K H v d ∧ SeqAt.shaped d = true ∧ GxR.TabG H T1 ∧ GxR.TabG H T2 ∧ nested 6 d = false ∧ Rz C E H
theorem sc_check_shape : FnScope ["shape"] ["shape"] (defScope s_check_shape) := ⟨rfl, rfl, rfl, by decide +kernel, rfl, by decide +kernel, by decide +kernel⟩
/-- the two defs that check_shape asks -/
structure STxt (P : Program) (w : World) (K : PySem.W.Frag) (mg : Str → Option Value) (base : Heap) (fN fI : Addr) (dN dI : FuncData) (T1 T2 : Addr) : Prop where
  ON : FnOk P w K mg base CX0 21 fN dN ["shape", "levels"] (spNested K T1 7)
  gN : mg "is_nested" = some (.ref fN)
  kN : PySem.W.keepIn K (.ref fN) = true
  bN : Binds K dN ["shape", "levels"] []
  OI : FnOk P w K mg base CX0 13 fI dI ["shape"] (spIn K T2 6)
  gI : mg "shapes_in" = some (.ref fI)
  kI : PySem.W.keepIn K (.ref fI) = true
  bI : Binds K dI ["shape"] []
variable {fN fC fS fV : Addr} {dN dC dS dV : FuncData} {C T1 T2 : Addr}
theorem ok_check_shape (F : Fun K "check_shape" "check_shape" s_check_shape fC dC) (X : STxt P w K mg base fN fI dN dI T1 T2) (Z : CTxt K mg C) : FnOk P w K mg base (EA.CX EA.Za P w) 22 fC dC ["shape"] (spCheck K C T1 T2) := by
  obtain ⟨tV, mV⟩ := Z.mV
  obtain ⟨tS, mS⟩ := Z.mS
  refine EA.okX F sc_check_shape (fun vs H Q E h => ?_) (fun cdv A outer s H vs Q E hr h => ?_)
  · obtain ⟨v, rfl, _⟩ := h
    rfl
  obtain ⟨v, rfl, d, hd, hsh, hT1, hT2, q⟩ := h
  refine ⟨_, pss_one (ps_if (PW.pt (pw_or (pt_not (pt_val (pe_call X.ON hr rfl X.gN X.kN X.bN .nil pass0 (pa_cons (pv 0) (pa_cons (pe_glob rfl mV (v := .int 6) ⟨_, rfl⟩) pa_nil)))))
      (pw_or1 (pt_cmpR op_gt (pe_call X.OI (hr.mono (by omega)) rfl X.gI X.kI X.bI .nil pass0 (pa_cons (pv 0) pa_nil)) (pe_glob rfl mS (v := .int 40) ⟨_, rfl⟩) (nomark _)))))
      (pss_one (EA.ps_raise EA.zaOk rfl (EA.takes_of EA.zaOk rfl rfl rfl rfl) (EA.pmk0 PySem.F.excBase_ValueError Z.xC Z.gC Z.kC (raises_own Z.bC Z.tC) (by rfl)))) pss_nil), ?_⟩
  refine ⟨v, rfl, v, d, 6, rfl, by decide, hd, hsh, hT1, fun H1 g1 => ⟨_, rfl, ?_⟩⟩
  rcases q with ⟨hb, hz⟩ | ⟨s, rfl, hw, hyes, hno⟩
  · rw [hb]
    exact iteT fun t ht => hz t _ (g1.trans (Gx.new ht)) upd_same
  · rw [nested_data 6 s hw]
    refine iteF ⟨v, rfl, v, s, rfl, hd.gr g1, hw, by decide, g1.tab _ hT2, fun H2 g2 => ⟨_, _, rfl, rfl, _, rfl, ite2 (fun c => ?_) (fun c => ?_)⟩⟩
    · have c' : (40 : Int) < ((Sh.size s : Nat) : Int) := of_decide_eq_true c
      exact fun t ht => hno (by omega) t _ ((g1.trans g2).trans (Gx.new ht)) upd_same
    · have c' : ¬ (40 : Int) < ((Sh.size s : Nat) : Int) := of_decide_eq_false (Bool.eq_false_iff.mpr c)
      exact hyes (by omega) _ (g1.trans g2)
end
end M4
end
section
set_option Elab.async false
set_option linter.all false
set_option maxRecDepth 100000
set_option maxHeartbeats 4000000
namespace M4
open PySem PySem.Spec PyProof.Rows L2 GE MS
abbrev s_law_box : Stmt := top 39
abbrev s_law_take : Stmt := top 40
abbrev s_law_pick : Stmt := top 41
/-! ### the box -/
/-- the box at b, its cells at l -/
structure Bx (b l : Addr) (ns : List Int) (H : Hp) : Prop where
  at_ : ∃ c k a : Int, H b = some (.lst [.int c, .int k, .int a, .ref l]) ∧ 0 ≤ c ∧ -9 ≤ k ∧ k ≤ 60 ∧ 0 ≤ a
  cells : H l = some (.lst (ns.map V.int))
  ne : l ≠ b
  pos : ∀ n ∈ ns, (0 : Int) ≤ n
  len : ns.length ≤ 63
abbrev Gb (b : Addr) : Hp → Hp → Prop := Gx fun a => a = b
/-- all but what stands at b is as it was -/
def Ub (b : Addr) (H H' : Hp) : Prop := ∀ x, x ≠ b → H' x = H x
theorem Ub.refl {b : Addr} {H : Hp} : Ub b H H := fun _ _ => rfl
theorem Ub.put {b : Addr} {H H' : Hp} {o : HO} (u : Ub b H H') : Ub b H (upd H' b o) := fun x hx => (upd_ne hx).trans (u x hx)
theorem Ub.gb {b : Addr} {H H' : Hp} {xs : List V} (h : H b = some (.lst xs)) (u : Ub b H H') : Gb b H H' :=
  ⟨fun a o e nb _ => (u a nb).trans e, fun P ⟨ps, e, t⟩ => ⟨ps, (u P fun z => by rw [z, h] at e; cases e).trans e, t⟩⟩
theorem Bx.lst {b l : Addr} {ns : List Int} {H : Hp} (x : Bx b l ns H) : ∃ xs, H b = some (.lst xs) := by
  obtain ⟨c, k, a, h, _⟩ := x.at_
  exact ⟨_, h⟩
theorem Bx.not {b l : Addr} {ns : List Int} {H : Hp} (x : Bx b l ns H) : NoT (fun a => a = b) H := fun a e => by rw [e]; exact x.lst
theorem Bx.gr {b l : Addr} {ns : List Int} {H H' : Hp} (x : Bx b l ns H) (g : Gr H H') : Bx b l ns H' := by
  obtain ⟨⟨c, k, a, h, r⟩, h2, h3, h4, h5⟩ := x
  exact ⟨⟨c, k, a, g.keep _ _ h (fun z => z) (fun ps z => by cases z), r⟩, g.keep _ _ h2 (fun z => z) (fun ps z => by cases z), h3, h4, h5⟩
theorem Bx.put {b l : Addr} {ns : List Int} {H H' : Hp} {c k a : Int} (x : Bx b l ns H) (u : Ub b H H') (h : H' b = some (.lst [.int c, .int k, .int a, .ref l])) (h1 : 0 ≤ c) (h2 : -9 ≤ k) (h3 : k ≤ 60) (h4 : 0 ≤ a) : Bx b l ns H' :=
  ⟨⟨c, k, a, h, h1, h2, h3, h4⟩, (u l x.ne).trans x.cells, x.ne, x.pos, x.len⟩
structure Blt2 (mg : Str → Option Value) : Prop where
  abs : mg "abs" = none
  int : mg "int" = none
  len : mg "len" = none
  range : mg "range" = none
section
variable {P : Program} {w : World} {K : PySem.W.Frag} {mg : Str → Option Value} {base : Heap} {f fT : Addr} {fd dT : FuncData}
def spTake : Sp := fun vs H Q _ => ∃ (b l : Addr) (ns : List Int) (m : Int), vs = [.ref b, .int m] ∧ 1 ≤ m ∧ m ≤ 1000 ∧ Bx b l ns H ∧ ∀ (r : Int) H', 0 ≤ r → r < m → Bx b l ns H' → Gb b H H' → Q (.int r) H'
theorem sc_law_take : FnScope ["box", "m", "at", "cell", "told"] ["box", "m"] (defScope s_law_take) := ⟨rfl, rfl, rfl, by decide +kernel, rfl, by decide +kernel, by decide +kernel⟩
theorem fmod_in {i m : Int} (h : 0 < m) : 0 ≤ i.fmod m ∧ i.fmod m < m := ⟨Int.fmod_nonneg_of_pos i h, Int.fmod_lt_of_pos i h⟩
theorem ixn {n j : Nat} (hj : j < n) : ixN n (j : Int) = some j := by
  unfold ixN
  rw [if_pos (by omega), if_pos (by omega)]
  simp
abbrev kTake : List Str := ["box", "m", "at", "cell", "told"]
theorem take_rest (B : Blt2 mg) {cdv : Value} {A : Around} {outer : List Env} {s : Shared} {H0 : Hp} {E : XK} :
    ∃ t, PSs (cxOf CX0 P w K mg base kTake "_law_take" (defScope s_law_take) f cdv A outer s H0 E).nox (defBody s_law_take).tail t ∧
      ∀ (Q : VK) (b l : Addr) (ns : List Int) (m : Int) (H H1 : Hp) (c k a : Int) (y2 y3 y4 : Option V), 1 ≤ m → m ≤ 1000 → Bx b l ns H → Ub b H H1 → H1 b = some (.lst [.int c, .int k, .int a, .ref l]) → 0 ≤ c → -9 ≤ k → k ≤ 60 → 0 ≤ a → k ≠ 0 →
        (∀ (r : Int) H', 0 ≤ r → r < m → Bx b l ns H' → Gb b H H' → Q (.int r) H') → t { nx := fun _ H' => Q .non H', rt := Q } [some (.ref b), some (.int m), y2, y3, y4] H1 := by
  refine ⟨_, pss_cons (ps_if (pt_cmpR op_gt (pe_ix ix_list (pv 0) pe_int (fun _ _ => rfl)) pe_int (nomark _))
      (pss_cons (ps_set (i := 4) sc_law_take.nd rfl (.inl rfl) (pe_op op_mod (pe_callTy call_int1 (by rfl) B.int (by decide +kernel) (pa_cons (pe_ix ix_list (pv 0) pe_int (fun _ _ => rfl)) pa_nil)) (pv 1)))
      (pss_cons (ps_asg (pe_op op_fdiv (pe_ix ix_list (pv 0) pe_int (fun _ _ => rfl)) (pv 1)) (pg_sub (pv 0) pe_int set_list))
      (pss_cons (ps_asg (pe_ifExp (pt_cmpR op_gt (pe_ix ix_list (pv 0) pe_int (fun _ _ => rfl)) pe_int (nomark _)) (pe_op op_sub (pe_ix ix_list (pv 0) pe_int (fun _ _ => rfl)) pe_int) pe_int) (pg_sub (pv 0) pe_int set_list))
      (pss_one (ps_ret (pv 4)))))) pss_nil)
    (pss_cons (ps_asg (pe_op op_add (pe_ix ix_list (pv 0) pe_int (fun _ _ => rfl)) pe_int) (pg_sub (pv 0) pe_int set_list))
    (pss_cons (ps_asg (pe_op op_mod (pe_callTy call_int1 (by rfl) B.int (by decide +kernel) (pa_cons (pe_op op_add (pe_op op_mul (pe_ix ix_list (pv 0) pe_int (fun _ _ => rfl)) pe_int) (pe_op op_mul pe_int (pe_op op_add (pe_ix ix_list (pv 0) pe_int (fun _ _ => rfl)) pe_int))) pa_nil)) pe_int) (pg_sub (pv 0) pe_int set_list))
    (pss_one (ps_ret (pe_op op_mod (pe_op op_mod (pe_callTy call_int1 (by rfl) B.int (by decide +kernel) (pa_cons (pe_op op_add (pe_op op_fdiv (pe_ix ix_list (pv 0) pe_int (fun _ _ => rfl)) pe_int) (pe_ix ix_list (pv 0) pe_int (fun _ _ => rfl))) pa_nil)) pe_int) (pv 1)))))), ?_⟩
  intro Q b l ns m H H1 c k a y2 y3 y4 m1 m2 hB u1 h1 hc hk1 hk2 ha hk q
  obtain ⟨xs, hb0⟩ := hB.lst
  refine ⟨_, rfl, b, _, _, _, rfl, rfl, SqL.of h1, atI_nat (j := 1) rfl, _, _, rfl, rfl, _, rfl, ite2 (fun c1 => ?_) (fun c1 => ?_)⟩
  · have c1 : 0 < k := of_decide_eq_true c1
    refine ⟨_, rfl, b, _, _, _, rfl, rfl, SqL.of h1, atI_nat (j := 0) rfl, .inl ⟨_, rfl, _, rfl, _, _, rfl, rfl, (by show (0 : Int) < m; omega), ?_⟩⟩
    refine ⟨_, rfl, b, _, _, _, rfl, rfl, SqL.of h1, atI_nat (j := 0) rfl, _, rfl, _, _, rfl, rfl, ⟨(by show (0 : Int) < m; omega), (by show m < 1073741824; omega)⟩, _, rfl, b, _, _, _, rfl, rfl, h1, ixn (j := 0) (show 0 < 4 by decide), ?_⟩
    have h2 : (upd H1 b (.lst [.int (c / m), .int k, .int a, .ref l])) b = some (.lst [.int (c / m), .int k, .int a, .ref l]) := upd_same
    have u2 : Ub b H (upd H1 b (.lst [.int (c / m), .int k, .int a, .ref l])) := u1.put
    have hc2 : 0 ≤ c / m := Int.ediv_nonneg hc (by omega)
    refine ⟨_, rfl, b, _, _, _, rfl, rfl, SqL.of h2, atI_nat (j := 0) rfl, _, _, rfl, rfl, _, rfl, ite2 (fun c2 => ?_) (fun c2 => ?_)⟩
    · refine ⟨_, rfl, b, _, _, _, rfl, rfl, SqL.of h2, atI_nat (j := 1) rfl, _, _, rfl, rfl, _, rfl, b, _, _, _, rfl, rfl, h2, ixn (j := 1) (show 1 < 4 by decide), ?_⟩
      have h3 : (upd (upd H1 b (.lst [.int (c / m), .int k, .int a, .ref l])) b (.lst [.int (c / m), .int (k - 1), .int a, .ref l])) b = some (.lst [.int (c / m), .int (k - 1), .int a, .ref l]) := upd_same
      exact ⟨_, rfl, q _ _ (Int.emod_nonneg c (by omega)) (Int.emod_lt_of_pos c (by omega)) (hB.put u2.put h3 hc2 (by omega) (by omega) ha) (Ub.gb hb0 u2.put)⟩
    · refine ⟨_, rfl, b, _, _, _, rfl, rfl, h2, ixn (j := 1) (show 1 < 4 by decide), ?_⟩
      have h3 : (upd (upd H1 b (.lst [.int (c / m), .int k, .int a, .ref l])) b (.lst [.int (c / m), .int 0, .int a, .ref l])) b = some (.lst [.int (c / m), .int 0, .int a, .ref l]) := upd_same
      exact ⟨_, rfl, q _ _ (Int.emod_nonneg c (by omega)) (Int.emod_lt_of_pos c (by omega)) (hB.put u2.put h3 hc2 (by omega) (by omega) ha) (Ub.gb hb0 u2.put)⟩
  · have c1 : ¬ 0 < k := of_decide_eq_false (Bool.eq_false_iff.mpr c1)
    refine ⟨_, rfl, b, _, _, _, rfl, rfl, SqL.of h1, atI_nat (j := 1) rfl, _, _, rfl, rfl, _, rfl, b, _, _, _, rfl, rfl, h1, ixn (j := 1) (show 1 < 4 by decide), ?_⟩
    have h2 : (upd H1 b (.lst [.int c, .int (k + 1), .int a, .ref l])) b = some (.lst [.int c, .int (k + 1), .int a, .ref l]) := upd_same
    have u2 : Ub b H (upd H1 b (.lst [.int c, .int (k + 1), .int a, .ref l])) := u1.put
    refine ⟨_, rfl, b, _, _, _, rfl, rfl, SqL.of h2, atI_nat (j := 0) rfl, _, _, rfl, rfl, .inr ⟨by decide, by decide⟩, ?_⟩
    refine ⟨_, rfl, b, _, _, _, rfl, rfl, SqL.of h2, atI_nat (j := 1) rfl, _, _, rfl, rfl, _, _, rfl, rfl, .inl ⟨by decide, by decide⟩, _, _, rfl, rfl, .inl ⟨_, rfl, _, _, rfl, rfl, (by show (0 : Int) < 2147483647; decide), ?_⟩⟩
    refine ⟨_, rfl, b, _, _, _, rfl, rfl, h2, ixn (j := 0) (show 0 < 4 by decide), ?_⟩
    have x0 : 0 ≤ (c * 48271 + 69621 * (k + 1 + 20)) % 2147483647 := Int.emod_nonneg _ (by decide)
    have h3 : (upd (upd H1 b (.lst [.int c, .int (k + 1), .int a, .ref l])) b (.lst [.int ((c * 48271 + 69621 * (k + 1 + 20)) % 2147483647), .int (k + 1), .int a, .ref l])) b = some (.lst [.int ((c * 48271 + 69621 * (k + 1 + 20)) % 2147483647), .int (k + 1), .int a, .ref l]) := upd_same
    refine ⟨_, rfl, b, _, _, _, rfl, rfl, SqL.of h3, atI_nat (j := 0) rfl, _, _, rfl, rfl, ⟨by decide, by decide⟩, ?_⟩
    refine ⟨_, rfl, b, _, _, _, rfl, rfl, SqL.of h3, atI_nat (j := 0) rfl, _, _, rfl, rfl, .inl ⟨_, rfl, _, _, rfl, rfl, (by show (0 : Int) < 1000003; decide), _, rfl, _, _, rfl, rfl, (by show (0 : Int) < m; omega), ?_⟩⟩
    exact q _ _ (Int.emod_nonneg _ (by omega)) (Int.emod_lt_of_pos _ (by omega)) (hB.put u2.put h3 x0 (by omega) (by omega) ha) (Ub.gb hb0 u2.put)
theorem pow18 : (10 : Int) ^ (18 : Int).toNat = 1000000000000000000 := by decide
theorem ok_law_take {k : Nat} (B : Blt2 mg) (F : Fun K "_law_take" "_law_take" s_law_take f fd) : FnOk P w K mg base CX0 (k + 1) f fd ["box", "m"] spTake := by
  refine F.ok sc_law_take (fun vs H Q E h => ?_) (fun cdv A outer s H vs Q E hr h => ?_)
  · obtain ⟨b, l, ns, m, rfl, _⟩ := h
    rfl
  obtain ⟨b, l, ns, m, rfl, m1, m2, hB, q⟩ := h
  obtain ⟨t, ht, hq⟩ := take_rest (P := P) (w := w) (K := K) (mg := mg) (base := base) (f := f) B (cdv := cdv) (A := A) (outer := outer) (s := s) (H0 := H) (E := E)
  refine ⟨_, pss_cons (ps_if (pt_cmpR op_eq (pe_ix ix_list (pv 0) pe_int (fun _ _ => rfl)) pe_int (nomark _))
      (pss_cons (ps_set (i := 2) sc_law_take.nd rfl (.inl rfl) (pe_ix ix_list (pv 0) pe_int (fun _ _ => rfl)))
      (pss_cons (ps_set (i := 3) sc_law_take.nd rfl (.inl rfl) pe_int)
      (pss_cons (ps_if (pt_cmpR op_lt (pv 2) (pe_callB call_len_seq (by rfl) B.len PySem.boot_len (pa_cons (pe_ix ix_list (pv 0) pe_int (fun _ _ => rfl)) pa_nil)) (nomark _))
          (pss_cons (ps_set (i := 3) sc_law_take.nd rfl (.inl rfl) (pe_ix ix_list (pe_ix ix_list (pv 0) pe_int (fun _ _ => rfl)) (pv 2) (fun _ _ => rfl)))
          (pss_one (ps_asg (pe_ifExp (pt_cmpR op_ge (pv 3) (pe_op op_pow pe_int pe_int) (nomark _)) pe_int (pe_un un_neg pe_int)) (pg_sub (pv 0) pe_int set_list)))) pss_nil)
      (pss_cons (ps_asg (pe_op op_add (pv 2) pe_int) (pg_sub (pv 0) pe_int set_list))
      (pss_cons (ps_asg (pv 3) (pg_sub (pv 0) pe_int set_list))
      (pss_one (ps_if (pt_cmpR op_eq (pe_ix ix_list (pv 0) pe_int (fun _ _ => rfl)) pe_int (nomark _)) (pss_one (ps_ret pe_int)) pss_nil))))))) pss_nil) ht, ?_⟩
  obtain ⟨c, k, a, h, hc, hk1, hk2, ha⟩ := hB.at_
  refine ⟨_, rfl, b, _, _, _, rfl, rfl, SqL.of h, atI_nat (j := 1) rfl, rfl, _, rfl, ite2 (fun c1 => ?_) (fun c1 => ?_)⟩
  · have c1 : k = 0 := V.int.inj (of_decide_eq_true c1)
    subst c1
    refine ⟨_, rfl, b, _, _, _, rfl, rfl, SqL.of h, atI_nat (j := 2) rfl, ?_⟩
    obtain ⟨xs, hb0⟩ := hB.lst
    have main : ∀ k2 v : Int, -9 ≤ k2 → k2 ≤ 60 → 0 ≤ v → ∀ H1, Ub b H H1 → H1 b = some (.lst [.int c, .int k2, .int a, .ref l]) →
        tSeq (tAsg (tOp (rI0 fun i j => .int (i + j)) (tVar 2) (tC (.int 1))) (gSub (tVar 0) (tC (.int 2)) rSetL)) (tSeq (tAsg (tVar 3) (gSub (tVar 0) (tC (.int 0)) rSetL)) (tIfS (tTest (tOp rEq (tOp (rIxL K) (tVar 0) (tC (.int 1))) (tC (.int 0)))) (tRet (tC (.int 0))) tNext))
          { nx := t { nx := fun _ H' => Q .non H', rt := Q }, rt := Q } [some (.ref b), some (.int m), some (.int a), some (.int v), none] H1 := by
      intro k2 v g1 g2 g3 H1 u1 h1
      refine ⟨_, rfl, _, _, rfl, rfl, _, rfl, b, _, _, _, rfl, rfl, h1, ixn (j := 2) (show 2 < 4 by decide), ?_⟩
      have h2 : (upd H1 b (.lst [.int c, .int k2, .int (a + 1), .ref l])) b = some (.lst [.int c, .int k2, .int (a + 1), .ref l]) := upd_same
      have u2 : Ub b H (upd H1 b (.lst [.int c, .int k2, .int (a + 1), .ref l])) := u1.put
      refine ⟨_, rfl, _, rfl, b, _, _, _, rfl, rfl, h2, ixn (j := 0) (show 0 < 4 by decide), ?_⟩
      have h3 : (upd (upd H1 b (.lst [.int c, .int k2, .int (a + 1), .ref l])) b (.lst [.int v, .int k2, .int (a + 1), .ref l])) b = some (.lst [.int v, .int k2, .int (a + 1), .ref l]) := upd_same
      refine ⟨_, rfl, b, _, _, _, rfl, rfl, SqL.of h3, atI_nat (j := 1) rfl, rfl, _, rfl, ite2 (fun e => ?_) (fun e => ?_)⟩
      · exact q 0 _ (by decide) (by omega) (hB.put u2.put h3 g3 g1 g2 (by omega)) (Ub.gb hb0 u2.put)
      · have e : k2 ≠ 0 := fun z => e (decide_eq_true (congrArg V.int z))
        exact hq Q b l ns m H _ v k2 (a + 1) _ _ none m1 m2 hB u2.put h3 g3 g1 g2 (by omega) e q
    refine ⟨_, rfl, _, rfl, b, _, _, _, rfl, rfl, SqL.of h, atI_nat (j := 3) rfl, l, _, rfl, .inl (SqL.of hB.cells), _, _, rfl, rfl, _, rfl, ite2 (fun c2 => ?_) (fun c2 => ?_)⟩
    · have c2 : a < (((ns.map V.int).length : Nat) : Int) := of_decide_eq_true c2
      rw [List.length_map] at c2
      have hn : a.toNat < ns.length := by omega
      have e1 : (ns.map V.int)[a.toNat]? = some (.int ns[a.toNat]) := by rw [List.getElem?_map, List.getElem?_eq_getElem hn]; rfl
      have e2 : atI (ns.map V.int) a = some (.int ns[a.toNat]) := by
        have z : atI (ns.map V.int) ((a.toNat : Nat) : Int) = some (.int ns[a.toNat]) := atI_nat e1
        have ez : ((a.toNat : Nat) : Int) = a := by omega
        rw [ez] at z
        exact z
      have p0 : 0 ≤ ns[a.toNat] := hB.pos _ (List.getElem_mem hn)
      refine ⟨_, rfl, b, _, _, _, rfl, rfl, SqL.of h, atI_nat (j := 3) rfl, _, rfl, l, _, _, _, rfl, rfl, SqL.of hB.cells, e2, ?_⟩
      refine ⟨_, rfl, _, _, rfl, rfl, ⟨by decide, by decide, by decide⟩, _, _, rfl, rfl, _, rfl, ite2 (fun c3 => ?_) (fun c3 => ?_)⟩
      · exact ⟨_, rfl, b, _, _, _, rfl, rfl, h, ixn (j := 1) (show 1 < 4 by decide), main 60 _ (by decide) (by decide) p0 _ (Ub.refl.put) upd_same⟩
      · exact ⟨_, rfl, _, rfl, b, _, _, _, rfl, rfl, h, ixn (j := 1) (show 1 < 4 by decide), main (-9) _ (by decide) (by decide) p0 _ (Ub.refl.put) upd_same⟩
    · exact main 0 0 (by decide) (by decide) (by decide) H Ub.refl h
  · have c1 : k ≠ 0 := fun z => c1 (decide_eq_true (congrArg V.int z))
    exact hq Q b l ns m H H c k a none none none m1 m2 hB Ub.refl h hc hk1 hk2 ha c1 q
end
end M4
end
section
set_option Elab.async false
set_option linter.all false
set_option maxRecDepth 100000
set_option maxHeartbeats 4000000
namespace M4
open PySem PySem.Spec PyProof.Rows L2 GE MS
section
variable {P : Program} {w : World} {K : PySem.W.Frag} {mg : Str → Option Value} {base : Heap} {f fT : Addr} {fd dT : FuncData}
theorem SqL.gr {H H' : Hp} {a : Addr} {xs : List V} (x : Gr H H') (h : SqL K H a xs) : SqL K H' a xs := by
  rcases h with h | h
  · rcases h with h | ⟨o, h⟩
    · exact .inl (.inl (x.keep _ _ h (fun z => z) fun ps z => by cases z))
    · exact .inl (.inr ⟨o, x.keep _ _ h (fun z => z) fun ps z => by cases z⟩)
  · exact .inr h
theorem Ub.gr {b : Addr} {H H' : Hp} (h : H b = none) (u : Ub b H H') : Gr H H' :=
  ⟨fun a o e _ _ => (u a fun z => by rw [z, h] at e; cases e).trans e, fun P ⟨ps, e, t⟩ => ⟨ps, (u P fun z => by rw [z, h] at e; cases e).trans e, t⟩⟩
def absI (i : Int) : Int := if i < 0 then -i else i
def spBox (K : PySem.W.Frag) : Sp := fun vs H Q _ => ∃ (a : Addr) (ns : List Int), vs = [.ref a] ∧ ns.length ≤ 63 ∧ SqL K H a (ns.map V.int) ∧ ∀ (b l : Addr) (ms : List Int) H', Gr H H' → Bx b l ms H' → Q (.ref b) H'
abbrev kBox : List Str := ["script", "x"]
theorem sc_law_box : FnScope kBox ["script"] (defScope s_law_box) := ⟨rfl, rfl, rfl, by decide +kernel, rfl, by decide +kernel, by decide +kernel⟩
theorem ok_law_box {k : Nat} (B : Blt2 mg) (F : Fun K "_law_box" "_law_box" s_law_box f fd) : FnOk P w K mg base CX0 (k + 1) f fd ["script"] (spBox K) := by
  refine F.ok sc_law_box (fun vs H Q E h => ?_) (fun cdv A outer s H vs Q E hr h => ?_)
  · obtain ⟨a, ns, rfl, _⟩ := h
    rfl
  obtain ⟨a, ns, rfl, hl, hS, q⟩ := h
  refine ⟨_, pss_one (ps_ret (pe_lst (pa_cons pe_int (pa_cons pe_int (pa_cons pe_int (pa_cons
    (pe_lc (own := [("x", 1)]) (g := gName 1) (tt := tYes) rfl sc_law_box.nd (pi_list (pv 0)) (blkOk_by (own := [("x", 1)]) (N := kBox) (sc := defScope s_law_box) (by decide +kernel))
      (fun _ _ _ _ _ => pg_name (i := 1) sc_law_box.nd rfl (Or.inl rfl)) (fun _ _ _ _ _ => pts_nil)
      (fun _ _ _ _ _ => pe_callB call_abs (by rfl) B.abs (by decide +kernel) (pa_cons (pe_callTy call_int1 (by rfl) B.int (by decide +kernel) (pa_cons (pv 1) pa_nil)) pa_nil))) pa_nil)))))), ?_⟩
  refine ⟨.ref a, rfl, a, rfl, ⟨_, hS⟩, fun D hD => ?_⟩
  refine lc_list (xs := ns.map V.int) (fun i H' => H' D = some (.lst (((ns.take i).map absI).map V.int)) ∧ Ub D H H') ⟨upd_same, Ub.refl.put⟩ (fun i H' _ p => SqL.gr (Ub.gr hD p.2) hS) (fun i x H' hx p => ?_) fun H' p => ?_
  · rw [List.getElem?_map] at hx
    obtain ⟨n, hn, rfl⟩ := Option.map_eq_some_iff.mp hx
    have hi : i < ns.length := (List.getElem?_eq_some_iff.mp hn).1
    refine ⟨rfl, _, rfl, .inl ⟨n, rfl, n, rfl, _, p.1, ?_, ?_, p.2.put⟩⟩
    · rw [List.length_map, List.length_map, List.length_take, sizeLine_eq]
      omega
    · rw [upd_same, List.take_succ, hn]
      simp [absI]
  · rw [List.length_map, List.take_length] at p
    refine ⟨by rw [sizeLine_eq]; exact (show 4 ≤ 16777216 by decide), fun b hb => ?_⟩
    have hne : D ≠ b := ne_of_none p.1 hb
    refine q b D (ns.map absI) _ ((Ub.gr hD p.2).trans (Gx.new hb)) ⟨⟨0, 0, 0, upd_same, by decide, by decide, by decide, by decide⟩, (upd_ne hne).trans p.1, hne, fun n hn => ?_, by rw [List.length_map]; exact hl⟩
    obtain ⟨m, _, rfl⟩ := List.mem_map.mp hn
    unfold absI
    split <;> omega
/-! ### _law_pick -/
def spPick : Sp := fun vs H Q _ => ∃ (b l m : Addr) (ns : List Int) (xs : List V), vs = [.ref b, .ref m] ∧ Bx b l ns H ∧ H m = some (.lst xs) ∧ m ≠ b ∧ 1 ≤ xs.length ∧ xs.length ≤ 1000 ∧ ∀ (v : V) H', v ∈ xs → Bx b l ns H' → Gb b H H' → Q v H'
theorem sc_law_pick : FnScope ["box", "menu"] ["box", "menu"] (defScope s_law_pick) := ⟨rfl, rfl, rfl, by decide +kernel, rfl, by decide +kernel, by decide +kernel⟩
theorem ok_law_pick {k : Nat} (B : Blt2 mg) (F : Fun K "_law_pick" "_law_pick" s_law_pick f fd) (G : FnOk P w K mg base CX0 k fT dT ["box", "m"] spTake) (gT : mg "_law_take" = some (.ref fT)) (kT : PySem.W.keepIn K (.ref fT) = true) (bT : Binds K dT ["box", "m"] []) :
    FnOk P w K mg base CX0 (k + 1) f fd ["box", "menu"] spPick := by
  refine F.ok sc_law_pick (fun vs H Q E h => ?_) (fun cdv A outer s H vs Q E hr h => ?_)
  · obtain ⟨b, l, m, ns, xs, rfl, _⟩ := h
    rfl
  obtain ⟨b, l, m, ns, xs, rfl, hB, hm, hne, h1, h2, q⟩ := h
  refine ⟨_, pss_one (ps_ret (pe_ix ix_list (pv 1) (pe_call G hr rfl gT kT bT .nil pass0 (pa_cons (pv 0) (pa_cons (pe_callB call_len_seq (by rfl) B.len PySem.boot_len (pa_cons (pv 1) pa_nil)) pa_nil))) (fun _ _ => rfl))), ?_⟩
  refine ⟨_, rfl, _, rfl, _, rfl, m, _, rfl, .inl (SqL.of hm), b, l, ns, _, rfl, by omega, by omega, hB, fun r H' hr0 hr1 hB' g => ?_⟩
  have hn : r.toNat < xs.length := by omega
  have z : atI xs ((r.toNat : Nat) : Int) = some xs[r.toNat] := atI_nat (List.getElem?_eq_getElem hn)
  have ez : ((r.toNat : Nat) : Int) = r := by omega
  rw [ez] at z
  exact ⟨m, xs, _, _, rfl, rfl, SqL.of (g.keep _ _ hm hne fun ps z => by cases z), z, q _ H' (List.getElem_mem hn) hB' g⟩
end
end M4
end
section
set_option Elab.async false
set_option linter.all false
set_option maxRecDepth 100000
set_option maxHeartbeats 4000000
namespace M4
open PySem PySem.Spec PyProof.Rows L2 GE MS
abbrev s_law_shape : Stmt := top 42
section
variable {K : PySem.W.Frag} {H H' : Hp} {b l D : Addr} {ns : List Int}
theorem Bx.gx {B : Addr → Prop} (x : Bx b l ns H) (nb : ¬ B b) (nl : ¬ B l) (g : Gx B H H') : Bx b l ns H' := by
  obtain ⟨⟨c, k, a, h, r⟩, h2, h3, h4, h5⟩ := x
  exact ⟨⟨c, k, a, g.keep _ _ h nb (fun ps z => by cases z), r⟩, g.keep _ _ h2 nl (fun ps z => by cases z), h3, h4, h5⟩
theorem _root_.MS.Gx.late {B : Addr → Prop} {H0 : Hp} {xs : List V} {o : HO} (g : Gx B H0 H) (h0 : H0 D = none) (h : H D = some (.lst xs)) : Gx B H0 (upd H D o) :=
  ⟨fun a u e nb nt => (upd_ne (fun z => by rw [z, h0] at e; cases e)).trans (g.keep a u e nb nt), fun P t => by
    obtain ⟨ps, e, q⟩ := g.tab P t
    exact ⟨ps, (upd_ne fun z => by rw [z, h] at e; cases e).trans e, q⟩⟩
theorem gD {xs : List V} {o : HO} (h : H D = some (.lst xs)) : Gx (fun a => a = D) H (upd H D o) := Ub.gb h Ub.refl.put
theorem nD {xs : List V} (h : H D = some (.lst xs)) : NoT (fun a => a = D) H := fun a e => by rw [e]; exact ⟨_, h⟩
theorem _root_.MS.Dt.new {v : V} {d : PyData} {p : Addr} {o : HO} (h : Dt K H v d) (hp : H p = none) : Dt K (upd H p o) v d := h.gr (Gx.new hp)
theorem _root_.MS.Dt.mk {vs : List V} {ds : List PyData} {p : Addr} (h : DtAll K H vs ds) (hp : H p = none) : Dt K (upd H p (.tup vs)) (.ref p) (.tuple ds) := .tup (SqT.of upd_same) (h.gr (Gx.new hp))
theorem Bx.new {p : Addr} {o : HO} (h : Bx b l ns H) (hp : H p = none) : Bx b l ns (upd H p o) := h.gr (Gx.new hp)
theorem _root_.MS.Gx.then {B : Addr → Prop} {H0 : Hp} {p : Addr} {o : HO} (g : Gx B H0 H) (hp : H p = none) : Gx B H0 (upd H p o) := g.trans (Gx.new hp)
theorem Bx.nb (x : Bx b l ns H) (hD : H D = none) : b ≠ D := fun z => by
  obtain ⟨xs, e⟩ := x.lst
  rw [z, hD] at e
  cases e
theorem Bx.nl (x : Bx b l ns H) (hD : H D = none) : l ≠ D := fun z => by
  have e := x.cells
  rw [z, hD] at e
  cases e
end
section
variable {P : Program} {w : World} {K : PySem.W.Frag} {mg : Str → Option Value} {base : Heap} {f fT fP fS : Addr} {fd dT dP dS : FuncData}
def spShape (K : PySem.W.Frag) (n : Nat) : Sp := fun vs H Q _ => ∃ (b l : Addr) (ns : List Int) (m : Nat), vs = [.ref b, .int m] ∧ 1 ≤ m ∧ m ≤ n ∧ Bx b l ns H ∧ ∀ (v : V) (s : Sh) H', Dt K H' v (Sh.data s) → Sh.wf m s → Bx b l ns H' → Gb b H H' → Q v H'
abbrev kShape : List Str := ["box", "levels", "sort", "word", "k"]
theorem sc_law_shape : FnScope kShape ["box", "levels"] (defScope s_law_shape) := ⟨rfl, rfl, rfl, by decide +kernel, rfl, by decide +kernel, by decide +kernel⟩
/-- what the drawing defs ask of the text -/
structure DTxt (P : Program) (w : World) (K : PySem.W.Frag) (mg : Str → Option Value) (base : Heap) (fT fP : Addr) (dT dP : FuncData) : Prop where
  B : Blt mg
  B2 : Blt2 mg
  OT : FnOk P w K mg base CX0 1 fT dT ["box", "m"] spTake
  gT : mg "_law_take" = some (.ref fT)
  kT : PySem.W.keepIn K (.ref fT) = true
  bT : Binds K dT ["box", "m"] []
  OP : FnOk P w K mg base CX0 2 fP dP ["box", "menu"] spPick
  gP : mg "_law_pick" = some (.ref fP)
  kP : PySem.W.keepIn K (.ref fP) = true
  bP : Binds K dP ["box", "menu"] []
theorem ok_law_shape {n : Nat} (X : DTxt P w K mg base fT fP dT dP) (F : Fun K "_law_drawn" "_law_drawn" s_law_shape fS dS) (gS : mg "_law_drawn" = some (.ref fS)) (bS : Binds K dS ["box", "levels"] []) (GS : FnOk P w K mg base CX0 (n + 2) fS dS ["box", "levels"] (spShape K n)) :
    FnOk P w K mg base CX0 (n + 3) fS dS ["box", "levels"] (spShape K (n + 1)) := by
  refine F.ok sc_law_shape (fun vs H Q E h => ?_) (fun cdv A outer s H vs Q E hr h => ?_)
  · obtain ⟨b, l, ns, m, rfl, _⟩ := h
    rfl
  obtain ⟨b, l, ns, m, rfl, m1, m2, hB, q⟩ := h
  have hr1 : Room 1 (A.deeper (envOfC "_law_drawn" (defScope s_law_shape) s.heap.objs.size fS cdv)) := hr.mono (by omega)
  have hr2 : Room 2 (A.deeper (envOfC "_law_drawn" (defScope s_law_shape) s.heap.objs.size fS cdv)) := hr.mono (by omega)
  have nd := sc_law_shape.nd
  refine ⟨_, pss_cons (ps_set (i := 2) nd rfl (.inl rfl) (pe_call X.OT hr1 rfl X.gT X.kT X.bT .nil pass0 (pa_cons (pv 0) (pa_cons pe_int pa_nil))))
    (pss_cons (ps_if (PW.pt (pw_or (pt_cmpR op_le (pv 1) pe_int (nomark _)) (pw_or1 (pt_cmpR op_eq (pv 2) pe_int (nomark _)))))
      (pss_one (ps_ret (pe_ifExp (pt_cmpR op_eq (pe_call X.OT hr1 rfl X.gT X.kT X.bT .nil pass0 (pa_cons (pv 0) (pa_cons pe_int pa_nil))) pe_int (nomark _))
        (pe_tup (pa_cons pe_str (pa_cons (pe_op op_add pe_int (pe_call X.OT hr1 rfl X.gT X.kT X.bT .nil pass0 (pa_cons (pv 0) (pa_cons pe_int pa_nil)))) pa_nil))) (pe_tup (pa_cons pe_str pa_nil))))) pss_nil)
    (pss_cons (ps_if (pt_cmpR op_lt (pv 2) pe_int (nomark _))
      (pss_cons (ps_set (i := 3) nd rfl (.inl rfl) (pe_call X.OP hr2 rfl X.gP X.kP X.bP .nil pass0 (pa_cons (pv 0) (pa_cons (pe_lst (pa_cons pe_str (pa_cons pe_str (pa_cons pe_str pa_nil)))) pa_nil))))
      (pss_one (ps_ret (pe_tup (pa_cons (pv 3) (pa_cons (pe_callTy call_tuple_of (by rfl) X.B.tuple (by decide +kernel) (pa_cons
        (pe_lc (own := [("k", 4)]) (g := gName 4) (tt := tYes) rfl nd (pi_range1 (by rfl) X.B2.range (pa_cons (pe_op op_add pe_int (pe_call X.OT hr1 rfl X.gT X.kT X.bT .nil pass0 (pa_cons (pv 0) (pa_cons pe_int pa_nil)))) pa_nil))
          (blkOk_by (own := [("k", 4)]) (N := kShape) (sc := defScope s_law_shape) (by decide +kernel))
          (fun _ _ _ _ _ => pg_name (i := 4) nd rfl (Or.inl rfl)) (fun _ _ _ _ _ => pts_nil)
          (fun _ _ _ _ _ => pe_call GS hr rfl gS F.kp bS .nil pass0 (pa_cons (pv 0) (pa_cons (pe_op op_sub (pv 1) pe_int) pa_nil)))) pa_nil)) pa_nil)))))) pss_nil)
    (pss_cons (ps_if (pt_cmpR op_eq (pv 2) pe_int (nomark _))
      (pss_one (ps_ret (pe_tup (pa_cons pe_str (pa_cons (pe_call X.OT hr1 rfl X.gT X.kT X.bT .nil pass0 (pa_cons (pv 0) (pa_cons pe_int pa_nil))) (pa_cons (pe_call GS hr rfl gS F.kp bS .nil pass0 (pa_cons (pv 0) (pa_cons (pe_op op_sub (pv 1) pe_int) pa_nil))) pa_nil)))))) pss_nil)
    (pss_one (ps_ret (pe_tup (pa_cons (pe_call X.OP hr2 rfl X.gP X.kP X.bP .nil pass0 (pa_cons (pv 0) (pa_cons (pe_lst (pa_cons pe_str (pa_cons pe_str (pa_cons pe_str (pa_cons pe_str (pa_cons pe_str pa_nil)))))) pa_nil)))
      (pa_cons (pe_call GS hr rfl gS F.kp bS .nil pass0 (pa_cons (pv 0) (pa_cons (pe_op op_sub (pv 1) pe_int) pa_nil))) pa_nil)))))))), ?_⟩
  refine ⟨_, rfl, b, l, ns, 9, rfl, by decide, by decide, hB, fun r H1 hr0 hr9 B1 g1 => ?_⟩
  obtain ⟨m, rfl⟩ : ∃ j, m = j + 1 := ⟨m - 1, by omega⟩
  have em : ((m + 1 : Nat) : Int) - 1 = (m : Int) := by omega
  have leaf : ∀ y3 y4 : Option V, tIf (tTest (tOp rEq (tCall spTake [] E0 (tCons (tVar 0) (tCons (tC (V.int 3)) tNil))) (tC (V.int 0))))
      (tTup (tCons (tC (V.str "letters")) (tCons (tOp (rI0 fun i j => V.int (i + j)) (tC (V.int 1)) (tCall spTake [] E0 (tCons (tVar 0) (tCons (tC (V.int 5)) tNil)))) tNil)))
      (tTup (tCons (tC (V.str "self")) tNil)) [some (.ref b), some (.int ((m + 1 : Nat) : Int)), some (.int r), y3, y4] H1 Q := by
    intro y3 y4
    refine ⟨_, rfl, b, l, ns, 3, rfl, by decide, by decide, B1, fun r2 H2 _ _ B2 g2 => ⟨rfl, _, rfl, ite2 (fun _ => ?_) (fun _ => ?_)⟩⟩
    · refine ⟨_, rfl, b, l, ns, 5, rfl, by decide, by decide, B2, fun r3 H3 p0 p5 B3 g3 => ⟨1, r3, rfl, rfl, by rw [sizeLine_eq]; exact (show 2 ≤ 16777216 by decide), fun p hp => ?_⟩⟩
      obtain ⟨j, hj⟩ : ∃ j : Nat, (j : Int) = 1 + r3 := ⟨(1 + r3).toNat, by omega⟩
      refine q _ (.letters j) _ (Dt.mk (ds := [kS "letters", .int j]) (.cons (.str _) (.cons ?_ .nil)) hp) ⟨by omega, by omega⟩ (B3.new hp) (((g1.trans g2).trans g3).then hp)
      rw [hj]
      exact .int _
    · refine ⟨by rw [sizeLine_eq]; exact (show 1 ≤ 16777216 by decide), fun p hp => ?_⟩
      exact q _ .self _ (Dt.mk (ds := [kS "self"]) (.cons (.str _) .nil) hp) trivial (B2.new hp) ((g1.trans g2).then hp)
  refine ⟨_, rfl, _, _, rfl, rfl, _, rfl, ite2 (fun c1 => leaf _ _) (fun c1 => ?_)⟩
  have c1 : ¬ (((m + 1 : Nat) : Int) ≤ 1) := of_decide_eq_false (Bool.eq_false_iff.mpr c1)
  have call : ∀ (H2 : Hp) (R : VK), Bx b l ns H2 → Gb b H H2 → (∀ (v : V) (s : Sh) H', Dt K H' v (Sh.data s) → Sh.wf m s → Bx b l ns H' → Gb b H2 H' → R v H') → spShape K n [.ref b, .int (((m + 1 : Nat) : Int) - 1)] H2 R fun _ _ _ => False :=
    fun H2 R B2 g2 hR => ⟨b, l, ns, m, by rw [em], by omega, by omega, B2, hR⟩
  refine ⟨_, rfl, rfl, _, rfl, ite2 (fun c2 => leaf _ _) (fun c2 => ?_)⟩
  refine ⟨_, rfl, _, _, rfl, rfl, _, rfl, ite2 (fun c3 => ?_) (fun c3 => ?_)⟩
  · -- both, either
    refine ⟨_, rfl, by rw [sizeLine_eq]; exact (show 3 ≤ 16777216 by decide), fun pm hm => ?_⟩
    refine ⟨b, l, pm, ns, _, rfl, B1.new hm, upd_same, fun z => B1.nb hm z.symm, by show 1 ≤ 3; decide, by show 3 ≤ 1000; decide, fun v H2 hv B2 g2 => ?_⟩
    have g2 : Gb b H H2 := g1.trans ((Gx.new hm).trans g2)
    have hw : v = .str "both" ∨ v = .str "either" := by
      simp only [List.mem_cons, List.not_mem_nil, or_false] at hv
      rcases hv with h | h | h
      · exact .inl h
      · exact .inl h
      · exact .inr h
    have sz2 : 2 ≤ sizeLine := by rw [sizeLine_eq]; decide
    refine ⟨_, rfl, _, rfl, b, l, ns, 4, rfl, by decide, by decide, B2, fun r3 H3 p0 p4 B3 g3 => ⟨1, r3, rfl, rfl, _, rfl, by omega, by omega, fun D hD => ?_⟩⟩
    have g3 : Gb b H H3 := g2.trans g3
    have nb := B3.nb hD
    have nl := B3.nl hD
    obtain ⟨j, hj⟩ : ∃ j : Nat, j = (1 + r3).toNat := ⟨_, rfl⟩
    rw [← hj]
    refine lc_range (fun i H' => ∃ (vs : List V) (ss : List Sh), H' D = some (.lst vs) ∧ DtAll K H' vs (Sh.datas ss) ∧ ss.length = i ∧ (∀ s ∈ ss, Sh.wf m s) ∧ Bx b l ns H' ∧ Gb b H3 H')
      ⟨[], [], upd_same, .nil, rfl, fun s hs => (List.not_mem_nil hs).elim, B3.new hD, Gx.new hD⟩ (fun i H4 hi p => ?_) fun H4 p => ?_
    · obtain ⟨vs, ss, e4, a4, n4, w4, B4, g4⟩ := p
      refine ⟨rfl, _, rfl, _, rfl, _, _, rfl, rfl, call H4 _ B4 (g3.trans g4) fun v5 s5 H5 d5 w5 B5 g5 => ?_⟩
      have e5 : H5 D = some (.lst vs) := g5.keep _ _ e4 (fun z => nb z.symm) fun ps z => by cases z
      have a5 : DtAll K H5 vs (Sh.datas ss) := DtAll.gx B4.not g5 a4
      have l5 : vs.length = i := by rw [a4.length, Sh.datas_map, List.length_map, n4]
      refine ⟨vs, e5, by rw [l5, sizeLine_eq]; omega, vs ++ [v5], ss ++ [s5], upd_same, ?_, by rw [List.length_append, n4]; rfl, fun s hs => ?_, B5.gx nb nl (gD e5), (g4.trans g5).late hD e5⟩
      · rw [Sh.datas_map, List.map_append, ← Sh.datas_map]
        exact DtAll.gx (nD e5) (gD e5) (a5.append (.cons d5 .nil))
      · rcases List.mem_append.mp hs with z | z
        · exact w4 s z
        · rw [List.mem_singleton.mp z]; exact w5
    · obtain ⟨vs, ss, e4, a4, n4, w4, B4, g4⟩ := p
      refine ⟨D, vs, rfl, .inl ⟨SqL.of e4, fun t ht => ⟨sz2, fun p hp => ?_⟩⟩⟩
      have dd : DtAll K (upd (upd H4 t (.tup vs)) p (.tup [v, .ref t])) [.ref t] [.tuple (Sh.datas ss)] := .cons ((Dt.mk a4 ht).new hp) .nil
      have gg : Gb b H (upd (upd H4 t (.tup vs)) p (.tup [v, .ref t])) := ((g3.trans g4).then ht).then hp
      have bb : Bx b l ns (upd (upd H4 t (.tup vs)) p (.tup [v, .ref t])) := (B4.new ht).new hp
      rcases hw with rfl | rfl
      · exact q _ (.both ss) _ (.tup (SqT.of upd_same) (.cons (.str _) dd)) ⟨by omega, by omega, w4⟩ bb gg
      · exact q _ (.either ss) _ (.tup (SqT.of upd_same) (.cons (.str _) dd)) ⟨by omega, by omega, w4⟩ bb gg
  · refine ⟨_, rfl, rfl, _, rfl, ite2 (fun c4 => ?_) (fun c4 => ?_)⟩
    · refine ⟨_, rfl, b, l, ns, 5, rfl, by decide, by decide, B1, fun r2 H2 p0 p5 B2 g2 => ⟨_, rfl, _, rfl, _, _, rfl, rfl, call H2 _ B2 (g1.trans g2) fun v3 s3 H3 d3 w3 B3 g3 => ⟨by rw [sizeLine_eq]; exact (show 3 ≤ 16777216 by decide), fun p hp => ?_⟩⟩⟩
      obtain ⟨j, hj⟩ : ∃ j : Nat, (j : Int) = r2 := ⟨r2.toNat, by omega⟩
      subst hj
      exact q _ (.after j s3) _ (Dt.mk (ds := [kS "after", .int j, Sh.data s3]) (.cons (.str _) (.cons (.int _) (.cons d3 .nil))) hp) ⟨by omega, w3⟩ (B3.new hp) (((g1.trans g2).trans g3).then hp)
    · refine ⟨_, rfl, by rw [sizeLine_eq]; exact (show 5 ≤ 16777216 by decide), fun pm hm => ?_⟩
      refine ⟨b, l, pm, ns, _, rfl, B1.new hm, upd_same, fun z => B1.nb hm z.symm, by show 1 ≤ 5; decide, by show 5 ≤ 1000; decide, fun v H2 hv B2 g2 => ?_⟩
      have g2 : Gb b H H2 := g1.trans ((Gx.new hm).trans g2)
      refine ⟨_, rfl, _, rfl, _, _, rfl, rfl, call H2 _ B2 g2 fun v3 s3 H3 d3 w3 B3 g3 => ⟨by rw [sizeLine_eq]; exact (show 2 ≤ 16777216 by decide), fun p hp => ?_⟩⟩
      have gg := (g2.trans g3).then (o := .tup [v, v3]) hp
      have mk : ∀ x : Str, v = .str x → Dt K (upd H3 p (.tup [v, v3])) (.ref p) (.tuple [kS x, Sh.data s3]) := fun x e => by
        rw [e]
        exact Dt.mk (.cons (.str _) (.cons d3 .nil)) hp
      simp only [List.mem_cons, List.not_mem_nil, or_false] at hv
      rcases hv with h | h | h | h | h
      · exact q _ (.some s3) _ (mk _ h) w3 (B3.new hp) gg
      · exact q _ (.some s3) _ (mk _ h) w3 (B3.new hp) gg
      · exact q _ (.many s3) _ (mk _ h) w3 (B3.new hp) gg
      · exact q _ (.chance s3) _ (mk _ h) w3 (B3.new hp) gg
      · exact q _ (.some s3) _ (mk _ h) w3 (B3.new hp) gg
theorem none_shape {k : Nat} : FnOk P w K mg base CX0 k fS dS ["box", "levels"] (spShape K 0) := by
  have no : ∀ vs H Q E, ¬ spShape K 0 vs H Q E := fun vs H Q E h => by
    obtain ⟨_, _, _, m, _, h1, h2, _⟩ := h
    omega
  exact ⟨fun vs H Q E h => absurd h (no vs H Q E), fun A outer s H args us vs Q E _ _ _ _ h => absurd h (no vs H Q E)⟩
theorem all_shape (X : DTxt P w K mg base fT fP dT dP) (F : Fun K "_law_drawn" "_law_drawn" s_law_shape fS dS) (gS : mg "_law_drawn" = some (.ref fS)) (bS : Binds K dS ["box", "levels"] []) : ∀ n : Nat, FnOk P w K mg base CX0 (n + 2) fS dS ["box", "levels"] (spShape K n)
  | 0 => none_shape
  | n + 1 => ok_law_shape X F gS bS (all_shape X F gS bS n)
end
end M4
end
section
set_option Elab.async false
set_option linter.all false
set_option maxRecDepth 100000
set_option maxHeartbeats 4000000
namespace M4
open PySem PySem.Spec PyProof.Rows L2 GE MS
abbrev s_number_of_values : Stmt := top 33
abbrev s_multiplied : Stmt := top 34
abbrev s_number_of_sets : Stmt := top 35
abbrev s_number_of_bags : Stmt := top 36
abbrev s_limited : Stmt := top 37
theorem ifT {b : Bool} {A B : Prop} (h : b = true) (a : A) : if b = true then A else B := by rw [if_pos h]; exact a
theorem ifF {b : Bool} {A B : Prop} (h : b = false) (x : B) : if b = true then A else B := by rw [if_neg (by rw [h]; decide)]; exact x
/-! ### the mirror: how many values -/
abbrev ON := Option Nat
def oV : ON → V
  | none => .non
  | some n => .int (n : Int)
def oD : ON → PyData
  | none => .none
  | some n => .int (n : Int)
def limN (n : Nat) : ON := if n ≤ 1000000000 then some n else none
def combN (c : Nat) : Nat := (PySem.W.mcComb (1000 + (c : Int)) (c : Int)).toNat
def setsN : ON → ON
  | none => none
  | some c => if 30 ≤ c then none else limN (2 ^ c)
def bagsN : ON → ON
  | none => none
  | some c => if 30 ≤ c then none else limN (combN c)
def prodN : List ON → Nat
  | [] => 1
  | c :: cs => c.getD 0 * prodN cs
def sumN : List ON → Nat
  | [] => 0
  | c :: cs => c.getD 0 + sumN cs
def mulN (cs : List ON) : ON := if some 0 ∈ cs then some 0 else if none ∈ cs then none else limN (prodN cs)
def addN (cs : List ON) : ON := if none ∈ cs then none else limN (sumN cs)
theorem dO {K : PySem.W.Frag} {H : Hp} (c : ON) : Dt K H (oV c) (oD c) := by
  cases c with
  | none => exact .non
  | some n => exact .int _
theorem shO (c : ON) : SeqAt.shaped (oD c) = true := by cases c <;> rfl
section
variable {P : Program} {w : World} {K : PySem.W.Frag} {mg : Str → Option Value} {base : Heap} {f fL : Addr} {fd dL : FuncData}
/-! ### limited -/
def spLim : Sp := fun vs H Q _ => ∃ n : Nat, vs = [.int n] ∧ Q (oV (limN n)) H
theorem sc_limited : FnScope ["count"] ["count"] (defScope s_limited) := ⟨rfl, rfl, rfl, by decide +kernel, rfl, by decide +kernel, by decide +kernel⟩
theorem ok_limited {k : Nat} (mC : ∃ t, mg "MOST_COUNTED" = some (.int 1000000000 t)) (F : Fun K "limited" "limited" s_limited f fd) : FnOk P w K mg base CX0 (k + 1) f fd ["count"] spLim := by
  obtain ⟨t, mC⟩ := mC
  refine F.ok sc_limited (fun vs H Q E h => ?_) (fun cdv A outer s H vs Q E hr h => ?_)
  · obtain ⟨n, rfl, _⟩ := h
    rfl
  obtain ⟨n, rfl, q⟩ := h
  refine ⟨_, pss_one (ps_ret (pe_ifExp (pt_cmpR op_le (pv 0) (pe_glob rfl mC (v := .int 1000000000) ⟨_, rfl⟩) (nomark _)) (pv 0) pe_non)), ?_⟩
  refine ⟨_, rfl, _, _, rfl, rfl, _, rfl, ite2 (fun c => ?_) (fun c => ?_)⟩
  · have c : (n : Int) ≤ 1000000000 := of_decide_eq_true c
    have e : limN n = some n := if_pos (by omega)
    rw [e] at q
    exact ⟨_, rfl, q⟩
  · have c : ¬ (n : Int) ≤ 1000000000 := of_decide_eq_false (Bool.eq_false_iff.mpr c)
    have e : limN n = none := if_neg (by omega)
    rw [e] at q
    exact q
/-! ### number_of_sets, number_of_bags -/
structure LTx (P : Program) (w : World) (K : PySem.W.Frag) (mg : Str → Option Value) (base : Heap) (fL : Addr) (dL : FuncData) : Prop where
  OL : FnOk P w K mg base CX0 1 fL dL ["count"] spLim
  gL : mg "limited" = some (.ref fL)
  kL : PySem.W.keepIn K (.ref fL) = true
  bL : Binds K dL ["count"] []
  mM : ∃ t, mg "MANY_VALUES" = some (.int 30 t)
  mB : ∃ t, mg "MOST_IN_BAG" = some (.int 1000 t)
  mc : mg "comb" = some (.builtin "math.comb")
def spOne (g : ON → ON) : Sp := fun vs H Q _ => ∃ c : ON, vs = [oV c] ∧ Q (oV (g c)) H
theorem sc_number_of_sets : FnScope ["count"] ["count"] (defScope s_number_of_sets) := ⟨rfl, rfl, rfl, by decide +kernel, rfl, by decide +kernel, by decide +kernel⟩
theorem sc_number_of_bags : FnScope ["count"] ["count"] (defScope s_number_of_bags) := ⟨rfl, rfl, rfl, by decide +kernel, rfl, by decide +kernel, by decide +kernel⟩
theorem ok_number_of_sets (X : LTx P w K mg base fL dL) (F : Fun K "number_of_sets" "number_of_sets" s_number_of_sets f fd) : FnOk P w K mg base CX0 2 f fd ["count"] (spOne setsN) := by
  obtain ⟨t, mM⟩ := X.mM
  refine F.ok sc_number_of_sets (fun vs H Q E h => ?_) (fun cdv A outer s H vs Q E hr h => ?_)
  · obtain ⟨n, rfl, _⟩ := h
    rfl
  obtain ⟨c, rfl, q⟩ := h
  refine ⟨_, pss_cons (ps_if (PW.pt (pw_or (pt_cmpR op_isN (pv 0) pe_non (nomark _)) (pw_or1 (pt_cmpR op_ge (pv 0) (pe_glob rfl mM (v := .int 30) ⟨_, rfl⟩) (nomark _))))) (pss_one (ps_ret pe_non)) pss_nil)
    (pss_one (ps_ret (pe_call X.OL hr rfl X.gL X.kL X.bL .nil pass0 (pa_cons (pe_op op_shl pe_int (pv 0)) pa_nil)))), ?_⟩
  cases c with
  | none => exact ⟨_, rfl, rfl, _, rfl, ifT rfl q⟩
  | some n =>
    refine ⟨_, rfl, rfl, _, rfl, ifF (decide_eq_false fun z : V.int (n : Int) = V.non => by cases z) ⟨_, rfl, _, _, rfl, rfl, _, rfl, ite2 (fun c => ?_) (fun c => ?_)⟩⟩
    · have c : (30 : Int) ≤ (n : Int) := of_decide_eq_true c
      have e : setsN (some n) = none := if_pos (by omega)
      rw [e] at q
      exact q
    · have c : ¬ (30 : Int) ≤ (n : Int) := of_decide_eq_false (Bool.eq_false_iff.mpr c)
      have e : setsN (some n) = limN (2 ^ n) := if_neg (by omega)
      rw [e] at q
      refine ⟨_, rfl, _, _, rfl, rfl, ⟨by omega, by omega, by decide⟩, 2 ^ n, ?_, q⟩
      have e2 : (1 : Int) * 2 ^ ((n : Int)).toNat = ((2 ^ n : Nat) : Int) := by
        rw [Int.one_mul, Int.toNat_natCast, Int.natCast_pow]
        rfl
      show [V.int ((1 : Int) * 2 ^ ((n : Int)).toNat)] = _
      rw [e2]
theorem call_comb {X : Cx} : CallR X (.builtin "math.comb") (fun xs H Q => ∃ c : Nat, xs = [.int (1000 + (c : Int)), .int (c : Int)] ∧ c < 30 ∧ Q (.int (combN c)) H) := by
  intro pins s σ H xs us Q I r h
  obtain ⟨c, rfl, hc, q⟩ := h
  obtain ⟨t, u, rfl⟩ := Vals.int2 r
  have hv : PySem.W.mcComb (1000 + (c : Int)) (c : Int) = ((combN c : Nat) : Int) := by
    have h : ∀ m : Fin 30, PySem.W.mcComb (1000 + ((m.val : Nat) : Int)) ((m.val : Nat) : Int) = ((combN m.val : Nat) : Int) := by decide +kernel
    exact h ⟨c, hc⟩
  exact PySem.W.mc_comb_v (by omega) (by omega) (by omega) (.inl (by omega)) hv ⟨.int _, H, I.tok _, ⟨_, rfl⟩, q⟩
theorem ok_number_of_bags (X : LTx P w K mg base fL dL) (F : Fun K "number_of_bags" "number_of_bags" s_number_of_bags f fd) : FnOk P w K mg base CX0 2 f fd ["count"] (spOne bagsN) := by
  obtain ⟨t, mM⟩ := X.mM
  obtain ⟨tB, mB⟩ := X.mB
  refine F.ok sc_number_of_bags (fun vs H Q E h => ?_) (fun cdv A outer s H vs Q E hr h => ?_)
  · obtain ⟨n, rfl, _⟩ := h
    rfl
  obtain ⟨c, rfl, q⟩ := h
  refine ⟨_, pss_cons (ps_if (PW.pt (pw_or (pt_cmpR op_isN (pv 0) pe_non (nomark _)) (pw_or1 (pt_cmpR op_ge (pv 0) (pe_glob rfl mM (v := .int 30) ⟨_, rfl⟩) (nomark _))))) (pss_one (ps_ret pe_non)) pss_nil)
    (pss_one (ps_ret (pe_call X.OL hr rfl X.gL X.kL X.bL .nil pass0 (pa_cons (pe_callBfun call_comb rfl X.mc (pa_cons (pe_op op_add (pe_glob rfl mB (v := .int 1000) ⟨_, rfl⟩) (pv 0)) (pa_cons (pv 0) pa_nil))) pa_nil)))), ?_⟩
  cases c with
  | none => exact ⟨_, rfl, rfl, _, rfl, ifT rfl q⟩
  | some n =>
    refine ⟨_, rfl, rfl, _, rfl, ifF (decide_eq_false fun z : V.int (n : Int) = V.non => by cases z) ⟨_, rfl, _, _, rfl, rfl, _, rfl, ite2 (fun c => ?_) (fun c => ?_)⟩⟩
    · have c : (30 : Int) ≤ (n : Int) := of_decide_eq_true c
      have e : bagsN (some n) = none := if_pos (by omega)
      rw [e] at q
      exact q
    · have c : ¬ (30 : Int) ≤ (n : Int) := of_decide_eq_false (Bool.eq_false_iff.mpr c)
      have e : bagsN (some n) = limN (combN n) := if_neg (by omega)
      rw [e] at q
      exact ⟨_, rfl, _, _, rfl, rfl, _, rfl, n, rfl, by omega, combN n, rfl, q⟩
end
end M4
end
section
set_option Elab.async false
set_option linter.all false
set_option maxRecDepth 100000
set_option maxHeartbeats 4000000
namespace M4
open PySem PySem.Spec PyProof.Rows L2 GE MS
theorem eqv_ii (i j : Int) : PyData.eqv (.int i) (.int j) = (i == j) := rfl
theorem eqv_o0 (c : ON) : PyData.eqv (oD c) (.int 0) = decide (c = some 0) := by
  cases c with
  | none => rfl
  | some n =>
    show (((n : Int) == 0) = _)
    cases n with
    | zero => rfl
    | succ n => rfl
theorem eqv_on (c : ON) : PyData.eqv (oD c) .none = decide (c = none) := by
  cases c with
  | none => rfl
  | some n => rfl
theorem any_o0 : ∀ cs : List ON, ((cs.map oD).any fun z => PyData.eqv z (.int 0)) = decide (some 0 ∈ cs)
  | [] => rfl
  | c :: cs => by
    rw [List.map_cons, List.any_cons, any_o0 cs, eqv_o0]
    by_cases h : c = some 0
    · subst h; simp
    · have h2 : ¬ some 0 = c := fun z => h z.symm
      simp [h, h2]
theorem any_on : ∀ cs : List ON, ((cs.map oD).any fun z => PyData.eqv z .none) = decide (none ∈ cs)
  | [] => rfl
  | c :: cs => by
    rw [List.map_cons, List.any_cons, any_on cs, eqv_on]
    by_cases h : c = none
    · subst h; simp
    · have h2 : ¬ none = c := fun z => h z.symm
      simp [h, h2]
theorem shOs (cs : List ON) : SeqAt.shaped (.list (cs.map oD)) = true := by
  have h : ∀ cs : List ON, PyData.depthAll (cs.map oD) = 0 ∧ PyData.canLayAll0 (cs.map oD) = true := by
    intro cs
    induction cs with
    | nil => exact ⟨rfl, rfl⟩
    | cons c cs ih =>
      rw [List.map_cons]
      cases c <;> simp only [oD, PyData.depthAll, PyData.canLayAll0, PyData.depth, PyData.canLay0, ih.1, ih.2] <;> exact ⟨rfl, rfl⟩
  show ((PyData.list (cs.map oD)).canLay0 && decide ((PyData.list (cs.map oD)).depth ≤ 64)) = true
  simp only [PyData.canLay0, PyData.depth, (h cs).1, (h cs).2]
  decide
theorem dOs {K : PySem.W.Frag} {H : Hp} : ∀ cs : List ON, DpAll K H (cs.map oV) (cs.map oD)
  | [] => .nil
  | c :: cs => .cons (Dt.dp _ _ (dO c)) (dOs cs)
def small (cs : List ON) : Prop := ∀ n, some n ∈ cs → n ≤ 1000000000
theorem prod_take {cs : List ON} {i : Nat} {c : ON} (h : cs[i]? = some c) : prodN (cs.take (i + 1)) = prodN (cs.take i) * c.getD 0 := by
  induction cs generalizing i with
  | nil => simp at h
  | cons d ds ih =>
    cases i with
    | zero =>
      simp at h
      subst h
      simp [prodN]
    | succ i =>
      have h' : ds[i]? = some c := by simpa using h
      simp only [List.take_succ_cons, prodN]
      rw [ih h', Nat.mul_assoc]
section
variable {P : Program} {w : World} {K : PySem.W.Frag} {mg : Str → Option Value} {base : Heap} {f fL : Addr} {fd dL : FuncData}
def spMul (K : PySem.W.Frag) : Sp := fun vs H Q _ => ∃ (a : Addr) (cs : List ON), vs = [.ref a] ∧ SqL K H a (cs.map oV) ∧ small cs ∧ Q (oV (mulN cs)) H
abbrev kMul : List Str := ["counts", "total", "count"]
theorem sc_multiplied : FnScope kMul ["counts"] (defScope s_multiplied) := ⟨rfl, rfl, rfl, by decide +kernel, rfl, by decide +kernel, by decide +kernel⟩
theorem ok_multiplied (X : LTx P w K mg base fL dL) (F : Fun K "multiplied" "multiplied" s_multiplied f fd) : FnOk P w K mg base CX0 2 f fd ["counts"] (spMul K) := by
  refine F.ok sc_multiplied (fun vs H Q E h => ?_) (fun cdv A outer s H vs Q E hr h => ?_)
  · obtain ⟨a, cs, rfl, _⟩ := h
    rfl
  obtain ⟨a, cs, rfl, hS, hb, q⟩ := h
  have nd := sc_multiplied.nd
  refine ⟨_, pss_cons (ps_if (pt_cmpR (op_inD (M4.Room.u65 hr)) pe_int (pv 0) (by rfl)) (pss_one (ps_ret pe_int)) pss_nil)
    (pss_cons (ps_if (pt_cmpR (op_inD (M4.Room.u65 hr)) pe_non (pv 0) (by rfl)) (pss_one (ps_ret pe_non)) pss_nil)
    (pss_cons (ps_set (i := 1) nd rfl (.inl rfl) pe_int)
    (pss_cons (ps_for PassesOwn.never rfl (pi_list (pv 0)) (pg_name (i := 2) nd rfl (Or.inl rfl)) (pss_one (ps_set (i := 1) nd rfl (.inl rfl) (pe_op op_mul (pv 1) (pv 2)))))
    (pss_one (ps_ret (pe_call X.OL hr rfl X.gL X.kL X.bL .nil pass0 (pa_cons (pv 1) pa_nil))))))), ?_⟩
  refine ⟨_, rfl, .int 0, cs.map oD, .int 0, .lst hS (dOs cs), rfl, shOs cs, _, rfl, ?_⟩
  rw [any_o0]
  by_cases h0 : some 0 ∈ cs
  · have e : mulN cs = some 0 := if_pos h0
    rw [e] at q
    exact ifT (decide_eq_true h0) q
  refine ifF (decide_eq_false h0) ⟨_, rfl, .none, cs.map oD, .non, .lst hS (dOs cs), rfl, shOs cs, _, rfl, ?_⟩
  rw [any_on]
  by_cases h1 : none ∈ cs
  · have e : mulN cs = none := (if_neg h0).trans (if_pos h1)
    rw [e] at q
    exact ifT (decide_eq_true h1) q
  have e : mulN cs = limN (prodN cs) := (if_neg h0).trans (if_neg h1)
  rw [e] at q
  refine ifF (decide_eq_false h1) ⟨.ref a, rfl, a, rfl, ⟨_, hS⟩, for_list (xs := cs.map oV) (fun i σ H' => ∃ o, σ = [some (.ref a), some (.int ((prodN (cs.take i) : Nat) : Int)), o] ∧ H' = H) ⟨none, rfl, rfl⟩ (fun i σ H' _ p => by rw [p.choose_spec.2]; exact hS) (fun i x σ H' hx p => ?_) fun σ H' p => ?_⟩
  · obtain ⟨o, rfl, rfl⟩ := p
    rw [List.getElem?_map] at hx
    obtain ⟨c, hc, rfl⟩ := Option.map_eq_some_iff.mp hx
    have hm : c ∈ cs := List.mem_of_getElem? hc
    cases c with
    | none => exact absurd hm h1
    | some n =>
      have hn := hb n hm
      refine ⟨_, rfl, _, rfl, _, _, rfl, rfl, .inr ⟨by omega, by omega⟩, some (.int (n : Int)), ?_, rfl⟩
      rw [prod_take hc]
      show _ = [some (V.ref a), some (V.int _), _]
      rw [show ((prodN (cs.take i) * (some n).getD 0 : Nat) : Int) = ((prodN (cs.take i) : Nat) : Int) * (n : Int) from Int.natCast_mul _ _]
      rfl
  · obtain ⟨o, rfl, rfl⟩ := p
    rw [List.length_map, List.take_length]
    exact ⟨_, rfl, prodN cs, rfl, q⟩
end
end M4
end
section
set_option Elab.async false
set_option linter.all false
set_option maxRecDepth 100000
set_option maxHeartbeats 4000000
namespace M4
open PySem PySem.Spec PyProof.Rows L2 GE MS
def oneN (c : ON) : ON := if c = some 0 ∨ c = some 1 then c else none
mutual
def cnt (k : Nat) : Sh → ON
  | .letters j => some j
  | .self => limN k
  | .both xs => mulN (cnts k xs)
  | .either xs => addN (cnts k xs)
  | .after n s => mulN (List.replicate n (cnt k s))
  | .some s => setsN (cnt k s)
  | .many s => bagsN (cnt k s)
  | .chance s => oneN (cnt k s)
def cnts (k : Nat) : List Sh → List ON
  | [] => []
  | x :: xs => cnt k x :: cnts k xs
end
theorem cnts_map (k : Nat) : ∀ xs : List Sh, cnts k xs = xs.map (cnt k)
  | [] => rfl
  | x :: xs => by rw [cnts, cnts_map k xs, List.map_cons]
theorem lim_small {n m : Nat} (h : limN n = some m) : m ≤ 1000000000 := by
  unfold limN at h
  split at h
  · cases h; assumption
  · cases h
theorem mul_small {cs : List ON} {m : Nat} (h : mulN cs = some m) : m ≤ 1000000000 := by
  unfold mulN at h
  split at h
  · cases h; decide
  · split at h
    · cases h
    · exact lim_small h
theorem cnt_small {k n : Nat} : ∀ {s : Sh}, Sh.wf n s → ∀ m, cnt k s = some m → m ≤ 1000000000 := by
  intro s hw m h
  cases n with
  | zero => exact hw.elim
  | succ n =>
    cases s with
    | letters j =>
      cases h
      have := hw.2
      omega
    | self => exact lim_small h
    | both xs => exact mul_small h
    | either xs =>
      have h : addN (cnts k xs) = some m := h
      unfold addN at h
      split at h
      · cases h
      · exact lim_small h
    | after j s => exact mul_small h
    | some s =>
      have h : setsN (cnt k s) = some m := h
      unfold setsN at h
      split at h
      · cases h
      · split at h
        · cases h
        · exact lim_small h
    | many s =>
      have h : bagsN (cnt k s) = some m := h
      unfold bagsN at h
      split at h
      · cases h
      · split at h
        · cases h
        · exact lim_small h
    | chance s =>
      have h : oneN (cnt k s) = some m := h
      unfold oneN at h
      split at h
      · rename_i c
        rcases c with c | c <;> rw [c] at h <;> cases h <;> decide
      · cases h
theorem small_map {k n : Nat} {xs : List Sh} (hw : ∀ x ∈ xs, Sh.wf n x) : small (xs.map (cnt k)) := fun m hm => by
  obtain ⟨x, hx, e⟩ := List.mem_map.mp hm
  exact cnt_small (hw x hx) m e
theorem sum_ints : ∀ {cs : List ON}, none ∉ cs → ∃ ns : List Int, cs.map oV = ns.map V.int ∧ ns.sum = ((sumN cs : Nat) : Int)
  | [], _ => ⟨[], rfl, rfl⟩
  | none :: cs, h => absurd List.mem_cons_self h
  | some n :: cs, h => by
    obtain ⟨ns, e1, e2⟩ := sum_ints (cs := cs) fun z => h (List.mem_cons_of_mem _ z)
    refine ⟨(n : Int) :: ns, by rw [List.map_cons, e1]; rfl, ?_⟩
    rw [List.sum_cons, e2]
    show (n : Int) + ((sumN cs : Nat) : Int) = (((n + sumN cs : Nat)) : Int)
    omega
theorem one_any (c : ON) : ([PyData.int 0, PyData.int 1].any fun z => PyData.eqv z (oD c)) = decide (c = some 0 ∨ c = some 1) := by
  cases c with
  | none => rfl
  | some n =>
    cases n with
    | zero => rfl
    | succ n =>
      cases n with
      | zero => rfl
      | succ n => exact (decide_eq_false (fun z => by rcases z with z | z <;> cases z)).symm
theorem dt2 {K : PySem.W.Frag} {H : Hp} {v : V} {x : Str} {d : PyData} (h : Dt K H v (.tuple [kS x, d])) : ∃ a v2, v = .ref a ∧ SqT K H a [.str x, v2] ∧ Dt K H v2 d := by
  cases h with
  | tup hs ha =>
    cases ha with
    | cons h1 h2 =>
      cases h1
      cases h2 with
      | cons h3 h4 =>
        cases h4
        exact ⟨_, _, rfl, hs, h3⟩
theorem dt3 {K : PySem.W.Frag} {H : Hp} {v : V} {x : Str} {i : Int} {d : PyData} (h : Dt K H v (.tuple [kS x, .int i, d])) : ∃ a v2, v = .ref a ∧ SqT K H a [.str x, .int i, v2] ∧ Dt K H v2 d := by
  cases h with
  | tup hs ha =>
    cases ha with
    | cons h1 h2 =>
      cases h1
      cases h2 with
      | cons h3 h4 =>
        cases h3
        obtain _ | ⟨h5, h6⟩ := h4
        cases h6
        exact ⟨_, _, rfl, hs, h5⟩
theorem flat_one (v : V) : ∀ k, (List.replicate k [v]).flatten = List.replicate k v
  | 0 => rfl
  | k + 1 => by rw [List.replicate_succ, List.flatten_cons, flat_one v k]; rfl
section
variable {P : Program} {w : World} {K : PySem.W.Frag} {mg : Str → Option Value} {base : Heap} {fL fM fS fG fB fN : Addr} {dL dM dS dG dB dN : FuncData}
def spNum (K : PySem.W.Frag) (n : Nat) : Sp := fun vs H Q _ => ∃ (v : V) (k : Nat) (s : Sh), vs = [v, .int k] ∧ Dt K H v (Sh.data s) ∧ Sh.wf n s ∧ n ≤ 10 ∧ ∀ H', Gr H H' → Q (oV (cnt k s)) H'
abbrev kNum : List Str := ["shape", "states", "kind", "counts", "inner"]
theorem sc_number_of_values : FnScope kNum ["shape", "states"] (defScope s_number_of_values) := ⟨rfl, rfl, rfl, by decide +kernel, rfl, by decide +kernel, by decide +kernel⟩
structure VTx (P : Program) (w : World) (K : PySem.W.Frag) (mg : Str → Option Value) (base : Heap) (fL fM fS fG fB : Addr) (dL dM dS dG dB : FuncData) : Prop where
  B : Blt mg
  L : LTx P w K mg base fL dL
  OM : FnOk P w K mg base CX0 2 fM dM ["counts"] (spMul K)
  gM : mg "multiplied" = some (.ref fM)
  kM : PySem.W.keepIn K (.ref fM) = true
  bM : Binds K dM ["counts"] []
  OS : FnOk P w K mg base CX0 2 fS dS ["count"] (spOne setsN)
  gS : mg "number_of_sets" = some (.ref fS)
  kS : PySem.W.keepIn K (.ref fS) = true
  bS : Binds K dS ["count"] []
  OG : FnOk P w K mg base CX0 2 fG dG ["count"] (spOne bagsN)
  gG : mg "number_of_bags" = some (.ref fG)
  kG : PySem.W.keepIn K (.ref fG) = true
  bG : Binds K dG ["count"] []
  OB : ∀ n, FnOk P w K mg base CX0 1 fB dB ["shape"] (spBelow K n)
  gB : mg "shapes_below" = some (.ref fB)
  kB : PySem.W.keepIn K (.ref fB) = true
  bB : Binds K dB ["shape"] []
theorem ok_number_of_values {n : Nat} (X : VTx P w K mg base fL fM fS fG fB dL dM dS dG dB) (F : Fun K "number_of_values" "number_of_values" s_number_of_values fN dN) (gN : mg "number_of_values" = some (.ref fN)) (bN : Binds K dN ["shape", "states"] [])
    (GN : FnOk P w K mg base CX0 (n + 2) fN dN ["shape", "states"] (spNum K n)) : FnOk P w K mg base CX0 (n + 3) fN dN ["shape", "states"] (spNum K (n + 1)) := by
  refine F.ok sc_number_of_values (fun vs H Q E h => ?_) (fun cdv A outer s0 H vs Q E hr h => ?_)
  · obtain ⟨v, k, s, rfl, _⟩ := h
    rfl
  obtain ⟨v, k, s, rfl, hd, hw, hn, q⟩ := h
  have nd := sc_number_of_values.nd
  have hr1 : Room 1 (A.deeper (envOfC "number_of_values" (defScope s_number_of_values) s0.heap.objs.size fN cdv)) := hr.mono (by omega)
  have hr2 : Room 2 (A.deeper (envOfC "number_of_values" (defScope s_number_of_values) s0.heap.objs.size fN cdv)) := hr.mono (by omega)
  refine ⟨_, pss_cons (ps_set (i := 2) nd rfl (.inl rfl) (pe_ix ix_tup (pv 0) pe_int (fun _ _ => rfl)))
    (pss_cons (ps_if (pt_cmpR op_eq (pv 2) pe_str (nomark _)) (pss_one (ps_ret (pe_ix ix_tup (pv 0) pe_int (fun _ _ => rfl)))) pss_nil)
    (pss_cons (ps_if (pt_cmpR op_eq (pv 2) pe_str (nomark _)) (pss_one (ps_ret (pe_call X.L.OL hr1 rfl X.L.gL X.L.kL X.L.bL .nil pass0 (pa_cons (pv 1) pa_nil)))) pss_nil)
    (pss_cons (ps_setLc (i := 3) (own := [("inner", 4)]) (g := gName 4) (tt := tYes) rfl nd rfl rfl (sw_true rfl rfl rfl (by decide +kernel)) (pi_tup (pe_call (X.OB (n + 1)) hr1 rfl X.gB X.kB X.bB .nil pass0 (pa_cons (pv 0) pa_nil)))
      (blkOk_by (own := [("inner", 4)]) (N := kNum) (sc := defScope s_number_of_values) (by decide +kernel)) (fun _ _ _ _ _ => pg_name (i := 4) nd rfl (Or.inl rfl)) (fun _ _ _ _ _ => pts_nil)
      (fun _ _ _ _ _ => pe_call GN hr rfl gN F.kp bN .nil pass0 (pa_cons (pv 4) (pa_cons (pv 1) pa_nil))))
    (pss_cons (ps_if (pt_cmpR op_eq (pv 2) pe_str (nomark _)) (pss_one (ps_ret (pe_call X.OM hr2 rfl X.gM X.kM X.bM .nil pass0 (pa_cons (pv 3) pa_nil)))) pss_nil)
    (pss_cons (ps_if (pt_cmpR op_eq (pv 2) pe_str (nomark _)) (pss_one (ps_ret (pe_ifExp (pt_cmpR (op_inD (M4.Room.u65 hr)) pe_non (pv 3) (by rfl)) pe_non
        (pe_call X.L.OL hr1 rfl X.L.gL X.L.kL X.L.bL .nil pass0 (pa_cons (pe_callB (cr_sum rfl) (by rfl) X.B.sum (by decide +kernel) (pa_cons (pv 3) pa_nil)) pa_nil))))) pss_nil)
    (pss_cons (ps_if (pt_cmpR op_eq (pv 2) pe_str (nomark _)) (pss_one (ps_ret (pe_call X.OM hr2 rfl X.gM X.kM X.bM .nil pass0 (pa_cons (pe_op op_rep (pv 3) (pe_ix ix_tup (pv 0) pe_int (fun _ _ => rfl))) pa_nil)))) pss_nil)
    (pss_cons (ps_if (pt_cmpR op_eq (pv 2) pe_str (nomark _)) (pss_one (ps_ret (pe_call X.OS hr2 rfl X.gS X.kS X.bS .nil pass0 (pa_cons (pe_ix ix_list (pv 3) pe_int (fun _ _ => rfl)) pa_nil)))) pss_nil)
    (pss_cons (ps_if (pt_cmpR op_eq (pv 2) pe_str (nomark _)) (pss_one (ps_ret (pe_call X.OG hr2 rfl X.gG X.kG X.bG .nil pass0 (pa_cons (pe_ix ix_list (pv 3) pe_int (fun _ _ => rfl)) pa_nil)))) pss_nil)
    (pss_one (ps_ret (pe_ifExp (pt_cmpR (op_inT (M4.Room.u65 hr)) (pe_ix ix_list (pv 3) pe_int (fun _ _ => rfl)) (pe_tup (pa_cons pe_int (pa_cons pe_int pa_nil))) (by rfl)) (pe_ix ix_list (pv 3) pe_int (fun _ _ => rfl)) pe_non))))))))))), ?_⟩
  have comp : ∀ (x : Str) (R : VK), (∀ D H', Gr H H' → H' D = some (.lst (((Sh.inner s).map (cnt k)).map oV)) → R (.ref D) H') → tLc (iTup K (tCall (spBelow K (n + 1)) [] E0 (tCons (tVar 0) tNil))) (gName 4) tYes (tCall (spNum K n) [] E0 (tCons (tVar 4) (tCons (tVar 1) tNil))) [4]
      [some v, some (.int (k : Int)), some (.str x), none, none] H R := by
    intro x R hR
    obtain ⟨hl4, hwi⟩ := Sh.wf_inner hw
    refine ⟨_, rfl, v, s, rfl, hd, hw, hn, fun H1 a g1 ha => ?_⟩
    cases ha with
    | @tup _ ys _ hs hal =>
      have hly : ys.length = (Sh.inner s).length := by rw [hal.length, Sh.datas_map, List.length_map]
      refine ⟨a, rfl, ⟨_, hs⟩, fun D hD => lc_tup (xs := ys) (fun i H' => H' D = some (.lst ((((Sh.inner s).take i).map (cnt k)).map oV)) ∧ Gr H1 H') ⟨upd_same, Gx.new hD⟩ (fun i H' _ p => SqT.gx NoT.none p.2 hs) (fun i y H' hy p => ?_) fun H' p => ?_⟩
      · obtain ⟨dx, hdx, hdt⟩ := hal.of_get hy
        rw [Sh.datas_map, List.getElem?_map] at hdx
        obtain ⟨sx, hsx, rfl⟩ := Option.map_eq_some_iff.mp hdx
        have hi : i < (Sh.inner s).length := (List.getElem?_eq_some_iff.mp hsx).1
        refine ⟨rfl, _, rfl, _, rfl, y, k, sx, rfl, hdt.gr p.2, hwi sx (List.mem_of_getElem? hsx), by omega, fun H4 g4 => ?_⟩
        have e4 := g4.keep _ _ p.1 (fun z => z) fun ps z => by cases z
        refine ⟨_, e4, ?_, ?_, (p.2.trans g4).late hD e4⟩
        · rw [List.length_map, List.length_map, List.length_take, sizeLine_eq]
          omega
        · rw [upd_same, List.take_succ, hsx]
          simp
      · obtain ⟨e, g⟩ := p
        rw [List.take_of_length_le (by omega)] at e
        exact hR D H' (g1.trans g) e
  have sz2 : 2 ≤ sizeLine := by rw [sizeLine_eq]; decide
  obtain ⟨hl4, hwi⟩ := Sh.wf_inner hw
  cases s with
  | letters j =>
    cases hd with | @tup a ys _ hs ha => cases ha with | cons h1 h2 => cases h1; cases h2 with | cons h3 h4 => cases h4; cases h3; exact ⟨_, rfl, a, _, _, _, rfl, rfl, hs, atI_nat (j := 0) rfl, _, rfl, rfl, _, rfl, ifT (by decide +kernel) ⟨_, rfl, a, _, _, _, rfl, rfl, hs, atI_nat (j := 1) rfl, q H Gx.refl⟩⟩
  | self =>
    cases hd with | @tup a ys _ hs ha => cases ha with | cons h1 h2 => cases h1; cases h2; exact ⟨_, rfl, a, _, _, _, rfl, rfl, hs, atI_nat (j := 0) rfl, _, rfl, rfl, _, rfl, ifF (by decide +kernel) ⟨_, rfl, rfl, _, rfl, ifT (by decide +kernel) ⟨_, rfl, k, rfl, q H Gx.refl⟩⟩⟩
  | both xs =>
    obtain ⟨a, v2, rfl, hs, h3⟩ := dt2 hd
    refine ⟨_, rfl, a, _, _, _, rfl, rfl, hs, atI_nat (j := 0) rfl, ?_⟩
    refine ⟨_, rfl, rfl, _, rfl, ifF (by decide +kernel) ⟨_, rfl, rfl, _, rfl, ifF (by decide +kernel) ?_⟩⟩
    unfold tSeq tAsg tNext
    dsimp only
    refine comp "both" _ fun D H1 g e => ?_
    have hs1 := SqT.gx NoT.none g hs
    have q1 := q H1 g
    have e2 : cnt k (.both xs) = mulN (xs.map (cnt k)) := congrArg mulN (cnts_map k xs)
    rw [e2] at q1
    exact ⟨_, rfl, rfl, _, rfl, ifT (by decide +kernel) ⟨_, rfl, D, _, rfl, SqL.of e, small_map hwi, q1⟩⟩
  | either xs =>
    obtain ⟨a, v2, rfl, hs, h3⟩ := dt2 hd
    refine ⟨_, rfl, a, _, _, _, rfl, rfl, hs, atI_nat (j := 0) rfl, ?_⟩
    refine ⟨_, rfl, rfl, _, rfl, ifF (by decide +kernel) ⟨_, rfl, rfl, _, rfl, ifF (by decide +kernel) ?_⟩⟩
    unfold tSeq tAsg tNext
    dsimp only
    refine comp "either" _ fun D H1 g e => ?_
    have hs1 := SqT.gx NoT.none g hs
    have q1 := q H1 g
    have e2 : cnt k (.either xs) = addN (xs.map (cnt k)) := congrArg addN (cnts_map k xs)
    rw [e2] at q1
    refine ⟨_, rfl, rfl, _, rfl, ifF (by decide +kernel) ⟨_, rfl, rfl, _, rfl, ifT (by decide +kernel) ?_⟩⟩
    refine ⟨_, rfl, .none, (xs.map (cnt k)).map oD, .non, .lst (SqL.of e) (dOs _), rfl, shOs _, _, rfl, ?_⟩
    rw [any_on]
    by_cases c : none ∈ xs.map (cnt k)
    · have e3 : addN (xs.map (cnt k)) = none := if_pos c
      rw [e3] at q1
      exact ifT (decide_eq_true c) q1
    · have e3 : addN (xs.map (cnt k)) = limN (sumN (xs.map (cnt k))) := if_neg c
      rw [e3] at q1
      obtain ⟨ns, n1, n2⟩ := sum_ints c
      have e' : H1 D = some (.lst (ns.map V.int)) := by rw [← n1]; exact e
      exact ifF (decide_eq_false c) ⟨_, rfl, D, ns, rfl, SqL.of e', sumN (xs.map (cnt k)), by rw [n2]; rfl, q1⟩
  | after j s =>
    obtain ⟨a, v2, rfl, hs, h3⟩ := dt3 hd
    refine ⟨_, rfl, a, _, _, _, rfl, rfl, hs, atI_nat (j := 0) rfl, ?_⟩
    refine ⟨_, rfl, rfl, _, rfl, ifF (by decide +kernel) ⟨_, rfl, rfl, _, rfl, ifF (by decide +kernel) ?_⟩⟩
    unfold tSeq tAsg tNext
    dsimp only
    refine comp "after" _ fun D H1 g e => ?_
    have hs1 := SqT.gx NoT.none g hs
    have q1 := q H1 g
    refine ⟨_, rfl, rfl, _, rfl, ifF (by decide +kernel) ⟨_, rfl, rfl, _, rfl, ifF (by decide +kernel) ⟨_, rfl, rfl, _, rfl, ifT (by decide +kernel) ?_⟩⟩⟩
    have hj : j ≤ 4 := hw.1
    refine ⟨_, rfl, _, rfl, a, _, _, _, rfl, rfl, hs1, atI_nat (j := 1) rfl, D, (j : Int), _, rfl, rfl, e, by omega, by omega, ?_, fun p hp => ?_⟩
    · show 1 * ((j : Int)).toNat ≤ sizeLine
      rw [sizeLine_eq]; omega
    have e2 : (List.replicate ((j : Int)).toNat ((((Sh.inner (.after j s)).map (cnt k)).map oV))).flatten = (List.replicate j (cnt k s)).map oV := by
      rw [Int.toNat_natCast, List.map_replicate]
      exact flat_one _ _
    rw [e2]
    refine ⟨p, List.replicate j (cnt k s), rfl, SqL.of upd_same, fun m hm => ?_, q _ (g.then hp)⟩
    exact cnt_small (hwi s List.mem_cons_self) m (List.eq_of_mem_replicate hm).symm
  | some s =>
    obtain ⟨a, v2, rfl, hs, h3⟩ := dt2 hd
    refine ⟨_, rfl, a, _, _, _, rfl, rfl, hs, atI_nat (j := 0) rfl, ?_⟩
    refine ⟨_, rfl, rfl, _, rfl, ifF (by decide +kernel) ⟨_, rfl, rfl, _, rfl, ifF (by decide +kernel) ?_⟩⟩
    unfold tSeq tAsg tNext
    dsimp only
    refine comp "some" _ fun D H1 g e => ?_
    have hs1 := SqT.gx NoT.none g hs
    exact ⟨_, rfl, rfl, _, rfl, ifF (by decide +kernel) ⟨_, rfl, rfl, _, rfl, ifF (by decide +kernel) ⟨_, rfl, rfl, _, rfl, ifF (by decide +kernel) ⟨_, rfl, rfl, _, rfl, ifT (by decide +kernel) ⟨_, rfl, D, _, _, _, rfl, rfl, SqL.of e, atI_nat (j := 0) rfl, cnt k s, rfl, q H1 g⟩⟩⟩⟩⟩
  | many s =>
    obtain ⟨a, v2, rfl, hs, h3⟩ := dt2 hd
    refine ⟨_, rfl, a, _, _, _, rfl, rfl, hs, atI_nat (j := 0) rfl, ?_⟩
    refine ⟨_, rfl, rfl, _, rfl, ifF (by decide +kernel) ⟨_, rfl, rfl, _, rfl, ifF (by decide +kernel) ?_⟩⟩
    unfold tSeq tAsg tNext
    dsimp only
    refine comp "many" _ fun D H1 g e => ?_
    have hs1 := SqT.gx NoT.none g hs
    exact ⟨_, rfl, rfl, _, rfl, ifF (by decide +kernel) ⟨_, rfl, rfl, _, rfl, ifF (by decide +kernel) ⟨_, rfl, rfl, _, rfl, ifF (by decide +kernel) ⟨_, rfl, rfl, _, rfl, ifF (by decide +kernel) ⟨_, rfl, rfl, _, rfl, ifT (by decide +kernel) ⟨_, rfl, D, _, _, _, rfl, rfl, SqL.of e, atI_nat (j := 0) rfl, cnt k s, rfl, q H1 g⟩⟩⟩⟩⟩⟩
  | chance s =>
    obtain ⟨a, v2, rfl, hs, h3⟩ := dt2 hd
    refine ⟨_, rfl, a, _, _, _, rfl, rfl, hs, atI_nat (j := 0) rfl, ?_⟩
    refine ⟨_, rfl, rfl, _, rfl, ifF (by decide +kernel) ⟨_, rfl, rfl, _, rfl, ifF (by decide +kernel) ?_⟩⟩
    unfold tSeq tAsg tNext
    dsimp only
    refine comp "chance" _ fun D H1 g e => ?_
    have hs1 := SqT.gx NoT.none g hs
    refine ⟨_, rfl, rfl, _, rfl, ifF (by decide +kernel) ⟨_, rfl, rfl, _, rfl, ifF (by decide +kernel) ⟨_, rfl, rfl, _, rfl, ifF (by decide +kernel) ⟨_, rfl, rfl, _, rfl, ifF (by decide +kernel) ⟨_, rfl, rfl, _, rfl, ifF (by decide +kernel) ?_⟩⟩⟩⟩⟩
    refine ⟨_, rfl, D, _, _, _, rfl, rfl, SqL.of e, atI_nat (j := 0) rfl, sz2, fun p hp => ⟨oD (cnt k s), [.int 0, .int 1], dO _, Dt.mk (.cons (.int 0) (.cons (.int 1) .nil)) hp, shO _, by decide +kernel, _, rfl, ?_⟩⟩
    have e1 : ([PyData.int 0, PyData.int 1].any fun z => PyData.eqv z (oD (cnt k s))) = decide (cnt k s = some 0 ∨ cnt k s = some 1) := one_any _
    rw [e1]
    have q1 := q _ (g.then (o := .tup [.int 0, .int 1]) hp)
    by_cases c : cnt k s = some 0 ∨ cnt k s = some 1
    · have e3 : cnt k (.chance s) = cnt k s := if_pos c
      rw [e3] at q1
      exact ifT (decide_eq_true c) ⟨_, rfl, D, _, _, _, rfl, rfl, SqL.of ((Gx.new (B := fun _ => False) hp).keep _ _ e (fun z => z) fun ps z => by cases z), atI_nat (j := 0) rfl, q1⟩
    · have e3 : cnt k (.chance s) = none := if_neg c
      rw [e3] at q1
      exact ifF (decide_eq_false c) q1
theorem all_num (X : VTx P w K mg base fL fM fS fG fB dL dM dS dG dB) (F : Fun K "number_of_values" "number_of_values" s_number_of_values fN dN) (gN : mg "number_of_values" = some (.ref fN)) (bN : Binds K dN ["shape", "states"] []) : ∀ n : Nat, FnOk P w K mg base CX0 (n + 2) fN dN ["shape", "states"] (spNum K n)
  | 0 => by
    have no : ∀ vs H Q E, ¬ spNum K 0 vs H Q E := fun vs H Q E h => by
      obtain ⟨_, _, _, _, _, h, _⟩ := h
      exact h
    exact ⟨fun vs H Q E h => absurd h (no vs H Q E), fun A outer s H args us vs Q E _ _ _ _ h => absurd h (no vs H Q E)⟩
  | n + 1 => ok_number_of_values X F gN bN (all_num X F gN bN n)
end
end M4
end
section
set_option Elab.async false
set_option linter.all false
set_option maxRecDepth 100000
set_option maxHeartbeats 4000000
namespace M4
open PySem PySem.Spec PyProof.Rows L2 GE MS
abbrev s_law_times : Stmt := top 45
abbrev s_law_capped : Stmt := top 46
abbrev s_law_bags : Stmt := top 47
def capN : ON → ON
  | none => none
  | some n => limN n
def bagF : Nat → Nat
  | 0 => 1
  | k + 1 => bagF k * (1000 + (k + 1)) / (k + 1)
theorem bag_eq (c : Nat) : limN (bagF (min c 8)) = bagsN (some c) := by
  by_cases h : c < 30
  · have z : ∀ m : Fin 30, limN (bagF (min m.val 8)) = bagsN (some m.val) := by decide +kernel
    exact z ⟨c, h⟩
  · rw [show min c 8 = 8 by omega]
    have e : bagsN (some c) = none := if_pos (by omega)
    rw [e]
    decide +kernel
def prodO (cs : List ON) : ON := if none ∈ cs then none else some (prodN cs)
theorem mul_law {cs : List ON} (h : some 0 ∉ cs) : capN (prodO cs) = mulN cs := by
  unfold prodO mulN
  rw [if_neg h]
  by_cases c : none ∈ cs
  · rw [if_pos c, if_pos c]; rfl
  · rw [if_neg c, if_neg c]; rfl
theorem prodO_take {cs : List ON} {i : Nat} {c : ON} (h : cs[i]? = some c) : prodO (cs.take (i + 1)) = (if prodO (cs.take i) = none ∨ c = none then none else some ((prodO (cs.take i)).getD 0 * c.getD 0)) := by
  have e : cs.take (i + 1) = cs.take i ++ [c] := by rw [List.take_succ, h]; rfl
  unfold prodO
  by_cases c1 : none ∈ cs.take i
  · have c2 : none ∈ cs.take (i + 1) := by rw [e]; exact List.mem_append_left _ c1
    rw [if_pos c1, if_pos c2, if_pos (.inl rfl)]
  · by_cases c3 : c = none
    · have c2 : none ∈ cs.take (i + 1) := by rw [e, c3]; exact List.mem_append_right _ List.mem_cons_self
      rw [if_pos c2, if_pos (.inr c3)]
    · have c2 : none ∉ cs.take (i + 1) := by
        rw [e]
        intro z
        rcases List.mem_append.mp z with z | z
        · exact c1 z
        · exact c3 (List.mem_singleton.mp z).symm
      rw [if_neg c1, if_neg c2, if_neg (by intro z; rcases z with z | z; exact absurd z (by simp); exact c3 z), prod_take h]
      rfl
section
variable {P : Program} {w : World} {K : PySem.W.Frag} {mg : Str → Option Value} {base : Heap} {f fC : Addr} {fd dC : FuncData}
theorem sc_law_capped : FnScope ["n"] ["n"] (defScope s_law_capped) := ⟨rfl, rfl, rfl, by decide +kernel, rfl, by decide +kernel, by decide +kernel⟩
theorem ok_law_capped {k : Nat} (F : Fun K "_law_capped" "_law_capped" s_law_capped f fd) : FnOk P w K mg base CX0 (k + 1) f fd ["n"] (spOne capN) := by
  refine F.ok sc_law_capped (fun vs H Q E h => ?_) (fun cdv A outer s H vs Q E hr h => ?_)
  · obtain ⟨n, rfl, _⟩ := h
    rfl
  obtain ⟨c, rfl, q⟩ := h
  refine ⟨_, pss_one (ps_ret (pe_ifExp (PW.pt (pw_or (pt_cmpR op_isN (pv 0) pe_non (nomark _)) (pw_or1 (pt_cmpR op_gt (pv 0) (pe_op op_pow pe_int pe_int) (nomark _))))) pe_non (pv 0))), ?_⟩
  cases c with
  | none => exact ⟨_, rfl, rfl, _, rfl, ifT rfl q⟩
  | some n =>
    refine ⟨_, rfl, rfl, _, rfl, ifF (decide_eq_false fun z : V.int (n : Int) = V.non => by cases z) ⟨_, rfl, _, _, rfl, rfl, ⟨by decide, by decide, by decide⟩, _, _, rfl, rfl, _, rfl, ite2 (fun c => ?_) (fun c => ?_)⟩⟩
    · have c : (10 : Int) ^ (9 : Int).toNat < (n : Int) := of_decide_eq_true c
      have e : (10 : Int) ^ (9 : Int).toNat = 1000000000 := by decide
      have e2 : capN (some n) = none := if_neg (by omega)
      rw [e2] at q
      exact q
    · have c : ¬ (10 : Int) ^ (9 : Int).toNat < (n : Int) := of_decide_eq_false (Bool.eq_false_iff.mpr c)
      have e : (10 : Int) ^ (9 : Int).toNat = 1000000000 := by decide
      have e2 : capN (some n) = some n := if_pos (by omega)
      rw [e2] at q
      exact ⟨_, rfl, q⟩
structure CTx (P : Program) (w : World) (K : PySem.W.Frag) (mg : Str → Option Value) (base : Heap) (fC : Addr) (dC : FuncData) : Prop where
  OC : FnOk P w K mg base CX0 1 fC dC ["n"] (spOne capN)
  gC : mg "_law_capped" = some (.ref fC)
  kC : PySem.W.keepIn K (.ref fC) = true
  bC : Binds K dC ["n"] []
  min : mg "min" = none
  range : mg "range" = none
abbrev kTimes : List Str := ["numbers", "found", "n"]
theorem sc_law_times : FnScope kTimes ["numbers"] (defScope s_law_times) := ⟨rfl, rfl, rfl, by decide +kernel, rfl, by decide +kernel, by decide +kernel⟩
theorem ok_law_times (X : CTx P w K mg base fC dC) (F : Fun K "_law_times" "_law_times" s_law_times f fd) : FnOk P w K mg base CX0 2 f fd ["numbers"] (spMul K) := by
  refine F.ok sc_law_times (fun vs H Q E h => ?_) (fun cdv A outer s H vs Q E hr h => ?_)
  · obtain ⟨a, cs, rfl, _⟩ := h
    rfl
  obtain ⟨a, cs, rfl, hS, hb, q⟩ := h
  have nd := sc_law_times.nd
  refine ⟨_, pss_cons (ps_if (pt_cmpR (op_inD (M4.Room.u65 hr)) pe_int (pv 0) (by rfl)) (pss_one (ps_ret pe_int)) pss_nil)
    (pss_cons (ps_set (i := 1) nd rfl (.inl rfl) pe_int)
    (pss_cons (ps_for PassesOwn.never rfl (pi_list (pv 0)) (pg_name (i := 2) nd rfl (Or.inl rfl)) (pss_one (ps_set (i := 1) nd rfl (.inl rfl)
      (pe_ifExp (PW.pt (pw_or (pt_cmpR op_isN (pv 1) pe_non (nomark _)) (pw_or1 (pt_cmpR op_isN (pv 2) pe_non (nomark _))))) pe_non (pe_op op_mul (pv 1) (pv 2))))))
    (pss_one (ps_ret (pe_call X.OC hr rfl X.gC X.kC X.bC .nil pass0 (pa_cons (pv 1) pa_nil)))))), ?_⟩
  refine ⟨_, rfl, .int 0, cs.map oD, .int 0, .lst hS (dOs cs), rfl, shOs cs, _, rfl, ?_⟩
  rw [any_o0]
  by_cases h0 : some 0 ∈ cs
  · have e : mulN cs = some 0 := if_pos h0
    rw [e] at q
    exact ifT (decide_eq_true h0) q
  rw [← mul_law h0] at q
  refine ifF (decide_eq_false h0) ⟨.ref a, rfl, a, rfl, ⟨_, hS⟩, for_list (xs := cs.map oV) (fun i σ H' => ∃ o, σ = [some (.ref a), some (oV (prodO (cs.take i))), o] ∧ H' = H) ⟨none, rfl, rfl⟩ (fun i σ H' _ p => by rw [p.choose_spec.2]; exact hS) (fun i x σ H' hx p => ?_) fun σ H' p => ?_⟩
  · obtain ⟨o, rfl, rfl⟩ := p
    rw [List.getElem?_map] at hx
    obtain ⟨c, hc, rfl⟩ := Option.map_eq_some_iff.mp hx
    have hm : c ∈ cs := List.mem_of_getElem? hc
    have et := prodO_take hc
    generalize prodO (cs.take i) = p at et
    generalize prodO (cs.take (i + 1)) = r at et
    cases p with
    | none =>
      rw [if_pos (.inl rfl)] at et
      subst et
      exact ⟨_, rfl, rfl, _, rfl, ifT rfl ⟨_, rfl, rfl⟩⟩
    | some m =>
      refine ⟨_, rfl, rfl, _, rfl, ifF (decide_eq_false fun z : V.int (m : Int) = V.non => by cases z) ?_⟩
      cases c with
      | none =>
        rw [if_pos (.inr rfl)] at et
        subst et
        exact ⟨_, rfl, rfl, _, rfl, ifT rfl ⟨_, rfl, rfl⟩⟩
      | some n =>
        have hn := hb n hm
        rw [if_neg (by simp)] at et
        subst et
        refine ⟨_, rfl, rfl, _, rfl, ifF (decide_eq_false fun z : V.int (n : Int) = V.non => by cases z) ⟨_, rfl, _, rfl, _, _, rfl, rfl, .inr ⟨by omega, by omega⟩, some (.int (n : Int)), ?_, rfl⟩⟩
        show _ = [some (V.ref a), some (V.int ((m * n : Nat) : Int)), _]
        rw [Int.natCast_mul]
        rfl
  · obtain ⟨o, rfl, rfl⟩ := p
    rw [List.length_map, List.take_length]
    exact ⟨_, rfl, prodO cs, rfl, q⟩
abbrev kBags : List Str := ["many", "found", "k"]
theorem sc_law_bags : FnScope kBags ["many"] (defScope s_law_bags) := ⟨rfl, rfl, rfl, by decide +kernel, rfl, by decide +kernel, by decide +kernel⟩
theorem ok_law_bags (X : CTx P w K mg base fC dC) (F : Fun K "_law_bags" "_law_bags" s_law_bags f fd) : FnOk P w K mg base CX0 2 f fd ["many"] (spOne bagsN) := by
  refine F.ok sc_law_bags (fun vs H Q E h => ?_) (fun cdv A outer s H vs Q E hr h => ?_)
  · obtain ⟨n, rfl, _⟩ := h
    rfl
  obtain ⟨c, rfl, q⟩ := h
  have nd := sc_law_bags.nd
  refine ⟨_, pss_cons (ps_if (pt_cmpR op_isN (pv 0) pe_non (nomark _)) (pss_one (ps_ret pe_non)) pss_nil)
    (pss_cons (ps_set (i := 1) nd rfl (.inl rfl) pe_int)
    (pss_cons (ps_for PassesOwn.never rfl (pi_range2 (by rfl) X.range (pa_cons pe_int (pa_cons (pe_op op_add (pe_callB (call_min2 rfl) (by rfl) X.min (by decide +kernel) (pa_cons (pv 0) (pa_cons pe_int pa_nil))) pe_int) pa_nil))) (pg_name (i := 2) nd rfl (Or.inl rfl))
      (pss_one (ps_set (i := 1) nd rfl (.inl rfl) (pe_op op_fdiv (pe_op op_mul (pv 1) (pe_op op_add pe_int (pv 2))) (pv 2)))))
    (pss_one (ps_ret (pe_call X.OC hr rfl X.gC X.kC X.bC .nil pass0 (pa_cons (pv 1) pa_nil)))))), ?_⟩
  cases c with
  | none => exact ⟨_, rfl, rfl, _, rfl, ifT rfl q⟩
  | some n =>
    refine ⟨_, rfl, rfl, _, rfl, ifF (decide_eq_false fun z : V.int (n : Int) = V.non => by cases z) ?_⟩
    obtain ⟨m, hm⟩ : ∃ m : Nat, m = min n 8 := ⟨_, rfl⟩
    have em : (if (8 : Int) < (n : Int) then (8 : Int) else (n : Int)) = (m : Int) := by
      split <;> omega
    rw [← bag_eq n, ← hm] at q
    refine ⟨_, rfl, _, _, rfl, _, _, rfl, rfl, 1, _, rfl, ⟨by omega, by omega, ?_, ?_⟩, ?_⟩
    · show -(2 ^ 62) ≤ (if (8 : Int) < (n : Int) then (8 : Int) else (n : Int)) + 1
      rw [em]; omega
    · show (if (8 : Int) < (n : Int) then (8 : Int) else (n : Int)) + 1 < 2 ^ 62
      rw [em]; omega
    have e3 : (((if (8 : Int) < (n : Int) then (8 : Int) else (n : Int)) + 1) - 1).toNat = m := by rw [em]; omega
    rw [e3]
    refine for_range (lo := 1) (n := m) (fun i σ H' => ∃ o, σ = [some (.int (n : Int)), some (.int ((bagF i : Nat) : Int)), o] ∧ H' = H) ⟨none, rfl, rfl⟩ (fun i σ H' hi p => ?_) fun σ H' p => ?_
    · obtain ⟨o, rfl, rfl⟩ := p
      refine ⟨_, rfl, _, rfl, _, _, rfl, rfl, _, _, rfl, rfl, .inr ⟨by omega, by omega⟩, _, rfl, _, _, rfl, rfl, ⟨by omega, by omega⟩, some (.int (1 + (i : Int))), ?_, rfl⟩
      have e4 : ((bagF i : Nat) : Int) * (1000 + (1 + (i : Int))) / (1 + (i : Int)) = ((bagF (i + 1) : Nat) : Int) := by
        show _ = ((bagF i * (1000 + (i + 1)) / (i + 1) : Nat) : Int)
        rw [Int.natCast_ediv, Int.natCast_mul]
        congr 1
        · congr 1; omega
        · omega
      show [some (V.int (n : Int)), some (V.int (((bagF i : Nat) : Int) * (1000 + (1 + (i : Int))) / (1 + (i : Int)))), _] = _
      rw [e4]
    · obtain ⟨o, rfl, rfl⟩ := p
      exact ⟨_, rfl, some (bagF m), rfl, q⟩
end
end M4
end
section
set_option Elab.async false
set_option linter.all false
set_option maxRecDepth 100000
set_option maxHeartbeats 4000000
namespace M4
open PySem PySem.Spec PyProof.Rows L2 GE MS
abbrev s_law_count : Stmt := top 48
theorem last2 (x y : V) : atI [x, y] ((([x, y].length : Nat) : Int) - 1) = some y := by
  have e : ((([x, y].length : Nat) : Int) - 1) = ((1 : Nat) : Int) := by show ((2 : Nat) : Int) - 1 = ((1 : Nat) : Int); decide
  rw [e]; exact atI_nat rfl
theorem last3 (x z y : V) : atI [x, z, y] ((([x, z, y].length : Nat) : Int) - 1) = some y := by
  have e : ((([x, z, y].length : Nat) : Int) - 1) = ((2 : Nat) : Int) := by show ((3 : Nat) : Int) - 1 = ((2 : Nat) : Int); decide
  rw [e]; exact atI_nat rfl
theorem two_in {K : PySem.W.Frag} {H : Hp} {a b : Str} {p : Addr} (hp : H p = none) : Dt K (upd H p (.tup [.str a, .str b])) (.ref p) (.tuple [kS a, kS b]) := Dt.mk (.cons (.str _) (.cons (.str _) .nil)) hp
theorem prod_two : ∀ m, prodN (List.replicate m (some 2)) = 2 ^ m
  | 0 => rfl
  | m + 1 => by
    rw [List.replicate_succ]
    show 2 * prodN (List.replicate m (some 2)) = 2 ^ (m + 1)
    rw [prod_two m, Nat.pow_succ, Nat.mul_comm]
theorem sets_law (c : Nat) : mulN (List.replicate (min c 40) (some 2)) = setsN (some c) := by
  have h0 : (some 0 : ON) ∉ List.replicate (min c 40) (some 2 : ON) := fun z => by
    have := List.eq_of_mem_replicate z
    cases this
  have h1 : (none : ON) ∉ List.replicate (min c 40) (some 2 : ON) := fun z => by
    have := List.eq_of_mem_replicate z
    cases this
  unfold mulN
  rw [if_neg h0, if_neg h1, prod_two]
  by_cases h : 30 ≤ c
  · have e : setsN (some c) = none := if_pos h
    rw [e]
    have h2 : 2 ^ 30 ≤ 2 ^ (min c 40) := Nat.pow_le_pow_right (by decide) (by omega)
    exact if_neg (by omega)
  · have e : setsN (some c) = limN (2 ^ c) := if_neg h
    rw [e, show min c 40 = c by omega]
section
variable {P : Program} {w : World} {K : PySem.W.Frag} {mg : Str → Option Value} {base : Heap} {fC fM fG fN : Addr} {dC dM dG dN : FuncData}
def spCnt (K : PySem.W.Frag) (n : Nat) : Sp := fun vs H Q _ => ∃ (v : V) (k : Nat) (s : Sh), vs = [v, .int k] ∧ k ≤ 1000000000 ∧ Dt K H v (Sh.data s) ∧ Sh.wf n s ∧ n ≤ 10 ∧ ∀ H', Gr H H' → Q (oV (cnt k s)) H'
abbrev kCnt : List Str := ["shape", "states", "word", "parts", "inner", "below"]
theorem sc_law_count : FnScope kCnt ["shape", "states"] (defScope s_law_count) := ⟨rfl, rfl, rfl, by decide +kernel, rfl, by decide +kernel, by decide +kernel⟩
structure WTx (P : Program) (w : World) (K : PySem.W.Frag) (mg : Str → Option Value) (base : Heap) (fC fM fG : Addr) (dC dM dG : FuncData) : Prop where
  B : Blt mg
  C : CTx P w K mg base fC dC
  OM : FnOk P w K mg base CX0 2 fM dM ["numbers"] (spMul K)
  gM : mg "_law_times" = some (.ref fM)
  kM : PySem.W.keepIn K (.ref fM) = true
  bM : Binds K dM ["numbers"] []
  OG : FnOk P w K mg base CX0 2 fG dG ["many"] (spOne bagsN)
  gG : mg "_law_bags" = some (.ref fG)
  kG : PySem.W.keepIn K (.ref fG) = true
  bG : Binds K dG ["many"] []
theorem ok_law_count {n : Nat} (X : WTx P w K mg base fC fM fG dC dM dG) (F : Fun K "_law_count" "_law_count" s_law_count fN dN) (gN : mg "_law_count" = some (.ref fN)) (bN : Binds K dN ["shape", "states"] [])
    (GN : FnOk P w K mg base CX0 (n + 2) fN dN ["shape", "states"] (spCnt K n)) : FnOk P w K mg base CX0 (n + 3) fN dN ["shape", "states"] (spCnt K (n + 1)) := by
  refine F.ok sc_law_count (fun vs H Q E h => ?_) (fun cdv A outer s0 H vs Q E hr h => ?_)
  · obtain ⟨v, k, s, rfl, _⟩ := h
    rfl
  obtain ⟨v, k, s, rfl, hk, hd, hw, hn, q⟩ := h
  have nd := sc_law_count.nd
  have hr1 : Room 1 (A.deeper (envOfC "_law_count" (defScope s_law_count) s0.heap.objs.size fN cdv)) := hr.mono (by omega)
  have hr2 : Room 2 (A.deeper (envOfC "_law_count" (defScope s_law_count) s0.heap.objs.size fN cdv)) := hr.mono (by omega)
  refine ⟨_, pss_cons (ps_set (i := 2) nd rfl (.inl rfl) (pe_ix ix_tup (pv 0) pe_int (fun _ _ => rfl)))
    (pss_cons (ps_if (pt_cmpR op_eq (pv 2) pe_str (nomark _)) (pss_one (ps_ret (pe_ix ix_tup (pv 0) pe_int (fun _ _ => rfl)))) pss_nil)
    (pss_cons (ps_if (pt_cmpR op_eq (pv 2) pe_str (nomark _)) (pss_one (ps_ret (pv 1))) pss_nil)
    (pss_cons (ps_if (pt_cmpR (op_inT (M4.Room.u65 hr)) (pv 2) (pe_tup (pa_cons pe_str (pa_cons pe_str pa_nil))) (by rfl))
      (pss_cons (ps_setLc (i := 3) (own := [("inner", 4)]) (g := gName 4) (tt := tYes) rfl nd rfl rfl (sw_true rfl rfl rfl (by decide +kernel)) (pi_tup (pe_ix ix_tup (pv 0) pe_int (fun _ _ => rfl)))
        (blkOk_by (own := [("inner", 4)]) (N := kCnt) (sc := defScope s_law_count) (by decide +kernel)) (fun _ _ _ _ _ => pg_name (i := 4) nd rfl (Or.inl rfl)) (fun _ _ _ _ _ => pts_nil)
        (fun _ _ _ _ _ => pe_call GN hr rfl gN F.kp bN .nil pass0 (pa_cons (pv 4) (pa_cons (pv 1) pa_nil))))
      (pss_cons (ps_if (pt_cmpR op_eq (pv 2) pe_str (nomark _)) (pss_one (ps_ret (pe_call X.OM hr2 rfl X.gM X.kM X.bM .nil pass0 (pa_cons (pv 3) pa_nil)))) pss_nil)
      (pss_one (ps_ret (pe_ifExp (pt_cmpR (op_inD (M4.Room.u65 hr)) pe_non (pv 3) (by rfl)) pe_non
        (pe_call X.C.OC hr1 rfl X.C.gC X.C.kC X.C.bC .nil pass0 (pa_cons (pe_callB (cr_sum rfl) (by rfl) X.B.sum (by decide +kernel) (pa_cons (pv 3) pa_nil)) pa_nil))))))) pss_nil)
    (pss_cons (ps_set (i := 5) nd rfl (.inl rfl) (pe_call GN hr rfl gN F.kp bN .nil pass0 (pa_cons (pe_ix ix_tup (pv 0) (pe_op op_sub (pe_callB call_len_seq (by rfl) X.B.len PySem.boot_len (pa_cons (pv 0) pa_nil)) pe_int) (fun _ _ => rfl)) (pa_cons (pv 1) pa_nil))))
    (pss_cons (ps_if (pt_cmpR op_eq (pv 2) pe_str (nomark _)) (pss_one (ps_ret (pe_call X.OM hr2 rfl X.gM X.kM X.bM .nil pass0 (pa_cons (pe_op op_rep (pe_lst (pa_cons (pv 5) pa_nil)) (pe_ix ix_tup (pv 0) pe_int (fun _ _ => rfl))) pa_nil)))) pss_nil)
    (pss_cons (ps_if (pt_cmpR op_eq (pv 2) pe_str (nomark _)) (pss_one (ps_ret (pe_ifExp (pt_cmpR op_isN (pv 5) pe_non (nomark _)) pe_non
        (pe_call X.OM hr2 rfl X.gM X.kM X.bM .nil pass0 (pa_cons (pe_op op_rep (pe_lst (pa_cons pe_int pa_nil)) (pe_callB (call_min2 rfl) (by rfl) X.C.min (by decide +kernel) (pa_cons (pv 5) (pa_cons pe_int pa_nil)))) pa_nil))))) pss_nil)
    (pss_cons (ps_if (pt_cmpR op_eq (pv 2) pe_str (nomark _)) (pss_one (ps_ret (pe_call X.OG hr2 rfl X.gG X.kG X.bG .nil pass0 (pa_cons (pv 5) pa_nil)))) pss_nil)
    (pss_one (ps_ret (pe_ifExp (pt_cmpR (op_inT (M4.Room.u65 hr)) (pv 5) (pe_tup (pa_cons pe_int (pa_cons pe_int pa_nil))) (by rfl)) (pv 5) pe_non)))))))))), ?_⟩
  have sz2 : 2 ≤ sizeLine := by rw [sizeLine_eq]; decide
  obtain ⟨hl4, hwi⟩ := Sh.wf_inner hw
  have comp : ∀ (x : Str) (a : Addr) (v2 : V) (xs : List Sh) (H0 : Hp) (R : VK), Gr H H0 → SqT K H a [.str x, v2] → Dt K H v2 (.tuple (Sh.datas xs)) → (∀ y ∈ xs, Sh.wf n y) → xs.length ≤ 4 →
      (∀ D H', Gr H0 H' → H' D = some (.lst ((xs.map (cnt k)).map oV)) → R (.ref D) H') → tLc (iTup K (tOp (rIxT K) (tVar 0) (tC (.int 1)))) (gName 4) tYes (tCall (spCnt K n) [] E0 (tCons (tVar 4) (tCons (tVar 1) tNil))) [4]
      [some (.ref a), some (.int (k : Int)), some (.str x), none, none, none] H0 R := by
    intro x a v2 xs H0 R g0 hs h2 hwx hl R'
    have h2 := h2.gr g0
    cases h2 with
    | @tup a2 ys _ hs2 hal =>
      have hly : ys.length = xs.length := by rw [hal.length, Sh.datas_map, List.length_map]
      refine ⟨_, rfl, a, _, _, _, rfl, rfl, SqT.gx NoT.none g0 hs, atI_nat (j := 1) rfl, a2, rfl, ⟨_, hs2⟩, fun D hD => lc_tup (xs := ys) (fun i H' => H' D = some (.lst (((xs.take i).map (cnt k)).map oV)) ∧ Gr H0 H') ⟨upd_same, Gx.new hD⟩ (fun i H' _ p => SqT.gx NoT.none p.2 hs2) (fun i y H' hy p => ?_) fun H' p => ?_⟩
      · obtain ⟨dx, hdx, hdt⟩ := hal.of_get hy
        rw [Sh.datas_map, List.getElem?_map] at hdx
        obtain ⟨sx, hsx, rfl⟩ := Option.map_eq_some_iff.mp hdx
        have hi : i < xs.length := (List.getElem?_eq_some_iff.mp hsx).1
        refine ⟨rfl, _, rfl, _, rfl, y, k, sx, rfl, hk, hdt.gr p.2, hwx sx (List.mem_of_getElem? hsx), by omega, fun H4 g4 => ?_⟩
        have e4 := g4.keep _ _ p.1 (fun z => z) fun ps z => by cases z
        refine ⟨_, e4, ?_, ?_, (p.2.trans g4).late hD e4⟩
        · rw [List.length_map, List.length_map, List.length_take, sizeLine_eq]
          omega
        · rw [upd_same, List.take_succ, hsx]
          simp
      · obtain ⟨e, g⟩ := p
        rw [List.take_of_length_le (by omega)] at e
        exact R' D H' g e
  cases s with
  | letters j =>
    cases hd with | @tup a ys _ hs ha => cases ha with | cons h1 h2 => cases h1; cases h2 with | cons h3 h4 => cases h4; cases h3; exact ⟨_, rfl, a, _, _, _, rfl, rfl, hs, atI_nat (j := 0) rfl, _, rfl, rfl, _, rfl, ifT (by decide +kernel) ⟨_, rfl, a, _, _, _, rfl, rfl, hs, atI_nat (j := 1) rfl, q H Gx.refl⟩⟩
  | self =>
    have e1 : cnt k .self = some k := if_pos hk
    have q1 := q H Gx.refl
    rw [e1] at q1
    cases hd with | @tup a ys _ hs ha => cases ha with | cons h1 h2 => cases h1; cases h2; exact ⟨_, rfl, a, _, _, _, rfl, rfl, hs, atI_nat (j := 0) rfl, _, rfl, rfl, _, rfl, ifF (by decide +kernel) ⟨_, rfl, rfl, _, rfl, ifT (by decide +kernel) ⟨_, rfl, q1⟩⟩⟩
  | both xs =>
    obtain ⟨a, v2, rfl, hs, h3⟩ := dt2 hd
    refine ⟨_, rfl, a, _, _, _, rfl, rfl, hs, atI_nat (j := 0) rfl, ?_⟩
    refine ⟨_, rfl, rfl, _, rfl, ifF (by decide +kernel) ⟨_, rfl, rfl, _, rfl, ifF (by decide +kernel) ?_⟩⟩
    refine ⟨_, rfl, sz2, fun p1 hp1 => ⟨kS "both", [kS "both", kS "either"], .str _, two_in hp1, by decide +kernel, by decide +kernel, _, rfl, ifT (by decide +kernel) ?_⟩⟩
    unfold tSeq tAsg
    dsimp only
    refine comp "both" a v2 xs _ _ (Gx.new hp1) hs h3 hwi hl4 fun D H1 g e => ?_
    have q1 := q H1 ((Gx.new hp1).trans g)
    have e2 : cnt k (.both xs) = mulN (xs.map (cnt k)) := congrArg mulN (cnts_map k xs)
    rw [e2] at q1
    exact ⟨_, rfl, rfl, _, rfl, ifT (by decide +kernel) ⟨_, rfl, D, _, rfl, SqL.of e, small_map hwi, q1⟩⟩
  | either xs =>
    obtain ⟨a, v2, rfl, hs, h3⟩ := dt2 hd
    refine ⟨_, rfl, a, _, _, _, rfl, rfl, hs, atI_nat (j := 0) rfl, ?_⟩
    refine ⟨_, rfl, rfl, _, rfl, ifF (by decide +kernel) ⟨_, rfl, rfl, _, rfl, ifF (by decide +kernel) ?_⟩⟩
    refine ⟨_, rfl, sz2, fun p1 hp1 => ⟨kS "either", [kS "both", kS "either"], .str _, two_in hp1, by decide +kernel, by decide +kernel, _, rfl, ifT (by decide +kernel) ?_⟩⟩
    unfold tSeq tAsg
    dsimp only
    refine comp "either" a v2 xs _ _ (Gx.new hp1) hs h3 hwi hl4 fun D H1 g e => ?_
    have q1 := q H1 ((Gx.new hp1).trans g)
    have e2 : cnt k (.either xs) = addN (xs.map (cnt k)) := congrArg addN (cnts_map k xs)
    rw [e2] at q1
    refine ⟨_, rfl, rfl, _, rfl, ifF (by decide +kernel) ?_⟩
    refine ⟨_, rfl, .none, (xs.map (cnt k)).map oD, .non, .lst (SqL.of e) (dOs _), rfl, shOs _, _, rfl, ?_⟩
    rw [any_on]
    by_cases c : none ∈ xs.map (cnt k)
    · have e3 : addN (xs.map (cnt k)) = none := if_pos c
      rw [e3] at q1
      exact ifT (decide_eq_true c) q1
    · have e3 : addN (xs.map (cnt k)) = capN (some (sumN (xs.map (cnt k)))) := if_neg c
      rw [e3] at q1
      obtain ⟨ns, n1, n2⟩ := sum_ints c
      have e' : H1 D = some (.lst (ns.map V.int)) := by rw [← n1]; exact e
      exact ifF (decide_eq_false c) ⟨_, rfl, D, ns, rfl, SqL.of e', some (sumN (xs.map (cnt k))), by rw [n2]; rfl, q1⟩
  | after j s =>
    obtain ⟨a, v2, rfl, hs, h3⟩ := dt3 hd
    refine ⟨_, rfl, a, _, _, _, rfl, rfl, hs, atI_nat (j := 0) rfl, ?_⟩
    refine ⟨_, rfl, rfl, _, rfl, ifF (by decide +kernel) ⟨_, rfl, rfl, _, rfl, ifF (by decide +kernel) ?_⟩⟩
    refine ⟨_, rfl, sz2, fun p1 hp1 => ⟨kS "after", [kS "both", kS "either"], .str _, two_in hp1, by decide +kernel, by decide +kernel, _, rfl, ifF (by decide +kernel) ?_⟩⟩
    have g1 : Gr H (upd H p1 (.tup [.str "both", .str "either"])) := Gx.new hp1
    have hs1 := SqT.gx NoT.none g1 hs
    refine ⟨_, rfl, _, rfl, a, _, rfl, .inr hs1, _, _, rfl, rfl, a, _, _, _, rfl, rfl, hs1, last3 _ _ _, _, rfl, v2, k, s, rfl, hk, h3.gr g1, hwi s List.mem_cons_self, by omega, fun H1 g => ?_⟩
    have g : Gr H H1 := g1.trans g
    have hs2 := SqT.gx NoT.none g hs
    have hj : j ≤ 4 := hw.1
    refine ⟨_, rfl, rfl, _, rfl, ifT (by decide +kernel) ?_⟩
    refine ⟨_, rfl, Nat.le_trans (show 1 ≤ 2 by decide) sz2, fun D hD => ?_⟩
    have g2 : Gr H1 (upd H1 D (.lst [oV (cnt k s)])) := Gx.new hD
    refine ⟨_, rfl, a, _, _, _, rfl, rfl, SqT.gx NoT.none g2 hs2, atI_nat (j := 1) rfl, D, (j : Int), _, rfl, rfl, upd_same, by omega, by omega, ?_, fun p hp => ?_⟩
    · show 1 * ((j : Int)).toNat ≤ sizeLine
      rw [sizeLine_eq]; omega
    have e2 : (List.replicate ((j : Int)).toNat [oV (cnt k s)]).flatten = (List.replicate j (cnt k s)).map oV := by
      rw [Int.toNat_natCast, List.map_replicate]
      exact flat_one _ _
    rw [e2]
    refine ⟨p, List.replicate j (cnt k s), rfl, SqL.of upd_same, fun m hm => ?_, q _ ((g.trans g2).then hp)⟩
    exact cnt_small (hwi s List.mem_cons_self) m (List.eq_of_mem_replicate hm).symm
  | some s =>
    obtain ⟨a, v2, rfl, hs, h3⟩ := dt2 hd
    refine ⟨_, rfl, a, _, _, _, rfl, rfl, hs, atI_nat (j := 0) rfl, ?_⟩
    refine ⟨_, rfl, rfl, _, rfl, ifF (by decide +kernel) ⟨_, rfl, rfl, _, rfl, ifF (by decide +kernel) ?_⟩⟩
    refine ⟨_, rfl, sz2, fun p1 hp1 => ⟨kS "some", [kS "both", kS "either"], .str _, two_in hp1, by decide +kernel, by decide +kernel, _, rfl, ifF (by decide +kernel) ?_⟩⟩
    have g1 : Gr H (upd H p1 (.tup [.str "both", .str "either"])) := Gx.new hp1
    have hs1 := SqT.gx NoT.none g1 hs
    refine ⟨_, rfl, _, rfl, a, _, rfl, .inr hs1, _, _, rfl, rfl, a, _, _, _, rfl, rfl, hs1, last2 _ _, _, rfl, v2, k, s, rfl, hk, h3.gr g1, hwi s List.mem_cons_self, by omega, fun H1 g => ?_⟩
    have g : Gr H H1 := g1.trans g
    have hs2 := SqT.gx NoT.none g hs
    refine ⟨_, rfl, rfl, _, rfl, ifF (by decide +kernel) ⟨_, rfl, rfl, _, rfl, ifT (by decide +kernel) ?_⟩⟩
    have q1 := fun p (hp : H1 p = none) (o : HO) (p2 : Addr) (hp2 : (upd H1 p o) p2 = none) (o2 : HO) => q _ ((g.then (o := o) hp).then (o := o2) hp2)
    have q0 := q H1 g
    have e1 : cnt k (.some s) = setsN (cnt k s) := rfl
    rw [e1] at q1 q0
    generalize cnt k s = c at q1 q0
    cases c with
    | none => exact ⟨_, rfl, rfl, _, rfl, ifT rfl q0⟩
    | some m =>
      refine ⟨_, rfl, rfl, _, rfl, ifF (decide_eq_false fun z : V.int (m : Int) = V.non => by cases z) ?_⟩
      refine ⟨Nat.le_trans (show 1 ≤ 2 by decide) sz2, fun D hD => ?_⟩
      have em : (if (40 : Int) < (m : Int) then (40 : Int) else (m : Int)) = ((min m 40 : Nat) : Int) := by split <;> omega
      refine ⟨_, rfl, _, _, rfl, D, (if (40 : Int) < (m : Int) then (40 : Int) else (m : Int)), _, rfl, rfl, upd_same, by omega, by omega, ?_, fun p hp => ?_⟩
      · show 1 * (if (40 : Int) < (m : Int) then (40 : Int) else (m : Int)).toNat ≤ sizeLine
        rw [sizeLine_eq]; omega
      have e2 : (List.replicate (if (40 : Int) < (m : Int) then (40 : Int) else (m : Int)).toNat [V.int 2]).flatten = (List.replicate (min m 40) (some 2)).map oV := by
        rw [em, Int.toNat_natCast, List.map_replicate]
        exact flat_one _ _
      rw [e2]
      have q2 := q1 D hD (.lst [.int 2]) p hp (.lst ((List.replicate (min m 40) (some 2)).map oV))
      rw [← sets_law m] at q2
      refine ⟨p, List.replicate (min m 40) (some 2), rfl, SqL.of upd_same, fun i hi => ?_, q2⟩
      have := List.eq_of_mem_replicate hi
      cases this
      decide
  | many s =>
    obtain ⟨a, v2, rfl, hs, h3⟩ := dt2 hd
    refine ⟨_, rfl, a, _, _, _, rfl, rfl, hs, atI_nat (j := 0) rfl, ?_⟩
    refine ⟨_, rfl, rfl, _, rfl, ifF (by decide +kernel) ⟨_, rfl, rfl, _, rfl, ifF (by decide +kernel) ?_⟩⟩
    refine ⟨_, rfl, sz2, fun p1 hp1 => ⟨kS "many", [kS "both", kS "either"], .str _, two_in hp1, by decide +kernel, by decide +kernel, _, rfl, ifF (by decide +kernel) ?_⟩⟩
    have g1 : Gr H (upd H p1 (.tup [.str "both", .str "either"])) := Gx.new hp1
    have hs1 := SqT.gx NoT.none g1 hs
    refine ⟨_, rfl, _, rfl, a, _, rfl, .inr hs1, _, _, rfl, rfl, a, _, _, _, rfl, rfl, hs1, last2 _ _, _, rfl, v2, k, s, rfl, hk, h3.gr g1, hwi s List.mem_cons_self, by omega, fun H1 g => ?_⟩
    have g : Gr H H1 := g1.trans g
    have hs2 := SqT.gx NoT.none g hs
    exact ⟨_, rfl, rfl, _, rfl, ifF (by decide +kernel) ⟨_, rfl, rfl, _, rfl, ifF (by decide +kernel) ⟨_, rfl, rfl, _, rfl, ifT (by decide +kernel) ⟨_, rfl, cnt k s, rfl, q H1 g⟩⟩⟩⟩
  | chance s =>
    obtain ⟨a, v2, rfl, hs, h3⟩ := dt2 hd
    refine ⟨_, rfl, a, _, _, _, rfl, rfl, hs, atI_nat (j := 0) rfl, ?_⟩
    refine ⟨_, rfl, rfl, _, rfl, ifF (by decide +kernel) ⟨_, rfl, rfl, _, rfl, ifF (by decide +kernel) ?_⟩⟩
    refine ⟨_, rfl, sz2, fun p1 hp1 => ⟨kS "chance", [kS "both", kS "either"], .str _, two_in hp1, by decide +kernel, by decide +kernel, _, rfl, ifF (by decide +kernel) ?_⟩⟩
    have g1 : Gr H (upd H p1 (.tup [.str "both", .str "either"])) := Gx.new hp1
    have hs1 := SqT.gx NoT.none g1 hs
    refine ⟨_, rfl, _, rfl, a, _, rfl, .inr hs1, _, _, rfl, rfl, a, _, _, _, rfl, rfl, hs1, last2 _ _, _, rfl, v2, k, s, rfl, hk, h3.gr g1, hwi s List.mem_cons_self, by omega, fun H1 g => ?_⟩
    have g : Gr H H1 := g1.trans g
    have hs2 := SqT.gx NoT.none g hs
    refine ⟨_, rfl, rfl, _, rfl, ifF (by decide +kernel) ⟨_, rfl, rfl, _, rfl, ifF (by decide +kernel) ⟨_, rfl, rfl, _, rfl, ifF (by decide +kernel) ?_⟩⟩⟩
    refine ⟨_, rfl, sz2, fun p hp => ⟨oD (cnt k s), [.int 0, .int 1], dO _, Dt.mk (.cons (.int 0) (.cons (.int 1) .nil)) hp, shO _, by decide +kernel, _, rfl, ?_⟩⟩
    rw [one_any]
    have q1 := q _ (g.then (o := .tup [.int 0, .int 1]) hp)
    by_cases c : cnt k s = some 0 ∨ cnt k s = some 1
    · have e3 : cnt k (.chance s) = cnt k s := if_pos c
      rw [e3] at q1
      exact ifT (decide_eq_true c) ⟨_, rfl, q1⟩
    · have e3 : cnt k (.chance s) = none := if_neg c
      rw [e3] at q1
      exact ifF (decide_eq_false c) q1
theorem all_cnt (X : WTx P w K mg base fC fM fG dC dM dG) (F : Fun K "_law_count" "_law_count" s_law_count fN dN) (gN : mg "_law_count" = some (.ref fN)) (bN : Binds K dN ["shape", "states"] []) : ∀ n : Nat, FnOk P w K mg base CX0 (n + 2) fN dN ["shape", "states"] (spCnt K n)
  | 0 => by
    have no : ∀ vs H Q E, ¬ spCnt K 0 vs H Q E := fun vs H Q E h => by
      obtain ⟨_, _, _, _, _, _, h, _⟩ := h
      exact h
    exact ⟨fun vs H Q E h => absurd h (no vs H Q E), fun A outer s H args us vs Q E _ _ _ _ h => absurd h (no vs H Q E)⟩
  | n + 1 => ok_law_count X F gN bN (all_cnt X F gN bN n)
end
end M4
end
section
set_option Elab.async false
set_option linter.all false
set_option maxRecDepth 100000
set_option maxHeartbeats 4000000
namespace M4
open PySem PySem.Spec PyProof.Rows L2 GE MS
abbrev s_law_shapes : Stmt := top 43
abbrev s_law_shape2 : Stmt := top 44
section
variable {P : Program} {w : World} {K : PySem.W.Frag} {mg : Str → Option Value} {base : Heap} {f : Addr} {fd : FuncData}
def spLSize (K : PySem.W.Frag) (n : Nat) : Sp := fun vs H Q _ => ∃ (v : V) (s : Sh), vs = [v] ∧ Dt K H v (Sh.data s) ∧ Sh.wf n s ∧ n ≤ 10 ∧ ∀ H', Gr H H' → Q (.int (Sh.size s)) H'
abbrev kSize : List Str := ["shape", "inner"]
theorem sc_law_size : FnScope kSize ["shape"] (defScope s_law_shapes) := ⟨rfl, rfl, rfl, by decide +kernel, rfl, by decide +kernel, by decide +kernel⟩
theorem sum_sizes : ∀ ss : List Sh, (ss.map fun s => ((Sh.size s : Nat) : Int)).sum = ((Sh.sizes ss : Nat) : Int)
  | [] => rfl
  | s :: ss => by
    rw [List.map_cons, List.sum_cons, sum_sizes ss, Sh.sizes]
    omega
/-- a shape's data, by the way its size is told -/
theorem told3 {H : Hp} {n : Nat} {v : V} {s : Sh} (hd : Dt K H v (Sh.data s)) (hw : Sh.wf (n + 1) s) :
    (∃ (x : Str) (a : Addr) (v2 : V) (xs : List Sh), v = .ref a ∧ (x = "both" ∨ x = "either") ∧ SqT K H a [.str x, v2] ∧ Dt K H v2 (.tuple (Sh.datas xs)) ∧ (∀ y ∈ xs, Sh.wf n y) ∧ xs.length ≤ 4 ∧ Sh.size s = 1 + Sh.sizes xs) ∨
    (∃ (x : Str) (a : Addr) (ys : List V), v = .ref a ∧ (x = "letters" ∨ x = "self") ∧ SqT K H a (.str x :: ys) ∧ Sh.size s = 1) ∨
    (∃ (x : Str) (a : Addr) (ys : List V) (v2 : V) (s2 : Sh), v = .ref a ∧ (x = "after" ∨ x = "some" ∨ x = "many" ∨ x = "chance") ∧ SqT K H a (.str x :: ys ++ [v2]) ∧ Dt K H v2 (Sh.data s2) ∧ Sh.wf n s2 ∧ Sh.size s = 1 + Sh.size s2) := by
  cases s with
  | letters k =>
    cases hd with | tup hs ha => cases ha with | cons h1 h2 => cases h1; exact .inr (.inl ⟨_, _, _, rfl, .inl rfl, hs, rfl⟩)
  | self =>
    cases hd with | tup hs ha => cases ha with | cons h1 h2 => cases h1; exact .inr (.inl ⟨_, _, _, rfl, .inr rfl, hs, rfl⟩)
  | both xs =>
    cases hd with | tup hs ha => cases ha with | cons h1 h2 => cases h1; cases h2 with | cons h3 h4 => cases h4; exact .inl ⟨_, _, _, xs, rfl, .inl rfl, hs, h3, hw.2.2, hw.2.1, rfl⟩
  | either xs =>
    cases hd with | tup hs ha => cases ha with | cons h1 h2 => cases h1; cases h2 with | cons h3 h4 => cases h4; exact .inl ⟨_, _, _, xs, rfl, .inr rfl, hs, h3, hw.2.2, hw.2.1, rfl⟩
  | after k s =>
    cases hd with | tup hs ha => cases ha with | cons h1 h2 => cases h1; cases h2 with | cons h3 h4 => cases h4 with | cons h5 h6 => cases h6; exact .inr (.inr ⟨_, _, [_], _, s, rfl, .inl rfl, hs, h5, hw.2, rfl⟩)
  | some s =>
    cases hd with | tup hs ha => cases ha with | cons h1 h2 => cases h1; cases h2 with | cons h3 h4 => cases h4; exact .inr (.inr ⟨_, _, [], _, s, rfl, .inr (.inl rfl), hs, h3, hw, rfl⟩)
  | many s =>
    cases hd with | tup hs ha => cases ha with | cons h1 h2 => cases h1; cases h2 with | cons h3 h4 => cases h4; exact .inr (.inr ⟨_, _, [], _, s, rfl, .inr (.inr (.inl rfl)), hs, h3, hw, rfl⟩)
  | chance s =>
    cases hd with | tup hs ha => cases ha with | cons h1 h2 => cases h1; cases h2 with | cons h3 h4 => cases h4; exact .inr (.inr ⟨_, _, [], _, s, rfl, .inr (.inr (.inr rfl)), hs, h3, hw, rfl⟩)
theorem ok_law_size {n : Nat} (B : Blt mg) (F : Fun K "_law_shapes" "_law_shapes" s_law_shapes f fd) (gS : mg "_law_shapes" = some (.ref f)) (bS : Binds K fd ["shape"] []) (GS : FnOk P w K mg base CX0 n f fd ["shape"] (spLSize K n)) :
    FnOk P w K mg base CX0 (n + 1) f fd ["shape"] (spLSize K (n + 1)) := by
  refine F.ok sc_law_size (fun vs H Q E h => ?_) (fun cdv A outer s H vs Q E hr h => ?_)
  · obtain ⟨v, s, rfl, _⟩ := h
    rfl
  obtain ⟨v, s, rfl, hd, hw, hn, q⟩ := h
  have nd := sc_law_size.nd
  refine ⟨_, pss_cons (ps_if (pt_cmpR (op_inT (M4.Room.u65 hr)) (pe_ix ix_tup (pv 0) pe_int (fun _ _ => rfl)) (pe_tup (pa_cons pe_str (pa_cons pe_str pa_nil))) (by rfl))
      (pss_one (ps_ret (pe_op op_add pe_int (pe_callB (cr_sum rfl) (by rfl) B.sum (by decide +kernel) (pa_cons
        (pe_lc (own := [("inner", 1)]) (g := gName 1) (tt := tYes) rfl nd (pi_tup (pe_ix ix_tup (pv 0) pe_int (fun _ _ => rfl))) (blkOk_by (own := [("inner", 1)]) (N := kSize) (sc := defScope s_law_shapes) (by decide +kernel))
          (fun _ _ _ _ _ => pg_name (i := 1) nd rfl (Or.inl rfl)) (fun _ _ _ _ _ => pts_nil)
          (fun _ _ _ _ _ => pe_call GS hr rfl gS F.kp bS .nil pass0 (pa_cons (pv 1) pa_nil))) pa_nil))))) pss_nil)
    (pss_one (ps_ret (pe_ifExp (pt_cmpR (op_inT (M4.Room.u65 hr)) (pe_ix ix_tup (pv 0) pe_int (fun _ _ => rfl)) (pe_tup (pa_cons pe_str (pa_cons pe_str pa_nil))) (by rfl)) pe_int
      (pe_op op_add pe_int (pe_call GS hr rfl gS F.kp bS .nil pass0 (pa_cons (pe_ix ix_tup (pv 0) (pe_op op_sub (pe_callB call_len_seq (by rfl) B.len PySem.boot_len (pa_cons (pv 0) pa_nil)) pe_int) (fun _ _ => rfl)) pa_nil)))))), ?_⟩
  have sz2 : 2 ≤ sizeLine := by rw [sizeLine_eq]; decide
  rcases told3 hd hw with ⟨x, a, v2, xs, rfl, hx, hs, h2, hwx, hl4, hsz⟩ | ⟨x, a, ys, rfl, hx, hs, hsz⟩ | ⟨x, a, ys, v2, s2, rfl, hx, hs, h2, hw2, hsz⟩
  · have c1 : ([kS "both", kS "either"].any fun z => PyData.eqv z (kS x)) = true ∧ SeqAt.shaped (kS x) = true := by
      rcases hx with rfl | rfl
      · exact ⟨by decide +kernel, by decide +kernel⟩
      · exact ⟨by decide +kernel, by decide +kernel⟩
    refine ⟨_, rfl, a, _, _, _, rfl, rfl, hs, atI_nat (j := 0) rfl, sz2, fun p1 hp1 => ⟨kS x, [kS "both", kS "either"], .str _, two_in hp1, c1.2, by decide +kernel, _, rfl, ifT c1.1 ?_⟩⟩
    cases h2 with
    | @tup a2 ys ds hs2 ha2 =>
      have g1 : Gr H (upd H p1 (.tup [.str "both", .str "either"])) := Gx.new hp1
      have hly : ys.length = xs.length := by rw [ha2.length, Sh.datas_map, List.length_map]
      refine ⟨_, rfl, a, _, _, _, rfl, rfl, SqT.gx NoT.none g1 hs, atI_nat (j := 1) rfl, a2, rfl, ⟨_, SqT.gx NoT.none g1 hs2⟩, fun D hD => ?_⟩
      refine lc_tup (xs := ys) (fun i H' => H' D = some (.lst (((xs.take i).map fun s => ((Sh.size s : Nat) : Int)).map V.int)) ∧ Gr (upd H p1 (.tup [.str "both", .str "either"])) H') ⟨upd_same, Gx.new hD⟩
        (fun i H' _ p => SqT.gx NoT.none (g1.trans p.2) hs2) (fun i y H' hy p => ?_) fun H' p => ?_
      · obtain ⟨dx, hdx, hdt⟩ := ha2.of_get hy
        rw [Sh.datas_map, List.getElem?_map] at hdx
        obtain ⟨sx, hsx, rfl⟩ := Option.map_eq_some_iff.mp hdx
        have hm : sx ∈ xs := List.mem_of_getElem? hsx
        refine ⟨rfl, y, rfl, y, sx, rfl, hdt.gr (g1.trans p.2), hwx sx hm, by omega, fun H4 g4 => ?_⟩
        have e4 := g4.keep _ _ p.1 (fun z => z) fun ps z => by cases z
        refine ⟨_, e4, ?_, ?_, (p.2.trans g4).late hD e4⟩
        · rw [List.length_map, List.length_map, List.length_take, sizeLine_eq]
          omega
        · rw [upd_same, List.take_succ, hsx]
          simp
      · obtain ⟨e, g⟩ := p
        rw [List.take_of_length_le (by omega)] at e
        refine ⟨D, _, rfl, SqL.of e, 1, _, rfl, rfl, ?_⟩
        have e2 : (1 : Int) + (xs.map fun s => ((Sh.size s : Nat) : Int)).sum = ((Sh.size s : Nat) : Int) := by
          rw [sum_sizes, hsz]
          omega
        show Q (.int ((1 : Int) + (xs.map fun s => ((Sh.size s : Nat) : Int)).sum)) H'
        rw [e2]
        exact q H' (g1.trans g)
  · have c1 : ([kS "both", kS "either"].any fun z => PyData.eqv z (kS x)) = false ∧ ([kS "letters", kS "self"].any fun z => PyData.eqv z (kS x)) = true ∧ SeqAt.shaped (kS x) = true := by
      rcases hx with rfl | rfl
      · exact ⟨by decide +kernel, by decide +kernel, by decide +kernel⟩
      · exact ⟨by decide +kernel, by decide +kernel, by decide +kernel⟩
    refine ⟨_, rfl, a, _, _, _, rfl, rfl, hs, atI_nat (j := 0) rfl, sz2, fun p1 hp1 => ⟨kS x, [kS "both", kS "either"], .str _, two_in hp1, c1.2.2, by decide +kernel, _, rfl, ifF c1.1 ?_⟩⟩
    refine ⟨_, rfl, a, _, _, _, rfl, rfl, SqT.gx NoT.none (Gx.new hp1) hs, atI_nat (j := 0) rfl, sz2, fun p2 hp2 => ⟨kS x, [kS "letters", kS "self"], .str _, two_in hp2, c1.2.2, by decide +kernel, _, rfl, ifT c1.2.1 ?_⟩⟩
    have e := q _ (((Gx.new (o := .tup [.str "both", .str "either"]) hp1 : Gr H _)).then (o := .tup [.str "letters", .str "self"]) hp2)
    rw [hsz] at e
    exact e
  · have c1 : ([kS "both", kS "either"].any fun z => PyData.eqv z (kS x)) = false ∧ ([kS "letters", kS "self"].any fun z => PyData.eqv z (kS x)) = false ∧ SeqAt.shaped (kS x) = true := by
      rcases hx with rfl | rfl | rfl | rfl <;> exact ⟨by decide +kernel, by decide +kernel, by decide +kernel⟩
    refine ⟨_, rfl, a, _, _, _, rfl, rfl, hs, atI_nat (j := 0) rfl, sz2, fun p1 hp1 => ⟨kS x, [kS "both", kS "either"], .str _, two_in hp1, c1.2.2, by decide +kernel, _, rfl, ifF c1.1 ?_⟩⟩
    refine ⟨_, rfl, a, _, _, _, rfl, rfl, SqT.gx NoT.none (Gx.new hp1) hs, atI_nat (j := 0) rfl, sz2, fun p2 hp2 => ⟨kS x, [kS "letters", kS "self"], .str _, two_in hp2, c1.2.2, by decide +kernel, _, rfl, ifF c1.2.1 ?_⟩⟩
    have g2 := (Gx.new (o := .tup [.str "both", .str "either"]) hp1 : Gr H _).then (o := .tup [.str "letters", .str "self"]) hp2
    have hs2 := SqT.gx NoT.none g2 hs
    have elen : (((V.str x :: ys ++ [v2]).length : Nat) : Int) - 1 = ((ys.length + 1 : Nat) : Int) := by
      rw [List.length_append, List.length_cons, List.length_singleton]
      omega
    have eat : atI (V.str x :: ys ++ [v2]) ((((V.str x :: ys ++ [v2]).length : Nat) : Int) - 1) = some v2 := by
      rw [elen]
      exact atI_nat (j := ys.length + 1) (by simp)
    refine ⟨_, rfl, _, rfl, a, _, rfl, .inr hs2, _, _, rfl, rfl, a, _, _, _, rfl, rfl, hs2, eat, v2, s2, rfl, h2.gr g2, hw2, by omega, fun H' g => ⟨1, _, rfl, rfl, ?_⟩⟩
    have e2 : (1 : Int) + ((Sh.size s2 : Nat) : Int) = ((Sh.size s : Nat) : Int) := by rw [hsz]; omega
    show Q (.int ((1 : Int) + ((Sh.size s2 : Nat) : Int))) H'
    rw [e2]
    exact q H' (g2.trans g)
theorem all_law_size (B : Blt mg) (F : Fun K "_law_shapes" "_law_shapes" s_law_shapes f fd) (gS : mg "_law_shapes" = some (.ref f)) (bS : Binds K fd ["shape"] []) : ∀ n : Nat, FnOk P w K mg base CX0 n f fd ["shape"] (spLSize K n)
  | 0 => by
    have no : ∀ vs H Q E, ¬ spLSize K 0 vs H Q E := fun vs H Q E h => by
      obtain ⟨_, _, _, _, h, _⟩ := h
      exact h
    exact ⟨fun vs H Q E h => absurd h (no vs H Q E), fun A outer s H args us vs Q E _ _ _ _ h => absurd h (no vs H Q E)⟩
  | n + 1 => ok_law_size B F gS bS (all_law_size B F gS bS n)
def spLShape (K : PySem.W.Frag) : Sp := fun vs H Q _ => ∃ (b l : Addr) (ns : List Int) (m : Nat), vs = [.ref b, .int m] ∧ 1 ≤ m ∧ m ≤ 4 ∧ Bx b l ns H ∧ ∀ (v : V) (s : Sh) H', Dt K H' v (Sh.data s) → Sh.wf 4 s → Sh.size s ≤ 40 → Bx b l ns H' → Gb b H H' → Q v H'
abbrev kLSh : List Str := ["box", "levels", "shape"]
theorem sc_law_shape2 : FnScope kLSh ["box", "levels"] (defScope s_law_shape2) := ⟨rfl, rfl, rfl, by decide +kernel, rfl, by decide +kernel, by decide +kernel⟩
variable {fD fS : Addr} {dD dS : FuncData}
theorem ok_law_shape2 (OD : FnOk P w K mg base CX0 6 fD dD ["box", "levels"] (spShape K 4)) (gD : mg "_law_drawn" = some (.ref fD)) (kD : PySem.W.keepIn K (.ref fD) = true) (bD : Binds K dD ["box", "levels"] []) (OS : FnOk P w K mg base CX0 4 fS dS ["shape"] (spLSize K 4)) (gS : mg "_law_shapes" = some (.ref fS)) (kpS : PySem.W.keepIn K (.ref fS) = true) (bS : Binds K dS ["shape"] [])
    (F : Fun K "_law_shape" "_law_shape" s_law_shape2 f fd) : FnOk P w K mg base CX0 7 f fd ["box", "levels"] (spLShape K) := by
  refine F.ok sc_law_shape2 (fun vs H Q E h => ?_) (fun cdv A outer s0 H vs Q E hr h => ?_)
  · obtain ⟨b, l, ns, m, rfl, _⟩ := h
    rfl
  obtain ⟨b, l, ns, m, rfl, m1, m4, hB, q⟩ := h
  refine ⟨_, pss_cons (ps_set (i := 2) sc_law_shape2.nd rfl (.inl rfl) (pe_call OD hr rfl gD kD bD .nil pass0 (pa_cons (pv 0) (pa_cons (pv 1) pa_nil))))
    (pss_one (ps_ret (pe_ifExp (pt_cmpR op_le (pe_call OS (hr.mono (by omega)) rfl gS kpS bS .nil pass0 (pa_cons (pv 2) pa_nil)) pe_int (nomark _)) (pv 2)
      (pe_tup (pa_cons pe_str (pa_cons (pe_tup (pa_cons (pe_tup (pa_cons pe_str (pa_cons pe_int pa_nil))) (pa_cons (pe_tup (pa_cons pe_str (pa_cons (pe_tup (pa_cons pe_str pa_nil)) pa_nil))) pa_nil))) pa_nil)))))), ?_⟩
  have sz2 : 2 ≤ sizeLine := by rw [sizeLine_eq]; decide
  refine ⟨_, rfl, _, rfl, b, l, ns, m, rfl, m1, m4, hB, fun v s H1 d1 w1 B1 g1 => ?_⟩
  have w4 : Sh.wf 4 s := Sh.wf_mono w1 4 m4
  refine ⟨_, rfl, v, s, rfl, d1, w4, by decide, fun H2 g2 => ⟨_, _, rfl, rfl, _, rfl, ite2 (fun c => ?_) (fun c => ?_)⟩⟩
  · have c : ((Sh.size s : Nat) : Int) ≤ 40 := of_decide_eq_true c
    exact ⟨_, rfl, q v s H2 (d1.gr g2) w4 (by omega) (B1.gr g2) (g1.trans (Gx.of_gr g2))⟩
  · have g2 : Gb b H H2 := g1.trans (Gx.of_gr ‹Gr H1 H2›)
    have B2 : Bx b l ns H2 := B1.gr ‹Gr H1 H2›
    refine ⟨sz2, fun p1 h1 => ⟨Nat.le_trans (show 1 ≤ 2 by decide) sz2, fun p2 h2 => ⟨sz2, fun p3 h3 => ⟨sz2, fun p4 h4 => ⟨sz2, fun p5 h5 => ?_⟩⟩⟩⟩⟩
    have x1 := Dt.mk (K := K) (ds := [kS "letters", .int 2]) (.cons (.str _) (.cons (.int 2) .nil)) h1
    have x2 := Dt.mk (K := K) (ds := [kS "self"]) (.cons (.str _) .nil) h2
    have x3 := Dt.mk (K := K) (ds := [kS "some", .tuple [kS "self"]]) (.cons (.str _) (.cons x2 .nil)) h3
    have x4 := Dt.mk (K := K) (ds := [.tuple [kS "letters", .int 2], .tuple [kS "some", .tuple [kS "self"]]]) (.cons ((x1.new h2).new h3) (.cons x3 .nil)) h4
    have x5 := Dt.mk (K := K) (ds := [kS "both", .tuple [.tuple [kS "letters", .int 2], .tuple [kS "some", .tuple [kS "self"]]]]) (.cons (.str _) (.cons x4 .nil)) h5
    exact q _ (.both [.letters 2, .some .self]) _ x5 (by simp [Sh.wf]) (by decide) (((((B2.new h1).new h2).new h3).new h4).new h5) (((((g2.then h1).then h2).then h3).then h4).then h5)
end
end M4
end
section
set_option Elab.async false
set_option linter.all false
set_option maxRecDepth 100000
set_option maxHeartbeats 4000000
namespace M4
open PySem PySem.Spec PyProof.Rows L2 GE MS
abbrev s_law_has_bags : Stmt := top 52
abbrev s_law_is_small : Stmt := top 53
mutual
def hasB : Sh → Bool
  | .letters _ => false
  | .self => false
  | .both xs => hasBs xs
  | .either xs => hasBs xs
  | .after _ s => hasB s
  | .some s => hasB s
  | .many _ => true
  | .chance s => hasB s
def hasBs : List Sh → Bool
  | [] => false
  | x :: xs => hasB x || hasBs xs
end
def fewN : ON → Bool
  | none => false
  | some n => decide (n ≤ 70)
mutual
def smallS (k : Nat) : Sh → Bool
  | .letters j => fewN (cnt k (.letters j))
  | .self => fewN (cnt k .self)
  | .both xs => fewN (cnt k (.both xs)) && smallSs k xs
  | .either xs => fewN (cnt k (.either xs)) && smallSs k xs
  | .after n s => fewN (cnt k (.after n s)) && smallS k s
  | .some s => fewN (cnt k (.some s)) && smallS k s
  | .many s => fewN (cnt k (.many s)) && smallS k s
  | .chance s => fewN (cnt k (.chance s)) && smallS k s
def smallSs (k : Nat) : List Sh → Bool
  | [] => true
  | x :: xs => smallS k x && smallSs k xs
end
/-- a shape's data, and which shape it is -/
theorem told5 {K : PySem.W.Frag} {H : Hp} {n : Nat} {v : V} {s : Sh} (hd : Dt K H v (Sh.data s)) (hw : Sh.wf (n + 1) s) :
    (∃ (x : Str) (a : Addr) (v2 : V) (xs : List Sh), v = .ref a ∧ ((x = "both" ∧ s = .both xs) ∨ (x = "either" ∧ s = .either xs)) ∧ SqT K H a [.str x, v2] ∧ Dt K H v2 (.tuple (Sh.datas xs)) ∧ (∀ y ∈ xs, Sh.wf n y) ∧ xs.length ≤ 4) ∨
    (∃ (x : Str) (a : Addr) (ys : List V), v = .ref a ∧ ((x = "letters" ∧ ∃ j, s = .letters j) ∨ (x = "self" ∧ s = .self)) ∧ SqT K H a (.str x :: ys)) ∨
    (∃ (x : Str) (a : Addr) (ys : List V) (v2 : V) (s2 : Sh), v = .ref a ∧ ((x = "after" ∧ ∃ j, s = .after j s2) ∨ (x = "some" ∧ s = .some s2) ∨ (x = "many" ∧ s = .many s2) ∨ (x = "chance" ∧ s = .chance s2)) ∧ SqT K H a (.str x :: ys ++ [v2]) ∧ Dt K H v2 (Sh.data s2) ∧ Sh.wf n s2) := by
  cases s with
  | letters k =>
    cases hd with | tup hs ha => cases ha with | cons h1 h2 => cases h1; exact .inr (.inl ⟨_, _, _, rfl, .inl ⟨rfl, k, rfl⟩, hs⟩)
  | self =>
    cases hd with | tup hs ha => cases ha with | cons h1 h2 => cases h1; exact .inr (.inl ⟨_, _, _, rfl, .inr ⟨rfl, rfl⟩, hs⟩)
  | both xs =>
    obtain ⟨a, v2, rfl, hs, h3⟩ := dt2 hd
    exact .inl ⟨_, _, _, xs, rfl, .inl ⟨rfl, rfl⟩, hs, h3, hw.2.2, hw.2.1⟩
  | either xs =>
    obtain ⟨a, v2, rfl, hs, h3⟩ := dt2 hd
    exact .inl ⟨_, _, _, xs, rfl, .inr ⟨rfl, rfl⟩, hs, h3, hw.2.2, hw.2.1⟩
  | after k s =>
    obtain ⟨a, v2, rfl, hs, h3⟩ := dt3 hd
    exact .inr (.inr ⟨_, _, [_], _, s, rfl, .inl ⟨rfl, k, rfl⟩, hs, h3, hw.2⟩)
  | some s =>
    obtain ⟨a, v2, rfl, hs, h3⟩ := dt2 hd
    exact .inr (.inr ⟨_, _, [], _, s, rfl, .inr (.inl ⟨rfl, rfl⟩), hs, h3, hw⟩)
  | many s =>
    obtain ⟨a, v2, rfl, hs, h3⟩ := dt2 hd
    exact .inr (.inr ⟨_, _, [], _, s, rfl, .inr (.inr (.inl ⟨rfl, rfl⟩)), hs, h3, hw⟩)
  | chance s =>
    obtain ⟨a, v2, rfl, hs, h3⟩ := dt2 hd
    exact .inr (.inr ⟨_, _, [], _, s, rfl, .inr (.inr (.inr ⟨rfl, rfl⟩)), hs, h3, hw⟩)
theorem last_at (x : V) (ys : List V) (y : V) : atI (x :: ys ++ [y]) ((((x :: ys ++ [y]).length : Nat) : Int) - 1) = some y := by
  have elen : (((x :: ys ++ [y]).length : Nat) : Int) - 1 = ((ys.length + 1 : Nat) : Int) := by
    rw [List.length_append, List.length_cons, List.length_singleton]
    omega
  rw [elen]
  exact atI_nat (by simp)
theorem hasBs_any : ∀ xs : List Sh, hasBs xs = (xs.map hasB).any id
  | [] => rfl
  | x :: xs => by rw [hasBs, hasBs_any xs]; rfl
theorem smallSs_all (k : Nat) : ∀ xs : List Sh, smallSs k xs = (xs.map (smallS k)).all id
  | [] => rfl
  | x :: xs => by rw [smallSs, smallSs_all k xs]; rfl
theorem dpBs {K : PySem.W.Frag} {H : Hp} : ∀ bs : List Bool, DpAll K H (bs.map V.bl) (bs.map PyData.bool)
  | [] => .nil
  | b :: bs => .cons (.bl b) (dpBs bs)
theorem shBs (bs : List Bool) : SeqAt.shaped (.list (bs.map PyData.bool)) = true := by
  have h : ∀ bs : List Bool, PyData.depthAll (bs.map PyData.bool) = 0 ∧ PyData.canLayAll0 (bs.map PyData.bool) = true := by
    intro bs
    induction bs with
    | nil => exact ⟨rfl, rfl⟩
    | cons c cs ih =>
      rw [List.map_cons]
      simp only [PyData.depthAll, PyData.canLayAll0, PyData.depth, PyData.canLay0, ih.1, ih.2]
      exact ⟨rfl, rfl⟩
  show ((PyData.list (bs.map PyData.bool)).canLay0 && decide ((PyData.list (bs.map PyData.bool)).depth ≤ 64)) = true
  simp only [PyData.canLay0, PyData.depth, (h bs).1, (h bs).2]
  decide
theorem any_tr (bs : List Bool) : ((bs.map PyData.bool).any fun z => PyData.eqv z (.bool true)) = bs.any id := by
  induction bs with
  | nil => rfl
  | cons b bs ih =>
    rw [List.map_cons, List.any_cons, List.any_cons, ih]
    cases b <;> rfl
theorem any_fa (bs : List Bool) : (!(bs.map PyData.bool).any fun z => PyData.eqv z (.bool false)) = bs.all id := by
  induction bs with
  | nil => rfl
  | cons b bs ih =>
    rw [List.map_cons, List.any_cons, List.all_cons, ← ih]
    cases b
    · rfl
    · show (!(false || _)) = (true && _)
      rw [Bool.false_or, Bool.true_and]
section
variable {P : Program} {w : World} {K : PySem.W.Frag} {mg : Str → Option Value} {base : Heap} {f fC : Addr} {fd dC : FuncData}
def spHas (K : PySem.W.Frag) (n : Nat) : Sp := fun vs H Q _ => ∃ (v : V) (s : Sh), vs = [v] ∧ Dt K H v (Sh.data s) ∧ Sh.wf n s ∧ n ≤ 10 ∧ ∀ H', Gr H H' → Q (.bl (hasB s)) H'
abbrev kHas : List Str := ["shape", "inner"]
theorem sc_law_has_bags : FnScope kHas ["shape"] (defScope s_law_has_bags) := ⟨rfl, rfl, rfl, by decide +kernel, rfl, by decide +kernel, by decide +kernel⟩
theorem ok_law_has_bags {n : Nat} (B : Blt mg) (F : Fun K "_law_has_bags" "_law_has_bags" s_law_has_bags f fd) (gS : mg "_law_has_bags" = some (.ref f)) (bS : Binds K fd ["shape"] []) (GS : FnOk P w K mg base CX0 n f fd ["shape"] (spHas K n)) :
    FnOk P w K mg base CX0 (n + 1) f fd ["shape"] (spHas K (n + 1)) := by
  refine F.ok sc_law_has_bags (fun vs H Q E h => ?_) (fun cdv A outer s0 H vs Q E hr h => ?_)
  · obtain ⟨v, s, rfl, _⟩ := h
    rfl
  obtain ⟨v, s, rfl, hd, hw, hn, q⟩ := h
  have nd := sc_law_has_bags.nd
  refine ⟨_, pss_cons (ps_if (pt_cmpR (op_inT (M4.Room.u65 hr)) (pe_ix ix_tup (pv 0) pe_int (fun _ _ => rfl)) (pe_tup (pa_cons pe_str (pa_cons pe_str pa_nil))) (by rfl))
      (pss_one (ps_ret (pe_cmpR (op_inD (M4.Room.u65 hr)) pe_bl
        (pe_lc (own := [("inner", 1)]) (g := gName 1) (tt := tYes) rfl nd (pi_tup (pe_ix ix_tup (pv 0) pe_int (fun _ _ => rfl))) (blkOk_by (own := [("inner", 1)]) (N := kHas) (sc := defScope s_law_has_bags) (by decide +kernel))
          (fun _ _ _ _ _ => pg_name (i := 1) nd rfl (Or.inl rfl)) (fun _ _ _ _ _ => pts_nil)
          (fun _ _ _ _ _ => pe_call GS hr rfl gS F.kp bS .nil pass0 (pa_cons (pv 1) pa_nil))) (by rfl)))) pss_nil)
    (pss_cons (ps_if (pt_cmpR (op_inT (M4.Room.u65 hr)) (pe_ix ix_tup (pv 0) pe_int (fun _ _ => rfl)) (pe_tup (pa_cons pe_str (pa_cons pe_str pa_nil))) (by rfl))
      (pss_one (ps_ret pe_bl)) pss_nil)
    (pss_one (ps_ret (pe_or (pe_cmpR op_eq (pe_ix ix_tup (pv 0) pe_int (fun _ _ => rfl)) pe_str (nomark _)) (pe_one (pe_call GS hr rfl gS F.kp bS .nil pass0 (pa_cons (pe_ix ix_tup (pv 0) (pe_op op_sub (pe_callB call_len_seq (by rfl) B.len PySem.boot_len (pa_cons (pv 0) pa_nil)) pe_int) (fun _ _ => rfl)) pa_nil))))))), ?_⟩
  have sz2 : 2 ≤ sizeLine := by rw [sizeLine_eq]; decide
  rcases told5 hd hw with ⟨x, a, v2, xs, rfl, hx, hs, h2, hwx, hl4⟩ | ⟨x, a, ys, rfl, hx, hs⟩ | ⟨x, a, ys, v2, s2, rfl, hx, hs, h2, hw2⟩
  · have c1 : ([kS "both", kS "either"].any fun z => PyData.eqv z (kS x)) = true ∧ SeqAt.shaped (kS x) = true ∧ hasB s = hasBs xs := by
      rcases hx with ⟨rfl, rfl⟩ | ⟨rfl, rfl⟩ <;> exact ⟨by decide +kernel, by decide +kernel, rfl⟩
    refine ⟨_, rfl, a, _, _, _, rfl, rfl, hs, atI_nat (j := 0) rfl, sz2, fun p1 hp1 => ⟨kS x, [kS "both", kS "either"], .str _, two_in hp1, c1.2.1, by decide +kernel, _, rfl, ifT c1.1 ?_⟩⟩
    cases h2 with
    | @tup a2 ys ds hs2 ha2 =>
      have g1 : Gr H (upd H p1 (.tup [.str "both", .str "either"])) := Gx.new hp1
      have hly : ys.length = xs.length := by rw [ha2.length, Sh.datas_map, List.length_map]
      refine ⟨_, rfl, a, _, _, _, rfl, rfl, SqT.gx NoT.none g1 hs, atI_nat (j := 1) rfl, a2, rfl, ⟨_, SqT.gx NoT.none g1 hs2⟩, fun D hD => ?_⟩
      refine lc_tup (xs := ys) (fun i H' => H' D = some (.lst (((xs.take i).map hasB).map V.bl)) ∧ Gr (upd H p1 (.tup [.str "both", .str "either"])) H') ⟨upd_same, Gx.new hD⟩
        (fun i H' _ p => SqT.gx NoT.none (g1.trans p.2) hs2) (fun i y H' hy p => ?_) fun H' p => ?_
      · obtain ⟨dx, hdx, hdt⟩ := ha2.of_get hy
        rw [Sh.datas_map, List.getElem?_map] at hdx
        obtain ⟨sx, hsx, rfl⟩ := Option.map_eq_some_iff.mp hdx
        have hi : i < xs.length := (List.getElem?_eq_some_iff.mp hsx).1
        refine ⟨rfl, y, rfl, y, sx, rfl, hdt.gr (g1.trans p.2), hwx sx (List.mem_of_getElem? hsx), by omega, fun H4 g4 => ?_⟩
        have e4 := g4.keep _ _ p.1 (fun z => z) fun ps z => by cases z
        refine ⟨_, e4, ?_, ?_, (p.2.trans g4).late hD e4⟩
        · rw [List.length_map, List.length_map, List.length_take, sizeLine_eq]
          omega
        · rw [upd_same, List.take_succ, hsx]
          simp
      · obtain ⟨e, g⟩ := p
        rw [List.take_of_length_le (by omega)] at e
        have q1 := q H' (g1.trans g)
        rw [c1.2.2, hasBs_any, ← any_tr] at q1
        exact ⟨.bool true, (xs.map hasB).map PyData.bool, .bl true, .lst (SqL.of e) (dpBs _), by decide +kernel, shBs _, q1⟩
  · have c1 : ([kS "both", kS "either"].any fun z => PyData.eqv z (kS x)) = false ∧ ([kS "letters", kS "self"].any fun z => PyData.eqv z (kS x)) = true ∧ SeqAt.shaped (kS x) = true ∧ hasB s = false := by
      rcases hx with ⟨rfl, j, rfl⟩ | ⟨rfl, rfl⟩ <;> exact ⟨by decide +kernel, by decide +kernel, by decide +kernel, rfl⟩
    refine ⟨_, rfl, a, _, _, _, rfl, rfl, hs, atI_nat (j := 0) rfl, sz2, fun p1 hp1 => ⟨kS x, [kS "both", kS "either"], .str _, two_in hp1, c1.2.2.1, by decide +kernel, _, rfl, ifF c1.1 ?_⟩⟩
    refine ⟨_, rfl, a, _, _, _, rfl, rfl, SqT.gx NoT.none (Gx.new hp1) hs, atI_nat (j := 0) rfl, sz2, fun p2 hp2 => ⟨kS x, [kS "letters", kS "self"], .str _, two_in hp2, c1.2.2.1, by decide +kernel, _, rfl, ifT c1.2.1 ?_⟩⟩
    have e := q _ (((Gx.new (o := .tup [.str "both", .str "either"]) hp1 : Gr H _)).then (o := .tup [.str "letters", .str "self"]) hp2)
    rw [c1.2.2.2] at e
    exact e
  · have c1 : ([kS "both", kS "either"].any fun z => PyData.eqv z (kS x)) = false ∧ ([kS "letters", kS "self"].any fun z => PyData.eqv z (kS x)) = false ∧ SeqAt.shaped (kS x) = true ∧ hasB s = (decide (V.str x = V.str "many") || hasB s2) := by
      rcases hx with ⟨rfl, j, rfl⟩ | ⟨rfl, rfl⟩ | ⟨rfl, rfl⟩ | ⟨rfl, rfl⟩ <;> refine ⟨by decide +kernel, by decide +kernel, by decide +kernel, ?_⟩
      · rw [show decide (V.str "after" = V.str "many") = false from by decide +kernel]; rfl
      · rw [show decide (V.str "some" = V.str "many") = false from by decide +kernel]; rfl
      · rw [show decide (V.str "many" = V.str "many") = true from by decide +kernel]; rfl
      · rw [show decide (V.str "chance" = V.str "many") = false from by decide +kernel]; rfl
    refine ⟨_, rfl, a, _, _, _, rfl, rfl, hs, atI_nat (j := 0) rfl, sz2, fun p1 hp1 => ⟨kS x, [kS "both", kS "either"], .str _, two_in hp1, c1.2.2.1, by decide +kernel, _, rfl, ifF c1.1 ?_⟩⟩
    refine ⟨_, rfl, a, _, _, _, rfl, rfl, SqT.gx NoT.none (Gx.new hp1) hs, atI_nat (j := 0) rfl, sz2, fun p2 hp2 => ⟨kS x, [kS "letters", kS "self"], .str _, two_in hp2, c1.2.2.1, by decide +kernel, _, rfl, ifF c1.2.1 ?_⟩⟩
    have g2 := (Gx.new (o := .tup [.str "both", .str "either"]) hp1 : Gr H _).then (o := .tup [.str "letters", .str "self"]) hp2
    have hs2 := SqT.gx NoT.none g2 hs
    refine ⟨_, rfl, a, _, _, _, rfl, rfl, hs2, atI_nat (j := 0) rfl, rfl, _, rfl, ?_⟩
    have e4 := c1.2.2.2
    by_cases c : decide (V.str x = V.str "many") = true
    · rw [c, Bool.true_or] at e4
      have q1 := q _ g2
      rw [e4] at q1
      exact ifT c q1
    · have c := Bool.eq_false_iff.mpr c
      rw [c, Bool.false_or] at e4
      refine ifF c ⟨_, rfl, _, rfl, a, _, rfl, .inr hs2, _, _, rfl, rfl, a, _, _, _, rfl, rfl, hs2, last_at _ _ _, v2, s2, rfl, h2.gr g2, hw2, by omega, fun H' g => ?_⟩
      have q1 := q H' (g2.trans g)
      rw [e4] at q1
      exact q1
theorem all_has (B : Blt mg) (F : Fun K "_law_has_bags" "_law_has_bags" s_law_has_bags f fd) (gS : mg "_law_has_bags" = some (.ref f)) (bS : Binds K fd ["shape"] []) : ∀ n : Nat, FnOk P w K mg base CX0 n f fd ["shape"] (spHas K n)
  | 0 => by
    have no : ∀ vs H Q E, ¬ spHas K 0 vs H Q E := fun vs H Q E h => by
      obtain ⟨_, _, _, _, h, _⟩ := h
      exact h
    exact ⟨fun vs H Q E h => absurd h (no vs H Q E), fun A outer s H args us vs Q E _ _ _ _ h => absurd h (no vs H Q E)⟩
  | n + 1 => ok_law_has_bags B F gS bS (all_has B F gS bS n)
end
end M4
end
section
set_option Elab.async false
set_option linter.all false
set_option maxRecDepth 100000
set_option maxHeartbeats 4000000
namespace M4
open PySem PySem.Spec PyProof.Rows L2 GE MS
section
variable {P : Program} {w : World} {K : PySem.W.Frag} {mg : Str → Option Value} {base : Heap} {f fC : Addr} {fd dC : FuncData}
def spSmall (K : PySem.W.Frag) (n : Nat) : Sp := fun vs H Q _ => ∃ (v : V) (k : Nat) (s : Sh), vs = [v, .int k] ∧ k ≤ 1000000000 ∧ Dt K H v (Sh.data s) ∧ Sh.wf n s ∧ n ≤ 10 ∧ ∀ H', Gr H H' → Q (.bl (smallS k s)) H'
abbrev kSmall : List Str := ["shape", "states", "many", "inner"]
theorem sc_law_is_small : FnScope kSmall ["shape", "states"] (defScope s_law_is_small) := ⟨rfl, rfl, rfl, by decide +kernel, rfl, by decide +kernel, by decide +kernel⟩
theorem ok_law_is_small {n : Nat} (B : Blt mg) (OC : FnOk P w K mg base CX0 (n + 3) fC dC ["shape", "states"] (spCnt K (n + 1))) (gC : mg "_law_count" = some (.ref fC)) (kC : PySem.W.keepIn K (.ref fC) = true) (bC : Binds K dC ["shape", "states"] [])
    (F : Fun K "_law_is_small" "_law_is_small" s_law_is_small f fd) (gS : mg "_law_is_small" = some (.ref f)) (bS : Binds K fd ["shape", "states"] []) (GS : FnOk P w K mg base CX0 (n + 3) f fd ["shape", "states"] (spSmall K n)) :
    FnOk P w K mg base CX0 (n + 4) f fd ["shape", "states"] (spSmall K (n + 1)) := by
  refine F.ok sc_law_is_small (fun vs H Q E h => ?_) (fun cdv A outer s0 H vs Q E hr h => ?_)
  · obtain ⟨v, k, s, rfl, _⟩ := h
    rfl
  obtain ⟨v, k, s, rfl, hk, hd, hw, hn, q⟩ := h
  have nd := sc_law_is_small.nd
  refine ⟨_, pss_cons (ps_set (i := 2) nd rfl (.inl rfl) (pe_call OC hr rfl gC kC bC .nil pass0 (pa_cons (pv 0) (pa_cons (pv 1) pa_nil))))
    (pss_cons (ps_if (PW.pt (pw_or (pt_cmpR op_isN (pv 2) pe_non (nomark _)) (pw_or1 (pt_cmpR op_gt (pv 2) pe_int (nomark _))))) (pss_one (ps_ret pe_bl)) pss_nil)
    (pss_cons (ps_if (pt_cmpR (op_inT (M4.Room.u65 hr)) (pe_ix ix_tup (pv 0) pe_int (fun _ _ => rfl)) (pe_tup (pa_cons pe_str (pa_cons pe_str pa_nil))) (by rfl))
      (pss_one (ps_ret (pe_cmpR (op_notInD (M4.Room.u65 hr)) pe_bl
        (pe_lc (own := [("inner", 3)]) (g := gName 3) (tt := tYes) rfl nd (pi_tup (pe_ix ix_tup (pv 0) pe_int (fun _ _ => rfl))) (blkOk_by (own := [("inner", 3)]) (N := kSmall) (sc := defScope s_law_is_small) (by decide +kernel))
          (fun _ _ _ _ _ => pg_name (i := 3) nd rfl (Or.inl rfl)) (fun _ _ _ _ _ => pts_nil)
          (fun _ _ _ _ _ => pe_call GS hr rfl gS F.kp bS .nil pass0 (pa_cons (pv 3) (pa_cons (pv 1) pa_nil)))) (by rfl)))) pss_nil)
    (pss_one (ps_ret (pe_or (pe_cmpR (op_inT (M4.Room.u65 hr)) (pe_ix ix_tup (pv 0) pe_int (fun _ _ => rfl)) (pe_tup (pa_cons pe_str (pa_cons pe_str pa_nil))) (by rfl))
      (pe_one (pe_call GS hr rfl gS F.kp bS .nil pass0 (pa_cons (pe_ix ix_tup (pv 0) (pe_op op_sub (pe_callB call_len_seq (by rfl) B.len PySem.boot_len (pa_cons (pv 0) pa_nil)) pe_int) (fun _ _ => rfl)) (pa_cons (pv 1) pa_nil))))))))), ?_⟩
  have sz2 : 2 ≤ sizeLine := by rw [sizeLine_eq]; decide
  refine ⟨v, rfl, _, rfl, v, k, s, rfl, hk, hd, hw, hn, fun H1 g1 => ?_⟩
  have hd1 := hd.gr g1
  -- the count
  have few : ∀ (D : Ends) (rest : TS), (fewN (cnt k s) = true → rest D [some v, some (.int (k : Int)), some (oV (cnt k s)), none] H1) → (fewN (cnt k s) = false → D.rt (.bl false) H1) →
      tSeq (tIfS (tOr (tTest (tOp (fun x y H Q => y = .non ∧ Q (.bl (decide (x = .non))) H) (tVar 2) (tC .non))) (tTest (tOp (rI0 fun i j => .bl (decide (j < i))) (tVar 2) (tC (.int 70))))) (tRet (tC (.bl false))) tNext) rest D [some v, some (.int (k : Int)), some (oV (cnt k s)), none] H1 := by
    intro D rest h1 h2
    generalize cnt k s = c at h1 h2
    cases c with
    | none => exact ⟨_, rfl, rfl, _, rfl, ifT rfl (h2 rfl)⟩
    | some m =>
      refine ⟨_, rfl, rfl, _, rfl, ifF (decide_eq_false fun z : V.int (m : Int) = V.non => by cases z) ⟨_, rfl, _, _, rfl, rfl, _, rfl, ite2 (fun c => ?_) (fun c => ?_)⟩⟩
      · have c : (70 : Int) < (m : Int) := of_decide_eq_true c
        exact h2 (decide_eq_false (by omega))
      · have c : ¬ (70 : Int) < (m : Int) := of_decide_eq_false (Bool.eq_false_iff.mpr c)
        exact h1 (decide_eq_true (by omega))
  have no : fewN (cnt k s) = false → Q (.bl false) H1 := fun fw => by
    have e : smallS k s = false := by cases s <;> simp [smallS, fw]
    have q1 := q H1 g1
    rw [e] at q1
    exact q1
  refine few _ _ (fun fw => ?_) no
  rcases told5 hd1 hw with ⟨x, a, v2, xs, rfl, hx, hs, h2, hwx, hl4⟩ | ⟨x, a, ys, rfl, hx, hs⟩ | ⟨x, a, ys, v2, s2, rfl, hx, hs, h2, hw2⟩
  · have c1 : ([kS "both", kS "either"].any fun z => PyData.eqv z (kS x)) = true ∧ SeqAt.shaped (kS x) = true ∧ smallS k s = smallSs k xs := by
      rcases hx with ⟨rfl, rfl⟩ | ⟨rfl, rfl⟩ <;> exact ⟨by decide +kernel, by decide +kernel, by simp only [smallS, fw, Bool.true_and]⟩
    refine ⟨_, rfl, a, _, _, _, rfl, rfl, hs, atI_nat (j := 0) rfl, sz2, fun p1 hp1 => ⟨kS x, [kS "both", kS "either"], .str _, two_in hp1, c1.2.1, by decide +kernel, _, rfl, ifT c1.1 ?_⟩⟩
    cases h2 with
    | @tup a2 ys ds hs2 ha2 =>
      have g2 : Gr H1 (upd H1 p1 (.tup [.str "both", .str "either"])) := Gx.new hp1
      have hly : ys.length = xs.length := by rw [ha2.length, Sh.datas_map, List.length_map]
      refine ⟨_, rfl, a, _, _, _, rfl, rfl, SqT.gx NoT.none g2 hs, atI_nat (j := 1) rfl, a2, rfl, ⟨_, SqT.gx NoT.none g2 hs2⟩, fun D hD => ?_⟩
      refine lc_tup (xs := ys) (fun i H' => H' D = some (.lst (((xs.take i).map (smallS k)).map V.bl)) ∧ Gr (upd H1 p1 (.tup [.str "both", .str "either"])) H') ⟨upd_same, Gx.new hD⟩
        (fun i H' _ p => SqT.gx NoT.none (g2.trans p.2) hs2) (fun i y H' hy p => ?_) fun H' p => ?_
      · obtain ⟨dx, hdx, hdt⟩ := ha2.of_get hy
        rw [Sh.datas_map, List.getElem?_map] at hdx
        obtain ⟨sx, hsx, rfl⟩ := Option.map_eq_some_iff.mp hdx
        have hi : i < xs.length := (List.getElem?_eq_some_iff.mp hsx).1
        refine ⟨rfl, y, rfl, _, rfl, y, k, sx, rfl, hk, hdt.gr (g2.trans p.2), hwx sx (List.mem_of_getElem? hsx), by omega, fun H4 g4 => ?_⟩
        have e4 := g4.keep _ _ p.1 (fun z => z) fun ps z => by cases z
        refine ⟨_, e4, ?_, ?_, (p.2.trans g4).late hD e4⟩
        · rw [List.length_map, List.length_map, List.length_take, sizeLine_eq]
          omega
        · rw [upd_same, List.take_succ, hsx]
          simp
      · obtain ⟨e, g⟩ := p
        rw [List.take_of_length_le (by omega)] at e
        have q1 := q H' ((g1.trans g2).trans g)
        rw [c1.2.2, smallSs_all, ← any_fa] at q1
        exact ⟨.bool false, (xs.map (smallS k)).map PyData.bool, .bl false, .lst (SqL.of e) (dpBs _), by decide +kernel, shBs _, q1⟩
  · have c1 : ([kS "both", kS "either"].any fun z => PyData.eqv z (kS x)) = false ∧ ([kS "letters", kS "self"].any fun z => PyData.eqv z (kS x)) = true ∧ SeqAt.shaped (kS x) = true ∧ smallS k s = true := by
      rcases hx with ⟨rfl, j, rfl⟩ | ⟨rfl, rfl⟩ <;> exact ⟨by decide +kernel, by decide +kernel, by decide +kernel, by simp only [smallS, fw]⟩
    refine ⟨_, rfl, a, _, _, _, rfl, rfl, hs, atI_nat (j := 0) rfl, sz2, fun p1 hp1 => ⟨kS x, [kS "both", kS "either"], .str _, two_in hp1, c1.2.2.1, by decide +kernel, _, rfl, ifF c1.1 ?_⟩⟩
    refine ⟨_, rfl, a, _, _, _, rfl, rfl, SqT.gx NoT.none (Gx.new hp1) hs, atI_nat (j := 0) rfl, sz2, fun p2 hp2 => ⟨kS x, [kS "letters", kS "self"], .str _, two_in hp2, c1.2.2.1, by decide +kernel, _, rfl, ifT c1.2.1 ?_⟩⟩
    have e := q _ (g1.trans (((Gx.new (o := .tup [.str "both", .str "either"]) hp1 : Gr H1 _)).then (o := .tup [.str "letters", .str "self"]) hp2))
    rw [c1.2.2.2] at e
    exact e
  · have c1 : ([kS "both", kS "either"].any fun z => PyData.eqv z (kS x)) = false ∧ ([kS "letters", kS "self"].any fun z => PyData.eqv z (kS x)) = false ∧ SeqAt.shaped (kS x) = true ∧ smallS k s = smallS k s2 := by
      rcases hx with ⟨rfl, j, rfl⟩ | ⟨rfl, rfl⟩ | ⟨rfl, rfl⟩ | ⟨rfl, rfl⟩ <;> exact ⟨by decide +kernel, by decide +kernel, by decide +kernel, by simp only [smallS, fw, Bool.true_and]⟩
    refine ⟨_, rfl, a, _, _, _, rfl, rfl, hs, atI_nat (j := 0) rfl, sz2, fun p1 hp1 => ⟨kS x, [kS "both", kS "either"], .str _, two_in hp1, c1.2.2.1, by decide +kernel, _, rfl, ifF c1.1 ?_⟩⟩
    refine ⟨_, rfl, a, _, _, _, rfl, rfl, SqT.gx NoT.none (Gx.new hp1) hs, atI_nat (j := 0) rfl, sz2, fun p2 hp2 => ⟨kS x, [kS "letters", kS "self"], .str _, two_in hp2, c1.2.2.1, by decide +kernel, _, rfl, ifF c1.2.1 ?_⟩⟩
    have g2 := (Gx.new (o := .tup [.str "both", .str "either"]) hp1 : Gr H1 _).then (o := .tup [.str "letters", .str "self"]) hp2
    have hs2 := SqT.gx NoT.none g2 hs
    refine ⟨_, rfl, _, rfl, a, _, rfl, .inr hs2, _, _, rfl, rfl, a, _, _, _, rfl, rfl, hs2, last_at _ _ _, _, rfl, v2, k, s2, rfl, hk, h2.gr g2, hw2, by omega, fun H' g => ?_⟩
    have q1 := q H' ((g1.trans g2).trans g)
    rw [c1.2.2.2] at q1
    exact q1
theorem all_small (B : Blt mg) (OC : ∀ n : Nat, FnOk P w K mg base CX0 (n + 2) fC dC ["shape", "states"] (spCnt K n)) (gC : mg "_law_count" = some (.ref fC)) (kC : PySem.W.keepIn K (.ref fC) = true) (bC : Binds K dC ["shape", "states"] [])
    (F : Fun K "_law_is_small" "_law_is_small" s_law_is_small f fd) (gS : mg "_law_is_small" = some (.ref f)) (bS : Binds K fd ["shape", "states"] []) : ∀ n : Nat, FnOk P w K mg base CX0 (n + 3) f fd ["shape", "states"] (spSmall K n)
  | 0 => by
    have no : ∀ vs H Q E, ¬ spSmall K 0 vs H Q E := fun vs H Q E h => by
      obtain ⟨_, _, _, _, _, _, h, _⟩ := h
      exact h
    exact ⟨fun vs H Q E h => absurd h (no vs H Q E), fun A outer s H args us vs Q E _ _ _ _ h => absurd h (no vs H Q E)⟩
  | n + 1 => ok_law_is_small B (OC (n + 1)) gC kC bC F gS bS (all_small B OC gC kC bC F gS bS n)
end
end M4
end
section
set_option Elab.async false
set_option linter.all false
set_option maxRecDepth 100000
set_option maxHeartbeats 4000000
/-! t < u of tuples of anything: what is asked is asked up to the first pair that differs. -/
namespace MS
section
open PySem PySem.SeqAt
open PySem.AutoSeq1 (wpAny_loadPart')
open PySem.MeetsSeq PySem.MeetsSeq2 PySem.MeetsSeq3
inductive LtL (A : Around) (s : Shared) : List Value → List Value → Bool → Prop
  | done : LtL A s [] [] false
  | short (y : Value) (ys : List Value) : LtL A s [] (y :: ys) true
  | long (x : Value) (xs : List Value) : LtL A s (x :: xs) [] false
  | same {x y : Value} {xs ys : List Value} {b : Bool} (e : EqAt A.in1 s x y true) (r : LtL A s xs ys b) : LtL A s (x :: xs) (y :: ys) b
  | diff {x y : Value} {b : Bool} (xs ys : List Value) (e : EqAt A.in1 s x y false) (r : Ob.RcOp .Lt A.in1 s x y b) : LtL A s (x :: xs) (y :: ys) b
theorem LtL.fin {A : Around} {s : Shared} {xs ys : List Value} {b : Bool} (h : LtL A s xs ys b) (hz : xs.zip ys = []) : b = decide (xs.length < ys.length) := by
  cases h with
  | done => rfl
  | short y ys => exact (decide_eq_true (Nat.zero_lt_succ _)).symm
  | long x xs => exact (decide_eq_false (Nat.not_lt_zero _)).symm
  | same e r => cases hz
  | diff xs ys e r => cases hz
theorem tuple_ltL (l b : Addr) (us vs : Array Value) (n n2 : Nat) (dd dd2 : Option Addr) (sl sl2 : Array (Option Value)) (k : Bool) :
    Meets (Builtin.«tuple.__lt__» ⟨[.ref l, .ref b], []⟩)
      (fun A R s => s.heap.get? l = some { cls := .type "tuple", dict := dd, data := .seq us n, slots := sl } ∧ s.heap.get? b = some { cls := .type "tuple", dict := dd2, data := .seq vs n2, slots := sl2 } ∧
        LtL A s us.toList vs.toList k ∧ R (.ok (.ret (.bool k))) s) :=
  .of_wp fun prog w A R s h => by
    obtain ⟨hp, gg, dr, tk, os⟩ := s
    obtain ⟨hl, hb, hL, hR⟩ := h
    have f2 := AutoSeq1.sub_tuple_tuple
    wp_walk using wpAny_loadPart' hl, wpAny_loadPart' hb, wpAny_forIn_list _ (fun rest c s' => c.1 = none ∧ s' = ⟨hp, gg, dr, tk, os⟩ ∧ ∃ xs ys : List Value, rest = xs.zip ys ∧ LtL A ⟨hp, gg, dr, tk, os⟩ xs ys k ∧ xs.length + vs.size = ys.length + us.size) _
    case turn =>
      rintro ⟨x, y⟩ rest c s' ⟨hc, rfl, xs, ys, hz, hI, hlen⟩
      cases hI with
      | done => cases hz
      | short y ys => cases hz
      | long x xs => cases hz
      | same e r =>
        rw [List.zip_cons_cons] at hz
        injection hz with h1 h2
        injection h1 with h3 h4
        subst h3 h4
        simp only [List.length_cons] at hlen
        refine wpAny_bind (e prog w _ _ ?_)
        wp_walk
        exact ⟨rfl, rfl, _, _, h2, r, by omega⟩
      | diff xs ys e r =>
        rw [List.zip_cons_cons] at hz
        injection hz with h1 h2
        injection h1 with h3 h4
        subst h3 h4
        refine wpAny_bind (e prog w _ _ ?_)
        have hri := r prog w
        wp_walk using hri
        exact ⟨_, rfl, by simpa using hR⟩
    case fin =>
      rintro ⟨c1, c2⟩ s' ⟨hc, rfl, xs, ys, hz, hI, hlen⟩
      simp only at hc
      subst hc
      have hk := hI.fin hz.symm
      have hk2 : k = decide (us.size < vs.size) := by
        rw [hk]
        by_cases q : xs.length < ys.length
        · rw [decide_eq_true q, decide_eq_true (by omega)]
        · rw [decide_eq_false q, decide_eq_false (by omega)]
      rw [hk2] at hR
      wp_walk
      exact ⟨_, rfl, by simpa [Builtin.Tuple.tupleCompareSizes] using hR⟩
    case h =>
      exact ⟨rfl, rfl, us.toList, vs.toList, rfl, hL, by simp [Nat.add_comm]⟩
theorem RcL.tuples {A : Around} {s : Shared} {l b : Addr} {us vs : Array Value} {k : Bool} (hl : s.heap.IsTuple l us) (hb : s.heap.IsTuple b vs) (hu : A.units < cLine) (h : LtL A s us.toList vs.toList k) : Ob.RcOp .Lt A s (.ref l) (.ref b) k := fun prog w E Q q => by
  obtain ⟨⟨c1, d1, t1, s1⟩, o1, e1, n1, f1⟩ := id hl
  obtain ⟨⟨c2, d2, t2, s2⟩, o2, e2, n2, f2⟩ := id hb
  simp only at e1 f1 e2 f2
  subst e1 f1 e2 f2
  exact richCompare_meets_room (op := .Lt) ⟨_, o1, rfl⟩ ⟨_, o2, rfl⟩ F.slot_tuple_lt F.entry_tuple_lt (F.args_tuple_lt_2 _ _) (tuple_ltL l b us vs n1 n2 d1 d2 s1 s2 k) ⟨o1, o2, h, ⟨(fun x => nomatch x), q⟩⟩ hu
end
end MS
end
section
set_option Elab.async false
set_option linter.all false
set_option maxRecDepth 100000
set_option maxHeartbeats 4000000
/-! less-than of nested data, and the order that it is -/
namespace MS
open PySem
mutual
/-- d < e, where both are whole numbers or tuples as far as is looked -/
def ltD : PyData → PyData → Option Bool
  | .int i, .int j => some (decide (i < j))
  | .tuple xs, .tuple ys => ltDs xs ys
  | _, _ => none
def ltDs : List PyData → List PyData → Option Bool
  | [], [] => some false
  | [], _ :: _ => some true
  | _ :: _, [] => some false
  | x :: xs, y :: ys => if PyData.eqv x y = true then ltDs xs ys else ltD x y
end
mutual
/-- whole numbers and tuples of such -/
def plain : PyData → Prop
  | .int _ => True
  | .tuple xs => plains xs
  | _ => False
def plains : List PyData → Prop
  | [] => True
  | x :: xs => plain x ∧ plains xs
end
theorem plains_iff : ∀ {xs : List PyData}, plains xs ↔ ∀ x ∈ xs, plain x
  | [] => ⟨fun _ x hx => absurd hx (by simp), fun _ => trivial⟩
  | x :: xs => by
    have ih := plains_iff (xs := xs)
    constructor
    · intro h y hy
      rcases List.mem_cons.mp hy with e | e
      · rw [e]; exact h.1
      · exact ih.mp h.2 y e
    · intro h
      exact ⟨h x List.mem_cons_self, ih.mpr fun y hy => h y (List.mem_cons_of_mem _ hy)⟩
mutual
theorem eqv_plain : ∀ (a b : PyData), plain a → plain b → PyData.eqv a b = true → a = b
  | .int i, .int j, _, _, h => by
    have : i = j := by simpa [PyData.eqv] using h
    rw [this]
  | .tuple xs, .tuple ys, ha, hb, h => by
    rw [eqv_plains xs ys ha hb (by simpa [PyData.eqv] using h)]
  | .int _, .tuple _, _, _, h => by simp [PyData.eqv] at h
  | .tuple _, .int _, _, _, h => by simp [PyData.eqv] at h
  | .none, _, h, _, _ => h.elim
  | .bool _, _, h, _, _ => h.elim
  | .str _, _, h, _, _ => h.elim
  | .list _, _, h, _, _ => h.elim
  | .dict _, _, h, _, _ => h.elim
  | .int _, .none, _, h, _ => h.elim
  | .int _, .bool _, _, h, _ => h.elim
  | .int _, .str _, _, h, _ => h.elim
  | .int _, .list _, _, h, _ => h.elim
  | .int _, .dict _, _, h, _ => h.elim
  | .tuple _, .none, _, h, _ => h.elim
  | .tuple _, .bool _, _, h, _ => h.elim
  | .tuple _, .str _, _, h, _ => h.elim
  | .tuple _, .list _, _, h, _ => h.elim
  | .tuple _, .dict _, _, h, _ => h.elim
theorem eqv_plains : ∀ (xs ys : List PyData), plains xs → plains ys → PyData.eqvAll xs ys = true → xs = ys
  | [], [], _, _, _ => rfl
  | [], _ :: _, _, _, h => by simp [PyData.eqvAll] at h
  | _ :: _, [], _, _, h => by simp [PyData.eqvAll] at h
  | x :: xs, y :: ys, ha, hb, h => by
    have h2 : PyData.eqv x y = true ∧ PyData.eqvAll xs ys = true := by simpa [PyData.eqvAll] using h
    rw [eqv_plain x y ha.1 hb.1 h2.1, eqv_plains xs ys ha.2 hb.2 h2.2]
end
mutual
theorem eqv_self : ∀ (a : PyData), plain a → PyData.eqv a a = true
  | .int i, _ => by simp [PyData.eqv]
  | .tuple xs, h => by
    have := eqvs_self xs h
    simpa [PyData.eqv] using this
  | .none, h => h.elim
  | .bool _, h => h.elim
  | .str _, h => h.elim
  | .list _, h => h.elim
  | .dict _, h => h.elim
theorem eqvs_self : ∀ (xs : List PyData), plains xs → PyData.eqvAll xs xs = true
  | [], _ => rfl
  | x :: xs, h => by
    have h1 := eqv_self x h.1
    have h2 := eqvs_self xs h.2
    simp [PyData.eqvAll, h1, h2]
end
theorem eqv_iff {a b : PyData} (ha : plain a) (hb : plain b) : PyData.eqv a b = true ↔ a = b :=
  ⟨eqv_plain a b ha hb, fun e => by rw [← e]; exact eqv_self a ha⟩
theorem eqv_false {a b : PyData} (ha : plain a) (hb : plain b) (h : a ≠ b) : PyData.eqv a b = false :=
  Bool.eq_false_iff.mpr fun e => h (eqv_plain a b ha hb e)
/-! ### the order, by a row of numbers for each of the data -/
def lexL : List Int → List Int → Bool
  | [], [] => false
  | [], _ :: _ => true
  | _ :: _, [] => false
  | i :: u, j :: v => if i < j then true else if j < i then false else lexL u v
theorem lexL_same : ∀ (p u v : List Int), lexL (p ++ u) (p ++ v) = lexL u v
  | [], _, _ => rfl
  | i :: p, u, v => by
    show (if i < i then true else if i < i then false else lexL (p ++ u) (p ++ v)) = _
    rw [if_neg (Int.lt_irrefl i), if_neg (Int.lt_irrefl i)]
    exact lexL_same p u v
theorem lexL_asym : ∀ (u v : List Int), lexL u v = true → lexL v u = false
  | [], [], h => by cases h
  | [], _ :: _, _ => rfl
  | _ :: _, [], h => by cases h
  | i :: u, j :: v, h => by
    have h : (if i < j then true else if j < i then false else lexL u v) = true := h
    show (if j < i then true else if i < j then false else lexL v u) = false
    by_cases c : i < j
    · rw [if_neg (by omega), if_pos c]
    · rw [if_neg c] at h
      by_cases c2 : j < i
      · rw [if_pos c2] at h; cases h
      · rw [if_neg c2] at h
        rw [if_neg c2, if_neg c]
        exact lexL_asym u v h
theorem lexL_trans : ∀ (u v w : List Int), lexL v u = false → lexL w v = false → lexL w u = false
  | u, [], [], h1, _ => h1
  | u, [], k :: w, h1, h2 => by
    cases u with
    | nil => rfl
    | cons i u => cases h1
  | u, j :: v, [], h1, h2 => by cases h2
  | [], j :: v, k :: w, _, _ => rfl
  | i :: u, j :: v, k :: w, h1, h2 => by
    have h1 : (if j < i then true else if i < j then false else lexL v u) = false := h1
    have h2 : (if k < j then true else if j < k then false else lexL w v) = false := h2
    show (if k < i then true else if i < k then false else lexL w u) = false
    by_cases c1 : j < i
    · rw [if_pos c1] at h1; cases h1
    · rw [if_neg c1] at h1
      by_cases c2 : k < j
      · rw [if_pos c2] at h2; cases h2
      · rw [if_neg c2] at h2
        rw [if_neg (by omega)]
        by_cases c3 : i < k
        · rw [if_pos c3]
        · rw [if_neg c3]
          rw [if_neg (by omega)] at h1 h2
          exact lexL_trans u v w h1 h2
theorem lexL_eq : ∀ (u v : List Int), lexL u v = false → lexL v u = false → u = v
  | [], [], _, _ => rfl
  | [], _ :: _, h, _ => by cases h
  | _ :: _, [], _, h => by cases h
  | i :: u, j :: v, h1, h2 => by
    have h1 : (if i < j then true else if j < i then false else lexL u v) = false := h1
    have h2 : (if j < i then true else if i < j then false else lexL v u) = false := h2
    by_cases c : i < j
    · rw [if_pos c] at h1; cases h1
    · rw [if_neg c] at h1
      by_cases c2 : j < i
      · rw [if_pos c2] at h2; cases h2
      · rw [if_neg c2] at h1
        rw [if_neg c2, if_neg c] at h2
        rw [lexL_eq u v h1 h2, show i = j by omega]
mutual
def code : PyData → List Int
  | .int i => [i]
  | .tuple xs => codes xs
  | _ => []
def codes : List PyData → List Int
  | [] => [0]
  | x :: xs => 1 :: (code x ++ codes xs)
end
mutual
theorem code_lt : ∀ (a b : PyData) (c : Bool), plain a → plain b → ltD a b = some c → a ≠ b → ∀ u v, lexL (code a ++ u) (code b ++ v) = c
  | .int i, b, c, ha, hb, h, ne, u, v => by
    cases b with
    | int j =>
      have e : c = decide (i < j) := (Option.some.inj h).symm
      have ne2 : i ≠ j := fun z => ne (by rw [z])
      show (if i < j then true else if j < i then false else lexL u v) = c
      rw [e]
      by_cases q : i < j
      · rw [if_pos q, decide_eq_true q]
      · rw [if_neg q, if_pos (by omega), decide_eq_false q]
    | _ => cases h
  | .tuple xs, b, c, ha, hb, h, ne, u, v => by
    cases b with
    | tuple ys => exact codes_lt xs ys c ha hb h (fun z => ne (by rw [z])) u v
    | _ => cases h
  | .none, _, _, h, _, _, _, _, _ => h.elim
  | .bool _, _, _, h, _, _, _, _, _ => h.elim
  | .str _, _, _, h, _, _, _, _, _ => h.elim
  | .list _, _, _, h, _, _, _, _, _ => h.elim
  | .dict _, _, _, h, _, _, _, _, _ => h.elim
theorem codes_lt : ∀ (xs ys : List PyData) (c : Bool), plains xs → plains ys → ltDs xs ys = some c → xs ≠ ys → ∀ u v, lexL (codes xs ++ u) (codes ys ++ v) = c
  | [], [], _, _, _, _, ne, _, _ => absurd rfl ne
  | [], y :: ys, c, _, _, h, _, u, v => by
    have e : c = true := (Option.some.inj h).symm
    rw [e]; rfl
  | x :: xs, [], c, _, _, h, _, u, v => by
    have e : c = false := (Option.some.inj h).symm
    rw [e]; rfl
  | x :: xs, y :: ys, c, hx, hy, h, ne, u, v => by
    have h : (if PyData.eqv x y = true then ltDs xs ys else ltD x y) = some c := h
    show (if (1 : Int) < 1 then true else if (1 : Int) < 1 then false else lexL ((code x ++ codes xs) ++ u) ((code y ++ codes ys) ++ v)) = c
    rw [if_neg (by decide), if_neg (by decide), List.append_assoc, List.append_assoc]
    by_cases q : PyData.eqv x y = true
    · rw [if_pos q] at h
      have e := eqv_plain x y hx.1 hy.1 q
      rw [e, lexL_same]
      exact codes_lt xs ys c hx.2 hy.2 h (fun z => ne (by rw [e, z])) u v
    · rw [if_neg q] at h
      exact code_lt x y c hx.1 hy.1 h (fun z => q (by rw [z]; exact eqv_self y hy.1)) _ _
end
mutual
theorem ltD_self : ∀ (a : PyData), plain a → ltD a a = some false
  | .int i, _ => congrArg some (decide_eq_false (Int.lt_irrefl i))
  | .tuple xs, h => ltDs_self xs h
  | .none, h => h.elim
  | .bool _, h => h.elim
  | .str _, h => h.elim
  | .list _, h => h.elim
  | .dict _, h => h.elim
theorem ltDs_self : ∀ (xs : List PyData), plains xs → ltDs xs xs = some false
  | [], _ => rfl
  | x :: xs, h => by
    show (if PyData.eqv x x = true then ltDs xs xs else ltD x x) = some false
    rw [if_pos (eqv_self x h.1)]
    exact ltDs_self xs h.2
end
def dLt (a b : PyData) : Bool := lexL (code a) (code b)
theorem ltD_eq {a b : PyData} {c : Bool} (ha : plain a) (hb : plain b) (h : ltD a b = some c) : c = dLt a b := by
  by_cases e : a = b
  · rw [e, ltD_self b hb] at h
    rw [← Option.some.inj h, e]
    have := lexL_same (code b) [] []
    rw [List.append_nil] at this
    exact this.symm
  · have := code_lt a b c ha hb h e [] []
    rw [List.append_nil, List.append_nil] at this
    exact this.symm
theorem code_inj {a b : PyData} {c : Bool} (ha : plain a) (hb : plain b) (h : ltD a b = some c) (e : code a = code b) : a = b := by
  by_cases q : a = b
  · exact q
  · exfalso
    have h1 := code_lt a b c ha hb h q [0] [1]
    have h2 := code_lt a b c ha hb h q [1] [0]
    rw [e, lexL_same] at h1 h2
    have : lexL [0] [1] = lexL [1] [0] := h1.trans h2.symm
    exact absurd this (by decide)
/-- of two different ones one is less -/
theorem ltD_up {a b : PyData} {c : Bool} (ha : plain a) (hb : plain b) (h : ltD a b = some c) (ne : a ≠ b) (hs : dLt b a = false) : ltD a b = some true := by
  rw [h, ltD_eq ha hb h]
  rcases Bool.eq_false_or_eq_true (dLt a b) with e | e
  · rw [e]
  · exact absurd (code_inj ha hb h (lexL_eq _ _ e hs)) ne
end MS
end
section
set_option Elab.async false
set_option linter.all false
set_option maxRecDepth 100000
set_option maxHeartbeats 4000000
namespace MS
section
open PySem PySem.SeqAt PyProof.Rows
mutual
theorem lt_reads : ∀ (d e : PyData) (A : Around) (s : Shared) (u v : Value) (as bs : List Addr) (k : Bool), Reads s.heap u d as → Reads s.heap v e bs → d.canLay0 = true → e.canLay0 = true → A.units + d.depth < cLine → ltD d e = some k → Ob.RcOp .Lt A s u v k
  | .int i, e, A, s, u, v, as, bs, k, hu, hv, ld, le, hr, h => by
    cases e with
    | int j =>
      obtain ⟨t, rfl, _⟩ := reads_int_inv hu
      obtain ⟨t2, rfl, _⟩ := reads_int_inv hv
      have e : k = decide (i < j) := (Option.some.inj h).symm
      rw [e]
      exact Ob.RcOp.lt_int i j t t2
    | _ => cases h
  | .tuple xs, e, A, s, u, v, as, bs, k, hu, hv, ld, le, hr, h => by
    cases e with
    | tuple ys =>
      obtain ⟨a, o, us, n, rfl, e1, e2, e3, r1⟩ := reads_tuple_inv hu
      obtain ⟨b, o2, vs, n2, rfl, f1, f2, f3, r2⟩ := reads_tuple_inv hv
      have hr2 : A.units + (PyData.depthAll xs + 1) < cLine := by
        have z : (PyData.tuple xs).depth = PyData.depthAll xs + 1 := by simp only [PyData.depth]
        rw [z] at hr
        exact hr
      exact RcL.tuples ⟨o, e1, e2, n, e3⟩ ⟨o2, f1, f2, n2, f3⟩ (by omega) (lt_readsAll xs ys A s _ _ _ _ k r1 r2 (by simpa only [PyData.canLay0] using ld) (by simpa only [PyData.canLay0] using le) hr2 h)
    | _ => cases h
  | .none, _, _, _, _, _, _, _, _, _, _, _, _, _, h => by cases h
  | .bool _, _, _, _, _, _, _, _, _, _, _, _, _, _, h => by cases h
  | .str _, _, _, _, _, _, _, _, _, _, _, _, _, _, h => by cases h
  | .list _, _, _, _, _, _, _, _, _, _, _, _, _, _, h => by cases h
  | .dict _, _, _, _, _, _, _, _, _, _, _, _, _, _, h => by cases h
theorem lt_readsAll : ∀ (xs ys : List PyData) (A : Around) (s : Shared) (us vs : List Value) (as bs : List Addr) (k : Bool), ReadsAll s.heap us xs as → ReadsAll s.heap vs ys bs → PyData.canLayAll0 xs = true → PyData.canLayAll0 ys = true → A.units + (PyData.depthAll xs + 1) < cLine → ltDs xs ys = some k → LtL A s us vs k
  | [], ys, A, s, us, vs, as, bs, k, hu, hv, lx, ly, hr, h => by
    cases hu
    cases ys with
    | nil =>
      cases hv
      have e : k = false := (Option.some.inj h).symm
      rw [e]
      exact .done
    | cons y ys =>
      obtain ⟨v, vs', _, _, rfl, _, _, _⟩ := readsAll_cons_inv hv
      have e : k = true := (Option.some.inj h).symm
      rw [e]
      exact .short _ _
  | x :: xs, ys, A, s, us, vs, as, bs, k, hu, hv, lx, ly, hr, h => by
    obtain ⟨u, us', a1, a2, rfl, _, hu1, hu2⟩ := readsAll_cons_inv hu
    cases ys with
    | nil =>
      cases hv
      have e : k = false := (Option.some.inj h).symm
      rw [e]
      exact .long _ _
    | cons y ys =>
      obtain ⟨v, vs', b1, b2, rfl, _, hv1, hv2⟩ := readsAll_cons_inv hv
      simp only [PyData.canLayAll0, Bool.and_eq_true] at lx ly
      have dd : PyData.depthAll (x :: xs) = max x.depth (PyData.depthAll xs) := by simp only [PyData.depthAll]
      rw [dd] at hr
      have hin : A.in1.units = A.units + 1 := rfl
      have he := eqAt_reads x y A.in1 s u v a1 b1 hu1 hv1 lx.1 ly.1 (by rw [hin]; omega)
      have h' : (if PyData.eqv x y = true then ltDs xs ys else ltD x y) = some k := h
      by_cases q : PyData.eqv x y = true
      · rw [if_pos q] at h'
        rw [q] at he
        exact .same he (lt_readsAll xs ys A s us' vs' _ _ k hu2 hv2 lx.2 ly.2 (by omega) h')
      · rw [if_neg q] at h'
        have q2 := Bool.eq_false_iff.mpr q
        rw [q2] at he
        exact .diff _ _ he (lt_reads x y A.in1 s u v _ _ k hu1 hv1 lx.1 ly.1 (by rw [hin]; omega) h')
end
end
section
open PySem PySem.Spec PyProof.Rows L2
variable {X : Cx}
def rLtD (K : PySem.W.Frag) : R2 := fun x y H Q => ∃ (d e : PyData) (k : Bool), Dt K H x d ∧ Dt K H y e ∧ SeqAt.shaped d = true ∧ SeqAt.shaped e = true ∧ ltD d e = some k ∧ Q (.bl k) H
theorem op_ltD (hu : X.A.units + 64 < cLine) : OpR X (compareOp .Lt) (rLtD X.K) := by
  intro pins s σ H x y v u Q I rx ry h
  obtain ⟨d, e, k, hd, he, sd, se, hk, q⟩ := h
  obtain ⟨as, r1⟩ := Dp.reads I d x v (Dt.dp _ _ hd) rx
  obtain ⟨bs, r2⟩ := Dp.reads I e y u (Dt.dp _ _ he) ry
  have h1 := SeqAt.depth_of_shaped sd
  exact lt_reads d e X.A s v u as bs k r1 r2 (SeqAt.canLay_of_shaped sd) (SeqAt.canLay_of_shaped se) (by omega) hk X.prog X.w _ _ ⟨.bl k, H, I, rfl, q⟩
end
end MS
end
section
set_option Elab.async false
set_option linter.all false
set_option maxRecDepth 100000
set_option maxHeartbeats 4000000
/-! zip of two sequences, each a list (false) or a tuple (true). -/
namespace MS
open PySem PySem.Spec PyProof.Rows L2 RZ
def SqS (K : PySem.W.Frag) (H : Hp) (k : Bool) (a : Addr) (xs : List V) : Prop := if k = true then SqT K H a xs else SqL K H a xs
/-- an iterator over such a one, at place i -/
def ItS (h : Heap) (k : Bool) (it l : Addr) (i : Nat) : Prop := if k = true then h.IsTupleIter it l i else h.IsListIter it l i
def ObS (h : Heap) (k : Bool) (l : Addr) (xs : Array Value) : Prop := if k = true then h.IsTuple l xs else h.IsList l xs
section
variable {X : Cx} {pins : List (Addr × Obj)} {σ : L2.St} {H : Hp} {s : Shared} {a : Addr} {xs ys : List V}
theorem sqS_inv {k : Bool} (I : Inv X pins σ H s) (h : SqS X.K H k a xs) : ∃ its : List Value, Vals xs its ∧ ObS s.heap k a its.toArray ∧ a < s.heap.objs.size := by
  cases k with
  | true =>
    obtain ⟨its, r, p, _⟩ := I.tuple (show SqT X.K H a xs from h)
    obtain ⟨o, e, _⟩ := id p
    exact ⟨its, r, p, Heap.lt_size e⟩
  | false =>
    obtain ⟨its, r, p, _⟩ := I.list (show SqL X.K H a xs from h)
    exact ⟨its, r, p.isList, p.lt⟩
theorem sqS_inj {k : Bool} (I : Inv X pins σ H s) (h : SqS X.K H k a xs) (h' : SqS X.K H k a ys) : xs = ys := by
  cases k with
  | true => exact I.tuple_inj (show SqT X.K H a xs from h) h'
  | false => exact I.list_inj (show SqL X.K H a xs from h) h'
end
theorem itS_at {h h' : Heap} {k : Bool} {it l : Addr} {i : Nat} (x : ItS h k it l i) (e : ∀ o, h.get? it = some o → h'.get? it = some o) : ItS h' k it l i := by
  cases k with
  | true => exact Heap.IsTupleIter.at (show h.IsTupleIter it l i from x) e
  | false => exact Heap.IsListIter.at (show h.IsListIter it l i from x) e
theorem itS_obj {h : Heap} {k : Bool} {it l : Addr} {i : Nat} (x : ItS h k it l i) : ∃ o, h.get? it = some o ∧ ∀ v, o.data ≠ .cell v := by
  cases k with
  | true =>
    obtain ⟨o, e, _, d⟩ := (show h.IsTupleIter it l i from x)
    exact ⟨o, e, fun v q => by rw [d] at q; cases q⟩
  | false =>
    obtain ⟨o, e, _, d⟩ := (show h.IsListIter it l i from x)
    exact ⟨o, e, fun v q => by rw [d] at q; cases q⟩
theorem drawS {prog : Program} {w : World} {A : Around} (hh : A.handled = none) (k : Bool) (it l : Addr) (hne : l ≠ it) (items : Array Value) :
    Draws prog w A it [it, l] items.size (fun i v => items[i]? = some v) (fun i h => ItS h k it l i ∧ ObS h k l items) := by
  cases k with
  | true => exact Draws.tuple hh it l hne items
  | false => exact Draws.list hh it l hne items
def objS (k : Bool) (l : Addr) : Obj := if k = true then { cls := .type "tuple_iterator", data := .fields #[.ref l, .int 0 0] } else { cls := .type "list_iterator", data := .fields #[.ref l, .int 0 0] }
theorem beginS (k : Bool) (l : Addr) (items : Array Value) : Begins (.ref l) (objS k l) fun h => ObS h k l items := by
  cases k with
  | true => exact begins_tuple l items
  | false => exact begins_list l items
theorem objS_it {h : Heap} {k : Bool} {it l : Addr} (e : h.get? it = some (objS k l)) : ItS h k it l 0 := by
  cases k with
  | true => exact (show h.IsTupleIter it l 0 from ⟨_, e, rfl, rfl⟩)
  | false => exact (show h.IsListIter it l 0 from ⟨_, e, rfl, rfl⟩)
/-- the two as they stand at each turn, their items in new pairs -/
def ItzS (K : PySem.W.Frag) (ka kb : Bool) (a b : Addr) : It :=
  ⟨fun i H => ∃ (xs ys : List V) (x y : V), SqS K H ka a xs ∧ SqS K H kb b ys ∧ xs[i]? = some x ∧ ys[i]? = some y,
    fun i H v H' => ∃ T x y, v = .ref T ∧ H T = none ∧ H' = upd H T (.tup [x, y]) ∧ (∀ xs, SqS K H ka a xs → xs[i]? = some x) ∧ ∀ ys, SqS K H kb b ys → ys[i]? = some y,
    fun i H => ∃ xs ys : List V, SqS K H ka a xs ∧ SqS K H kb b ys ∧ xs.length = ys.length ∧ i = xs.length⟩
/-- the cells of a zip whose iterators were made just before it -/
theorem sepS {N a b : Nat} (ha : a < N) (hb : b < N) : ZipSep2 (N + 4) (N + 2) (N + 3) N (N + 1) [N, a] [N + 1, b] :=
  zip_sep2 (fun c hc => by rw [List.mem_singleton.mp hc]; exact ha) fun c hc => by rw [List.mem_singleton.mp hc]; exact hb
theorem turnS {P : Program} {w : World} {K : PySem.W.Frag} {elts : List Expr} {kk : Nat} {tpos : Pos} {ka kb : Bool} {a b z TI TO i1 i2 : Addr} (S : ZipSep2 z TI TO i1 i2 [i1, a] [i2, b]) :
    Turn P w K (.Tuple elts kk tpos) (ItzS K ka kb a b) [z, TI, TO, i1, i2] z (fun i h => IsZip h z TI TO .none ∧ IsTupOf2 h TI (.ref i1) (.ref i2) ∧ (∃ x y, IsTupOf2 h TO x y) ∧ ItS h ka i1 a i ∧ ItS h kb i2 b i) where
  mem := List.mem_cons_self
  obj := fun i h st c hc => by
    obtain ⟨q1, q2, ⟨x, y, q3⟩, q4, q5⟩ := st
    have hc' : c = z ∨ c = TI ∨ c = TO ∨ c = i1 ∨ c = i2 := by simpa using hc
    rcases hc' with e | e | e | e | e <;> rw [e]
    · exact ⟨_, q1, fun v q => nomatch q⟩
    · exact ⟨_, q2, fun v q => nomatch q⟩
    · exact ⟨_, q3, fun v q => nomatch q⟩
    · exact itS_obj q4
    · exact itS_obj q5
  keep := fun i h h' st kp => by
    obtain ⟨q1, q2, ⟨x, y, q3⟩, q4, q5⟩ := st
    exact ⟨kp z (by simp) _ q1, kp TI (by simp) _ q2, ⟨x, y, kp TO (by simp) _ q3⟩, itS_at q4 fun o q => kp i1 (by simp) o q, itS_at q5 fun o q => kp i2 (by simp) o q⟩
  item := by
    intro X hP hw hK hc i pins s σ H E I hf st hg
    subst hP hw hK
    obtain ⟨q1, q2, ⟨x0, y0, q3⟩, q4, q5⟩ := st
    obtain ⟨xs, ys, x, y, hqx, hqy, hx, hy⟩ := hg
    obtain ⟨its, rv, p, _⟩ := sqS_inv I hqx
    obtain ⟨its2, rv2, p2, _⟩ := sqS_inv I hqy
    obtain ⟨u, hu, ru⟩ := rv.get hx
    obtain ⟨u2, hu2, ru2⟩ := rv2.get hy
    have zlt : z < s.heap.objs.size := Heap.lt_size q1
    have hd : X.A.in1.handled = none := I.ok.hd hc
    have na : a ≠ i1 := fun e => by
      cases ka with
      | true =>
        obtain ⟨o, e1, c1, _⟩ := (show s.heap.IsTuple a its.toArray from p)
        obtain ⟨o2, e2, c2, _⟩ := (show s.heap.IsTupleIter i1 a i from q4)
        rw [e, e2] at e1
        cases e1
        rw [c1] at c2
        exact absurd (Value.type.inj c2) (by decide)
      | false =>
        obtain ⟨o, e1, c1, _⟩ := (show s.heap.IsList a its.toArray from p)
        obtain ⟨o2, e2, c2, _⟩ := (show s.heap.IsListIter i1 a i from q4)
        rw [e, e2] at e1
        cases e1
        rw [c1] at c2
        exact absurd (Value.type.inj c2) (by decide)
    have nb : b ≠ i2 := fun e => by
      cases kb with
      | true =>
        obtain ⟨o, e1, c1, _⟩ := (show s.heap.IsTuple b its2.toArray from p2)
        obtain ⟨o2, e2, c2, _⟩ := (show s.heap.IsTupleIter i2 b i from q5)
        rw [e, e2] at e1
        cases e1
        rw [c1] at c2
        exact absurd (Value.type.inj c2) (by decide)
      | false =>
        obtain ⟨o, e1, c1, _⟩ := (show s.heap.IsList b its2.toArray from p2)
        obtain ⟨o2, e2, c2, _⟩ := (show s.heap.IsListIter i2 b i from q5)
        rw [e, e2] at e1
        cases e1
        rw [c1] at c2
        exact absurd (Value.type.inj c2) (by decide)
    have lt1 : i < its.toArray.size := by
      have := (List.getElem?_eq_some_iff.mp hu).1
      simpa using this
    have lt2 : i < its2.toArray.size := by
      have := (List.getElem?_eq_some_iff.mp hu2).1
      simpa using this
    refine wpAny_pyNext_zipD2_item S (drawS hd ka i1 a na its.toArray) (drawS hd kb i2 b nb its2.toArray) q1 q2 q3 ⟨q4, p⟩ ⟨q5, p2⟩ lt1 lt2 fun v1 v2 h' tk y1 y2 z' TO' st1 st2 hT hsz hk => ?_
    have e1 : v1 = u := by
      have : its[i]? = some v1 := by simpa using y1
      rw [hu] at this
      exact (Option.some.inj this).symm
    have e2 : v2 = u2 := by
      have : its2[i]? = some v2 := by simpa using y2
      rw [hu2] at this
      exact (Option.some.inj this).symm
    subst e1 e2
    refine ⟨_, rfl, wpAny_letOwnedTupleGo_zip (s := { s with heap := h', toks := tk }) z' fun h'' z'' sb => ?_⟩
    have hT2 : h''.get? s.heap.objs.size = some { cls := .type "tuple", data := .seq #[v1, v2] } := (sb.2 _ (Nat.ne_of_gt zlt)).trans hT
    have new : ObjOk X.prog X.w (upd H s.heap.objs.size (.tup [x, y])) h'' s.heap.objs.size (.tup [x, y]) :=
      ⟨by show 2 ≤ sizeLine; decide, [v1, v2], .cons ru (.cons ru2 .nil), ⟨_, hT2, rfl, _, rfl⟩⟩
    have kp : ∀ c o, c ∉ [z, TI, TO, i1, i2] → s.heap.get? c = some o → h''.get? c = some o := fun c o hb q =>
      (sb.2 c fun e => hb (by simp [e])).trans (hk c o (fun e => hb (by simp [e])) (fun e => hb (by simp [e])) (fun e => hb (by simp [e])) (fun e => hb (by simp [e])) q)
    refine ⟨.ref s.heap.objs.size, _, I.turnedNew (t' := tk) (ch := [z, TI, TO, i1, i2]) kp hf (Nat.le_refl _) new, rfl, ⟨_, x, y, rfl, I.hok.fresh (Nat.le_refl _), rfl, fun l hl => ?_, fun l hl => ?_⟩, ⟨z'', ?_, ⟨v1, v2, ?_⟩, ?_, ?_⟩, fun c hcm => ?_⟩
    · rw [sqS_inj I hl hqx]; exact hx
    · rw [sqS_inj I hl hqy]; exact hy
    · exact (sb.2 _ S.TIz).trans (hk _ _ S.TIz S.TITO S.TIi1 S.TIi2 q2)
    · exact (sb.2 _ S.TOz).trans TO'
    · exact itS_at st1.1 fun o q => (sb.2 _ fun e => S.zi1 e.symm).trans q
    · exact itS_at st2.1 fun o q => (sb.2 _ fun e => S.zi2 e.symm).trans q
    · have lt : c < s.heap.objs.size := by
        have hc' : c = z ∨ c = TI ∨ c = TO ∨ c = i1 ∨ c = i2 := by simpa using hcm
        rcases hc' with e | e | e | e | e <;> rw [e]
        · exact zlt
        · exact Heap.lt_size q2
        · exact Heap.lt_size q3
        · obtain ⟨o, e1, _⟩ := itS_obj q4
          exact Heap.lt_size e1
        · obtain ⟨o, e1, _⟩ := itS_obj q5
          exact Heap.lt_size e1
      rw [upd_ne (Nat.ne_of_lt lt)]
      exact (hf c hcm).1
  done := by
    intro X hP hw hK hc i pins s σ H E I hf st hg
    subst hP hw hK
    obtain ⟨q1, q2, ⟨x0, y0, q3⟩, q4, q5⟩ := st
    obtain ⟨xs, ys, hqx, hqy, hlen, hi⟩ := hg
    obtain ⟨its, rv, p, _⟩ := sqS_inv I hqx
    obtain ⟨its2, rv2, p2, _⟩ := sqS_inv I hqy
    have hd : X.A.in1.handled = none := I.ok.hd hc
    have l1 : its.toArray.size = i := by rw [List.size_toArray, ← rv.length, hi]
    have l2 : its2.toArray.size = i := by rw [List.size_toArray, ← rv2.length, ← hlen, hi]
    have na : a ≠ i1 := fun e => by
      cases ka with
      | true =>
        obtain ⟨o, e1, c1, _⟩ := (show s.heap.IsTuple a its.toArray from p)
        obtain ⟨o2, e2, c2, _⟩ := (show s.heap.IsTupleIter i1 a i from q4)
        rw [e, e2] at e1
        cases e1
        rw [c1] at c2
        exact absurd (Value.type.inj c2) (by decide)
      | false =>
        obtain ⟨o, e1, c1, _⟩ := (show s.heap.IsList a its.toArray from p)
        obtain ⟨o2, e2, c2, _⟩ := (show s.heap.IsListIter i1 a i from q4)
        rw [e, e2] at e1
        cases e1
        rw [c1] at c2
        exact absurd (Value.type.inj c2) (by decide)
    have nb : b ≠ i2 := fun e => by
      cases kb with
      | true =>
        obtain ⟨o, e1, c1, _⟩ := (show s.heap.IsTuple b its2.toArray from p2)
        obtain ⟨o2, e2, c2, _⟩ := (show s.heap.IsTupleIter i2 b i from q5)
        rw [e, e2] at e1
        cases e1
        rw [c1] at c2
        exact absurd (Value.type.inj c2) (by decide)
      | false =>
        obtain ⟨o, e1, c1, _⟩ := (show s.heap.IsList b its2.toArray from p2)
        obtain ⟨o2, e2, c2, _⟩ := (show s.heap.IsListIter i2 b i from q5)
        rw [e, e2] at e1
        cases e1
        rw [c1] at c2
        exact absurd (Value.type.inj c2) (by decide)
    refine wpAny_pyNext_zipD2_end S (drawS hd ka i1 a na its.toArray) (drawS hd kb i2 b nb its2.toArray) q1 q2 q3 ⟨q4, p⟩ ⟨q5, p2⟩ (by omega) (by omega) (.inl l1.symm) fun h' tk hk => ?_
    exact ⟨rfl, I.turnedL (t' := tk) (ch := [z, TI, TO, i1, i2]) (fun c o hb q => hk c o (fun e => hb (by simp [e])) (fun e => hb (by simp [e])) (fun e => hb (by simp [e])) (fun e => hb (by simp [e])) q) hf⟩
  self := fun A i s Q E st h => wpAny_pyIter_zip st.1 h
def iZipS (K : PySem.W.Frag) (ta : TA) : TI := fun σ H R => ta σ H fun vs H1 => ∃ ka kb a b xs ys, vs = [.ref a, .ref b] ∧ SqS K H1 ka a xs ∧ SqS K H1 kb b ys ∧ R (ItzS K ka kb a b) H1
theorem pi_zipS {X : Cx} {e e2 : Expr} {ta : TA} {p pos tpos : Pos} {elts : List Expr} {kk : Nat} (hg : Gl X "zip") (hm : X.mg "zip" = none) (ha : PA X [e, e2] ta)
    (hs : starEach [e, e2] X.env = (false, eval e X.env) :: starEach [e2] X.env := by rfl) (hpl : (backTo pos (starEach [e2] X.env)).any (·.1) = false := by rfl) :
    PI X (.Tuple elts kk tpos) (.Call (.Name "zip" p) [e, e2] [] pos) (iZipS X.K ta) := by
  refine ⟨fun pins s σ H R I h => ?_⟩
  refine Call_ (ld_blt I hg hm PyProof.Rows.boot_zip (PyProof.Rows.callWith_type1 (thn (ha.run pos pins s σ H _ I h) fun us s1 ⟨vs, H1, I1, r1, q1⟩ => ?_) hs hpl))
  obtain ⟨ka, kb, a, b, xs, ys, ex, hqx, hqy, q⟩ := q1
  subst ex
  obtain _ | ⟨r, rr⟩ := r1
  obtain _ | ⟨r', rr⟩ := rr
  cases rr
  cases r
  cases r'
  obtain ⟨its, rv, p1, la⟩ := sqS_inv I1 hqx
  obtain ⟨its2, rv2, p2, lb⟩ := sqS_inv I1 hqy
  refine zip_begins2 (beginS ka a its.toArray) (beginS kb b its2.toArray) p1 p2 fun h' hz hTI hTO g1 g2 hsz hk => wpAny_pyIter_zip hz ?_
  refine ⟨s1.heap.objs.size + 4, [s1.heap.objs.size + 4, s1.heap.objs.size + 2, s1.heap.objs.size + 3, s1.heap.objs.size, s1.heap.objs.size + 1], _, _, H1, rfl, I1.kept (t' := s1.toks) hk, turnS (sepS la lb), ⟨hz, hTI, ⟨_, _, hTO⟩, objS_it g1, objS_it g2⟩, fun c hcm => ?_, q⟩
  have hle : s1.heap.objs.size ≤ c := by
    have e' : c = s1.heap.objs.size + 4 ∨ c = s1.heap.objs.size + 2 ∨ c = s1.heap.objs.size + 3 ∨ c = s1.heap.objs.size ∨ c = s1.heap.objs.size + 1 := by simpa using hcm
    rcases e' with z | z | z | z | z <;> rw [z]
    · exact Nat.le_add_right _ _
    · exact Nat.le_add_right _ _
    · exact Nat.le_add_right _ _
    · exact Nat.le_refl _
    · exact Nat.le_add_right _ _
  exact I1.fpOk hle (I1.hok.fresh hle)
/-- a loop over such a zip of one length -/
theorem for_zipS {K : PySem.W.Frag} {ka kb : Bool} {a b : Addr} {xs ys : List V} {g : TG} {tb : TS} {D : Ends} {σ : L2.St} {H : Hp} (hl : xs.length = ys.length) (Pv : Nat → L2.St → Hp → Prop) (h0 : Pv 0 σ H) (hq : ∀ i σ H, Pv i σ H → SqS K H ka a xs ∧ SqS K H kb b ys)
    (hs : ∀ (i : Nat) (x y : V) (T : Addr) (σ : L2.St) (H : Hp), xs[i]? = some x → ys[i]? = some y → Pv i σ H → H T = none → g (.ref T) σ (upd H T (.tup [x, y])) fun σ2 H2 => tb { D with nx := Pv (i + 1), ct := Pv (i + 1), bk := D.nx } σ2 H2) (hd : ∀ σ H, Pv xs.length σ H → D.nx σ H) :
    ∃ W : Nat → Nat → L2.St → Hp → Prop, (∃ m, W 0 m σ H) ∧ ∀ i m σ H, W i m σ H →
      ((ItzS K ka kb a b).stop i H ∧ D.nx σ H) ∨ ((ItzS K ka kb a b).go i H ∧ ∃ N : L2.St → Hp → Prop, (∀ σ' H', N σ' H' → ∃ m', m' < m ∧ W (i + 1) m' σ' H') ∧ ∀ v H', (ItzS K ka kb a b).yld i H v H' → g v σ H' fun σ2 H2 => tb { D with nx := N, ct := N, bk := D.nx } σ2 H2) := by
  refine ⟨fun i m σ H => m = xs.length - i ∧ i ≤ xs.length ∧ Pv i σ H, ⟨xs.length, rfl, Nat.zero_le _, h0⟩, ?_⟩
  rintro i m σ H ⟨rfl, hi, p⟩
  obtain ⟨qx, qy⟩ := hq i σ H p
  by_cases hlt : i < xs.length
  · have hlt2 : i < ys.length := by omega
    refine .inr ⟨⟨xs, ys, _, _, qx, qy, List.getElem?_eq_getElem hlt, List.getElem?_eq_getElem hlt2⟩, Pv (i + 1), fun σ' H' p' => ⟨xs.length - (i + 1), by omega, rfl, hlt, p'⟩, fun v H' y => ?_⟩
    obtain ⟨T, x', y', rfl, hT, rfl, f1, f2⟩ := y
    exact hs i x' y' T σ H (f1 xs qx) (f2 ys qy) p hT
  · have e : i = xs.length := by omega
    subst e
    exact .inl ⟨⟨xs, ys, qx, qy, hl, rfl⟩, hd σ H p⟩
end MS
end
section
set_option Elab.async false
set_option linter.all false
set_option maxRecDepth 100000
set_option maxHeartbeats 4000000
/-! Comprehensions over data. -/
namespace MS
open PySem PySem.Spec PyProof.Rows L2
variable {K : PySem.W.Frag}
theorem gxLate {B : Addr → Prop} {H0 H : Hp} {D : Addr} {xs : List V} {o : HO} (g : Gx B H0 H) (h0 : H0 D = none) (h : H D = some (.lst xs)) : Gx B H0 (upd H D o) :=
  ⟨fun a u e nb nt => (upd_ne (fun z => by rw [z, h0] at e; cases e)).trans (g.keep a u e nb nt), fun P t => by
    obtain ⟨ps, e, q⟩ := g.tab P t
    exact ⟨ps, (upd_ne fun z => by rw [z, h] at e; cases e).trans e, q⟩⟩
theorem gxAt {H : Hp} {D : Addr} {xs : List V} {o : HO} (h : H D = some (.lst xs)) : Gx (fun a => a = D) H (upd H D o) :=
  ⟨fun a u e nb _ => (upd_ne nb).trans e, fun P t => by
    obtain ⟨ps, e, q⟩ := t
    exact ⟨ps, (upd_ne fun z => by rw [z, h] at e; cases e).trans e, q⟩⟩
theorem notAt {H : Hp} {D : Addr} {xs : List V} (h : H D = some (.lst xs)) : NoT (fun a => a = D) H := fun a e => by rw [e]; exact ⟨_, h⟩
theorem grLst {H H' : Hp} {D : Addr} {xs : List V} (g : Gr H H') (h : H D = some (.lst xs)) : H' D = some (.lst xs) := g.keep _ _ h (fun z => z) fun ps z => by cases z
theorem SqL.ofGr {H H' : Hp} {a : Addr} {xs : List V} (x : Gr H H') (h : SqL K H a xs) : SqL K H' a xs := by
  rcases h with h | h
  · rcases h with h | ⟨o, h⟩
    · exact .inl (.inl (x.keep _ _ h (fun z => z) fun ps z => by cases z))
    · exact .inl (.inr ⟨o, x.keep _ _ h (fun z => z) fun ps z => by cases z⟩)
  · exact .inr h
theorem SqS.ofGr {H H' : Hp} {k : Bool} {a : Addr} {xs : List V} (x : Gr H H') (h : SqS K H k a xs) : SqS K H' k a xs := by
  cases k with
  | true => exact SqT.gx NoT.none x h
  | false => exact SqL.ofGr x h
/-- what a comprehension's list holds, so far -/
structure Acc (K : PySem.W.Frag) (H1 : Hp) (D : Addr) (es : List PyData) (i : Nat) (H : Hp) : Prop where
  ex : ∃ ys, H D = some (.lst ys) ∧ DtAll K H ys (es.take i) ∧ Gr H1 H
theorem Acc.start {H1 : Hp} {D : Addr} {es : List PyData} (hD : H1 D = none) : Acc K H1 D es 0 (upd H1 D (.lst [])) := ⟨[], upd_same, .nil, Gx.new hD⟩
theorem Acc.gr {H1 H : Hp} {D : Addr} {es : List PyData} {i : Nat} (p : Acc K H1 D es i H) : Gr H1 H := p.ex.choose_spec.2.2
theorem Acc.next {H1 H H4 : Hp} {D : Addr} {es : List PyData} {e : PyData} {i : Nat} {y : V} (hD : H1 D = none) (p : Acc K H1 D es i H) (he : es[i]? = some e) (hl : es.length ≤ sizeLine) (g : Gr H H4) (hy : Dt K H4 y e) :
    ∃ acc, H4 D = some (.lst acc) ∧ acc.length < sizeLine ∧ Acc K H1 D es (i + 1) (upd H4 D (.lst (acc ++ [y]))) := by
  obtain ⟨ys, e1, e2, g1⟩ := p.ex
  have e4 := grLst g e1
  have hi : i < es.length := (List.getElem?_eq_some_iff.mp he).1
  have hlen : ys.length = i := by
    rw [e2.length, List.length_take]; omega
  refine ⟨ys, e4, by omega, ys ++ [y], upd_same, ?_, gxLate (g1.trans g) hD e4⟩
  rw [List.take_succ, he]
  exact DtAll.append (DtAll.gx (notAt e4) (gxAt e4) (e2.gr g)) (.cons (Dt.gx (notAt e4) (gxAt e4) hy) .nil)
theorem Acc.done {H1 H : Hp} {D : Addr} {es : List PyData} {n : Nat} (p : Acc K H1 D es n H) (hn : es.length ≤ n) : ∃ ys, H D = some (.lst ys) ∧ DtAll K H ys es ∧ Gr H1 H := by
  obtain ⟨ys, e1, e2, g⟩ := p.ex
  rw [List.take_of_length_le hn] at e2
  exact ⟨ys, e1, e2, g⟩
/-- [E for x in t], t a tuple of data -/
theorem lcT_data {a : Addr} {us : List V} {ds : List PyData} {f : PyData → PyData} {te : TE} {vs : List Nat} {j : Nat} {σ : L2.St} {H1 : Hp} {D : Addr} {Qd : Hp → Prop} (hS : SqT K H1 a us) (hA : DtAll K H1 us ds) (hl : ds.length ≤ sizeLine) (hD : H1 D = none)
    (hw : ∀ u, wipe ((wipe σ vs).set j (some u)) vs = wipe σ vs)
    (hs : ∀ (i : Nat) u d H', us[i]? = some u → ds[i]? = some d → Gr H1 H' → Dt K H' u d → ∀ R : VK, (∀ y H4, Gr H' H4 → Dt K H4 y (f d) → R y H4) → te ((wipe σ vs).set j (some u)) H' R)
    (hd : ∀ H' ys, Gr H1 H' → H' D = some (.lst ys) → DtAll K H' ys (ds.map f) → Qd H') :
    ∃ W : Nat → Nat → Hp → Prop, (∃ m, W 0 m (upd H1 D (.lst []))) ∧ ∀ i m H, W i m H →
      ((Itt K a).stop i H ∧ Qd H) ∨ ((Itt K a).go i H ∧ ∃ Nx : Hp → Prop, (∀ H', Nx H' → ∃ m', m' < m ∧ W (i + 1) m' H') ∧ ∀ x H', (Itt K a).yld i H x H' → gName j x (wipe σ vs) H' fun σ2 H2 => wipe σ2 vs = wipe σ vs ∧ tYes σ2 H2 fun b H3 =>
        if b = true then te σ2 H3 fun y H4 => ∃ acc, H4 D = some (.lst acc) ∧ acc.length < sizeLine ∧ Nx (upd H4 D (.lst (acc ++ [y]))) else Nx H3) := by
  refine lc_tup (xs := us) (Acc K H1 D (ds.map f)) (Acc.start hD) (fun i H _ p => SqT.gx NoT.none p.gr hS) (fun i x H hx p => ?_) fun H p => ?_
  · obtain ⟨d, hdd, hxd⟩ := hA.of_get hx
    refine ⟨hw x, ?_⟩
    show te ((wipe σ vs).set j (some x)) H _
    exact hs i x d H hx hdd p.gr (hxd.gr p.gr) _ fun y H4 g hy => p.next hD (by rw [List.getElem?_map, hdd]; rfl) (by rw [List.length_map]; exact hl) g hy
  · obtain ⟨ys, e1, e2, g⟩ := p.done (by rw [List.length_map, hA.length]; exact Nat.le_refl _)
    exact hd H ys g e1 e2
/-- .. a list -/
theorem lcL_data {a : Addr} {us : List V} {ds : List PyData} {f : PyData → PyData} {te : TE} {vs : List Nat} {j : Nat} {σ : L2.St} {H1 : Hp} {D : Addr} {Qd : Hp → Prop} (hS : SqL K H1 a us) (hA : DtAll K H1 us ds) (hl : ds.length ≤ sizeLine) (hD : H1 D = none)
    (hw : ∀ u, wipe ((wipe σ vs).set j (some u)) vs = wipe σ vs)
    (hs : ∀ (i : Nat) u d H', us[i]? = some u → ds[i]? = some d → Gr H1 H' → Dt K H' u d → ∀ R : VK, (∀ y H4, Gr H' H4 → Dt K H4 y (f d) → R y H4) → te ((wipe σ vs).set j (some u)) H' R)
    (hd : ∀ H' ys, Gr H1 H' → H' D = some (.lst ys) → DtAll K H' ys (ds.map f) → Qd H') :
    ∃ W : Nat → Nat → Hp → Prop, (∃ m, W 0 m (upd H1 D (.lst []))) ∧ ∀ i m H, W i m H →
      ((Itl K a).stop i H ∧ Qd H) ∨ ((Itl K a).go i H ∧ ∃ Nx : Hp → Prop, (∀ H', Nx H' → ∃ m', m' < m ∧ W (i + 1) m' H') ∧ ∀ x H', (Itl K a).yld i H x H' → gName j x (wipe σ vs) H' fun σ2 H2 => wipe σ2 vs = wipe σ vs ∧ tYes σ2 H2 fun b H3 =>
        if b = true then te σ2 H3 fun y H4 => ∃ acc, H4 D = some (.lst acc) ∧ acc.length < sizeLine ∧ Nx (upd H4 D (.lst (acc ++ [y]))) else Nx H3) := by
  refine lc_list (xs := us) (Acc K H1 D (ds.map f)) (Acc.start hD) (fun i H _ p => SqL.ofGr p.gr hS) (fun i x H hx p => ?_) fun H p => ?_
  · obtain ⟨d, hdd, hxd⟩ := hA.of_get hx
    refine ⟨hw x, ?_⟩
    show te ((wipe σ vs).set j (some x)) H _
    exact hs i x d H hx hdd p.gr (hxd.gr p.gr) _ fun y H4 g hy => p.next hD (by rw [List.getElem?_map, hdd]; rfl) (by rw [List.length_map]; exact hl) g hy
  · obtain ⟨ys, e1, e2, g⟩ := p.done (by rw [List.length_map, hA.length]; exact Nat.le_refl _)
    exact hd H ys g e1 e2
/-- .. [E for x, y in l], l a list of pairs -/
theorem lcL_pair {a : Addr} {us : List V} {ps : List (PyData × PyData)} {f : PyData × PyData → PyData} {te : TE} {vs : List Nat} {j1 j2 : Nat} {σ : L2.St} {H1 : Hp} {D : Addr} {Qd : Hp → Prop} (hS : SqL K H1 a us) (hA : DtAll K H1 us (ps.map fun p => .tuple [p.1, p.2])) (hl : ps.length ≤ sizeLine) (hD : H1 D = none)
    (hw : ∀ u v, wipe (((wipe σ vs).set j1 (some u)).set j2 (some v)) vs = wipe σ vs)
    (hs : ∀ (i : Nat) u v p H', ps[i]? = some p → Gr H1 H' → Dt K H' u p.1 → Dt K H' v p.2 → ∀ R : VK, (∀ y H4, Gr H' H4 → Dt K H4 y (f p) → R y H4) → te (((wipe σ vs).set j1 (some u)).set j2 (some v)) H' R)
    (hd : ∀ H' ys, Gr H1 H' → H' D = some (.lst ys) → DtAll K H' ys (ps.map f) → Qd H') :
    ∃ W : Nat → Nat → Hp → Prop, (∃ m, W 0 m (upd H1 D (.lst []))) ∧ ∀ i m H, W i m H →
      ((Itl K a).stop i H ∧ Qd H) ∨ ((Itl K a).go i H ∧ ∃ Nx : Hp → Prop, (∀ H', Nx H' → ∃ m', m' < m ∧ W (i + 1) m' H') ∧ ∀ x H', (Itl K a).yld i H x H' → gTup K 2 (gCons (gName j1) (gCons (gName j2) gNil)) x (wipe σ vs) H' fun σ2 H2 => wipe σ2 vs = wipe σ vs ∧ tYes σ2 H2 fun b H3 =>
        if b = true then te σ2 H3 fun y H4 => ∃ acc, H4 D = some (.lst acc) ∧ acc.length < sizeLine ∧ Nx (upd H4 D (.lst (acc ++ [y]))) else Nx H3) := by
  refine lc_list (xs := us) (Acc K H1 D (ps.map f)) (Acc.start hD) (fun i H _ p => SqL.ofGr p.gr hS) (fun i x H hx p => ?_) fun H p => ?_
  · obtain ⟨d, hdd, hxd⟩ := hA.of_get hx
    rw [List.getElem?_map] at hdd
    obtain ⟨pr, hpr, rfl⟩ := Option.map_eq_some_iff.mp hdd
    have hxd := hxd.gr p.gr
    cases hxd with
    | @tup ad xs _ hsq hal =>
      obtain _ | ⟨h1, h2⟩ := hal
      obtain _ | ⟨h3, h4⟩ := h2
      cases h4
      refine ⟨ad, _, rfl, hsq, rfl, _, _, rfl, _, _, rfl, rfl, hw _ _, ?_⟩
      exact hs i _ _ pr H hpr p.gr h1 h3 _ fun y H4 g hy => p.next hD (by rw [List.getElem?_map, hpr]; rfl) (by rw [List.length_map]; exact hl) g hy
  · obtain ⟨ys, e1, e2, g⟩ := p.done (by rw [List.length_map, hA.length, List.length_map]; exact Nat.le_refl _)
    exact hd H ys g e1 e2
theorem dt_bools {H : Hp} : ∀ {ys : List V} {bs : List Bool}, DtAll K H ys (bs.map PyData.bool) → ys = bs.map V.bl
  | _, [], h => by cases h; rfl
  | _, b :: bs, h => by
    obtain _ | ⟨h1, h2⟩ := h
    cases h1
    rw [dt_bools h2]
    rfl
theorem dt_ints {H : Hp} : ∀ {ys : List V} {ns : List Int}, DtAll K H ys (ns.map PyData.int) → ys = ns.map V.int
  | _, [], h => by cases h; rfl
  | _, n :: ns, h => by
    obtain _ | ⟨h1, h2⟩ := h
    cases h1
    rw [dt_ints h2]
    rfl
/-! data whose tuples are not too long -/
mutual
def thin : PyData → Prop
  | .tuple xs => xs.length ≤ 100000 ∧ thins xs
  | _ => True
def thins : List PyData → Prop
  | [] => True
  | x :: xs => thin x ∧ thins xs
end
theorem thins_iff : ∀ {xs : List PyData}, thins xs ↔ ∀ x ∈ xs, thin x
  | [] => ⟨fun _ x hx => absurd hx (by simp), fun _ => trivial⟩
  | x :: xs => by
    have ih := thins_iff (xs := xs)
    constructor
    · intro h y hy
      rcases List.mem_cons.mp hy with e | e
      · rw [e]; exact h.1
      · exact ih.mp h.2 y e
    · intro h
      exact ⟨h x List.mem_cons_self, ih.mpr fun y hy => h y (List.mem_cons_of_mem _ hy)⟩
/-- data that can be read: not nested too deep, no tuple too long -/
structure Fine (d : PyData) : Prop where
  sh : SeqAt.shaped d = true
  th : thin d
theorem Fine.len {xs : List PyData} (h : Fine (.tuple xs)) : xs.length ≤ 100000 := h.th.1
theorem Fine.lenS {xs : List PyData} (h : Fine (.tuple xs)) : xs.length ≤ sizeLine := Nat.le_trans h.len (by decide)
end MS
end
section
set_option Elab.async false
set_option linter.all false
set_option maxRecDepth 100000
set_option maxHeartbeats 4000000
/-! What a value of a shape is: the mirror of the program's test, on any data. -/
namespace FI
open PySem MS
def isNum : PyData → Bool
  | .int _ => true
  | _ => false
def numBelow (d : PyData) (e : Int) : Bool := match d with
  | .int i => decide (0 ≤ i) && decide (i < e)
  | _ => false
def longB (n : Nat) : PyData → Bool
  | .tuple xs => decide (xs.length = n)
  | _ => false
def itemD (i : Nat) : PyData → PyData
  | .tuple xs => xs.getD i .none
  | _ => .none
def posNum : PyData → Bool
  | .int i => decide (1 ≤ i)
  | _ => false
def intOf : PyData → Int
  | .int i => i
  | _ => 0
def riseB (f : PyData → Bool) : Option PyData → List PyData → Bool
  | _, [] => true
  | none, d :: ds => f d && riseB f (some d) ds
  | some l, d :: ds => f d && (ltD l d == some true) && riseB f (some d) ds
abbrev lim30 : Int := 1000000000000000000000000000000
def bagB (f : PyData → Bool) (rows : List PyData) : Bool :=
  rows.all (longB 2) && (rows.map (itemD 1)).all posNum && decide ((rows.map fun r => intOf (itemD 1 r)).sum ≤ 1000) && riseB f none (rows.map (itemD 0))
def lowB (t l : PyData) : Bool := isNum t && isNum l && decide (1 ≤ intOf t) && decide (intOf t ≤ intOf l) && decide (intOf l < lim30) && decide (Nat.gcd (intOf t).natAbs (intOf l).natAbs = 1)
def addGo : Nat → List (PyData × PyData) → Option Nat
  | w, [] => some w
  | w, (t, l) :: r => if lowB t l = true then (if ((Nat.lcm w (intOf l).natAbs : Nat) : Int) < lim30 then addGo (Nat.lcm w (intOf l).natAbs) r else none) else none
def addUp (cs : List (PyData × PyData)) : Bool := match addGo 1 cs with
  | none => false
  | some w => decide ((cs.map fun c => intOf c.1 * ((w : Int) / intOf c.2)).sum = (w : Int))
def chanceB (f : PyData → Bool) (rows : List PyData) : Bool :=
  rows.all (longB 3) && addUp (rows.map fun r => (itemD 1 r, itemD 2 r)) && riseB f none (rows.map (itemD 0))
mutual
def fitsB (k : Nat) : Sh → PyData → Bool
  | .letters j, d => numBelow d j
  | .self, d => numBelow d k
  | .both xs, .tuple ds => allFitB k xs ds
  | .either xs, .tuple ds => decide (ds.length = 2) && numBelow (ds.getD 0 .none) xs.length && nthB k xs (intOf (ds.getD 0 .none)).toNat (ds.getD 1 .none)
  | .after n s, .tuple ds => decide (ds.length = n) && ds.all (fitsB k s)
  | .some s, .tuple ds => riseB (fitsB k s) none ds
  | .many s, .tuple ds => bagB (fitsB k s) ds
  | .chance s, .tuple ds => chanceB (fitsB k s) ds
  | _, _ => false
def allFitB (k : Nat) : List Sh → List PyData → Bool
  | [], [] => true
  | s :: ss, d :: ds => fitsB k s d && allFitB k ss ds
  | _, _ => false
def nthB (k : Nat) : List Sh → Nat → PyData → Bool
  | [], _, _ => false
  | s :: _, 0, d => fitsB k s d
  | _ :: ss, i + 1, d => nthB k ss i d
end
theorem nthB_eq {k : Nat} : ∀ {ss : List Sh} {i : Nat} {s : Sh} (d : PyData), ss[i]? = some s → nthB k ss i d = fitsB k s d
  | [], _, _, _, h => by simp at h
  | s :: ss, 0, _, d, h => by
    have : s = _ := Option.some.inj h
    rw [← this]
    simp only [nthB]
  | s :: ss, i + 1, _, d, h => by
    simp only [nthB]
    exact nthB_eq d (by simpa using h)
theorem all_replicate {k : Nat} {s : Sh} : ∀ (n : Nat) (ds : List PyData), allFitB k (List.replicate n s) ds = (decide (ds.length = n) && ds.all (fitsB k s))
  | 0, [] => by simp [allFitB]
  | 0, d :: ds => by simp [allFitB]
  | n + 1, [] => by simp [allFitB, List.replicate_succ]
  | n + 1, d :: ds => by
    rw [List.replicate_succ, allFitB, all_replicate n ds, List.all_cons, List.length_cons]
    have e : decide (ds.length + 1 = n + 1) = decide (ds.length = n) := by simp
    rw [e]
    cases fitsB k s d <;> cases decide (ds.length = n) <;> rfl
theorem allFit_len {k : Nat} : ∀ {ss : List Sh} {ds : List PyData}, ss.length ≠ ds.length → allFitB k ss ds = false
  | [], [], h => absurd rfl h
  | [], _ :: _, _ => by simp [allFitB]
  | _ :: _, [], _ => by simp [allFitB]
  | s :: ss, d :: ds, h => by
    rw [allFitB, allFit_len (ss := ss) (ds := ds) (fun z => h (by rw [List.length_cons, List.length_cons, z])), Bool.and_false]
/-- all fit, so far as the first i are looked at -/
theorem allFit_iff {k : Nat} : ∀ {ss : List Sh} {ds : List PyData}, ss.length = ds.length → (allFitB k ss ds = true ↔ ∀ (i : Nat) (s : Sh) (d : PyData), ss[i]? = some s → ds[i]? = some d → fitsB k s d = true)
  | [], [], _ => by
    constructor
    · intro _ i s d h; simp at h
    · intro _; simp [allFitB]
  | [], _ :: _, h => by simp at h
  | _ :: _, [], h => by simp at h
  | s :: ss, d :: ds, h => by
    have ih := allFit_iff (k := k) (ss := ss) (ds := ds) (by simpa using h)
    rw [allFitB, Bool.and_eq_true, ih]
    constructor
    · intro ⟨h1, h2⟩ i s' d' e1 e2
      cases i with
      | zero =>
        simp at e1 e2
        rw [← e1, ← e2]; exact h1
      | succ i => exact h2 i s' d' (by simpa using e1) (by simpa using e2)
    · intro H
      exact ⟨H 0 s d rfl rfl, fun i s' d' e1 e2 => H (i + 1) s' d' (by simpa using e1) (by simpa using e2)⟩
/-! ### what fits is plain, and can be compared -/
theorem plain_of_num {d : PyData} {e : Int} (h : numBelow d e = true) : ∃ i, d = .int i ∧ 0 ≤ i ∧ i < e := by
  cases d with
  | int i =>
    have h : (decide (0 ≤ i) && decide (i < e)) = true := h
    rw [Bool.and_eq_true, decide_eq_true_eq, decide_eq_true_eq] at h
    exact ⟨i, rfl, h⟩
  | _ => cases h
theorem rise_all {f : PyData → Bool} : ∀ {l : Option PyData} {ds : List PyData}, riseB f l ds = true → ∀ d ∈ ds, f d = true
  | _, [], _, d, hd => absurd hd (by simp)
  | none, x :: ds, h, d, hd => by
    have h : (f x && riseB f (some x) ds) = true := h
    rw [Bool.and_eq_true] at h
    rcases List.mem_cons.mp hd with e | e
    · rw [e]; exact h.1
    · exact rise_all h.2 d e
  | some l, x :: ds, h, d, hd => by
    have h : (f x && (ltD l x == some true) && riseB f (some x) ds) = true := h
    rw [Bool.and_eq_true, Bool.and_eq_true] at h
    rcases List.mem_cons.mp hd with e | e
    · rw [e]; exact h.1.1
    · exact rise_all h.2 d e
theorem longB_iff {n : Nat} {d : PyData} : longB n d = true ↔ ∃ xs, d = .tuple xs ∧ xs.length = n := by
  cases d with
  | tuple xs => exact ⟨fun h => ⟨xs, rfl, of_decide_eq_true h⟩, fun ⟨_, e, h⟩ => (by cases e; exact decide_eq_true h)⟩
  | _ => exact ⟨fun h => (by cases h), fun ⟨_, e, _⟩ => (by cases e)⟩
theorem posNum_iff {d : PyData} : posNum d = true ↔ ∃ i, d = .int i ∧ 1 ≤ i := by
  cases d with
  | int i => exact ⟨fun h => ⟨i, rfl, of_decide_eq_true h⟩, fun ⟨_, e, h⟩ => (by cases e; exact decide_eq_true h)⟩
  | _ => exact ⟨fun h => (by cases h), fun ⟨_, e, _⟩ => (by cases e)⟩
theorem lowB_iff {t l : PyData} : lowB t l = true ↔ ∃ i j, t = .int i ∧ l = .int j ∧ 1 ≤ i ∧ i ≤ j ∧ j < lim30 ∧ Nat.gcd i.natAbs j.natAbs = 1 := by
  unfold lowB
  constructor
  · intro h
    simp only [Bool.and_eq_true, decide_eq_true_eq] at h
    obtain ⟨⟨⟨⟨⟨h1, h2⟩, h3⟩, h4⟩, h5⟩, h6⟩ := h
    cases t <;> first | cases h1 | skip
    cases l <;> first | cases h2 | skip
    exact ⟨_, _, rfl, rfl, h3, h4, h5, h6⟩
  · rintro ⟨i, j, rfl, rfl, h3, h4, h5, h6⟩
    show (true && true && decide (1 ≤ i) && decide (i ≤ j) && decide (j < lim30) && decide (Nat.gcd i.natAbs j.natAbs = 1)) = true
    rw [decide_eq_true h3, decide_eq_true h4, decide_eq_true h5, decide_eq_true h6]
    rfl
theorem addGo_low : ∀ {cs : List (PyData × PyData)} {w v : Nat}, addGo w cs = some v → ∀ c ∈ cs, lowB c.1 c.2 = true
  | [], _, _, _, c, hc => absurd hc (by simp)
  | (t, l) :: r, w, v, h, c, hc => by
    rw [addGo] at h
    by_cases q : lowB t l = true
    · rw [if_pos q] at h
      by_cases q2 : ((Nat.lcm w (intOf l).natAbs : Nat) : Int) < lim30
      · rw [if_pos q2] at h
        rcases List.mem_cons.mp hc with e | e
        · rw [e]; exact q
        · exact addGo_low h c e
      · rw [if_neg q2] at h; cases h
    · rw [if_neg q] at h; cases h
theorem addUp_low {cs : List (PyData × PyData)} (h : addUp cs = true) : ∀ c ∈ cs, lowB c.1 c.2 = true := by
  unfold addUp at h
  split at h
  · cases h
  · rename_i w e
    exact addGo_low e
theorem two_of {xs : List PyData} (h : xs.length = 2) : ∃ a b, xs = [a, b] := by
  match xs, h with
  | [a, b], _ => exact ⟨a, b, rfl⟩
theorem three_of {xs : List PyData} (h : xs.length = 3) : ∃ a b c, xs = [a, b, c] := by
  match xs, h with
  | [a, b, c], _ => exact ⟨a, b, c, rfl⟩
theorem bag_rows {f : PyData → Bool} {rows : List PyData} (h : bagB f rows = true) : ∀ r ∈ rows, ∃ v i, r = .tuple [v, .int i] ∧ 1 ≤ i ∧ f v = true := by
  unfold bagB at h
  simp only [Bool.and_eq_true] at h
  obtain ⟨⟨⟨h1, h2⟩, h3⟩, h4⟩ := h
  intro r hr
  obtain ⟨xs, rfl, hl⟩ := longB_iff.mp (List.all_eq_true.mp h1 r hr)
  obtain ⟨v, c, rfl⟩ := two_of hl
  obtain ⟨i, e, hi⟩ := posNum_iff.mp (List.all_eq_true.mp h2 _ (List.mem_map.mpr ⟨_, hr, rfl⟩))
  have e2 : c = .int i := e
  subst e2
  exact ⟨v, i, rfl, hi, rise_all h4 v (List.mem_map.mpr ⟨_, hr, rfl⟩)⟩
theorem chance_rows {f : PyData → Bool} {rows : List PyData} (h : chanceB f rows = true) : ∀ r ∈ rows, ∃ v i j, r = .tuple [v, .int i, .int j] ∧ f v = true := by
  unfold chanceB at h
  simp only [Bool.and_eq_true] at h
  obtain ⟨⟨h1, h2⟩, h4⟩ := h
  intro r hr
  obtain ⟨xs, rfl, hl⟩ := longB_iff.mp (List.all_eq_true.mp h1 r hr)
  obtain ⟨v, t, l, rfl⟩ := three_of hl
  obtain ⟨i, j, e1, e2, _⟩ := lowB_iff.mp (addUp_low h2 (itemD 1 _, itemD 2 _) (List.mem_map.mpr ⟨_, hr, rfl⟩))
  have e1 : t = .int i := e1
  have e2 : l = .int j := e2
  subst e1 e2
  exact ⟨v, i, j, rfl, rise_all h4 v (List.mem_map.mpr ⟨_, hr, rfl⟩)⟩
theorem ltDs_some : ∀ {xs ys : List PyData}, (∀ (i : Nat) (x y : PyData), xs[i]? = some x → ys[i]? = some y → PyData.eqv x y = true ∨ ∃ c, ltD x y = some c) → (∀ (i : Nat) (x y : PyData), xs[i]? = some x → ys[i]? = some y → PyData.eqv x y = false → ∃ c, ltD x y = some c) → ∃ c, ltDs xs ys = some c
  | [], [], _, _ => ⟨false, rfl⟩
  | [], _ :: _, _, _ => ⟨true, rfl⟩
  | _ :: _, [], _, _ => ⟨false, rfl⟩
  | x :: xs, y :: ys, h, h2 => by
    show ∃ c, (if PyData.eqv x y = true then ltDs xs ys else ltD x y) = some c
    by_cases q : PyData.eqv x y = true
    · rw [if_pos q]
      exact ltDs_some (fun i a b e1 e2 => h (i + 1) a b (by simpa using e1) (by simpa using e2)) fun i a b e1 e2 => h2 (i + 1) a b (by simpa using e1) (by simpa using e2)
    · rw [if_neg q]
      exact h2 0 x y rfl rfl (Bool.eq_false_iff.mpr q)
theorem ltDs_some' {xs ys : List PyData} (h : ∀ (i : Nat) (x y : PyData), xs[i]? = some x → ys[i]? = some y → ∃ c, ltD x y = some c) : ∃ c, ltDs xs ys = some c :=
  ltDs_some (fun i x y e1 e2 => .inr (h i x y e1 e2)) fun i x y e1 e2 _ => h i x y e1 e2
/-- two pairs whose first ones can be compared, and, if these are the same, the second ones -/
theorem ltDs_pair {a b : PyData} {xs ys : List PyData} (h : ∃ c, ltD a b = some c) (h2 : ∃ c, ltDs xs ys = some c) : ∃ c, ltDs (a :: xs) (b :: ys) = some c := by
  show ∃ c, (if PyData.eqv a b = true then ltDs xs ys else ltD a b) = some c
  by_cases q : PyData.eqv a b = true
  · rw [if_pos q]; exact h2
  · rw [if_neg q]; exact h
theorem ltD_ints (i j : Int) : ∃ c, ltD (.int i) (.int j) = some c := ⟨_, rfl⟩
/-- a shape whose values are plain, and can be compared -/
def Good (k : Nat) (s : Sh) : Prop := (∀ d, fitsB k s d = true → plain d) ∧ ∀ d e, fitsB k s d = true → fitsB k s e = true → ∃ c, ltD d e = some c
theorem no_tup {k : Nat} {s : Sh} {d : PyData} (h : fitsB k s d = true) : (∃ i, d = .int i) ∨ ∃ ds, d = .tuple ds := by
  cases s with
  | letters j =>
    obtain ⟨i, e, _⟩ := plain_of_num (show numBelow d j = true by simpa [fitsB] using h)
    exact .inl ⟨i, e⟩
  | self =>
    obtain ⟨i, e, _⟩ := plain_of_num (show numBelow d k = true by simpa [fitsB] using h)
    exact .inl ⟨i, e⟩
  | _ => cases d <;> first | exact .inr ⟨_, rfl⟩ | (simp [fitsB] at h)
theorem good_of (k : Nat) : ∀ (n : Nat) (s : Sh), Sh.wf n s → Good k s
  | 0, _, h => h.elim
  | n + 1, s, hw => by
    have ih := good_of k n
    cases s with
    | letters j =>
      have f : ∀ d, fitsB k (.letters j) d = true → ∃ i, d = .int i := fun d h => by
        obtain ⟨i, e, _⟩ := plain_of_num (show numBelow d j = true by simpa [fitsB] using h)
        exact ⟨i, e⟩
      refine ⟨fun d h => ?_, fun d e h1 h2 => ?_⟩
      · obtain ⟨i, rfl⟩ := f d h; exact trivial
      · obtain ⟨i, rfl⟩ := f d h1
        obtain ⟨j, rfl⟩ := f e h2
        exact ltD_ints _ _
    | self =>
      have f : ∀ d, fitsB k .self d = true → ∃ i, d = .int i := fun d h => by
        obtain ⟨i, e, _⟩ := plain_of_num (show numBelow d k = true by simpa [fitsB] using h)
        exact ⟨i, e⟩
      refine ⟨fun d h => ?_, fun d e h1 h2 => ?_⟩
      · obtain ⟨i, rfl⟩ := f d h; exact trivial
      · obtain ⟨i, rfl⟩ := f d h1
        obtain ⟨j, rfl⟩ := f e h2
        exact ltD_ints _ _
    | both xs =>
      have f : ∀ d, fitsB k (.both xs) d = true → ∃ ds, d = .tuple ds ∧ xs.length = ds.length ∧ ∀ (i : Nat) (s : Sh) (d : PyData), xs[i]? = some s → ds[i]? = some d → fitsB k s d = true := fun d h => by
        rcases no_tup h with ⟨i, rfl⟩ | ⟨ds, rfl⟩
        · simp [fitsB] at h
        · have h : allFitB k xs ds = true := by simpa [fitsB] using h
          have hl : xs.length = ds.length := by
            by_cases q : xs.length = ds.length
            · exact q
            · rw [allFit_len q] at h; cases h
          exact ⟨ds, rfl, hl, (allFit_iff hl).mp h⟩
      refine ⟨fun d h => ?_, fun d e h1 h2 => ?_⟩
      · obtain ⟨ds, rfl, hl, ha⟩ := f d h
        refine (plains_iff (xs := ds)).mpr fun x hx => ?_
        obtain ⟨i, hi, ei⟩ := List.getElem_of_mem hx
        have hi2 : i < xs.length := by omega
        exact (ih xs[i] (hw.2.2 _ (List.getElem_mem hi2))).1 x (ha i xs[i] x (List.getElem?_eq_getElem hi2) (by rw [List.getElem?_eq_getElem hi, ei]))
      · obtain ⟨ds, rfl, hl, ha⟩ := f d h1
        obtain ⟨es, rfl, hl2, hb⟩ := f e h2
        refine ltDs_some' fun i x y e1 e2 => ?_
        have hi := (List.getElem?_eq_some_iff.mp e1).1
        have hi2 : i < xs.length := by omega
        exact (ih xs[i] (hw.2.2 _ (List.getElem_mem hi2))).2 x y (ha i _ x (List.getElem?_eq_getElem hi2) e1) (hb i _ y (List.getElem?_eq_getElem hi2) e2)
    | either xs =>
      have f : ∀ d, fitsB k (.either xs) d = true → ∃ (i : Nat) (s : Sh) (v : PyData), d = .tuple [.int i, v] ∧ xs[i]? = some s ∧ fitsB k s v = true := fun d h => by
        rcases no_tup h with ⟨i, rfl⟩ | ⟨ds, rfl⟩
        · simp [fitsB] at h
        · rw [fitsB, Bool.and_eq_true, Bool.and_eq_true] at h
          obtain ⟨⟨h1, h2⟩, h3⟩ := h
          obtain ⟨a, v, rfl⟩ := two_of (of_decide_eq_true h1)
          obtain ⟨i, e, g1, g2⟩ := plain_of_num (show numBelow a xs.length = true from h2)
          subst e
          have h3 : nthB k xs i.toNat v = true := h3
          have hi : i.toNat < xs.length := by omega
          rw [nthB_eq v (List.getElem?_eq_getElem hi)] at h3
          exact ⟨i.toNat, xs[i.toNat], v, by rw [Int.toNat_of_nonneg g1], List.getElem?_eq_getElem hi, h3⟩
      refine ⟨fun d h => ?_, fun d e h1 h2 => ?_⟩
      · obtain ⟨i, s, v, rfl, hs, hv⟩ := f d h
        exact ⟨trivial, (ih s (hw.2.2 s (List.mem_of_getElem? hs))).1 v hv, trivial⟩
      · obtain ⟨i, s, v, rfl, hs, hv⟩ := f d h1
        obtain ⟨j, t, u, rfl, ht, hu⟩ := f e h2
        show ∃ c, (if PyData.eqv (.int i) (.int j) = true then ltDs [v] [u] else ltD (.int i) (.int j)) = some c
        by_cases q : PyData.eqv (.int (i : Int)) (.int (j : Int)) = true
        · rw [if_pos q]
          have e : i = j := by
            have : (i : Int) = j := by simpa [PyData.eqv] using q
            omega
          subst e
          rw [hs] at ht
          cases ht
          exact ltDs_pair ((ih s (hw.2.2 s (List.mem_of_getElem? hs))).2 v u hv hu) ⟨false, rfl⟩
        · rw [if_neg q]; exact ltD_ints _ _
    | after j s =>
      have f : ∀ d, fitsB k (.after j s) d = true → ∃ ds, d = .tuple ds ∧ ∀ x ∈ ds, fitsB k s x = true := fun d h => by
        rcases no_tup h with ⟨i, rfl⟩ | ⟨ds, rfl⟩
        · simp [fitsB] at h
        · rw [fitsB, Bool.and_eq_true] at h
          exact ⟨ds, rfl, List.all_eq_true.mp h.2⟩
      refine ⟨fun d h => ?_, fun d e h1 h2 => ?_⟩
      · obtain ⟨ds, rfl, ha⟩ := f d h
        exact (plains_iff (xs := ds)).mpr fun x hx => (ih s hw.2).1 x (ha x hx)
      · obtain ⟨ds, rfl, ha⟩ := f d h1
        obtain ⟨es, rfl, hb⟩ := f e h2
        exact ltDs_some' fun i x y e1 e2 => (ih s hw.2).2 x y (ha x (List.mem_of_getElem? e1)) (hb y (List.mem_of_getElem? e2))
    | some s =>
      have f : ∀ d, fitsB k (.some s) d = true → ∃ ds, d = .tuple ds ∧ ∀ x ∈ ds, fitsB k s x = true := fun d h => by
        rcases no_tup h with ⟨i, rfl⟩ | ⟨ds, rfl⟩
        · simp [fitsB] at h
        · rw [fitsB] at h
          exact ⟨ds, rfl, rise_all h⟩
      refine ⟨fun d h => ?_, fun d e h1 h2 => ?_⟩
      · obtain ⟨ds, rfl, ha⟩ := f d h
        exact (plains_iff (xs := ds)).mpr fun x hx => (ih s hw).1 x (ha x hx)
      · obtain ⟨ds, rfl, ha⟩ := f d h1
        obtain ⟨es, rfl, hb⟩ := f e h2
        exact ltDs_some' fun i x y e1 e2 => (ih s hw).2 x y (ha x (List.mem_of_getElem? e1)) (hb y (List.mem_of_getElem? e2))
    | many s =>
      have f : ∀ d, fitsB k (.many s) d = true → ∃ ds, d = .tuple ds ∧ ∀ r ∈ ds, ∃ v i, r = .tuple [v, .int i] ∧ 1 ≤ i ∧ fitsB k s v = true := fun d h => by
        rcases no_tup h with ⟨i, rfl⟩ | ⟨ds, rfl⟩
        · simp [fitsB] at h
        · rw [fitsB] at h
          exact ⟨ds, rfl, bag_rows h⟩
      refine ⟨fun d h => ?_, fun d e h1 h2 => ?_⟩
      · obtain ⟨ds, rfl, ha⟩ := f d h
        refine (plains_iff (xs := ds)).mpr fun x hx => ?_
        obtain ⟨v, i, rfl, _, hv⟩ := ha x hx
        exact ⟨(ih s hw).1 v hv, trivial, trivial⟩
      · obtain ⟨ds, rfl, ha⟩ := f d h1
        obtain ⟨es, rfl, hb⟩ := f e h2
        refine ltDs_some' fun i x y e1 e2 => ?_
        obtain ⟨v, i, rfl, _, hv⟩ := ha x (List.mem_of_getElem? e1)
        obtain ⟨u, j, rfl, _, hu⟩ := hb y (List.mem_of_getElem? e2)
        exact ltDs_pair ((ih s hw).2 v u hv hu) (ltDs_pair (ltD_ints _ _) ⟨false, rfl⟩)
    | chance s =>
      have f : ∀ d, fitsB k (.chance s) d = true → ∃ ds, d = .tuple ds ∧ ∀ r ∈ ds, ∃ v i j, r = .tuple [v, .int i, .int j] ∧ fitsB k s v = true := fun d h => by
        rcases no_tup h with ⟨i, rfl⟩ | ⟨ds, rfl⟩
        · simp [fitsB] at h
        · rw [fitsB] at h
          exact ⟨ds, rfl, chance_rows h⟩
      refine ⟨fun d h => ?_, fun d e h1 h2 => ?_⟩
      · obtain ⟨ds, rfl, ha⟩ := f d h
        refine (plains_iff (xs := ds)).mpr fun x hx => ?_
        obtain ⟨v, i, j, rfl, hv⟩ := ha x hx
        exact ⟨(ih s hw).1 v hv, trivial, trivial, trivial⟩
      · obtain ⟨ds, rfl, ha⟩ := f d h1
        obtain ⟨es, rfl, hb⟩ := f e h2
        refine ltDs_some' fun i x y e1 e2 => ?_
        obtain ⟨v, i, j, rfl, hv⟩ := ha x (List.mem_of_getElem? e1)
        obtain ⟨u, i2, j2, rfl, hu⟩ := hb y (List.mem_of_getElem? e2)
        exact ltDs_pair ((ih s hw).2 v u hv hu) (ltDs_pair (ltD_ints _ _) (ltDs_pair (ltD_ints _ _) ⟨false, rfl⟩))
end FI
end
section
set_option Elab.async false
set_option linter.all false
set_option maxRecDepth 100000
set_option maxHeartbeats 4000000
namespace M4
open PySem PySem.Spec PyProof.Rows L2 GE MS
abbrev s_fits : Stmt := top 24
abbrev s_all_fit : Stmt := top 25
abbrev s_is_choice : Stmt := top 26
abbrev s_all_rise : Stmt := top 27
abbrev s_is_bag : Stmt := top 28
abbrev s_is_chance : Stmt := top 29
abbrev s_all_long : Stmt := top 30
abbrev s_add_up_to_one : Stmt := top 31
abbrev s_is_lowest : Stmt := top 32
theorem nb_eq (d : PyData) (e : Int) : numBelow d e = FI.numBelow d e := by cases d <;> rfl
theorem nm_eq (d : PyData) : isNum d = FI.isNum d := by cases d <;> rfl
theorem _root_.MS.Fine.item {xs : List PyData} (h : Fine (.tuple xs)) {x : PyData} (hx : x ∈ xs) : Fine x := ⟨shaped_item h.sh hx, thins_iff.mp h.th.2 x hx⟩
section
variable {X : Cx} {tg l : Expr} {w1 w2 : TI}
theorem pi_or (h1 : PI X tg l w1) (h2 : PI X tg l w2) : PI X tg l (fun σ H R => w1 σ H R ∨ w2 σ H R) := ⟨fun pins s σ H R I h => h.elim (h1.run pins s σ H R I) (h2.run pins s σ H R I)⟩
end
section
variable {P : Program} {w : World} {K : PySem.W.Frag} {mg : Str → Option Value} {base : Heap} {f fF fB fN : Addr} {fd dF dB dN : FuncData}
def spFit (K : PySem.W.Frag) (n : Nat) : Sp := fun vs H Q _ => ∃ (v u : V) (k : Nat) (s : Sh) (d : PyData), vs = [v, .int k, u] ∧ Dt K H v (Sh.data s) ∧ Sh.wf n s ∧ n ≤ 10 ∧ Dt K H u d ∧ Fine d ∧ ∀ H', Gr H H' → Q (.bl (FI.fitsB k s d)) H'
/-- what the tests below lean on of fits -/
structure FTx (P : Program) (w : World) (K : PySem.W.Frag) (mg : Str → Option Value) (base : Heap) (n j : Nat) (fF : Addr) (dF : FuncData) : Prop where
  OF : FnOk P w K mg base CX0 j fF dF ["shape", "states", "x"] (spFit K n)
  gF : mg "fits" = some (.ref fF)
  kF : PySem.W.keepIn K (.ref fF) = true
  bF : Binds K dF ["shape", "states", "x"] []
/-! ### all_rise -/
def spRise (K : PySem.W.Frag) (n : Nat) : Sp := fun vs H Q _ => ∃ (v : V) (a : Addr) (k : Nat) (s : Sh) (us : List V) (ds : List PyData), vs = [v, .int k, .ref a] ∧ Dt K H v (Sh.data s) ∧ Sh.wf n s ∧ n ≤ 10 ∧ (SqL K H a us ∨ SqT K H a us) ∧ DtAll K H us ds ∧
  (∀ d ∈ ds, Fine d) ∧ ∀ H', Gr H H' → Q (.bl (FI.riseB (FI.fitsB k s) none ds)) H'
abbrev kRise : List Str := ["shape", "states", "xs", "last", "x"]
theorem sc_all_rise : FnScope kRise ["shape", "states", "xs"] (defScope s_all_rise) := ⟨rfl, rfl, rfl, by decide +kernel, rfl, by decide +kernel, by decide +kernel⟩
theorem ok_all_rise {n j : Nat} (X : FTx P w K mg base n j fF dF)
    (F : Fun K "all_rise" "all_rise" s_all_rise f fd) : FnOk P w K mg base CX0 (j + 1) f fd ["shape", "states", "xs"] (spRise K n) := by
  refine F.ok sc_all_rise (fun vs H Q E h => ?_) (fun cdv A outer s0 H vs Q E hr h => ?_)
  · obtain ⟨v, a, k, s, us, ds, rfl, _⟩ := h
    rfl
  obtain ⟨v, a, k, s, us, ds, rfl, hd, hw, hn, hS, ha, hv, q⟩ := h
  have nd := sc_all_rise.nd
  have hu : (cxOf CX0 P w K mg base kRise "all_rise" (defScope s_all_rise) f cdv A outer s0 H E).nox.A.units + 64 < cLine := hr.units
  refine ⟨_, pss_cons (ps_set (i := 3) nd rfl (.inl rfl) pe_non)
    (pss_cons (ps_for PassesOwn.never rfl (pi_or (pi_list (pv 2)) (pi_tup (pv 2))) (pg_name (i := 4) nd rfl (Or.inl rfl))
      (pss_cons (ps_if (pt_not (pt_val (pe_call X.OF hr rfl X.gF X.kF X.bF .nil pass0 (pa_cons (pv 0) (pa_cons (pv 1) (pa_cons (pv 4) pa_nil)))))) (pss_one (ps_ret pe_bl)) pss_nil)
      (pss_cons (ps_if (PW.pt (pw_and (pt_cmpR op_notN (pv 3) pe_non (nomark _)) (pw_and1 (pt_not (pt_cmpR (op_ltD hu) (pv 3) (pv 4) (nomark _)))))) (pss_one (ps_ret pe_bl)) pss_nil)
      (pss_one (ps_set (i := 3) nd rfl (.inl rfl) (pv 4))))))
    (pss_one (ps_ret pe_bl))), ?_⟩
  have gd := FI.good_of k n s hw
  let Inv : Nat → L2.St → Hp → Prop := fun i σ H1 => ∃ (lv : V) (o : Option V) (lo : Option PyData), σ = [some v, some (.int (k : Int)), some (.ref a), some lv, o] ∧ Gr H H1 ∧ FI.riseB (FI.fitsB k s) none ds = FI.riseB (FI.fitsB k s) lo (ds.drop i) ∧
    ((lo = none ∧ lv = .non) ∨ ∃ l, lo = some l ∧ Dt K H lv l ∧ FI.fitsB k s l = true ∧ Fine l)
  have turn : ∀ (i : Nat) (x : V) (σ : L2.St) (H1 : Hp) (D : Ends), us[i]? = some x → Inv i σ H1 → (∀ b H', D.rt b H' = Q b H') → (∀ σ2 H2, Inv (i + 1) σ2 H2 → D.nx σ2 H2) →
      gName 4 x σ H1 fun σ2 H2 => (tSeq (tIfS (tNot (tTest (tCall (spFit K n) [] E0 (tCons (tVar 0) (tCons (tVar 1) (tCons (tVar 4) tNil)))))) (tRet (tC (.bl false))) tNext)
        (tSeq (tIfS (tAnd (tTest (tOp (fun x y H Q => y = .non ∧ Q (.bl (!decide (x = .non))) H) (tVar 3) (tC .non))) (tNot (tTest (tOp (rLtD K) (tVar 3) (tVar 4))))) (tRet (tC (.bl false))) tNext) (tAsg (tVar 4) (gName 3)))) D σ2 H2 := by
    intro i x σ H1 D hx ⟨lv, o, lo, hσ, g1, hr1, hl⟩ hrt hD
    subst hσ
    obtain ⟨d, hdd, hxd⟩ := ha.of_get hx
    have fd := hv d (List.mem_of_getElem? hdd)
    have hi : i < ds.length := (List.getElem?_eq_some_iff.mp hdd).1
    have e1 : ds.drop i = d :: ds.drop (i + 1) := by
      rw [List.drop_eq_getElem_cons hi]
      congr 1
      exact (List.getElem?_eq_some_iff.mp hdd).2
    rw [e1] at hr1
    refine ⟨_, rfl, _, rfl, _, rfl, v, x, k, s, d, rfl, hd.gr g1, hw, hn, hxd.gr g1, fd, fun H2 g2 => ⟨_, rfl, ite2 (fun c => ?_) (fun c => ?_)⟩⟩
    · have c : FI.fitsB k s d = false := by simpa using c
      show D.rt (.bl false) H2
      rw [hrt]
      have q1 := q H2 (g1.trans g2)
      have e2 : FI.riseB (FI.fitsB k s) none ds = false := by
        rw [hr1]
        cases lo with
        | none => show (FI.fitsB k s d && _) = false; rw [c]; rfl
        | some l => show (FI.fitsB k s d && _ && _) = false; rw [c]; rfl
      rw [e2] at q1
      exact q1
    · have c : FI.fitsB k s d = true := by simpa using c
      have g2 : Gr H H2 := g1.trans g2
      rcases hl with ⟨rfl, rfl⟩ | ⟨l, rfl, hld, hlf, hlF⟩
      · refine ⟨_, rfl, rfl, _, rfl, ifF rfl (iteF ⟨_, rfl, hD _ _ ⟨x, some x, some d, rfl, g2, ?_, .inr ⟨d, rfl, hxd, c, fd⟩⟩⟩)⟩
        rw [hr1]
        show (FI.fitsB k s d && _) = _
        rw [c, Bool.true_and]
      · have ne : lv ≠ .non := fun z => by
          rw [z] at hld
          rcases FI.no_tup hlf with ⟨i, e⟩ | ⟨ds, e⟩ <;> rw [e] at hld <;> cases hld
        obtain ⟨b, hb⟩ := gd.2 l d hlf c
        refine ⟨_, rfl, rfl, _, rfl, ifT (by rw [decide_eq_false ne]; rfl) ⟨_, rfl, _, rfl, l, d, b, hld.gr g2, hxd.gr g2, hlF.sh, fd.sh, hb, _, rfl, ite2 (fun c2 => ?_) (fun c2 => ?_)⟩⟩
        · have c2 : b = false := by simpa using c2
          show D.rt (.bl false) H2
          rw [hrt]
          have q1 := q H2 g2
          have e2 : FI.riseB (FI.fitsB k s) none ds = false := by
            rw [hr1]
            show (FI.fitsB k s d && (ltD l d == some true) && _) = false
            rw [hb, c2, c]; rfl
          rw [e2] at q1
          exact q1
        · have c2 : b = true := by simpa using c2
          refine ⟨_, rfl, hD _ _ ⟨x, some x, some d, rfl, g2, ?_, .inr ⟨d, rfl, hxd, c, fd⟩⟩⟩
          rw [hr1]
          show (FI.fitsB k s d && (ltD l d == some true) && _) = _
          rw [hb, c2, c]; rfl
  have i0 : Inv 0 [some v, some (.int (k : Int)), some (.ref a), some .non, none] H := ⟨.non, none, none, rfl, Gx.refl, rfl, .inl ⟨rfl, rfl⟩⟩
  have fin : ∀ (σ : L2.St) (H1 : Hp), Inv us.length σ H1 → Q (.bl true) H1 := fun σ H1 ⟨lv, o, lo, _, g, hr1, _⟩ => by
    have q1 := q H1 g
    have e : ds.drop us.length = [] := List.drop_eq_nil_of_le (by rw [ha.length]; exact Nat.le_refl _)
    rw [hr1, e] at q1
    have e2 : FI.riseB (FI.fitsB k s) lo [] = true := by cases lo <;> rfl
    rw [e2] at q1
    exact q1
  rcases hS with hS | hS
  · exact .inl ⟨_, rfl, a, rfl, ⟨_, hS⟩, for_list (xs := us) Inv i0 (fun i σ H1 _ p => SqL.ofGr p.choose_spec.choose_spec.choose_spec.2.1 hS) (fun i x σ H1 hx p => turn i x σ H1 _ hx p (fun _ _ => rfl) fun _ _ h => h) fin⟩
  · exact .inr ⟨_, rfl, a, rfl, ⟨_, hS⟩, for_tup (xs := us) Inv i0 (fun i σ H1 _ p => SqT.gx NoT.none p.choose_spec.choose_spec.choose_spec.2.1 hS) (fun i x σ H1 hx p => turn i x σ H1 _ hx p (fun _ _ => rfl) fun _ _ h => h) fin⟩
/-! ### is_choice -/
def spChoice (K : PySem.W.Frag) (n : Nat) : Sp := fun vs H Q _ => ∃ (v u : V) (k : Nat) (xs : List Sh) (ds : List PyData), vs = [v, .int k, u] ∧ Dt K H v (.tuple (Sh.datas xs)) ∧ (∀ y ∈ xs, Sh.wf n y) ∧ n ≤ 10 ∧ Dt K H u (.tuple ds) ∧ Fine (.tuple ds) ∧
  ∀ H', Gr H H' → Q (.bl (FI.fitsB k (.either xs) (.tuple ds))) H'
abbrev kCh : List Str := ["shapes", "states", "x"]
theorem sc_is_choice : FnScope kCh ["shapes", "states", "x"] (defScope s_is_choice) := ⟨rfl, rfl, rfl, by decide +kernel, rfl, by decide +kernel, by decide +kernel⟩
theorem ok_is_choice {n j : Nat} (hj : 2 ≤ j) (B : Blt mg) (GB : FnOk P w K mg base CX0 2 fB dB ["x", "end"] (spNumBelow K)) (gB : mg "is_number_below" = some (.ref fB)) (kB : PySem.W.keepIn K (.ref fB) = true) (bB : Binds K dB ["x", "end"] [])
    (X : FTx P w K mg base n j fF dF) (F : Fun K "is_choice" "is_choice" s_is_choice f fd) : FnOk P w K mg base CX0 (j + 1) f fd ["shapes", "states", "x"] (spChoice K n) := by
  refine F.ok sc_is_choice (fun vs H Q E h => ?_) (fun cdv A outer s0 H vs Q E hr h => ?_)
  · obtain ⟨v, u, k, xs, ds, rfl, _⟩ := h
    rfl
  obtain ⟨v, u, k, xs, ds, rfl, hd, hwx, hn, hu, hsh, q⟩ := h
  refine ⟨_, pss_one (ps_ret (pe_and (pe_cmpR op_eq (pe_callB call_len_seq (by rfl) B.len PySem.boot_len (pa_cons (pv 2) pa_nil)) pe_int (nomark _))
    (pe_and (pe_call GB (hr.mono hj) rfl gB kB bB .nil pass0 (pa_cons (pe_ix ix_tup (pv 2) pe_int (fun _ _ => rfl)) (pa_cons (pe_callB call_len_seq (by rfl) B.len PySem.boot_len (pa_cons (pv 0) pa_nil)) pa_nil)))
      (pe_one (pe_call X.OF hr rfl X.gF X.kF X.bF .nil pass0 (pa_cons (pe_ix ix_tup (pv 0) (pe_ix ix_tup (pv 2) pe_int (fun _ _ => rfl)) (fun _ _ => rfl)) (pa_cons (pv 1) (pa_cons (pe_ix ix_tup (pv 2) pe_int (fun _ _ => rfl)) pa_nil)))))))), ?_⟩
  have ef : FI.fitsB k (.either xs) (.tuple ds) = (decide (ds.length = 2) && FI.numBelow (ds.getD 0 .none) xs.length && FI.nthB k xs (FI.intOf (ds.getD 0 .none)).toNat (ds.getD 1 .none)) := by rw [FI.fitsB]
  rw [ef] at q
  cases hd with
  | @tup a ys _ hs ha =>
    have hly : ys.length = xs.length := by rw [ha.length, Sh.datas_map, List.length_map]
    cases hu with
    | @tup b us _ hs2 ha2 =>
      have hlu := ha2.length
      refine ⟨_, rfl, b, _, rfl, .inr hs2, rfl, _, rfl, ite2 (fun c => ?_) (fun c => ?_)⟩
      · have c : ds.length = 2 := by
          have : ((us.length : Nat) : Int) = 2 := V.int.inj (of_decide_eq_true c)
          omega
        obtain ⟨d0, d1, rfl⟩ := FI.two_of c
        obtain _ | ⟨h1, h2⟩ := ha2
        obtain _ | ⟨h3, h4⟩ := h2
        cases h4
        have q : ∀ H', Gr H H' → Q (.bl (FI.numBelow d0 xs.length && FI.nthB k xs (FI.intOf d0).toNat d1)) H' := q
        refine ⟨_, rfl, b, _, _, _, rfl, rfl, hs2, atI_nat (j := 0) rfl, _, rfl, a, _, rfl, .inr hs, _, _, _, rfl, h1, _, rfl, ?_⟩
        rw [nb_eq, show (((ys.length : Nat) : Int)) = ((xs.length : Nat) : Int) by rw [hly]]
        refine ite2 (fun c2 => ?_) (fun c2 => ?_)
        · rw [c2, Bool.true_and] at q
          obtain ⟨i, rfl, p1, p2⟩ := FI.plain_of_num c2
          cases h1
          obtain ⟨m, rfl⟩ : ∃ m : Nat, i = (m : Int) := ⟨i.toNat, by omega⟩
          have hm : m < xs.length := by omega
          have q : ∀ H', Gr H H' → Q (.bl (FI.nthB k xs m d1)) H' := q
          rw [FI.nthB_eq d1 (List.getElem?_eq_getElem hm)] at q
          have hdx : (Sh.datas xs)[m]? = some (Sh.data xs[m]) := by rw [Sh.datas_map, List.getElem?_map, List.getElem?_eq_getElem hm]; rfl
          obtain ⟨y, hy, hdy⟩ := ha.get hdx
          exact ⟨_, rfl, _, rfl, b, _, _, _, rfl, rfl, hs2, atI_nat (j := 0) rfl, a, _, _, _, rfl, rfl, hs, atI_nat hy, _, rfl, _, rfl, b, _, _, _, rfl, rfl, hs2, atI_nat (j := 1) rfl, y, _, k, xs[m], d1, rfl, hdy, hwx _ (List.getElem_mem hm), hn, h3, hsh.item (List.mem_cons_of_mem _ List.mem_cons_self), q⟩
        · rw [Bool.eq_false_iff.mpr c2, Bool.false_and] at q
          exact q H Gx.refl
      · have c : ¬ ds.length = 2 := fun z => c (decide_eq_true (by rw [hlu, z]; rfl))
        have e : decide (V.int ((us.length : Nat) : Int) = V.int 2) = false := decide_eq_false fun z => c (by have := V.int.inj z; omega)
        rw [decide_eq_false c, Bool.false_and, Bool.false_and] at q
        exact q H Gx.refl
end
end M4
end
section
set_option Elab.async false
set_option linter.all false
set_option maxRecDepth 100000
set_option maxHeartbeats 4000000
/-! math.lcm of two whole numbers below 2 ** 128. -/
namespace MS
open PySem PySem.Spec PyProof.Rows L2
def rLcm : List V → Hp → VK → Prop := fun vs H Q => ∃ a b : Int, vs = [.int a, .int b] ∧ a.natAbs < 2 ^ 128 ∧ b.natAbs < 2 ^ 128 ∧ Q (.int ((Nat.lcm a.natAbs b.natAbs : Nat) : Int)) H
section
variable {X : Cx}
theorem cr_lcm : CallR X (.builtin "math.lcm") rLcm := by
  intro pins s σ H vs us Q I r h
  obtain ⟨a, b, rfl, ha, hb, q⟩ := h
  obtain ⟨t, u, rfl⟩ := Vals.int2 r
  have one : Nat.lcm 1 a.natAbs = a.natAbs := by simp [Nat.lcm]
  have l1 : (max 1 a.natAbs).log2 ≤ 127 := PySem.W.mg_log (by show max 1 a.natAbs < 2 ^ 128; omega)
  have l2 : (max a.natAbs b.natAbs).log2 ≤ 127 := PySem.W.mg_log (by show max a.natAbs b.natAbs < 2 ^ 128; omega)
  have le : a.natAbs.lcm b.natAbs ≤ a.natAbs * b.natAbs := by
    unfold Nat.lcm
    exact Nat.div_le_self _ _
  have l3 : (a.natAbs.lcm b.natAbs).log2 ≤ 255 := PySem.W.mg_log (Nat.lt_of_le_of_lt le (by
    show a.natAbs * b.natAbs < 2 ^ (128 + 128)
    rw [Nat.pow_add]
    exact Nat.mul_lt_mul'' ha hb))
  have sz : ((((Nat.lcm 1 a.natAbs).lcm b.natAbs : Nat) : Int)).natAbs.log2 < bitsLine := by
    rw [Int.natAbs_natCast, one]
    exact Nat.lt_of_le_of_lt l3 (by decide)
  refine PySem.call_function_meets PySem.W.MGF.kind_lcm PySem.W.MGF.plain_lcm PySem.W.MGF.entry_lcm (PySem.W.MGF.args_lcm _ _) (PySem.W.mg_run_lcm a t b u (by omega) (by omega) sz).meets ?_
  rw [one]
  exact ⟨.int _, H, I.tok _, ⟨_, rfl⟩, q⟩
end
end MS
end
section
set_option Elab.async false
set_option linter.all false
set_option maxRecDepth 100000
set_option maxHeartbeats 4000000
/-! rules whose fragment is named: for comprehensions -/
namespace MS
open PySem PySem.Spec PyProof.Rows L2
variable {X : Cx} {K : PySem.W.Frag}
def rLenK (K : PySem.W.Frag) : List V → Hp → VK → Prop := fun xs H Q => ∃ p ys, xs = [.ref p] ∧ (SqL K H p ys ∨ SqT K H p ys) ∧ Q (.int ys.length) H
theorem lenK (e : X.K = K) : CallR X (.builtin "len") (rLenK K) := by
  subst e
  exact call_len_seq
theorem isiKx (e : X.K = K) : CallR X (.builtin "isinstance") (rIsi K) := by
  subst e
  exact call_isi
theorem ixTK (e : X.K = K) : IxR X (rIxT K) := by
  subst e
  exact ix_tup
theorem ixLK (e : X.K = K) : IxR X (rIxL K) := by
  subst e
  exact ix_list
theorem slAK (e : X.K = K) : SlR X (rSlA K) := by
  subst e
  exact sl_tupA
/-- a op1 b op2 c op3 d -/
def tChain3 (r r' r'' : R2) (ta tb tc td : TE) : TE := fun σ H Q => ta σ H fun x H1 => tb σ H1 fun y H2 => r x y H2 fun z H3 => ∃ k, z = .bl k ∧
  (if k = true then tc σ H3 fun u H4 => r' y u H4 fun z2 H5 => ∃ k2, z2 = .bl k2 ∧ (if k2 = true then td σ H5 fun v H6 => r'' u v H6 Q else Q (.bl false) H5) else Q (.bl false) H3)
theorem pe_chain3 {a b c d : Expr} {ta tb tc td : TE} {pos : Pos} {op op' op'' : CmpOp} {r r' r'' : R2} (ho : OpR X (compareOp op) r) (ho' : OpR X (compareOp op') r') (ho'' : OpR X (compareOp op'') r'') (ha : PE X a ta) (hb : PE X b tb) (hc : PE X c tc) (hd : PE X d td)
    (hm : lastMarks [op, op', op''] [b, c, d] = false := by with_unfolding_all rfl) : PE X (.Compare a [op, op', op''] [b, c, d] pos) (tChain3 r r' r'' ta tb tc td) := by
  refine ⟨fun pins s σ H Q I h => ?_⟩
  refine Compare_chain (thn (ha.run pins s σ H _ I h) fun v s1 ⟨x, H1, I1, r1, q1⟩ => chain_link (thn (hb.run pins s1 σ H1 _ I1 q1) fun u s2 ⟨y, H2, I2, r2, q2⟩ =>
    thn (ho pins s2 σ H2 x y v u _ I2 r1 r2 q2) fun e s3 ⟨z, H3, I3, r3, k, ez, q3⟩ => ?_)) hm
  subst ez
  cases r3
  refine wpAny_truthy_bool ?_
  cases k with
  | false => exact ite_ff ⟨.bl false, H3, I3, rfl, q3⟩
  | true =>
    refine ite_tt (chain_link (thn (hc.run pins s3 σ H3 _ I3 q3) fun u2 s4 ⟨y2, H4, I4, r4, q4⟩ =>
      thn (ho' pins s4 σ H4 y y2 u u2 _ I4 r2 r4 q4) fun e2 s5 ⟨z2, H5, I5, r5, k2, ez2, q5⟩ => ?_))
    subst ez2
    cases r5
    refine wpAny_truthy_bool ?_
    cases k2 with
    | false => exact ite_ff ⟨.bl false, H5, I5, rfl, q5⟩
    | true => exact ite_tt (chain_last (thn (hd.run pins s5 σ H5 _ I5 q5) fun u3 s6 ⟨y3, H6, I6, r6, q6⟩ => ho'' pins s6 σ H6 y2 y3 u2 u3 Q I6 r4 r6 q6))
theorem catAK (e : X.K = K) : OpR X (binaryOp .Add) (rCatA K) := by
  subst e
  exact op_catA
theorem cat_tups {H : Hp} {Q : VK} {v u : V} {ds es : List PyData} (h1 : Dt K H v (.tuple ds)) (h2 : Dt K H u (.tuple es)) (l1 : ds.length ≤ 100000) (l2 : es.length ≤ 100000) (q : ∀ (z : V) H', Gr H H' → Dt K H' z (.tuple (ds ++ es)) → Q z H') : rCatA K v u H Q := by
  cases h1 with
  | @tup a xs _ hs ha =>
    cases h2 with
    | @tup b ys _ hs2 ha2 =>
      have e1 : xs.length = ds.length := ha.length
      have e2 : ys.length = es.length := ha2.length
      have sz : sizeLine = 16777216 := by decide
      refine ⟨a, b, xs, ys, rfl, rfl, hs, hs2, by omega, fun e => q _ _ Gx.refl ?_, fun _ e => q _ _ Gx.refl ?_, fun _ _ p hp => q _ _ (Gx.new hp) (.tup (SqT.of upd_same) ((ha.append ha2).gr (Gx.new hp)))⟩
      · have z : ds = [] := List.eq_nil_of_length_eq_zero (by rw [← e1, e]; rfl)
        rw [z, List.nil_append]
        exact .tup hs2 ha2
      · have z : es = [] := List.eq_nil_of_length_eq_zero (by rw [← e2, e]; rfl)
        rw [z, List.append_nil]
        exact .tup hs ha
/-- a new tuple -/
theorem new_tup {H : Hp} {p : Addr} {vs : List V} {ds : List PyData} (h : DtAll K H vs ds) (hp : H p = none) : Dt K (upd H p (.tup vs)) (.ref p) (.tuple ds) := .tup (SqT.of upd_same) (h.gr (Gx.new hp))
theorem slLK (e : X.K = K) : SlR X (rSlL K) := by
  subst e
  exact sl_list
theorem inDK (hu : X.A.units + 65 < cLine) (e : X.K = K) : OpR X (compareOp .In) (rInD K) := by
  subst e
  exact op_inD hu
end MS
end
section
set_option Elab.async false
set_option linter.all false
set_option maxRecDepth 100000
set_option maxHeartbeats 4000000
namespace M4
open PySem PySem.Spec PyProof.Rows L2 GE MS
theorem sqS_or {K : PySem.W.Frag} {H : Hp} {k : Bool} {a : Addr} {xs : List V} (h : SqS K H k a xs) : SqL K H a xs ∨ SqT K H a xs := by
  cases k with
  | true => exact .inr h
  | false => exact .inl h
section
variable {P : Program} {w : World} {K : PySem.W.Frag} {mg : Str → Option Value} {base : Heap} {f fF fB fN : Addr} {fd dF dB dN : FuncData}
/-! ### all_fit -/
def spAll (K : PySem.W.Frag) (n : Nat) : Sp := fun vs H Q _ => ∃ (a b : Addr) (k : Nat) (ka : Bool) (ys : List V) (ss : List Sh) (ds : List PyData), vs = [.ref a, .int k, .ref b] ∧ SqS K H ka a ys ∧ DtAll K H ys (Sh.datas ss) ∧ (∀ y ∈ ss, Sh.wf n y) ∧ n ≤ 10 ∧ Dt K H (.ref b) (.tuple ds) ∧ Fine (.tuple ds) ∧
  ∀ H', Gr H H' → Q (.bl (FI.allFitB k ss ds)) H'
abbrev kAll : List Str := ["shapes", "states", "xs", "shape", "x"]
theorem sc_all_fit : FnScope kAll ["shapes", "states", "xs"] (defScope s_all_fit) := ⟨rfl, rfl, rfl, by decide +kernel, rfl, by decide +kernel, by decide +kernel⟩
theorem ok_all_fit {n j : Nat} (B : Blt mg) (zz : mg "zip" = none) (X : FTx P w K mg base n j fF dF) (F : Fun K "all_fit" "all_fit" s_all_fit f fd) : FnOk P w K mg base CX0 (j + 1) f fd ["shapes", "states", "xs"] (spAll K n) := by
  refine F.ok sc_all_fit (fun vs H Q E h => ?_) (fun cdv A outer s0 H vs Q E hr h => ?_)
  · obtain ⟨a, b, k, ka, ys, ss, ds, rfl, _⟩ := h
    rfl
  obtain ⟨a, b, k, ka, ys, ss, ds, rfl, hS, hA, hw, hn, hd, hF, q⟩ := h
  have nd := sc_all_fit.nd
  refine ⟨_, pss_cons (ps_if (pt_cmpR op_ne (pe_callB call_len_seq (by rfl) B.len PySem.boot_len (pa_cons (pv 2) pa_nil)) (pe_callB call_len_seq (by rfl) B.len PySem.boot_len (pa_cons (pv 0) pa_nil)) (nomark _)) (pss_one (ps_ret pe_bl)) pss_nil)
    (pss_cons (ps_for PassesOwn.never rfl (pi_zipS (by rfl) zz (pa_cons (pv 0) (pa_cons (pv 2) pa_nil))) (pg_tup rfl (pgs_cons (pg_name (i := 3) nd rfl (Or.inl rfl)) (pgs_cons (pg_name (i := 4) nd rfl (Or.inl rfl)) pgs_nil)))
      (pss_one (ps_if (pt_not (pt_val (pe_call X.OF hr rfl X.gF X.kF X.bF .nil pass0 (pa_cons (pv 3) (pa_cons (pv 1) (pa_cons (pv 4) pa_nil)))))) (pss_one (ps_ret pe_bl)) pss_nil)))
    (pss_one (ps_ret pe_bl))), ?_⟩
  cases hd with
  | @tup _ us _ hs2 ha2 =>
    have hlu := ha2.length
    have hly : ys.length = ss.length := by rw [hA.length, Sh.datas_map, List.length_map]
    refine ⟨_, rfl, b, _, rfl, .inr hs2, _, rfl, a, _, rfl, sqS_or hS, rfl, _, rfl, ite2 (fun c => ?_) (fun c => ?_)⟩
    · have c : ss.length ≠ ds.length := fun z => by
        have e : decide (V.int ((us.length : Nat) : Int) = V.int ((ys.length : Nat) : Int)) = true := decide_eq_true (by rw [hlu, hly, z])
        rw [e] at c
        exact absurd c (by decide)
      have q1 := q H Gx.refl
      rw [FI.allFit_len c] at q1
      exact q1
    · have c : ss.length = ds.length := by
        have e : decide (V.int ((us.length : Nat) : Int) = V.int ((ys.length : Nat) : Int)) = true := by simpa using c
        have := V.int.inj (of_decide_eq_true e)
        omega
      refine ⟨_, rfl, _, rfl, ka, true, a, b, ys, us, rfl, hS, hs2, for_zipS (by omega) (fun i σ H1 => (∃ o1 o2, σ = [some (.ref a), some (.int (k : Int)), some (.ref b), o1, o2]) ∧ Gr H H1 ∧ FI.allFitB k ss ds = FI.allFitB k (ss.drop i) (ds.drop i)) ⟨⟨_, _, rfl⟩, Gx.refl, rfl⟩
        (fun i σ H1 p => ⟨hS.ofGr p.2.1, SqT.gx NoT.none p.2.1 hs2⟩) (fun i x y T σ H1 hx hy p hT => ?_) fun σ H1 p => ?_⟩
      · obtain ⟨⟨o1, o2, rfl⟩, g1, e1⟩ := p
        obtain ⟨dx, hdx, hdt⟩ := hA.of_get hx
        rw [Sh.datas_map, List.getElem?_map] at hdx
        obtain ⟨sx, hsx, rfl⟩ := Option.map_eq_some_iff.mp hdx
        obtain ⟨d, hdd, hxd⟩ := ha2.of_get hy
        have g2 : Gr H (upd H1 T (.tup [x, y])) := g1.trans (Gx.new hT)
        have hi1 : i < ss.length := (List.getElem?_eq_some_iff.mp hsx).1
        have hi2 : i < ds.length := (List.getElem?_eq_some_iff.mp hdd).1
        have d1 : ss.drop i = sx :: ss.drop (i + 1) := by
          rw [List.drop_eq_getElem_cons hi1]
          congr 1
          exact (List.getElem?_eq_some_iff.mp hsx).2
        have d2 : ds.drop i = d :: ds.drop (i + 1) := by
          rw [List.drop_eq_getElem_cons hi2]
          congr 1
          exact (List.getElem?_eq_some_iff.mp hdd).2
        rw [d1, d2, FI.allFitB] at e1
        refine ⟨T, [x, y], rfl, SqT.of upd_same, rfl, _, _, rfl, _, _, rfl, rfl, _, rfl, _, rfl, _, rfl, x, y, k, sx, d, rfl, hdt.gr g2, hw sx (List.mem_of_getElem? hsx), hn, hxd.gr g2, hF.item (List.mem_of_getElem? hdd), fun H3 g3 => ⟨_, rfl, ite2 (fun c => ?_) (fun c => ?_)⟩⟩
        · have c : FI.fitsB k sx d = false := by simpa using c
          have q1 := q H3 (g2.trans g3)
          rw [e1, c, Bool.false_and] at q1
          exact q1
        · have c : FI.fitsB k sx d = true := by simpa using c
          rw [c, Bool.true_and] at e1
          exact ⟨⟨_, _, rfl⟩, g2.trans g3, e1⟩
      · obtain ⟨_, g1, e1⟩ := p
        have q1 := q H1 g1
        rw [e1, List.drop_eq_nil_of_le (by omega), List.drop_eq_nil_of_le (by omega), FI.allFitB] at q1
        exact q1
/-! ### all_long -/
def spLong (K : PySem.W.Frag) : Sp := fun vs H Q _ => ∃ (a : Addr) (n : Nat) (us : List V) (ds : List PyData), vs = [.ref a, .int n] ∧ SqT K H a us ∧ DtAll K H us ds ∧ ds.length ≤ sizeLine ∧ ∀ H', Gr H H' → Q (.bl (ds.all (FI.longB n))) H'
abbrev kLong : List Str := ["rows", "length", "row"]
theorem sc_all_long : FnScope kLong ["rows", "length"] (defScope s_all_long) := ⟨rfl, rfl, rfl, by decide +kernel, rfl, by decide +kernel, by decide +kernel⟩
theorem ok_all_long (B : Blt mg) (F : Fun K "all_long" "all_long" s_all_long f fd) : FnOk P w K mg base CX0 1 f fd ["rows", "length"] (spLong K) := by
  refine F.ok sc_all_long (fun vs H Q E h => ?_) (fun cdv A outer s0 H vs Q E hr h => ?_)
  · obtain ⟨a, n, us, ds, rfl, _⟩ := h
    rfl
  obtain ⟨a, n, us, ds, rfl, hS, hA, hl, q⟩ := h
  have nd := sc_all_long.nd
  refine ⟨_, pss_one (ps_ret (pe_callB (cr_all rfl) (by rfl) B.all (by decide +kernel) (pa_cons
    (pe_lc (own := [("row", 2)]) (g := gName 2) (tt := tYes) rfl nd (pi_tup (pv 0)) (blkOk_by (own := [("row", 2)]) (N := kLong) (sc := defScope s_all_long) (by decide +kernel))
      (fun _ _ _ _ _ => pg_name (i := 2) nd rfl (Or.inl rfl)) (fun _ _ _ _ _ => pts_nil)
      (fun _ _ _ _ _ => pe_and (pe_callB (isiKx (K := K) rfl) (by rfl) B.isi (by decide +kernel) (pa_cons (pv 2) (pa_cons (pe_bltn (by rfl) B.tuple (by decide +kernel) (v := .ty "tuple") rfl) pa_nil)))
        (pe_one (pe_cmpR op_eq (pe_callB (lenK (K := K) rfl) (by rfl) B.len PySem.boot_len (pa_cons (pv 2) pa_nil)) (pv 1) (nomark _))))) pa_nil))), ?_⟩
  refine ⟨_, rfl, a, rfl, ⟨_, hS⟩, fun D hD => lcT_data (f := fun d => .bool (FI.longB n d)) hS hA hl hD (fun _ => rfl) (fun i u d H' _ _ g hu R hR => ?_) fun H' ys g e he => ?_⟩
  · refine ⟨_, rfl, _, _, _, _, _, rfl, .ty _, hu.ty, kit_tuple hu, _, rfl, ?_⟩
    cases hu with
    | @tup b xs es hs ha =>
      refine ⟨_, rfl, b, _, rfl, .inr hs, _, rfl, rfl, hR _ _ Gx.refl ?_⟩
      rw [show decide (V.int ((xs.length : Nat) : Int) = V.int ((n : Nat) : Int)) = FI.longB n (.tuple es) from ?_]
      · exact .bl _
      · rw [ha.length, eqI_val]
        show _ = decide (es.length = n)
        by_cases z : es.length = n
        · rw [decide_eq_true z, decide_eq_true (by omega)]
        · rw [decide_eq_false z, decide_eq_false (by omega)]
    | _ => exact hR _ _ Gx.refl (.bl _)
  · have e2 : ys = (ds.map (FI.longB n)).map V.bl := dt_bools (by rw [List.map_map]; exact he)
    refine ⟨D, ds.map (FI.longB n), rfl, SqL.of (by rw [← e2]; exact e), ?_⟩
    have q1 := q H' g
    rw [List.all_map]
    exact q1
end
end M4
end
section
set_option Elab.async false
set_option linter.all false
set_option maxRecDepth 100000
set_option maxHeartbeats 4000000
namespace M4
open PySem PySem.Spec PyProof.Rows L2 GE MS
theorem fine_itemD {ds : List PyData} {n i : Nat} (hF : Fine (.tuple ds)) (hl : ds.all (FI.longB n) = true) (hi : i < n) : ∀ d ∈ ds, Fine (FI.itemD i d) := fun d hd => by
  obtain ⟨xs, rfl, e⟩ := FI.longB_iff.mp (List.all_eq_true.mp hl d hd)
  have h := hF.item hd
  have hx : i < xs.length := by omega
  show Fine (xs.getD i .none)
  rw [List.getD_eq_getElem?_getD, List.getElem?_eq_getElem hx]
  exact h.item (List.getElem_mem hx)
theorem dt_itemD {K : PySem.W.Frag} {H : Hp} {u : V} {d : PyData} {n i : Nat} (hu : Dt K H u d) (hl : FI.longB n d = true) (hi : i < n) : ∃ b xs v, u = .ref b ∧ SqT K H b xs ∧ atI xs (i : Int) = some v ∧ Dt K H v (FI.itemD i d) ∧ xs.length = n := by
  obtain ⟨es, rfl, e⟩ := FI.longB_iff.mp hl
  cases hu with
  | @tup b xs _ hs ha =>
    have hx : i < es.length := by omega
    obtain ⟨v, hv, hd⟩ := ha.get (List.getElem?_eq_getElem hx)
    refine ⟨b, xs, v, rfl, hs, atI_nat hv, ?_, by rw [ha.length, e]⟩
    show Dt K H v (es.getD i .none)
    rw [List.getD_eq_getElem?_getD, List.getElem?_eq_getElem hx]
    exact hd
theorem pos_eq (d : PyData) : FI.posNum d = (isNum d && decide (1 ≤ FI.intOf d)) := by cases d <;> rfl
section
variable {P : Program} {w : World} {K : PySem.W.Frag} {mg : Str → Option Value} {base : Heap} {f fF fB fN fL fR : Addr} {fd dF dB dN dL dR : FuncData}
/-- what the tests of bags and chances lean on -/
structure BTx (P : Program) (w : World) (K : PySem.W.Frag) (mg : Str → Option Value) (base : Heap) (n j : Nat) (fN fL fR : Addr) (dN dL dR : FuncData) : Prop where
  B : Blt mg
  mM : ∃ t, mg "MOST_IN_BAG" = some (.int 1000 t)
  ON : FnOk P w K mg base CX0 1 fN dN ["x"] (spIsNum K)
  gN : mg "is_number" = some (.ref fN)
  kN : PySem.W.keepIn K (.ref fN) = true
  bN : Binds K dN ["x"] []
  OL : FnOk P w K mg base CX0 1 fL dL ["rows", "length"] (spLong K)
  gL : mg "all_long" = some (.ref fL)
  kL : PySem.W.keepIn K (.ref fL) = true
  bL : Binds K dL ["rows", "length"] []
  OR : FnOk P w K mg base CX0 j fR dR ["shape", "states", "xs"] (spRise K n)
  gR : mg "all_rise" = some (.ref fR)
  kR : PySem.W.keepIn K (.ref fR) = true
  bR : Binds K dR ["shape", "states", "xs"] []
def spBag (K : PySem.W.Frag) (n : Nat) (g : (PyData → Bool) → List PyData → Bool) : Sp := fun vs H Q _ => ∃ (v : V) (a : Addr) (k : Nat) (s : Sh) (ds : List PyData), vs = [v, .int k, .ref a] ∧ Dt K H v (Sh.data s) ∧ Sh.wf n s ∧ n ≤ 10 ∧ Dt K H (.ref a) (.tuple ds) ∧ Fine (.tuple ds) ∧
  ∀ H', Gr H H' → Q (.bl (g (FI.fitsB k s) ds)) H'
abbrev kBag : List Str := ["shape", "states", "rows", "counts", "row", "count"]
theorem sc_is_bag : FnScope kBag ["shape", "states", "rows"] (defScope s_is_bag) := ⟨rfl, rfl, rfl, by decide +kernel, rfl, by decide +kernel, by decide +kernel⟩
theorem ok_is_bag {n j : Nat} (hj : 1 ≤ j) (X : BTx P w K mg base n j fN fL fR dN dL dR) (F : Fun K "is_bag" "is_bag" s_is_bag f fd) : FnOk P w K mg base CX0 (j + 1) f fd ["shape", "states", "rows"] (spBag K n FI.bagB) := by
  obtain ⟨tM, mM⟩ := X.mM
  refine F.ok sc_is_bag (fun vs H Q E h => ?_) (fun cdv A outer s0 H vs Q E hr h => ?_)
  · obtain ⟨v, a, k, s, ds, rfl, _⟩ := h
    rfl
  obtain ⟨v, a, k, s, ds, rfl, hd, hw, hn, hda, hF, q⟩ := h
  have nd := sc_is_bag.nd
  have hr1 : Room 1 (A.deeper (envOfC "is_bag" (defScope s_is_bag) s0.heap.objs.size f cdv)) := hr.mono hj
  refine ⟨_, pss_cons (ps_if (pt_not (pt_val (pe_call X.OL hr1 rfl X.gL X.kL X.bL .nil pass0 (pa_cons (pv 2) (pa_cons pe_int pa_nil))))) (pss_one (ps_ret pe_bl)) pss_nil)
    (pss_cons (ps_setLc (i := 3) (own := [("row", 4)]) (g := gName 4) (tt := tYes) rfl nd rfl rfl (sw_true rfl rfl rfl (by decide +kernel)) (pi_tup (pv 2))
      (blkOk_by (own := [("row", 4)]) (N := kBag) (sc := defScope s_is_bag) (by decide +kernel)) (fun _ _ _ _ _ => pg_name (i := 4) nd rfl (Or.inl rfl)) (fun _ _ _ _ _ => pts_nil)
      (fun _ _ _ _ _ => pe_ix (ixTK (K := K) rfl) (pv 4) pe_int (fun _ _ => rfl)))
    (pss_cons (ps_if (PW.pt (pw_or (pt_not (pt_val (pe_callB (cr_all rfl) (by rfl) X.B.all (by decide +kernel) (pa_cons
        (pe_lc (own := [("count", 5)]) (g := gName 5) (tt := tYes) rfl nd (pi_list (pv 3)) (blkOk_by (own := [("count", 5)]) (N := kBag) (sc := defScope s_is_bag) (by decide +kernel))
          (fun _ _ _ _ _ => pg_name (i := 5) nd rfl (Or.inl rfl)) (fun _ _ _ _ _ => pts_nil)
          (fun _ _ _ _ _ => pe_and (pe_call X.ON hr1 rfl X.gN X.kN X.bN .nil pass0 (pa_cons (pv 5) pa_nil)) (pe_one (pe_cmpR op_ge (pv 5) pe_int (nomark _))))) pa_nil))))
        (pw_or1 (pt_cmpR op_gt (pe_callB (cr_sum rfl) (by rfl) X.B.sum (by decide +kernel) (pa_cons (pv 3) pa_nil)) (pe_glob rfl mM (v := .int 1000) ⟨_, rfl⟩) (nomark _))))) (pss_one (ps_ret pe_bl)) pss_nil)
    (pss_one (ps_ret (pe_call X.OR hr rfl X.gR X.kR X.bR .nil pass0 (pa_cons (pv 0) (pa_cons (pv 1) (pa_cons
      (pe_lc (own := [("row", 4)]) (g := gName 4) (tt := tYes) rfl nd (pi_tup (pv 2)) (blkOk_by (own := [("row", 4)]) (N := kBag) (sc := defScope s_is_bag) (by decide +kernel))
          (fun _ _ _ _ _ => pg_name (i := 4) nd rfl (Or.inl rfl)) (fun _ _ _ _ _ => pts_nil)
          (fun _ _ _ _ _ => pe_ix (ixTK (K := K) rfl) (pv 4) pe_int (fun _ _ => rfl))) pa_nil)))))))), ?_⟩
  cases hda with
  | @tup _ us _ hs ha =>
    refine ⟨_, rfl, a, 2, us, ds, rfl, hs, ha, hF.lenS, fun H1 g1 => ⟨_, rfl, ite2 (fun c => ?_) (fun c => ?_)⟩⟩
    · have c : ds.all (FI.longB 2) = false := by simpa using c
      have q1 := q H1 g1
      have e : FI.bagB (FI.fitsB k s) ds = false := by unfold FI.bagB; rw [c]; rfl
      rw [e] at q1
      exact q1
    · have c : ds.all (FI.longB 2) = true := by simpa using c
      have hs1 := SqT.gx NoT.none g1 hs
      unfold tSeq tAsg tNext
      dsimp only
      refine ⟨_, rfl, a, rfl, ⟨_, hs1⟩, fun D hD => lcT_data (f := FI.itemD 1) hs1 (ha.gr g1) hF.lenS hD (fun _ => rfl) (fun i u d H' _ hdd g hu R hR => ?_) fun H2 ys g2 e2 a2 => ?_⟩
      · obtain ⟨b, xs, y, rfl, hb, hat, hy, _⟩ := dt_itemD (i := 1) hu (List.all_eq_true.mp c d (List.mem_of_getElem? hdd)) (by decide)
        exact ⟨_, rfl, b, _, _, _, rfl, rfl, hb, hat, hR _ _ Gx.refl hy⟩
      · have g2 : Gr H H2 := g1.trans g2
        refine ⟨_, rfl, D, rfl, ⟨_, SqL.of e2⟩, fun D2 hD2 => lcL_data (f := fun d => .bool (FI.posNum d)) (SqL.of e2) a2 (by rw [List.length_map]; exact hF.lenS) hD2 (fun _ => rfl) (fun i u d H' _ _ g hu R hR => ?_) fun H3 bs g3 e3 a3 => ?_⟩
        · refine ⟨_, rfl, u, d, rfl, hu, ?_⟩
          cases hu with
          | int j =>
            refine ⟨_, rfl, _, rfl, _, _, rfl, rfl, ?_⟩
            exact hR _ _ Gx.refl (.bl _)
          | _ => exact ⟨_, rfl, hR _ _ Gx.refl (.bl _)⟩
        · have e4 : bs = ((ds.map (FI.itemD 1)).map FI.posNum).map V.bl := dt_bools (by rw [List.map_map]; exact a3)
          have g3' := g3
          have g3 : Gr H H3 := g2.trans g3
          refine ⟨D2, (ds.map (FI.itemD 1)).map FI.posNum, rfl, SqL.of (by rw [← e4]; exact e3), _, rfl, ?_⟩
          have ea : ((ds.map (FI.itemD 1)).map FI.posNum).all id = (ds.map (FI.itemD 1)).all FI.posNum := by rw [List.all_map]; rfl
          rw [ea]
          have eB : FI.bagB (FI.fitsB k s) ds = ((ds.map (FI.itemD 1)).all FI.posNum && decide ((ds.map fun r => FI.intOf (FI.itemD 1 r)).sum ≤ 1000) && FI.riseB (FI.fitsB k s) none (ds.map (FI.itemD 0))) := by
            unfold FI.bagB
            rw [c, Bool.true_and]
          rw [eB] at q
          refine ite2 (fun c2 => ?_) (fun c2 => ?_)
          · have c2 : (ds.map (FI.itemD 1)).all FI.posNum = false := by simpa using c2
            rw [c2, Bool.false_and, Bool.false_and] at q
            exact q H3 g3
          · have c2 : (ds.map (FI.itemD 1)).all FI.posNum = true := by simpa using c2
            rw [c2, Bool.true_and] at q
            have e5 : ds.map (FI.itemD 1) = (ds.map fun r => FI.intOf (FI.itemD 1 r)).map PyData.int := by
              rw [List.map_map]
              refine List.map_congr_left fun d hd => ?_
              obtain ⟨i, e, _⟩ := FI.posNum_iff.mp (List.all_eq_true.mp c2 _ (List.mem_map.mpr ⟨d, hd, rfl⟩))
              show _ = PyData.int (FI.intOf (FI.itemD 1 d))
              rw [e]
              rfl
            rw [e5] at a2
            have e6 := dt_ints a2
            rw [e6] at e2
            have e2' := grLst g3' e2
            refine ⟨_, rfl, D, _, rfl, SqL.of e2', _, _, rfl, rfl, _, rfl, ite2 (fun c3 => ?_) (fun c3 => ?_)⟩
            · have c3 : ¬ (ds.map fun r => FI.intOf (FI.itemD 1 r)).sum ≤ 1000 := by
                have := of_decide_eq_true c3
                omega
              rw [decide_eq_false c3, Bool.false_and] at q
              exact q H3 g3
            · have c3 : (ds.map fun r => FI.intOf (FI.itemD 1 r)).sum ≤ 1000 := by
                have := of_decide_eq_false (Bool.eq_false_iff.mpr c3)
                omega
              rw [decide_eq_true c3, Bool.true_and] at q
              have hs3 := SqT.gx NoT.none g3 hs
              refine ⟨_, rfl, _, rfl, _, rfl, a, rfl, ⟨_, hs3⟩, fun D3 hD3 => lcT_data (f := FI.itemD 0) hs3 (ha.gr g3) hF.lenS hD3 (fun _ => rfl) (fun i u d H' _ hdd g hu R hR => ?_) fun H4 zs g4 e4 a4 => ?_⟩
              · obtain ⟨b, xs, y, rfl, hb, hat, hy, _⟩ := dt_itemD (i := 0) hu (List.all_eq_true.mp c d (List.mem_of_getElem? hdd)) (by decide)
                exact ⟨_, rfl, b, _, _, _, rfl, rfl, hb, hat, hR _ _ Gx.refl hy⟩
              · have g4 : Gr H H4 := g3.trans g4
                refine ⟨v, D3, k, s, zs, ds.map (FI.itemD 0), rfl, hd.gr g4, hw, hn, .inl (SqL.of e4), a4, fun d hd => ?_, fun H5 g5 => q H5 (g4.trans g5)⟩
                obtain ⟨r, hr, rfl⟩ := List.mem_map.mp hd
                exact fine_itemD hF c (by decide) r hr
end
end M4
end
section
set_option Elab.async false
set_option linter.all false
set_option maxRecDepth 100000
set_option maxHeartbeats 4000000
namespace M4
open PySem PySem.Spec PyProof.Rows L2 GE MS
section
variable {P : Program} {w : World} {K : PySem.W.Frag} {mg : Str → Option Value} {base : Heap} {f fF fB fN fL fR fA fW : Addr} {fd dF dB dN dL dR dA dW : FuncData}
/-! ### is_lowest -/
structure CHx (P : Program) (w : World) (K : PySem.W.Frag) (mg : Str → Option Value) (base : Heap) (fN : Addr) (dN : FuncData) : Prop where
  B : Blt mg
  mL : ∃ t, mg "LOWS_BELOW" = some (.int 1000000000000000000000000000000 t)
  gcd : mg "gcd" = some (.builtin "math.gcd")
  lcm : mg "lcm" = some (.builtin "math.lcm")
  ON : FnOk P w K mg base CX0 1 fN dN ["x"] (spIsNum K)
  gN : mg "is_number" = some (.ref fN)
  kN : PySem.W.keepIn K (.ref fN) = true
  bN : Binds K dN ["x"] []
def spLow (K : PySem.W.Frag) : Sp := fun vs H Q _ => ∃ (u v : V) (t l : PyData), vs = [u, v] ∧ Dt K H u t ∧ Dt K H v l ∧ Q (.bl (FI.lowB t l)) H
theorem sc_is_lowest : FnScope ["top", "low"] ["top", "low"] (defScope s_is_lowest) := ⟨rfl, rfl, rfl, by decide +kernel, rfl, by decide +kernel, by decide +kernel⟩
theorem low_not {t l : PyData} (h : isNum t = false ∨ isNum l = false) : FI.lowB t l = false := by
  unfold FI.lowB
  rw [← nm_eq, ← nm_eq]
  rcases h with h | h <;> rw [h] <;> simp
theorem ok_is_lowest (X : CHx P w K mg base fN dN) (F : Fun K "is_lowest" "is_lowest" s_is_lowest f fd) : FnOk P w K mg base CX0 2 f fd ["top", "low"] (spLow K) := by
  obtain ⟨tL, mL⟩ := X.mL
  refine F.ok sc_is_lowest (fun vs H Q E h => ?_) (fun cdv A outer s0 H vs Q E hr h => ?_)
  · obtain ⟨u, v, t, l, rfl, _⟩ := h
    rfl
  obtain ⟨u, v, t, l, rfl, hu, hv, q⟩ := h
  refine ⟨_, pss_cons (ps_if (PW.pt (pw_or (pt_not (pt_val (pe_call X.ON hr rfl X.gN X.kN X.bN .nil pass0 (pa_cons (pv 0) pa_nil)))) (pw_or1 (pt_not (pt_val (pe_call X.ON hr rfl X.gN X.kN X.bN .nil pass0 (pa_cons (pv 1) pa_nil)))))))
      (pss_one (ps_ret pe_bl)) pss_nil)
    (pss_one (ps_ret (pe_and (pe_chain3 op_le op_le op_lt pe_int (pv 0) (pv 1) (pe_glob rfl mL (v := .int 1000000000000000000000000000000) ⟨_, rfl⟩))
      (pe_one (pe_cmpR op_eq (pe_callBfun cr_gcd (by rfl) X.gcd (pa_cons (pv 0) (pa_cons (pv 1) pa_nil))) pe_int (nomark _)))))), ?_⟩
  refine ⟨_, rfl, u, t, rfl, hu, _, rfl, ite2 (fun c => ?_) (fun c => ?_)⟩
  · have c : isNum t = false := by simpa using c
    rw [low_not (.inl c)] at q
    exact q
  · have c : isNum t = true := by simpa using c
    refine ⟨_, rfl, v, l, rfl, hv, _, rfl, ite2 (fun c2 => ?_) (fun c2 => ?_)⟩
    · have c2 : isNum l = false := by simpa using c2
      rw [low_not (.inr c2)] at q
      exact q
    · have c2 : isNum l = true := by simpa using c2
      obtain ⟨i, rfl⟩ : ∃ i, t = .int i := by cases t <;> first | exact ⟨_, rfl⟩ | cases c
      obtain ⟨j, rfl⟩ : ∃ i, l = .int i := by cases l <;> first | exact ⟨_, rfl⟩ | cases c2
      cases hu
      cases hv
      have e : FI.lowB (.int i) (.int j) = (decide (1 ≤ i) && decide (i ≤ j) && decide (j < FI.lim30) && decide (Nat.gcd i.natAbs j.natAbs = 1)) := by
        unfold FI.lowB
        rfl
      rw [e] at q
      refine ⟨_, rfl, _, _, rfl, rfl, _, rfl, ?_⟩
      refine ite2 (fun c3 => ?_) (fun c3 => ?_)
      · rw [c3] at q
        refine ⟨_, rfl, _, _, rfl, rfl, _, rfl, ite2 (fun c4 => ?_) (fun c4 => ?_)⟩
        · rw [c4] at q
          refine ⟨_, _, rfl, rfl, _, rfl, ite2 (fun c5 => ?_) (fun c5 => ?_)⟩
          · rw [show decide (j < FI.lim30) = true from c5] at q
            refine ⟨_, rfl, _, rfl, i, j, rfl, rfl, ?_⟩
            have e2 : decide (V.int ((Nat.gcd i.natAbs j.natAbs : Nat) : Int) = V.int 1) = decide (Nat.gcd i.natAbs j.natAbs = 1) := by
              rw [eqI_val]
              by_cases z : Nat.gcd i.natAbs j.natAbs = 1
              · rw [decide_eq_true z, decide_eq_true (by omega)]
              · rw [decide_eq_false z, decide_eq_false (by omega)]
            rw [e2]
            exact q
          · rw [show decide (j < FI.lim30) = false from Bool.eq_false_iff.mpr c5] at q
            exact q
        · rw [Bool.eq_false_iff.mpr c4] at q
          exact ⟨_, rfl, q⟩
      · rw [Bool.eq_false_iff.mpr c3] at q
        exact ⟨_, rfl, q⟩
end
end M4
end
section
set_option Elab.async false
set_option linter.all false
set_option maxRecDepth 100000
set_option maxHeartbeats 4000000
namespace M4
open PySem PySem.Spec PyProof.Rows L2 GE MS
theorem lim_pow : FI.lim30 < 2 ^ 128 := by decide
section
variable {P : Program} {w : World} {K : PySem.W.Frag} {mg : Str → Option Value} {base : Heap} {f fF fB fN fL fR fA fW : Addr} {fd dF dB dN dL dR dA dW : FuncData}
/-! ### add_up_to_one -/
structure AUx (P : Program) (w : World) (K : PySem.W.Frag) (mg : Str → Option Value) (base : Heap) (fW : Addr) (dW : FuncData) : Prop where
  OW : FnOk P w K mg base CX0 2 fW dW ["top", "low"] (spLow K)
  gW : mg "is_lowest" = some (.ref fW)
  kW : PySem.W.keepIn K (.ref fW) = true
  bW : Binds K dW ["top", "low"] []
def spAdd (K : PySem.W.Frag) : Sp := fun vs H Q _ => ∃ (a : Addr) (us : List V) (ps : List (PyData × PyData)), vs = [.ref a] ∧ SqL K H a us ∧ DtAll K H us (ps.map fun p => .tuple [p.1, p.2]) ∧ ps.length ≤ sizeLine ∧ ∀ H', Gr H H' → Q (.bl (FI.addUp ps)) H'
abbrev kAdd : List Str := ["chances", "whole", "top", "low"]
theorem sc_add : FnScope kAdd ["chances"] (defScope s_add_up_to_one) := ⟨rfl, rfl, rfl, by decide +kernel, rfl, by decide +kernel, by decide +kernel⟩
theorem ok_add (X : CHx P w K mg base fN dN) (Y : AUx P w K mg base fW dW) (F : Fun K "add_up_to_one" "add_up_to_one" s_add_up_to_one f fd) : FnOk P w K mg base CX0 3 f fd ["chances"] (spAdd K) := by
  obtain ⟨tL, mL⟩ := X.mL
  refine F.ok sc_add (fun vs H Q E h => ?_) (fun cdv A outer s0 H vs Q E hr h => ?_)
  · obtain ⟨a, us, ps, rfl, _⟩ := h
    rfl
  obtain ⟨a, us, ps, rfl, hS, hA, hl, q⟩ := h
  have nd := sc_add.nd
  have lp := lim_pow
  refine ⟨_, pss_cons (ps_set (i := 1) nd rfl (.inr rfl) pe_int)
    (pss_cons (ps_for PassesOwn.never rfl (pi_list (pv 0)) (pg_tup rfl (pgs_cons (pg_name (i := 2) nd rfl (Or.inl rfl)) (pgs_cons (pg_name (i := 3) nd rfl (Or.inl rfl)) pgs_nil)))
      (pss_cons (ps_if (pt_not (pt_val (pe_call Y.OW hr rfl Y.gW Y.kW Y.bW .nil pass0 (pa_cons (pv 2) (pa_cons (pv 3) pa_nil))))) (pss_one (ps_ret pe_bl)) pss_nil)
      (pss_cons (ps_set (i := 1) nd rfl (.inr rfl) (pe_callBfun cr_lcm (by rfl) X.lcm (pa_cons (pv 1) (pa_cons (pv 3) pa_nil))))
      (pss_one (ps_if (pt_cmpR op_ge (pv 1) (pe_glob rfl mL (v := .int 1000000000000000000000000000000) ⟨_, rfl⟩) (nomark _)) (pss_one (ps_ret pe_bl)) pss_nil)))))
    (pss_one (ps_ret (pe_cmpR op_eq (pe_callB (cr_sum rfl) (by rfl) X.B.sum (by decide +kernel) (pa_cons
      (pe_lc (own := [("top", 2), ("low", 3)]) (g := gTup K 2 (gCons (gName 2) (gCons (gName 3) gNil))) (tt := tYes) rfl nd (pi_list (pv 0)) (blkOk_by (own := [("top", 2), ("low", 3)]) (N := kAdd) (sc := defScope s_add_up_to_one) (by decide +kernel))
        (fun _ _ _ _ _ => pg_tup rfl (pgs_cons (pg_name (i := 2) nd rfl (Or.inl rfl)) (pgs_cons (pg_name (i := 3) nd rfl (Or.inl rfl)) pgs_nil))) (fun _ _ _ _ _ => pts_nil)
        (fun _ _ _ _ _ => pe_op op_mulW (pv 2) (pe_op op_fdivW (pv 1) (pv 3)))) pa_nil)) (pv 1) (nomark _))))), ?_⟩
  refine ⟨_, rfl, a, rfl, ⟨_, hS⟩, for_list (xs := us) (fun i σ H1 => ∃ (m : Nat) (o1 o2 : Option V), σ = [some (.ref a), some (.int (m : Int)), o1, o2] ∧ Gr H H1 ∧ FI.addGo 1 ps = FI.addGo m (ps.drop i) ∧ ((m : Int) < FI.lim30) ∧ 1 ≤ m)
    ⟨1, none, none, rfl, Gx.refl, rfl, by decide, by decide⟩ (fun i σ H1 _ p => SqL.ofGr p.choose_spec.choose_spec.choose_spec.2.1 hS) (fun i x σ H1 hx p => ?_) fun σ H1 p => ?_⟩
  · obtain ⟨m, o1, o2, rfl, g1, e1, hm, hm1⟩ := p
    obtain ⟨d, hdd, hxd⟩ := hA.of_get hx
    rw [List.getElem?_map] at hdd
    obtain ⟨⟨t, l⟩, hp, rfl⟩ := Option.map_eq_some_iff.mp hdd
    have hi : i < ps.length := (List.getElem?_eq_some_iff.mp hp).1
    have d1 : ps.drop i = (t, l) :: ps.drop (i + 1) := by
      rw [List.drop_eq_getElem_cons hi]
      congr 1
      exact (List.getElem?_eq_some_iff.mp hp).2
    rw [d1, FI.addGo] at e1
    have hxd := hxd.gr g1
    cases hxd with
    | @tup ad xs _ hsq hal =>
      obtain _ | ⟨h1, h2⟩ := hal
      obtain _ | ⟨h3, h4⟩ := h2
      cases h4
      refine ⟨ad, _, rfl, hsq, rfl, _, _, rfl, _, _, rfl, rfl, _, rfl, _, rfl, _, _, t, l, rfl, h1, h3, _, rfl, ite2 (fun c => ?_) (fun c => ?_)⟩
      · have c : FI.lowB t l = false := by simpa using c
        rw [c, if_neg (by decide)] at e1
        have q1 := q H1 g1
        have e2 : FI.addUp ps = false := by unfold FI.addUp; rw [e1]
        rw [e2] at q1
        exact q1
      · have c : FI.lowB t l = true := by simpa using c
        rw [if_pos c] at e1
        obtain ⟨i', j, rfl, rfl, k1, k2, k3, k4⟩ := FI.lowB_iff.mp c
        cases h1
        cases h3
        have hj : j.natAbs < 2 ^ 128 := by omega
        have hmn : ((m : Int)).natAbs < 2 ^ 128 := by omega
        refine ⟨_, rfl, _, rfl, (m : Int), j, rfl, hmn, hj, ?_⟩
        rw [Int.natAbs_natCast]
        have e1 : FI.addGo 1 ps = if ((Nat.lcm m j.natAbs : Nat) : Int) < FI.lim30 then FI.addGo (Nat.lcm m j.natAbs) (ps.drop (i + 1)) else none := e1
        have pos : 1 ≤ Nat.lcm m j.natAbs := Nat.lcm_pos (by omega) (by omega)
        refine ⟨_, rfl, _, _, rfl, rfl, _, rfl, ite2 (fun c2 => ?_) (fun c2 => ?_)⟩
        · have c2 : ¬ ((Nat.lcm m j.natAbs : Nat) : Int) < FI.lim30 := by
            have := of_decide_eq_true c2
            exact Int.not_lt.mpr this
          rw [if_neg c2] at e1
          have q1 := q H1 g1
          have e2 : FI.addUp ps = false := by unfold FI.addUp; rw [e1]
          rw [e2] at q1
          exact q1
        · have c2 : ((Nat.lcm m j.natAbs : Nat) : Int) < FI.lim30 := by
            have := of_decide_eq_false (Bool.eq_false_iff.mpr c2)
            exact Int.not_le.mp this
          rw [if_pos c2] at e1
          exact ⟨_, _, _, rfl, g1, e1, c2, pos⟩
  · obtain ⟨m, o1, o2, rfl, g1, e1, hm, hm1⟩ := p
    have el : us.length = ps.length := by rw [hA.length, List.length_map]
    rw [List.drop_eq_nil_of_le (by omega)] at e1
    have e1 : FI.addGo 1 ps = some m := e1
    have low := FI.addGo_low e1
    have e2 : FI.addUp ps = decide ((ps.map fun c => FI.intOf c.1 * ((m : Int) / FI.intOf c.2)).sum = (m : Int)) := by
      unfold FI.addUp
      rw [e1]
    refine ⟨_, rfl, a, rfl, ⟨_, SqL.ofGr g1 hS⟩, fun D hD => lcL_pair (f := fun c => .int (FI.intOf c.1 * ((m : Int) / FI.intOf c.2))) (SqL.ofGr g1 hS) (hA.gr g1) hl hD (fun _ _ => rfl) (fun i u v p H' hp g hu hv R hR => ?_) fun H2 ys g2 e3 a3 => ?_⟩
    · obtain ⟨i', j, ei, ej, k1, k2, k3, k4⟩ := FI.lowB_iff.mp (low p (List.mem_of_getElem? hp))
      have hd : ∀ R : VK, (∀ y H4, Gr H' H4 → Dt K H4 y (.int (FI.intOf p.1 * ((m : Int) / FI.intOf p.2))) → R y H4) → R (.int (i' * ((m : Int) / j))) H' := fun R hR => by
        refine hR _ _ Gx.refl ?_
        rw [ei, ej]
        exact .int _
      rw [ei] at hu
      rw [ej] at hv
      cases hu
      cases hv
      have hj : j.natAbs < 2 ^ 128 := by omega
      have hmn : ((m : Int)).natAbs < 2 ^ 128 := by omega
      have hq0 : 0 ≤ (m : Int) / j := Int.ediv_nonneg (by omega) (by omega)
      have hq : ((m : Int) / j).natAbs < 2 ^ 128 := by
        have : (m : Int) / j ≤ m := Int.ediv_le_self _ (by omega)
        omega
      refine ⟨_, rfl, _, rfl, _, rfl, _, _, rfl, rfl, wide_div (by omega) hj (by decide) (by decide), _, _, rfl, rfl, wide_mul (show i'.natAbs < 2 ^ 128 by omega) hq (by decide) (by decide) (by decide), hd R hR⟩
    · have e4 := dt_ints (ns := ps.map fun c => FI.intOf c.1 * ((m : Int) / FI.intOf c.2)) (by rw [List.map_map]; exact a3)
      rw [e4] at e3
      have q1 := q H2 (g1.trans g2)
      rw [e2, ← eqI_val] at q1
      exact ⟨D, _, rfl, SqL.of e3, _, rfl, rfl, q1⟩
/-! ### is_chance -/
abbrev kCha : List Str := ["shape", "states", "rows", "row"]
structure ICx (P : Program) (w : World) (K : PySem.W.Frag) (mg : Str → Option Value) (base : Heap) (fA : Addr) (dA : FuncData) : Prop where
  OA : FnOk P w K mg base CX0 3 fA dA ["chances"] (spAdd K)
  gA : mg "add_up_to_one" = some (.ref fA)
  kA : PySem.W.keepIn K (.ref fA) = true
  bA : Binds K dA ["chances"] []
theorem sc_is_chance : FnScope kCha ["shape", "states", "rows"] (defScope s_is_chance) := ⟨rfl, rfl, rfl, by decide +kernel, rfl, by decide +kernel, by decide +kernel⟩
theorem cut_tail (x y z : V) : cutV [x, y, z] (some 1) none = [y, z] := by
  unfold cutV
  have e1 : HT.sIx [x, y, z].length 0 (some 1) = 1 := by
    have : (1 : Int) = ((1 : Nat) : Int) := rfl
    rw [this, HT.sIx_nat]
    rfl
  rw [e1, HT.sIx_none]
  rfl
theorem ok_is_chance {n j : Nat} (hj : 3 ≤ j) (X : BTx P w K mg base n j fN fL fR dN dL dR) (Y : ICx P w K mg base fA dA) (F : Fun K "is_chance" "is_chance" s_is_chance f fd) : FnOk P w K mg base CX0 (j + 1) f fd ["shape", "states", "rows"] (spBag K n FI.chanceB) := by
  refine F.ok sc_is_chance (fun vs H Q E h => ?_) (fun cdv A outer s0 H vs Q E hr h => ?_)
  · obtain ⟨v, a, k, s, ds, rfl, _⟩ := h
    rfl
  obtain ⟨v, a, k, s, ds, rfl, hd, hw, hn, hda, hF, q⟩ := h
  have nd := sc_is_chance.nd
  have hr1 : Room 1 (A.deeper (envOfC "is_chance" (defScope s_is_chance) s0.heap.objs.size f cdv)) := hr.mono (by omega)
  refine ⟨_, pss_cons (ps_if (PW.pt (pw_or (pt_not (pt_val (pe_call X.OL hr1 rfl X.gL X.kL X.bL .nil pass0 (pa_cons (pv 2) (pa_cons pe_int pa_nil))))) (pw_or1 (pt_not (pt_val (pe_call Y.OA (hr.mono hj) rfl Y.gA Y.kA Y.bA .nil pass0 (pa_cons
        (pe_lc (own := [("row", 3)]) (g := gName 3) (tt := tYes) rfl nd (pi_tup (pv 2)) (blkOk_by (own := [("row", 3)]) (N := kCha) (sc := defScope s_is_chance) (by decide +kernel))
          (fun _ _ _ _ _ => pg_name (i := 3) nd rfl (Or.inl rfl)) (fun _ _ _ _ _ => pts_nil) (fun _ _ _ _ _ => pe_slice (slAK (K := K) rfl) (pv 3) (po_some pe_int) po_none)) pa_nil))))))) (pss_one (ps_ret pe_bl)) pss_nil)
    (pss_one (ps_ret (pe_call X.OR hr rfl X.gR X.kR X.bR .nil pass0 (pa_cons (pv 0) (pa_cons (pv 1) (pa_cons
      (pe_lc (own := [("row", 3)]) (g := gName 3) (tt := tYes) rfl nd (pi_tup (pv 2)) (blkOk_by (own := [("row", 3)]) (N := kCha) (sc := defScope s_is_chance) (by decide +kernel))
          (fun _ _ _ _ _ => pg_name (i := 3) nd rfl (Or.inl rfl)) (fun _ _ _ _ _ => pts_nil)
          (fun _ _ _ _ _ => pe_ix (ixTK (K := K) rfl) (pv 3) pe_int (fun _ _ => rfl))) pa_nil)))))), ?_⟩
  cases hda with
  | @tup _ us _ hs ha =>
    refine ⟨_, rfl, a, 3, us, ds, rfl, hs, ha, hF.lenS, fun H1 g1 => ⟨_, rfl, ite2 (fun c => ?_) (fun c => ?_)⟩⟩
    · have c : ds.all (FI.longB 3) = false := by simpa using c
      have q1 := q H1 g1
      have e : FI.chanceB (FI.fitsB k s) ds = false := by unfold FI.chanceB; rw [c]; rfl
      rw [e] at q1
      exact q1
    · have c : ds.all (FI.longB 3) = true := by simpa using c
      have hs1 := SqT.gx NoT.none g1 hs
      have eB : FI.chanceB (FI.fitsB k s) ds = (FI.addUp (ds.map fun r => (FI.itemD 1 r, FI.itemD 2 r)) && FI.riseB (FI.fitsB k s) none (ds.map (FI.itemD 0))) := by
        unfold FI.chanceB
        rw [c, Bool.true_and]
      rw [eB] at q
      refine ⟨_, rfl, a, rfl, ⟨_, hs1⟩, fun D hD => lcT_data (f := fun r => .tuple [FI.itemD 1 r, FI.itemD 2 r]) hs1 (ha.gr g1) hF.lenS hD (fun _ => rfl) (fun i u d H' _ hdd g hu R hR => ?_) fun H2 ys g2 e2 a2 => ?_⟩
      · obtain ⟨es, rfl, el⟩ := FI.longB_iff.mp (List.all_eq_true.mp c d (List.mem_of_getElem? hdd))
        obtain ⟨x, y, z, rfl⟩ := FI.three_of el
        cases hu with
        | @tup b xs _ hb hal =>
          obtain _ | ⟨h1, h2⟩ := hal
          obtain _ | ⟨h3, h4⟩ := h2
          obtain _ | ⟨h5, h6⟩ := h4
          cases h6
          refine ⟨_, rfl, _, rfl, ?_⟩
          unfold tNoPart
          refine ⟨b, _, rfl, hb, fun z => ?_, fun _ p hp => ?_⟩
          · exfalso
            have z1 := z.1
            have : (1 : Int) = ((1 : Nat) : Int) := rfl
            rw [this, HT.sIx_nat] at z1
            simp at z1
          · rw [cut_tail]
            exact hR _ _ (Gx.new hp) (.tup (SqT.of upd_same) (DtAll.gr (Gx.new hp) (.cons h3 (.cons h5 .nil))))
      · have g2 : Gr H H2 := g1.trans g2
        refine ⟨D, ys, ds.map (fun r => (FI.itemD 1 r, FI.itemD 2 r)), rfl, SqL.of e2, by rw [List.map_map]; exact a2, by rw [List.length_map]; exact hF.lenS, fun H3 g3 => ⟨_, rfl, ite2 (fun c2 => ?_) (fun c2 => ?_)⟩⟩
        · have c2 : FI.addUp (ds.map fun r => (FI.itemD 1 r, FI.itemD 2 r)) = false := by simpa using c2
          rw [c2, Bool.false_and] at q
          exact q H3 (g2.trans g3)
        · have c2 : FI.addUp (ds.map fun r => (FI.itemD 1 r, FI.itemD 2 r)) = true := by simpa using c2
          rw [c2, Bool.true_and] at q
          have g3 : Gr H H3 := g2.trans g3
          have hs3 := SqT.gx NoT.none g3 hs
          refine ⟨_, rfl, _, rfl, _, rfl, a, rfl, ⟨_, hs3⟩, fun D3 hD3 => lcT_data (f := FI.itemD 0) hs3 (ha.gr g3) hF.lenS hD3 (fun _ => rfl) (fun i u d H' _ hdd g hu R hR => ?_) fun H4 zs g4 e4 a4 => ?_⟩
          · obtain ⟨b, xs, y, rfl, hb, hat, hy, _⟩ := dt_itemD (i := 0) hu (List.all_eq_true.mp c d (List.mem_of_getElem? hdd)) (by decide)
            exact ⟨_, rfl, b, _, _, _, rfl, rfl, hb, hat, hR _ _ Gx.refl hy⟩
          · have g4 : Gr H H4 := g3.trans g4
            refine ⟨v, D3, k, s, zs, ds.map (FI.itemD 0), rfl, hd.gr g4, hw, hn, .inl (SqL.of e4), a4, fun d hd => ?_, fun H5 g5 => q H5 (g4.trans g5)⟩
            obtain ⟨r, hr, rfl⟩ := List.mem_map.mp hd
            exact fine_itemD hF c (by decide) r hr
end
end M4
end
section
set_option Elab.async false
set_option linter.all false
set_option maxRecDepth 100000
set_option maxHeartbeats 4000000
namespace M4
open PySem PySem.Spec PyProof.Rows L2 GE MS
section
variable {P : Program} {w : World} {K : PySem.W.Frag} {mg : Str → Option Value} {base : Heap} {f fF fB fN fL fR fA fW fH fG fC : Addr} {fd dF dB dN dL dR dA dW dH dG dC : FuncData}
/-- what fits leans on: the tests at one level less -/
structure FAx (P : Program) (w : World) (K : PySem.W.Frag) (mg : Str → Option Value) (base : Heap) (n j : Nat) (fB fA fH fR fG fC : Addr) (dB dA dH dR dG dC : FuncData) : Prop where
  B : Blt mg
  OB : FnOk P w K mg base CX0 2 fB dB ["x", "end"] (spNumBelow K)
  gB : mg "is_number_below" = some (.ref fB)
  kB : PySem.W.keepIn K (.ref fB) = true
  bB : Binds K dB ["x", "end"] []
  OA : FnOk P w K mg base CX0 j fA dA ["shapes", "states", "xs"] (spAll K n)
  gA : mg "all_fit" = some (.ref fA)
  kA : PySem.W.keepIn K (.ref fA) = true
  bA : Binds K dA ["shapes", "states", "xs"] []
  OH : FnOk P w K mg base CX0 j fH dH ["shapes", "states", "x"] (spChoice K n)
  gH : mg "is_choice" = some (.ref fH)
  kH : PySem.W.keepIn K (.ref fH) = true
  bH : Binds K dH ["shapes", "states", "x"] []
  OR : FnOk P w K mg base CX0 j fR dR ["shape", "states", "xs"] (spRise K n)
  gR : mg "all_rise" = some (.ref fR)
  kR : PySem.W.keepIn K (.ref fR) = true
  bR : Binds K dR ["shape", "states", "xs"] []
  OG : FnOk P w K mg base CX0 (j + 1) fG dG ["shape", "states", "rows"] (spBag K n FI.bagB)
  gG : mg "is_bag" = some (.ref fG)
  kG : PySem.W.keepIn K (.ref fG) = true
  bG : Binds K dG ["shape", "states", "rows"] []
  OC : FnOk P w K mg base CX0 (j + 1) fC dC ["shape", "states", "rows"] (spBag K n FI.chanceB)
  gC : mg "is_chance" = some (.ref fC)
  kC : PySem.W.keepIn K (.ref fC) = true
  bC : Binds K dC ["shape", "states", "rows"] []
abbrev kFit : List Str := ["shape", "states", "x", "kind"]
theorem sc_fits : FnScope kFit ["shape", "states", "x"] (defScope s_fits) := ⟨rfl, rfl, rfl, by decide +kernel, rfl, by decide +kernel, by decide +kernel⟩
theorem ok_fits {n j : Nat} (hj : 2 ≤ j) (X : FAx P w K mg base n j fB fA fH fR fG fC dB dA dH dR dG dC) (F : Fun K "fits" "fits" s_fits f fd) : FnOk P w K mg base CX0 (j + 2) f fd ["shape", "states", "x"] (spFit K (n + 1)) := by
  refine F.ok sc_fits (fun vs H Q E h => ?_) (fun cdv A outer s0 H vs Q E hr h => ?_)
  · obtain ⟨v, u, k, s, d, rfl, _⟩ := h
    rfl
  obtain ⟨v, u, k, s, d, rfl, hd, hw, hn, hu, hF, q⟩ := h
  have nd := sc_fits.nd
  have hr2 : Room 2 (A.deeper (envOfC "fits" (defScope s_fits) s0.heap.objs.size f cdv)) := hr.mono (by omega)
  have hrj : Room j (A.deeper (envOfC "fits" (defScope s_fits) s0.heap.objs.size f cdv)) := hr.mono (by omega)
  refine ⟨_, pss_cons (ps_set (i := 3) nd rfl (.inl rfl) (pe_ix ix_tup (pv 0) pe_int (fun _ _ => rfl)))
    (pss_cons (ps_if (pt_cmpR op_eq (pv 3) pe_str (nomark _)) (pss_one (ps_ret (pe_call X.OB hr2 rfl X.gB X.kB X.bB .nil pass0 (pa_cons (pv 2) (pa_cons (pe_ix ix_tup (pv 0) pe_int (fun _ _ => rfl)) pa_nil))))) pss_nil)
    (pss_cons (ps_if (pt_cmpR op_eq (pv 3) pe_str (nomark _)) (pss_one (ps_ret (pe_call X.OB hr2 rfl X.gB X.kB X.bB .nil pass0 (pa_cons (pv 2) (pa_cons (pv 1) pa_nil))))) pss_nil)
    (pss_cons (ps_if (pt_not (pt_val (pe_callB call_isi (by rfl) X.B.isi (by decide +kernel) (pa_cons (pv 2) (pa_cons (pe_bltn (by rfl) X.B.tuple (by decide +kernel) (v := .ty "tuple") rfl) pa_nil))))) (pss_one (ps_ret pe_bl)) pss_nil)
    (pss_cons (ps_if (pt_cmpR op_eq (pv 3) pe_str (nomark _)) (pss_one (ps_ret (pe_call X.OA hrj rfl X.gA X.kA X.bA .nil pass0 (pa_cons (pe_ix ix_tup (pv 0) pe_int (fun _ _ => rfl)) (pa_cons (pv 1) (pa_cons (pv 2) pa_nil)))))) pss_nil)
    (pss_cons (ps_if (pt_cmpR op_eq (pv 3) pe_str (nomark _)) (pss_one (ps_ret (pe_call X.OH hrj rfl X.gH X.kH X.bH .nil pass0 (pa_cons (pe_ix ix_tup (pv 0) pe_int (fun _ _ => rfl)) (pa_cons (pv 1) (pa_cons (pv 2) pa_nil)))))) pss_nil)
    (pss_cons (ps_if (pt_cmpR op_eq (pv 3) pe_str (nomark _)) (pss_one (ps_ret (pe_call X.OA hrj rfl X.gA X.kA X.bA .nil pass0 (pa_cons (pe_op op_rep (pe_lst (pa_cons (pe_ix ix_tup (pv 0) pe_int (fun _ _ => rfl)) pa_nil)) (pe_ix ix_tup (pv 0) pe_int (fun _ _ => rfl))) (pa_cons (pv 1) (pa_cons (pv 2) pa_nil)))))) pss_nil)
    (pss_cons (ps_if (pt_cmpR op_eq (pv 3) pe_str (nomark _)) (pss_one (ps_ret (pe_call X.OR hrj rfl X.gR X.kR X.bR .nil pass0 (pa_cons (pe_ix ix_tup (pv 0) pe_int (fun _ _ => rfl)) (pa_cons (pv 1) (pa_cons (pv 2) pa_nil)))))) pss_nil)
    (pss_cons (ps_if (pt_cmpR op_eq (pv 3) pe_str (nomark _)) (pss_one (ps_ret (pe_call X.OG hr rfl X.gG X.kG X.bG .nil pass0 (pa_cons (pe_ix ix_tup (pv 0) pe_int (fun _ _ => rfl)) (pa_cons (pv 1) (pa_cons (pv 2) pa_nil)))))) pss_nil)
    (pss_one (ps_ret (pe_call X.OC hr rfl X.gC X.kC X.bC .nil pass0 (pa_cons (pe_ix ix_tup (pv 0) pe_int (fun _ _ => rfl)) (pa_cons (pv 1) (pa_cons (pv 2) pa_nil)))))))))))))), ?_⟩
  have notT : ∀ (x : Str) (a : Addr) (xs : List V) (t : TS) (D : Ends) (H1 : Hp), (isTupD d = false → D.rt (.bl false) H) → (∀ (b : Addr) (us : List V) (ds : List PyData), u = .ref b → d = .tuple ds → SqT K H b us → DtAll K H us ds → t D [some v, some (.int (k : Int)), some u, some (.str x)] H) →
      tSeq (tIfS (tNot (tTest (tCB (rIsi K) (tCons (tVar 2) (tCons (tC (.ty "tuple")) tNil))))) (tRet (tC (.bl false))) tNext) t D [some v, some (.int (k : Int)), some u, some (.str x)] H := by
    intro x a xs t D H1 h1 h2
    refine ⟨_, rfl, _, _, _, _, _, rfl, .ty _, hu.ty, kit_tuple hu, _, rfl, ite2 (fun c => h1 (by simpa using c)) (fun c => ?_)⟩
    have c : isTupD d = true := by simpa using c
    cases hu with
    | @tup b us ds hs ha => exact h2 b us ds rfl rfl hs ha
    | _ => cases c
  cases s with
  | letters i =>
    have e : FI.fitsB k (.letters i) d = FI.numBelow d i := by rw [FI.fitsB]
    rw [e, ← nb_eq] at q
    cases hd with | @tup a ys _ hs ha => cases ha with | cons h1 h2 => cases h1; cases h2 with | cons h3 h4 => cases h4; cases h3; exact ⟨_, rfl, a, _, _, _, rfl, rfl, hs, atI_nat (j := 0) rfl, _, rfl, rfl, _, rfl, ifT (by decide +kernel) ⟨_, rfl, _, rfl, a, _, _, _, rfl, rfl, hs, atI_nat (j := 1) rfl, u, d, _, rfl, hu, q H Gx.refl⟩⟩
  | self =>
    have e : FI.fitsB k .self d = FI.numBelow d k := by rw [FI.fitsB]
    rw [e, ← nb_eq] at q
    cases hd with | @tup a ys _ hs ha => cases ha with | cons h1 h2 => cases h1; cases h2; exact ⟨_, rfl, a, _, _, _, rfl, rfl, hs, atI_nat (j := 0) rfl, _, rfl, rfl, _, rfl, ifF (by decide +kernel) ⟨_, rfl, rfl, _, rfl, ifT (by decide +kernel) ⟨_, rfl, _, rfl, u, d, _, rfl, hu, q H Gx.refl⟩⟩⟩
  | both xs =>
    obtain ⟨a, v2, rfl, hs, h3⟩ := dt2 hd
    have no : isTupD d = false → FI.fitsB k (.both xs) d = false := fun h => by cases d <;> first | (cases h; done) | simp [FI.fitsB]
    refine ⟨_, rfl, a, _, _, _, rfl, rfl, hs, atI_nat (j := 0) rfl, ?_⟩
    refine ⟨_, rfl, rfl, _, rfl, ifF (by decide +kernel) ⟨_, rfl, rfl, _, rfl, ifF (by decide +kernel) ?_⟩⟩
    refine notT "both" a [] _ _ H (fun c => ?_) fun b us ds eu ed hsb hab => ?_
    · have q1 := q H Gx.refl
      rw [no c] at q1
      exact q1
    · subst eu ed
      have e : FI.fitsB k (.both xs) (.tuple ds) = FI.allFitB k xs ds := by rw [FI.fitsB]
      rw [e] at q
      cases h3 with
      | @tup a2 ys _ hs2 ha2 =>
        exact ⟨_, rfl, rfl, _, rfl, ifT (by decide +kernel) ⟨_, rfl, a, _, _, _, rfl, rfl, hs, atI_nat (j := 1) rfl, _, rfl, _, rfl, a2, b, k, true, ys, xs, ds, rfl, hs2, ha2, hw.2.2, by omega, .tup hsb hab, hF, q⟩⟩
  | either xs =>
    obtain ⟨a, v2, rfl, hs, h3⟩ := dt2 hd
    have no : isTupD d = false → FI.fitsB k (.either xs) d = false := fun h => by cases d <;> first | (cases h; done) | simp [FI.fitsB]
    refine ⟨_, rfl, a, _, _, _, rfl, rfl, hs, atI_nat (j := 0) rfl, ?_⟩
    refine ⟨_, rfl, rfl, _, rfl, ifF (by decide +kernel) ⟨_, rfl, rfl, _, rfl, ifF (by decide +kernel) ?_⟩⟩
    refine notT "either" a [] _ _ H (fun c => ?_) fun b us ds eu ed hsb hab => ?_
    · have q1 := q H Gx.refl
      rw [no c] at q1
      exact q1
    · subst eu ed
      exact ⟨_, rfl, rfl, _, rfl, ifF (by decide +kernel) ⟨_, rfl, rfl, _, rfl, ifT (by decide +kernel) ⟨_, rfl, a, _, _, _, rfl, rfl, hs, atI_nat (j := 1) rfl, _, rfl, _, rfl, v2, _, k, xs, ds, rfl, h3, hw.2.2, by omega, .tup hsb hab, hF, q⟩⟩⟩
  | after i s =>
    obtain ⟨a, v2, rfl, hs, h3⟩ := dt3 hd
    have no : isTupD d = false → FI.fitsB k (.after i s) d = false := fun h => by cases d <;> first | (cases h; done) | simp [FI.fitsB]
    refine ⟨_, rfl, a, _, _, _, rfl, rfl, hs, atI_nat (j := 0) rfl, ?_⟩
    refine ⟨_, rfl, rfl, _, rfl, ifF (by decide +kernel) ⟨_, rfl, rfl, _, rfl, ifF (by decide +kernel) ?_⟩⟩
    refine notT "after" a [] _ _ H (fun c => ?_) fun b us ds eu ed hsb hab => ?_
    · have q1 := q H Gx.refl
      rw [no c] at q1
      exact q1
    · subst eu ed
      have e : FI.fitsB k (.after i s) (.tuple ds) = FI.allFitB k (List.replicate i s) ds := by rw [FI.all_replicate, FI.fitsB]
      rw [e] at q
      have hi4 : i ≤ 4 := hw.1
      refine ⟨_, rfl, rfl, _, rfl, ifF (by decide +kernel) ⟨_, rfl, rfl, _, rfl, ifF (by decide +kernel) ⟨_, rfl, rfl, _, rfl, ifT (by decide +kernel) ?_⟩⟩⟩
      refine ⟨_, rfl, a, _, _, _, rfl, rfl, hs, atI_nat (j := 2) rfl, by rw [sizeLine_eq]; exact (show 1 ≤ 16777216 by decide), fun L hL => ?_⟩
      have g1 : Gr H (upd H L (.lst [v2])) := Gx.new hL
      refine ⟨_, rfl, a, _, _, _, rfl, rfl, SqT.gx NoT.none g1 hs, atI_nat (j := 1) rfl, L, (i : Int), _, rfl, rfl, upd_same, by omega, by omega, ?_, fun p hp => ?_⟩
      · show 1 * ((i : Int)).toNat ≤ sizeLine
        rw [sizeLine_eq]; omega
      · have g2 := g1.then (o := .lst (List.replicate ((i : Int)).toNat [v2]).flatten) hp
        have e2 : (List.replicate ((i : Int)).toNat [v2]).flatten = List.replicate i v2 := by rw [Int.toNat_natCast]; exact flat_one _ _
        refine ⟨_, rfl, _, rfl, p, b, k, false, List.replicate i v2, List.replicate i s, ds, rfl, ?_, ?_, fun y hy => by rw [List.eq_of_mem_replicate hy]; exact hw.2, by omega, (Dt.tup hsb hab).gr g2, hF, fun H' g => q H' (g2.trans g)⟩
        · rw [← e2]
          exact SqL.of upd_same
        · rw [Sh.datas_map, List.map_replicate]
          have : ∀ m, DtAll K (upd (upd H L (.lst [v2])) p (.lst (List.replicate ((i : Int)).toNat [v2]).flatten)) (List.replicate m v2) (List.replicate m (Sh.data s)) := fun m => by
            induction m with
            | zero => exact .nil
            | succ m ih => exact .cons (h3.gr g2) ih
          exact this i
  | some s =>
    obtain ⟨a, v2, rfl, hs, h3⟩ := dt2 hd
    have no : isTupD d = false → FI.fitsB k (.some s) d = false := fun h => by cases d <;> first | (cases h; done) | simp [FI.fitsB]
    refine ⟨_, rfl, a, _, _, _, rfl, rfl, hs, atI_nat (j := 0) rfl, ?_⟩
    refine ⟨_, rfl, rfl, _, rfl, ifF (by decide +kernel) ⟨_, rfl, rfl, _, rfl, ifF (by decide +kernel) ?_⟩⟩
    refine notT "some" a [] _ _ H (fun c => ?_) fun b us ds eu ed hsb hab => ?_
    · have q1 := q H Gx.refl
      rw [no c] at q1
      exact q1
    · subst eu ed
      have e : FI.fitsB k (.some s) (.tuple ds) = FI.riseB (FI.fitsB k s) none ds := by rw [FI.fitsB]
      rw [e] at q
      exact ⟨_, rfl, rfl, _, rfl, ifF (by decide +kernel) ⟨_, rfl, rfl, _, rfl, ifF (by decide +kernel) ⟨_, rfl, rfl, _, rfl, ifF (by decide +kernel) ⟨_, rfl, rfl, _, rfl, ifT (by decide +kernel)
        ⟨_, rfl, a, _, _, _, rfl, rfl, hs, atI_nat (j := 1) rfl, _, rfl, _, rfl, v2, b, k, s, us, ds, rfl, h3, hw, by omega, .inr hsb, hab, fun x hx => hF.item hx, q⟩⟩⟩⟩⟩
  | many s =>
    obtain ⟨a, v2, rfl, hs, h3⟩ := dt2 hd
    have no : isTupD d = false → FI.fitsB k (.many s) d = false := fun h => by cases d <;> first | (cases h; done) | simp [FI.fitsB]
    refine ⟨_, rfl, a, _, _, _, rfl, rfl, hs, atI_nat (j := 0) rfl, ?_⟩
    refine ⟨_, rfl, rfl, _, rfl, ifF (by decide +kernel) ⟨_, rfl, rfl, _, rfl, ifF (by decide +kernel) ?_⟩⟩
    refine notT "many" a [] _ _ H (fun c => ?_) fun b us ds eu ed hsb hab => ?_
    · have q1 := q H Gx.refl
      rw [no c] at q1
      exact q1
    · subst eu ed
      have e : FI.fitsB k (.many s) (.tuple ds) = FI.bagB (FI.fitsB k s) ds := by rw [FI.fitsB]
      rw [e] at q
      exact ⟨_, rfl, rfl, _, rfl, ifF (by decide +kernel) ⟨_, rfl, rfl, _, rfl, ifF (by decide +kernel) ⟨_, rfl, rfl, _, rfl, ifF (by decide +kernel) ⟨_, rfl, rfl, _, rfl, ifF (by decide +kernel) ⟨_, rfl, rfl, _, rfl, ifT (by decide +kernel)
        ⟨_, rfl, a, _, _, _, rfl, rfl, hs, atI_nat (j := 1) rfl, _, rfl, _, rfl, v2, b, k, s, ds, rfl, h3, hw, by omega, .tup hsb hab, hF, q⟩⟩⟩⟩⟩⟩
  | chance s =>
    obtain ⟨a, v2, rfl, hs, h3⟩ := dt2 hd
    have no : isTupD d = false → FI.fitsB k (.chance s) d = false := fun h => by cases d <;> first | (cases h; done) | simp [FI.fitsB]
    refine ⟨_, rfl, a, _, _, _, rfl, rfl, hs, atI_nat (j := 0) rfl, ?_⟩
    refine ⟨_, rfl, rfl, _, rfl, ifF (by decide +kernel) ⟨_, rfl, rfl, _, rfl, ifF (by decide +kernel) ?_⟩⟩
    refine notT "chance" a [] _ _ H (fun c => ?_) fun b us ds eu ed hsb hab => ?_
    · have q1 := q H Gx.refl
      rw [no c] at q1
      exact q1
    · subst eu ed
      have e : FI.fitsB k (.chance s) (.tuple ds) = FI.chanceB (FI.fitsB k s) ds := by rw [FI.fitsB]
      rw [e] at q
      exact ⟨_, rfl, rfl, _, rfl, ifF (by decide +kernel) ⟨_, rfl, rfl, _, rfl, ifF (by decide +kernel) ⟨_, rfl, rfl, _, rfl, ifF (by decide +kernel) ⟨_, rfl, rfl, _, rfl, ifF (by decide +kernel) ⟨_, rfl, rfl, _, rfl, ifF (by decide +kernel)
        ⟨_, rfl, a, _, _, _, rfl, rfl, hs, atI_nat (j := 1) rfl, _, rfl, _, rfl, v2, b, k, s, ds, rfl, h3, hw, by omega, .tup hsb hab, hF, q⟩⟩⟩⟩⟩⟩
end
end M4
end
section
set_option Elab.async false
set_option linter.all false
set_option maxRecDepth 100000
set_option maxHeartbeats 4000000
namespace M4
open PySem PySem.Spec PyProof.Rows L2 GE MS
section
variable {P : Program} {w : World} {K : PySem.W.Frag} {mg : Str → Option Value} {base : Heap} {fF fN fB fA fH fR fG fC fL fW fU : Addr} {dF dN dB dA dH dR dG dC dL dW dU : FuncData}
/-- all that the test of a value is made of -/
structure VAx (P : Program) (w : World) (K : PySem.W.Frag) (mg : Str → Option Value) (base : Heap) (fF fN fB fA fH fR fG fC fL fW fU : Addr) (dF dN dB dA dH dR dG dC dL dW dU : FuncData) : Prop where
  B : Blt mg
  zip : mg "zip" = none
  mM : ∃ t, mg "MOST_IN_BAG" = some (.int 1000 t)
  mL : ∃ t, mg "LOWS_BELOW" = some (.int 1000000000000000000000000000000 t)
  gcd : mg "gcd" = some (.builtin "math.gcd")
  lcm : mg "lcm" = some (.builtin "math.lcm")
  ON : FnOk P w K mg base CX0 1 fN dN ["x"] (spIsNum K)
  gN : mg "is_number" = some (.ref fN)
  kN : PySem.W.keepIn K (.ref fN) = true
  bN : Binds K dN ["x"] []
  OB : FnOk P w K mg base CX0 2 fB dB ["x", "end"] (spNumBelow K)
  gB : mg "is_number_below" = some (.ref fB)
  kB : PySem.W.keepIn K (.ref fB) = true
  bB : Binds K dB ["x", "end"] []
  FF : Fun K "fits" "fits" s_fits fF dF
  gF : mg "fits" = some (.ref fF)
  bF : Binds K dF ["shape", "states", "x"] []
  FA : Fun K "all_fit" "all_fit" s_all_fit fA dA
  gA : mg "all_fit" = some (.ref fA)
  bA : Binds K dA ["shapes", "states", "xs"] []
  FH : Fun K "is_choice" "is_choice" s_is_choice fH dH
  gH : mg "is_choice" = some (.ref fH)
  bH : Binds K dH ["shapes", "states", "x"] []
  FR : Fun K "all_rise" "all_rise" s_all_rise fR dR
  gR : mg "all_rise" = some (.ref fR)
  bR : Binds K dR ["shape", "states", "xs"] []
  FG : Fun K "is_bag" "is_bag" s_is_bag fG dG
  gG : mg "is_bag" = some (.ref fG)
  bG : Binds K dG ["shape", "states", "rows"] []
  FC : Fun K "is_chance" "is_chance" s_is_chance fC dC
  gC : mg "is_chance" = some (.ref fC)
  bC : Binds K dC ["shape", "states", "rows"] []
  FL : Fun K "all_long" "all_long" s_all_long fL dL
  gL : mg "all_long" = some (.ref fL)
  bL : Binds K dL ["rows", "length"] []
  FW : Fun K "is_lowest" "is_lowest" s_is_lowest fW dW
  gW : mg "is_lowest" = some (.ref fW)
  bW : Binds K dW ["top", "low"] []
  FU : Fun K "add_up_to_one" "add_up_to_one" s_add_up_to_one fU dU
  gU : mg "add_up_to_one" = some (.ref fU)
  bU : Binds K dU ["chances"] []
theorem all_fits (X : VAx P w K mg base fF fN fB fA fH fR fG fC fL fW fU dF dN dB dA dH dR dG dC dL dW dU) : ∀ n : Nat, FnOk P w K mg base CX0 (3 * n + 3) fF dF ["shape", "states", "x"] (spFit K n)
  | 0 => by
    have no : ∀ vs H Q E, ¬ spFit K 0 vs H Q E := fun vs H Q E h => by
      obtain ⟨_, _, _, _, _, _, _, h, _⟩ := h
      exact h
    exact ⟨fun vs H Q E h => absurd h (no vs H Q E), fun A outer s H args us vs Q E _ _ _ _ h => absurd h (no vs H Q E)⟩
  | n + 1 => by
    have T : FTx P w K mg base n (3 * n + 3) fF dF := ⟨all_fits X n, X.gF, X.FF.kp, X.bF⟩
    have O1 := ok_all_fit X.B X.zip T X.FA
    have O2 := ok_is_choice (by omega) X.B X.OB X.gB X.kB X.bB T X.FH
    have O3 := ok_all_rise T X.FR
    have OL := ok_all_long (P := P) (w := w) (base := base) X.B X.FL
    have CH : CHx P w K mg base fN dN := ⟨X.B, X.mL, X.gcd, X.lcm, X.ON, X.gN, X.kN, X.bN⟩
    have OW := ok_is_lowest CH X.FW
    have OU := ok_add CH ⟨OW, X.gW, X.FW.kp, X.bW⟩ X.FU
    have BT : BTx P w K mg base n (3 * n + 4) fN fL fR dN dL dR := ⟨X.B, X.mM, X.ON, X.gN, X.kN, X.bN, OL, X.gL, X.FL.kp, X.bL, O3, X.gR, X.FR.kp, X.bR⟩
    have O4 := ok_is_bag (by omega) BT X.FG
    have O5 := ok_is_chance (by omega) BT ⟨OU, X.gU, X.FU.kp, X.bU⟩ X.FC
    exact ok_fits (j := 3 * n + 4) (by omega) ⟨X.B, X.OB, X.gB, X.kB, X.bB, O1, X.gA, X.FA.kp, X.bA, O2, X.gH, X.FH.kp, X.bH, O3, X.gR, X.FR.kp, X.bR, O4, X.gG, X.FG.kp, X.bG, O5, X.gC, X.FC.kp, X.bC⟩ X.FF
/-! ### is_value, count_values of shapes -/
variable {fS fV fM : Addr} {dS dV dM : FuncData} {C T1 T2 : Addr}
def spIsVal (K : PySem.W.Frag) (T1 T2 : Addr) : Sp := fun vs H Q _ => ∃ (v u : V) (k : Nat) (s : Sh) (d : PyData), vs = [v, .int k, u] ∧ Dt K H v (Sh.data s) ∧ Sh.wf 6 s ∧ Sh.size s ≤ 40 ∧ GxR.TabG H T1 ∧ GxR.TabG H T2 ∧ Dt K H u d ∧ Fine d ∧ ∀ H', Gr H H' → Q (.bl (FI.fitsB k s d)) H'
def spCountV (K : PySem.W.Frag) (T1 T2 : Addr) : Sp := fun vs H Q _ => ∃ (v : V) (k : Nat) (s : Sh), vs = [v, .int k] ∧ Dt K H v (Sh.data s) ∧ Sh.wf 6 s ∧ Sh.size s ≤ 40 ∧ GxR.TabG H T1 ∧ GxR.TabG H T2 ∧ ∀ H', Gr H H' → Q (oV (cnt k s)) H'
theorem sc_is_value : FnScope ["shape", "states", "x"] ["shape", "states", "x"] (defScope s_is_value) := ⟨rfl, rfl, rfl, by decide +kernel, rfl, by decide +kernel, by decide +kernel⟩
theorem sc_count_values : FnScope ["shape", "states"] ["shape", "states"] (defScope s_count_values) := ⟨rfl, rfl, rfl, by decide +kernel, rfl, by decide +kernel, by decide +kernel⟩
theorem ok_is_value (OS : FnOk P w K mg base (EA.CX EA.Za P w) 22 fS dS ["shape"] (spCheck K C T1 T2)) (gS : mg "check_shape" = some (.ref fS)) (kS : PySem.W.keepIn K (.ref fS) = true) (bS : Binds K dS ["shape"] []) (X : FTx P w K mg base 6 21 fF dF) (F : Fun K "is_value" "is_value" s_is_value fV dV) :
    FnOk P w K mg base CX0 23 fV dV ["shape", "states", "x"] (spIsVal K T1 T2) := by
  refine F.ok sc_is_value (fun vs H Q E h => ?_) (fun cdv A outer s0 H vs Q E hr h => ?_)
  · obtain ⟨v, u, k, s, d, rfl, _⟩ := h
    rfl
  obtain ⟨v, u, k, s, d, rfl, hd, hw, hz, t1, t2, hu, hF, q⟩ := h
  refine ⟨_, pss_cons (ps_expr (pe_call OS hr rfl gS kS bS .nil EA.pass_none (pa_cons (pv 0) pa_nil)))
    (pss_one (ps_ret (pe_call X.OF (hr.mono (by decide)) rfl X.gF X.kF X.bF .nil pass0 (pa_cons (pv 0) (pa_cons (pv 1) (pa_cons (pv 2) pa_nil)))))), ?_⟩
  refine ⟨v, rfl, v, rfl, _, hd, Sh.shaped hw (by decide), t1, t2, .inr ⟨s, rfl, hw, fun _ H1 g1 => ?_, fun no => absurd hz no⟩⟩
  exact ⟨_, rfl, _, rfl, _, rfl, v, u, k, s, d, rfl, hd.gr g1, hw, by decide, hu.gr g1, hF, fun H' g => q H' (g1.trans g)⟩
theorem ok_count_values (OS : FnOk P w K mg base (EA.CX EA.Za P w) 22 fS dS ["shape"] (spCheck K C T1 T2)) (gS : mg "check_shape" = some (.ref fS)) (kS : PySem.W.keepIn K (.ref fS) = true) (bS : Binds K dS ["shape"] []) (OM : FnOk P w K mg base CX0 8 fM dM ["shape", "states"] (spNum K 6)) (gM : mg "number_of_values" = some (.ref fM)) (kM : PySem.W.keepIn K (.ref fM) = true) (bM : Binds K dM ["shape", "states"] []) (F : Fun K "count_values" "count_values" s_count_values fV dV) :
    FnOk P w K mg base CX0 23 fV dV ["shape", "states"] (spCountV K T1 T2) := by
  refine F.ok sc_count_values (fun vs H Q E h => ?_) (fun cdv A outer s0 H vs Q E hr h => ?_)
  · obtain ⟨v, k, s, rfl, _⟩ := h
    rfl
  obtain ⟨v, k, s, rfl, hd, hw, hz, t1, t2, q⟩ := h
  refine ⟨_, pss_cons (ps_expr (pe_call OS hr rfl gS kS bS .nil EA.pass_none (pa_cons (pv 0) pa_nil)))
    (pss_one (ps_ret (pe_call OM (hr.mono (by decide)) rfl gM kM bM .nil pass0 (pa_cons (pv 0) (pa_cons (pv 1) pa_nil))))), ?_⟩
  refine ⟨v, rfl, v, rfl, _, hd, Sh.shaped hw (by decide), t1, t2, .inr ⟨s, rfl, hw, fun _ H1 g1 => ?_, fun no => absurd hz no⟩⟩
  exact ⟨_, rfl, _, rfl, v, k, s, rfl, hd.gr g1, hw, by decide, fun H' g => q H' (g1.trans g)⟩
end
end M4
end
section
set_option Elab.async false
set_option linter.all false
set_option maxRecDepth 100000
set_option maxHeartbeats 4000000
/-! sorted of nested data: whole numbers and tuples, any number of them. -/
namespace MS
open PySem PyProof.Rows PySem.W
open PySem.SeqAt
section
variable {M : Model} {prog : Program} {w : World} {A : Around} {E : Value → Shared → Prop} {s : Shared}
/-- tuples, and what stands first in each -/
def TupF (h : Heap) : List Value → List (Option Value) → Prop
  | [], [] => True
  | v :: vs, f :: fs => (∃ a o xs n, v = .ref a ∧ h.get? a = some o ∧ o.cls = .type "tuple" ∧ o.data = .seq xs n ∧ xs[0]? = f) ∧ TupF h vs fs
  | _, _ => False
theorem TupF.length {h : Heap} : ∀ {vs : List Value} {fs : List (Option Value)}, TupF h vs fs → vs.length = fs.length
  | [], [], _ => rfl
  | [], _ :: _, t => t.elim
  | _ :: _, [], t => t.elim
  | _ :: vs, _ :: fs, t => by rw [List.length_cons, List.length_cons, TupF.length t.2]
theorem tf_firsts : ∀ (vs : List Value) (fs : List (Option Value)) {Q : List (Option Value) → Shared → Prop}, TupF s.heap vs fs → Q fs s → wpAny M A (vs.mapM firstOfTuple') Q E s
  | [], [], _, _, h => by rw [List.mapM_nil]; exact wpAny_pure h
  | [], _ :: _, _, t, _ => t.elim
  | _ :: _, [], _, t, _ => t.elim
  | v :: vs, f :: fs, Q, t, h => by
    obtain ⟨⟨a, o, xs, n, rfl, ho, hc, hd, hf⟩, t⟩ := t
    rw [List.mapM_cons]
    refine wpAny_bind ?_
    rw [kas_first_eq]
    refine wpAny_bind (Looks.here (show Looks M s.heap (typeOf (.ref a)) o.cls from (Looks.ld ho).andThen .now) ?_)
    rw [hc, if_neg (by first | decide | simp)]
    refine wpAny_bind (listItems_at ho hd (wpAny_pure ?_))
    rw [hf]
    exact wpAny_bind (tf_firsts vs fs (Q := fun bs s' => wpAny M A (pure (f :: bs)) Q E s') t (wpAny_pure h))
theorem tf_looks : ∀ {vs : List Value} {fs : List (Option Value)}, TupF s.heap vs fs → ∀ v ∈ vs, Looks M s.heap (typeOf v) (.type "tuple")
  | [], [], _, v, hv => absurd hv (by simp)
  | [], _ :: _, t, _, _ => t.elim
  | _ :: _, [], t, _, _ => t.elim
  | u :: vs, f :: fs, t, v, hv => by
    obtain ⟨⟨a, o, xs, n, rfl, ho, hc, hd, hf⟩, t⟩ := t
    rcases List.mem_cons.mp hv with e | e
    · rw [e, ← hc]
      exact (Looks.ld ho).andThen .now
    · exact tf_looks t v e
/-- some of them is empty -/
theorem kind_gap {vs : List Value} {f : Option Value} {fs : List (Option Value)} {Q : SortKind → Shared → Prop} (t : TupF s.heap vs (f :: fs)) (hno : none ∈ f :: fs) (hg : f ≠ none → Q general' s) (h1 : f = none → Q oneType' s) :
    wpAny M A (keyKind' vs.toArray) Q E s := by
  rw [kat_kind_eq, List.mapM_toArray, map_eq_pure_bind]
  refine wpAny_bind (wpAny_bind (tf_firsts vs _ t (wpAny_pure ?_)))
  have hall : ((f :: fs).toArray.all fun x => x.isSome) = false := by
    rw [Bool.eq_false_iff]
    intro z
    simp only [List.all_toArray, List.all_eq_true] at z
    exact absurd (z none hno) (by decide)
  rw [hall, if_neg (by decide)]
  have h0 : ((f :: fs).toArray[0]?.bind id) = f := by simp
  rw [h0]
  cases f with
  | some y => 
    rw [if_pos (show (Option.some y).isSome = true from rfl)]
    exact wpAny_pure (hg (by simp))
  | none =>
    rw [if_neg (by simp)]
    rw [oneTypeOnly'_eq, List.mapM_toArray, map_eq_pure_bind]
    refine wpAny_bind (wpAny_bind (wpAny_bind (kas_mapM (r := .type "tuple") _ (fun v hv Q' hq => (tf_looks t v hv).here hq) (wpAny_pure ?_))))
    obtain ⟨v₁, vr, rfl⟩ : ∃ v₁ vr, vs = v₁ :: vr := by
      match vs, t with
      | v₁ :: vr, _ => exact ⟨v₁, vr, rfl⟩
    have hall2 : ((List.map (fun _ => Value.type "tuple") (v₁ :: vr)).toArray.all fun x => x == Value.type "tuple") = true := by
      simp only [List.all_toArray, List.all_map, List.all_eq_true]
      intro _ _
      show (Value.type "tuple" == Value.type "tuple") = true
      decide
    have h0 : (List.map (fun _ => Value.type "tuple") (v₁ :: vr)).toArray[0]? = some (Value.type "tuple") := by simp
    rw [h0]
    simp only [hall2, if_true]
    exact wpAny_pure (wpAny_pure (h1 rfl))
/-! ### the comparisons -/
theorem oneLt_rc {x y : Value} {b : Bool} {Q : Bool → Shared → Prop} (h : Ob.RcOp .Lt A s x y b) (q : Q b s) : wpAny (model prog w) A (oneLt' false x y) Q E s :=
  kat_one x y (h prog w _ _ q)
theorem tuple_call {l b : Addr} {us vs : Array Value} {k : Bool} {Q : Bool → Shared → Prop} (hl : s.heap.IsTuple l us) (hb : s.heap.IsTuple b vs) (hu : A.units < cLine) (h : LtL A s us.toList vs.toList k) (q : Q k s) :
    wpAny (model prog w) A (oneLt' true (.ref l) (.ref b)) Q E s := by
  obtain ⟨⟨c1, d1, t1, s1⟩, o1, e1, n1, f1⟩ := id hl
  obtain ⟨⟨c2, d2, t2, s2⟩, o2, e2, n2, f2⟩ := id hb
  simp only at e1 f1 e2 f2
  subst e1 f1 e2 f2
  rw [oneLt'_eq]
  simp only [if_true]
  refine wpAny_bind (wpAny_cRoomFor hu ?_)
  refine wpAny_bind (wpAny_callSpecialIfBound?_slot (T := "tuple") ⟨_, o1, rfl⟩ F.slot_tuple_lt (call_meets F.slot_tuple_lt ⟨_, o1, rfl⟩ F.entry_tuple_lt (F.args_tuple_lt_2 _ _) (tuple_ltL l b us vs n1 n2 d1 d2 s1 s2 k) ⟨o1, o2, h, ?_⟩))
  exact wpAny_truthy_bool q

theorem lex_reads {b fin : Bool} : ∀ (xs ys : List PyData) (us vs : List Value) (as bs : List Addr) (i : Nat) (k : Bool) (Q : Bool → Shared → Prop), ReadsAll s.heap us xs as → ReadsAll s.heap vs ys bs → PyData.canLayAll0 xs = true → PyData.canLayAll0 ys = true →
    A.units + PyData.depthAll xs < cLine → (b = true → i = 0 → ∀ x y xr yr, xs = x :: xr → ys = y :: yr → ∃ m n, x = .int m ∧ y = .int n) → fin = decide (us.length < vs.length) → ltDs xs ys = some k → Q k s → KatLex prog w A b fin Q (us.zip vs) i s
  | [], ys, us, vs, as, bs, i, k, Q, hu, hv, lx, ly, hr, hb, hf, h, q => by
    cases hu
    have e : fin = k := by
      rw [hf]
      cases ys with
      | nil =>
        cases hv
        exact Option.some.inj h
      | cons y ys =>
        obtain ⟨v, vs', _, _, rfl, _, _, _⟩ := readsAll_cons_inv hv
        rw [← Option.some.inj h]
        exact decide_eq_true (by simp)
    rw [List.zip_nil_left, e]
    exact kat_nil q
  | x :: xs, [], us, vs, as, bs, i, k, Q, hu, hv, lx, ly, hr, hb, hf, h, q => by
    obtain ⟨u, us', a1, a2, rfl, _, hu1, hu2⟩ := readsAll_cons_inv hu
    cases hv
    have e : fin = k := by
      rw [hf, ← Option.some.inj h]
      exact decide_eq_false (by simp)
    rw [List.zip_nil_right, e]
    exact kat_nil q
  | x :: xs, y :: ys, us, vs, as, bs, i, k, Q, hu, hv, lx, ly, hr, hb, hf, h, q => by
    obtain ⟨u, us', a1, a2, rfl, _, hu1, hu2⟩ := readsAll_cons_inv hu
    obtain ⟨v, vs', b1, b2, rfl, _, hv1, hv2⟩ := readsAll_cons_inv hv
    simp only [PyData.canLayAll0, Bool.and_eq_true] at lx ly
    have dd : PyData.depthAll (x :: xs) = max x.depth (PyData.depthAll xs) := by simp only [PyData.depthAll]
    rw [dd] at hr
    have he := eqAt_reads x y A s u v a1 b1 hu1 hv1 lx.1 ly.1 (by omega)
    have h' : (if PyData.eqv x y = true then ltDs xs ys else ltD x y) = some k := h
    have hf2 : fin = decide (us'.length < vs'.length) := by
      rw [hf, List.length_cons, List.length_cons]
      by_cases z : us'.length < vs'.length
      · rw [decide_eq_true z, decide_eq_true (by omega)]
      · rw [decide_eq_false z, decide_eq_false (by omega)]
    rw [List.zip_cons_cons]
    by_cases g : PyData.eqv x y = true
    · rw [if_pos g] at h'
      rw [g] at he
      exact kat_cons (he prog w _ _ (kat_yes (lex_reads xs ys us' vs' _ _ (i + 1) k Q hu2 hv2 lx.2 ly.2 (by omega) (fun _ z => absurd z (Nat.succ_ne_zero i)) hf2 h' q)))
    · rw [if_neg g] at h'
      have g2 := Bool.eq_false_iff.mpr g
      rw [g2] at he
      refine kat_cons (he prog w _ _ (kat_no ?_))
      by_cases c : (b && i == 0) = true
      · have c2 : b = true ∧ i = 0 := by simpa using c
        obtain ⟨m, n, rfl, rfl⟩ := hb c2.1 c2.2 x y xs ys rfl rfl
        obtain ⟨t, rfl, _⟩ := reads_int_inv hu1
        obtain ⟨t2, rfl, _⟩ := reads_int_inv hv1
        rw [c]
        refine PyProof.Rows.oneLt_int ?_
        rw [show decide (m < n) = k from Option.some.inj h']
        exact q
      · rw [Bool.eq_false_iff.mpr c]
        exact oneLt_rc (lt_reads x y A s u v _ _ k hu1 hv1 lx.1 ly.1 (by omega) h') q
mutual
theorem reads_ext {h h' : Heap} (k : ∀ b o, h.get? b = some o → h'.get? b = some o) : ∀ (d : PyData) (v : Value) (as : List Addr), plain d → Reads h v d as → Reads h' v d as
  | .int i, v, as, _, r => by
    cases r
    exact .int _ _
  | .tuple xs, v, as, p, r => by
    cases r with
    | tuple e1 e2 e3 r1 => exact .tuple (k _ _ e1) e2 e3 (readsAll_ext k xs _ _ p r1)
  | .none, _, _, p, _ => p.elim
  | .bool _, _, _, p, _ => p.elim
  | .str _, _, _, p, _ => p.elim
  | .list _, _, _, p, _ => p.elim
  | .dict _, _, _, p, _ => p.elim
theorem readsAll_ext {h h' : Heap} (k : ∀ b o, h.get? b = some o → h'.get? b = some o) : ∀ (ds : List PyData) (vs : List Value) (as : List Addr), plains ds → ReadsAll h vs ds as → ReadsAll h' vs ds as
  | [], _, _, _, r => by
    cases r
    exact .nil
  | d :: ds, _, _, p, r => by
    cases r with
    | cons r1 r2 => exact .cons (reads_ext k d _ _ p.1 r1) (readsAll_ext k ds _ _ p.2 r2)
end

/-! ### the list -/
structure Dat (A : Around) (rd : Value → PyData) (h : Heap) (vs : List Value) : Prop where
  rds : ∀ v ∈ vs, ∃ as, Reads h v (rd v) as
  pl : ∀ v ∈ vs, plain (rd v)
  lay : ∀ v ∈ vs, (rd v).canLay0 = true
  dep : ∀ v ∈ vs, A.units + (rd v).depth < cLine
  lt : ∀ u ∈ vs, ∀ v ∈ vs, ∃ c, ltD (rd u) (rd v) = some c
variable {rd : Value → PyData} {vs : List Value}
theorem Dat.lt' {h : Heap} (D : Dat A rd h vs) {u v : Value} (hu : u ∈ vs) (hv : v ∈ vs) : ltD (rd u) (rd v) = some (dLt (rd u) (rd v)) := by
  obtain ⟨c, e⟩ := D.lt u hu v hv
  rw [e, ltD_eq (D.pl u hu) (D.pl v hv) e]
theorem same_kind {x y : PyData} {c : Bool} (h : ltD x y = some c) : (∃ i j, x = .int i ∧ y = .int j) ∨ ∃ xs ys, x = .tuple xs ∧ y = .tuple ys := by
  cases x <;> cases y <;> first | exact .inl ⟨_, _, rfl, rfl⟩ | exact .inr ⟨_, _, rfl, rfl⟩ | cases h
theorem same_first {x y : PyData} {xs ys : List PyData} {c : Bool} (hx : plain x) (hy : plain y) (h : ltD (.tuple (x :: xs)) (.tuple (y :: ys)) = some c) : (∃ i j, x = .int i ∧ y = .int j) ∨ ∃ xs ys, x = .tuple xs ∧ y = .tuple ys := by
  have h' : (if PyData.eqv x y = true then ltDs xs ys else ltD x y) = some c := h
  by_cases q : PyData.eqv x y = true
  · have e := eqv_plain x y hx hy q
    subst e
    cases x with
    | int i => exact .inl ⟨_, _, rfl, rfl⟩
    | tuple zs => exact .inr ⟨_, _, rfl, rfl⟩
    | _ => exact hx.elim
  · rw [if_neg q] at h'
    exact same_kind h'
/-- what stands first in a tuple -/
def firstV (h : Heap) : Value → Option Value
  | .ref a => match h.get? a with
    | some o => match o.data with
      | .seq xs _ => xs[0]?
      | _ => none
    | none => none
  | _ => none
theorem firstV_eq {h : Heap} {a : Addr} {o : Obj} {xs : Array Value} {n : Nat} (ho : h.get? a = some o) (hd : o.data = .seq xs n) : firstV h (.ref a) = xs[0]? := by
  show (match h.get? a with
    | some o => match o.data with
      | .seq xs _ => xs[0]?
      | _ => none
    | none => none) = _
  rw [ho]
  show (match o.data with
      | .seq xs _ => xs[0]?
      | _ => none) = _
  rw [hd]
theorem tupF_of {h : Heap} : ∀ {vs : List Value}, (∀ v ∈ vs, ∃ xs as, Reads h v (.tuple xs) as) → TupF h vs (vs.map (firstV h))
  | [], _ => trivial
  | v :: vs, H => by
    refine ⟨?_, tupF_of fun u hu => H u (List.mem_cons_of_mem _ hu)⟩
    obtain ⟨xs, as, r⟩ := H v List.mem_cons_self
    obtain ⟨a, o, us, n, rfl, e1, e2, e3, r1⟩ := reads_tuple_inv r
    exact ⟨a, o, us, n, rfl, e1, e2, e3, (firstV_eq e1 e3).symm⟩
theorem katT_of {h : Heap} : ∀ {vs : List Value} {fs : List (Option Value)}, TupF h vs fs → none ∉ fs → KatTups h vs (fs.map fun f => f.getD .none)
  | [], [], _, _ => .nil
  | [], _ :: _, t, _ => t.elim
  | _ :: _, [], t, _ => t.elim
  | v :: vs, f :: fs, t, hn => by
    obtain ⟨⟨a, o, xs, n, rfl, ho, hc, hd, hf⟩, t⟩ := t
    cases f with
    | none => exact absurd List.mem_cons_self hn
    | some y => exact .cons ho hc hd hf (katT_of t fun z => hn (List.mem_cons_of_mem _ z))
theorem firstV_reads {h : Heap} {v : Value} {xs : List PyData} {as : List Addr} (r : Reads h v (.tuple xs) as) : (xs = [] ∧ firstV h v = none) ∨ ∃ x r y as, xs = x :: r ∧ firstV h v = some y ∧ Reads h y x as := by
  obtain ⟨a, o, us, n, rfl, e1, e2, e3, r1⟩ := reads_tuple_inv r
  have ef := firstV_eq e1 e3
  cases xs with
  | nil =>
    have e4 : us.toList = [] := by
      generalize us.toList = l at r1
      cases r1
      rfl
    refine .inl ⟨rfl, ?_⟩
    rw [ef, ← Array.getElem?_toList, e4]
    rfl
  | cons x xr =>
    obtain ⟨u, us', a1, a2, e4, _, hu1, hu2⟩ := readsAll_cons_inv r1
    refine .inr ⟨x, xr, u, a1, rfl, ?_, hu1⟩
    rw [ef, ← Array.getElem?_toList, e4]
    rfl
abbrev ltV (rd : Value → PyData) (u v : Value) : Bool := dLt (rd u) (rd v)
theorem swo_data : SrtO.Swo (ltV rd) := ⟨fun x y h => lexL_asym _ _ h, fun x y z h1 h2 => lexL_trans _ _ _ h1 h2⟩
theorem dat_sortable {a : Addr} (hD : ∀ h' : Heap, (∀ b o, b ≠ a → s.heap.get? b = some o → h'.get? b = some o) → Dat A rd h' vs) (h2 : 2 ≤ vs.length) : SrtO.SortableO prog w A s a vs (ltV rd) := by
  intro h' keep
  have D := hD h' keep
  obtain ⟨v1, v2, rest, hvs⟩ : ∃ v1 v2 rest, vs = v1 :: v2 :: rest := by
    match vs, h2 with
    | [], h2 => exact absurd h2 (by decide)
    | [_], h2 => exact absurd h2 (by simp)
    | v1 :: v2 :: rest, _ => exact ⟨v1, v2, rest, rfl⟩
  have m1 : v1 ∈ vs := by rw [hvs]; exact List.mem_cons_self
  rcases same_kind (D.lt' m1 m1) with ⟨i1, _, e1, _⟩ | ⟨x1, _, e1, _⟩
  · -- whole numbers
    have intz : ∀ v ∈ vs, ∃ i t, v = Value.int i t ∧ rd v = .int i := by
      intro v hv
      rcases same_kind (D.lt' m1 hv) with ⟨_, j, _, e⟩ | ⟨_, _, z, _⟩
      · obtain ⟨as, r⟩ := D.rds v hv
        rw [e] at r
        obtain ⟨t, rfl, _⟩ := reads_int_inv r
        exact ⟨j, t, rfl, e⟩
      · rw [e1] at z; cases z
    have hI : IntsAre vs (vs.map SrtO.iv) := SrtO.ints_iv fun v hv => by
      obtain ⟨i, t, e, _⟩ := intz v hv
      exact ⟨i, t, e⟩
    refine ⟨oneType', fun Q E hq => ?_, fun p q hp hq => ?_⟩
    · rw [hvs] at hI ⊢
      rw [keyKind_ints hI]
      exact wpAny_pure hq
    · obtain ⟨i, t, e, er⟩ := intz _ hp
      obtain ⟨j, t2, e', er'⟩ := intz _ hq
      have el := D.lt' hp hq
      show wpAny (model prog w) A (keyLt' oneType' p.1 q.1) (fun r s' => s' = _ ∧ r = dLt (rd p.1) (rd q.1)) (fun _ _ => False) _
      rw [er, er'] at el ⊢
      rw [e, e', keyLt'_oneType]
      exact PyProof.Rows.oneLt_int ⟨rfl, Option.some.inj el⟩
  · -- tuples
    have tups : ∀ v ∈ vs, ∃ xs as, rd v = .tuple xs ∧ Reads h' v (.tuple xs) as := by
      intro v hv
      rcases same_kind (D.lt' m1 hv) with ⟨_, j, z, _⟩ | ⟨_, ys, _, e⟩
      · rw [e1] at z; cases z
      · obtain ⟨as, r⟩ := D.rds v hv
        rw [e] at r
        exact ⟨ys, as, e, r⟩
    have tF : TupF h' vs (vs.map (firstV h')) := tupF_of fun v hv => by
      obtain ⟨xs, as, _, r⟩ := tups v hv
      exact ⟨xs, as, r⟩
    by_cases hn : none ∈ vs.map (firstV h')
    · -- one is empty
      have hcmp : ∀ κ, κ = oneType' ∨ κ = general' → SrtO.Cmp prog w A { s with heap := h' } κ (fun p => p.1 ∈ vs) (SrtO.lt2 (ltV rd)) := by
        intro κ hκ p q hp hq
        obtain ⟨xs, as, er, r⟩ := tups _ hp
        obtain ⟨ys, bs, er', r'⟩ := tups _ hq
        have el := D.lt' hp hq
        have ly := D.lay _ hp
        have ly' := D.lay _ hq
        have dp := D.dep _ hp
        show wpAny (model prog w) A (keyLt' κ p.1 q.1) (fun r s' => s' = _ ∧ r = dLt (rd p.1) (rd q.1)) (fun _ _ => False) _
        rw [er] at ly dp
        rw [er'] at ly'
        rw [er, er'] at el ⊢
        rcases hκ with rfl | rfl
        · obtain ⟨a1, o1, us1, n1, ep, f1, f2, f3, r1⟩ := reads_tuple_inv r
          obtain ⟨a2, o2, us2, n2, eq, g1, g2, g3, r2⟩ := reads_tuple_inv r'
          rw [ep, eq, keyLt'_oneType]
          have z : (PyData.tuple xs).depth = PyData.depthAll xs + 1 := by simp only [PyData.depth]
          rw [z] at dp
          exact tuple_call ⟨o1, f1, f2, n1, f3⟩ ⟨o2, g1, g2, n2, g3⟩ (by omega) (lt_readsAll xs ys A { s with heap := h' } _ _ _ _ _ r1 r2 (by simpa only [PyData.canLay0] using ly) (by simpa only [PyData.canLay0] using ly') dp el) ⟨rfl, rfl⟩
        · show wpAny (model prog w) A (oneLt' false p.1 q.1) _ _ _
          exact oneLt_rc (lt_reads _ _ A { s with heap := h' } _ _ _ _ _ r r' ly ly' dp el) ⟨rfl, rfl⟩
      have ef : vs.map (firstV h') = firstV h' v1 :: (v2 :: rest).map (firstV h') := by rw [hvs]; rfl
      rw [ef] at tF hn
      by_cases hf : firstV h' v1 = none
      · exact ⟨oneType', fun Q E hq => kind_gap (s := { s with heap := h' }) tF hn (fun z => absurd hf z) fun _ => hq, hcmp _ (.inl rfl)⟩
      · exact ⟨general', fun Q E hq => kind_gap (s := { s with heap := h' }) tF hn (fun _ => hq) fun z => absurd z hf, hcmp _ (.inr rfl)⟩
    · have kT := katT_of tF hn
      have nonempty : ∀ v ∈ vs, ∃ x r y as, rd v = .tuple (x :: r) ∧ firstV h' v = some y ∧ Reads h' y x as := by
        intro v hv
        obtain ⟨xs, as, er, r⟩ := tups v hv
        rcases firstV_reads r with ⟨_, z⟩ | ⟨x, xr, y, as', rfl, g1, g2⟩
        · exact absurd (List.mem_map.mpr ⟨v, hv, z⟩) hn
        · exact ⟨x, xr, y, as', er, g1, g2⟩
      have plf : ∀ v ∈ vs, ∀ x r, rd v = .tuple (x :: r) → plain x := fun v hv x r e => by
        have := D.pl v hv
        rw [e] at this
        exact this.1
      have hcmp : ∀ b : Bool, (b = true → ∀ v ∈ vs, ∀ x r, rd v = .tuple (x :: r) → ∃ m, x = .int m) → SrtO.Cmp prog w A { s with heap := h' } (tuples' b) (fun p => p.1 ∈ vs) (SrtO.lt2 (ltV rd)) := by
        intro b hb p q hp hq
        obtain ⟨xs, as, er, r⟩ := tups _ hp
        obtain ⟨ys, bs, er', r'⟩ := tups _ hq
        have el := D.lt' hp hq
        have ly := D.lay _ hp
        have ly' := D.lay _ hq
        have dp := D.dep _ hp
        show wpAny (model prog w) A (keyLt' (tuples' b) p.1 q.1) (fun r s' => s' = _ ∧ r = dLt (rd p.1) (rd q.1)) (fun _ _ => False) _
        have hbx := fun c => hb c _ hp
        have hby := fun c => hb c _ hq
        rw [er] at ly dp hbx
        rw [er'] at ly' hby
        rw [er, er'] at el ⊢
        obtain ⟨a1, o1, us1, n1, ep, f1, f2, f3, r1⟩ := reads_tuple_inv r
        obtain ⟨a2, o2, us2, n2, eq, g1, g2, g3, r2⟩ := reads_tuple_inv r'
        rw [ep, eq]
        have z : (PyData.tuple xs).depth = PyData.depthAll xs + 1 := by simp only [PyData.depth]
        rw [z] at dp
        refine kat_lt f1 f3 g1 g3 (lex_reads xs ys _ _ _ _ 0 _ _ r1 r2 (by simpa only [PyData.canLay0] using ly) (by simpa only [PyData.canLay0] using ly') (by omega) (fun hbt _ x y xr yr ex ey => ?_) (by simp) el ⟨rfl, rfl⟩)
        obtain ⟨m, em⟩ := hbx hbt x xr (by rw [ex])
        obtain ⟨n, en⟩ := hby hbt y yr (by rw [ey])
        exact ⟨m, n, em, en⟩
      have ne : 0 < ((vs.map (firstV h')).map fun f => f.getD .none).length := by
        rw [List.length_map, List.length_map]; omega
      obtain ⟨x1, r1, y1, as1, er1, _, _⟩ := nonempty v1 m1
      have p1 := plf v1 m1 x1 r1 er1
      have others : ∀ v ∈ vs, ∀ x r, rd v = .tuple (x :: r) → (∃ i j, x1 = .int i ∧ x = .int j) ∨ ∃ xs ys, x1 = .tuple xs ∧ x = .tuple ys := fun v hv x r e => by
        have el := D.lt' m1 hv
        rw [er1, e] at el
        exact same_first p1 (plf v hv x r e) el
      cases x1 with
      | int i =>
        refine ⟨tuples' true, fun Q E hq => kat_kind (s := { s with heap := h' }) (T := .type "int") kT ne (fun f hf => ?_) (by decide) hq, hcmp true fun _ v hv x r e => ?_⟩
        · rw [List.map_map] at hf
          obtain ⟨v, hv, rfl⟩ := List.mem_map.mp hf
          obtain ⟨x, r, y, as, e, ef, rx⟩ := nonempty v hv
          rcases others v hv x r e with ⟨_, j, _, rfl⟩ | ⟨_, _, z, _⟩
          · obtain ⟨t, rfl, _⟩ := reads_int_inv rx
            show Looks _ _ (typeOf ((firstV h' v).getD .none)) _
            rw [ef]
            exact Looks.now
          · cases z
        · rcases others v hv x r e with ⟨_, j, _, rfl⟩ | ⟨_, _, z, _⟩
          · exact ⟨j, rfl⟩
          · cases z
      | tuple zs =>
        refine ⟨tuples' false, fun Q E hq => kat_kind (s := { s with heap := h' }) (T := .type "tuple") kT ne (fun f hf => ?_) (by decide) hq, hcmp false fun z => absurd z (by decide)⟩
        rw [List.map_map] at hf
        obtain ⟨v, hv, rfl⟩ := List.mem_map.mp hf
        obtain ⟨x, r, y, as, e, ef, rx⟩ := nonempty v hv
        rcases others v hv x r e with ⟨_, j, z, _⟩ | ⟨_, ys, _, rfl⟩
        · cases z
        · obtain ⟨a2, o2, us2, n2, rfl, g1, g2, g3, r2⟩ := reads_tuple_inv rx
          show Looks _ _ (typeOf ((firstV h' v).getD .none)) _
          rw [ef, ← g2]
          exact (Looks.ld g1).andThen .now
      | _ => exact p1.elim
end
end MS
end
section
set_option Elab.async false
set_option linter.all false
set_option maxRecDepth 100000
set_option maxHeartbeats 4000000
namespace MS
open PySem PySem.Spec PyProof.Rows L2
/-- sorted(xs), xs a list of whole numbers or of tuples that can be compared -/
def rSortedD (K : PySem.W.Frag) : List V → Hp → VK → Prop := fun vs H Q => ∃ (a : Addr) (xs : List V) (ds : List PyData), vs = [V.ref a] ∧ SqL K H a xs ∧ DtAll K H xs ds ∧ (∀ d ∈ ds, plain d ∧ SeqAt.shaped d = true) ∧ (∀ d ∈ ds, ∀ e ∈ ds, ∃ c, ltD d e = some c) ∧
  ∀ (ys : List V) (es : List PyData) (p : Addr), es.Perm ds → es.Pairwise (fun x y => dLt y x = false) → DtAll K H ys es → ys.length = xs.length → H p = none → Q (.ref p) (upd H p (.lst ys))
noncomputable def readD (h : Heap) (v : Value) : PyData := open Classical in if c : ∃ d as, Reads h v d as then c.choose else .none
theorem readD_eq {h : Heap} {v : Value} {d : PyData} {as : List Addr} (r : Reads h v d as) : readD h v = d := by
  have c : ∃ d as, Reads h v d as := ⟨d, as, r⟩
  unfold readD
  rw [dif_pos c]
  obtain ⟨as', r'⟩ := c.choose_spec
  exact (PySem.Reads.unique r' d as r).1
def bkV (u : Value) : V := (absV u).getD .non
theorem bkV_eq {x : V} {u : Value} (r : RelV x u) : bkV u = x := by
  unfold bkV
  rw [r.abs]
  rfl
section
variable {X : Cx} {pins : List (Addr × Obj)} {σ : L2.St} {H : Hp} {s : Shared}
theorem back_all (I : Inv X pins σ H s) : ∀ {xs : List V} {us : List Value} {ds : List PyData}, Vals xs us → DtAll X.K H xs ds →
    us.map bkV = xs ∧ us.map (readD s.heap) = ds ∧ ∀ u ∈ us, RelV (bkV u) u ∧ Dt X.K H (bkV u) (readD s.heap u) ∧ readD s.heap u ∈ ds ∧ ∃ as, Reads s.heap u (readD s.heap u) as
  | [], _, [], .nil, _ => ⟨rfl, rfl, fun u hu => absurd hu (by simp)⟩
  | [], _, _ :: _, _, h => by cases h
  | _ :: _, _, [], _, h => by cases h
  | x :: xs, _, d :: ds, .cons (b := u) r t, h => by
    cases h with
    | cons h1 h2 =>
      obtain ⟨e1, e2, e3⟩ := back_all I t h2
      obtain ⟨as, rd⟩ := Dp.reads I d x u (Dt.dp _ _ h1) r
      have q1 := bkV_eq r
      have q2 := readD_eq rd
      refine ⟨by rw [List.map_cons, q1, e1], by rw [List.map_cons, q2, e2], fun v hv => ?_⟩
      rcases List.mem_cons.mp hv with e | hv
      · rw [e, q1, q2]
        exact ⟨r, h1, List.mem_cons_self, as, rd⟩
      · obtain ⟨z1, z2, z3, z4⟩ := e3 v hv
        exact ⟨z1, z2, List.mem_cons_of_mem _ z3, z4⟩
theorem vals_of_bk : ∀ {us : List Value}, (∀ u ∈ us, RelV (bkV u) u) → Vals (us.map bkV) us
  | [], _ => .nil
  | u :: us, h => .cons (h u List.mem_cons_self) (vals_of_bk fun v hv => h v (List.mem_cons_of_mem _ hv))
theorem dts_of_bk {K : PySem.W.Frag} {rd : Value → PyData} : ∀ {us : List Value}, (∀ u ∈ us, Dt K H (bkV u) (rd u)) → DtAll K H (us.map bkV) (us.map rd)
  | [], _ => .nil
  | u :: us, h => .cons (h u List.mem_cons_self) (dts_of_bk fun v hv => h v (List.mem_cons_of_mem _ hv))
end
section
variable {X : Cx}
theorem cr_sortedD (hu : X.A.units + 100 < cLine) : CallR X (.builtin "sorted") (rSortedD X.K) := by
  intro pins s σ H vs us Q I r h
  obtain ⟨a, xs, ds, rfl, hs, hd, hp, hc, q⟩ := h
  obtain ⟨its, rv, hl, hz⟩ := I.list hs
  obtain ⟨u, rfl, ru⟩ := vals1 r
  obtain rfl : u = Value.ref a := ru
  obtain ⟨b1, b2, b3⟩ := back_all I rv hd
  refine SrtO.sorted_ord (ltv := ltV (readD s.heap)) swo_data hl.isList (by rw [← rv.length]; exact hz) (fun h2 h₁ a' ha kk => ?_) fun out h1 h2 => ?_
  · refine dat_sortable (s := { s with heap := h₁ }) (fun h' keep => ?_) h2
    have ext : ∀ b o, s.heap.get? b = some o → h'.get? b = some o := fun b o e => keep b o (kk b o e).1 (kk b o e).2
    refine ⟨fun v hv => ?_, fun v hv => ?_, fun v hv => ?_, fun v hv => ?_, fun v hv w hw => ?_⟩
    · obtain ⟨_, _, m, as, rr⟩ := b3 v hv
      exact ⟨as, reads_ext ext _ _ _ (hp _ m).1 rr⟩
    · exact (hp _ (b3 v hv).2.2.1).1
    · exact SeqAt.canLay_of_shaped (hp _ (b3 v hv).2.2.1).2
    · have := SeqAt.depth_of_shaped (hp _ (b3 v hv).2.2.1).2
      show X.A.units + 1 + 1 + _ < cLine
      omega
    · exact hc _ (b3 v hv).2.2.1 _ (b3 w hw).2.2.1
  · have hm : ∀ u ∈ out, u ∈ its := fun u hu => h2.perm.mem_iff.mp hu
    obtain ⟨n, hn⟩ := PyProof.Rows.sortedAll_at s.heap its out.toArray
    have hfresh : s.heap.get? (s.heap.objs.size + 1) = none := by
      cases e : s.heap.get? (s.heap.objs.size + 1) with
      | none => rfl
      | some o => exact absurd (Heap.lt_size e) (Nat.not_lt_of_le (Nat.le_succ _))
    have hle : s.heap.objs.size ≤ s.heap.objs.size + 1 := Nat.le_succ _
    have hlen : (out.map bkV).length = xs.length := by rw [List.length_map, h2.len, ← rv.length]
    refine ⟨.ref (s.heap.objs.size + 1), upd H (s.heap.objs.size + 1) (.lst (out.map bkV)), I.laid (t' := s.toks) (fun b o e => PyProof.Rows.sortedAll_old e) hle ⟨?_, out, n, vals_of_bk fun u hu => (b3 u (hm u hu)).1, hn⟩, rfl, q _ (out.map (readD s.heap)) _ ?_ ?_ (dts_of_bk fun u hu => (b3 u (hm u hu)).2.1) hlen (I.hok.fresh hle)⟩
    · rw [hlen]; exact hz
    · rw [← b2]; exact h2.perm.map _
    · exact List.pairwise_map.mpr h1
end
end MS
end
section
set_option Elab.async false
set_option linter.all false
set_option maxRecDepth 100000
set_option maxHeartbeats 4000000
namespace M4
open PySem MS
/-! ### lists of values: the mathematics -/
abbrev Rows := List (List PyData)
def longer (found : Rows) (things : List PyData) : Rows := found.flatMap fun o => things.map fun t => o ++ [t]
def tuplesL (ls : Rows) : Rows := ls.foldl longer [[]]
def subsL (es : List PyData) : Rows := es.foldl (fun found t => found ++ found.map fun o => o ++ [t]) [[]]
def lenProd : Rows → Nat
  | [] => 1
  | l :: ls => l.length * lenProd ls
theorem lenProd_app : ∀ (a b : Rows), lenProd (a ++ b) = lenProd a * lenProd b
  | [], b => by simp [lenProd]
  | l :: a, b => by rw [List.cons_append, lenProd, lenProd, lenProd_app a b, Nat.mul_assoc]
structure TP (pre : Rows) (found : Rows) : Prop where
  len : found.length = lenProd pre
  mem : ∀ o ∈ found, o.length = pre.length ∧ ∀ (i : Nat) (x : PyData) (l : List PyData), o[i]? = some x → pre[i]? = some l → x ∈ l
  nd : found.Nodup
theorem longer_len (found : Rows) (ts : List PyData) : (longer found ts).length = found.length * ts.length := by
  unfold longer
  induction found with
  | nil => simp
  | cons o os ih => rw [List.flatMap_cons, List.length_append, List.length_map, ih, List.length_cons, Nat.succ_mul, Nat.add_comm]
theorem longer_mem {found : Rows} {ts : List PyData} {o : List PyData} : o ∈ longer found ts ↔ ∃ p ∈ found, ∃ t ∈ ts, o = p ++ [t] := by
  unfold longer
  rw [List.mem_flatMap]
  constructor
  · rintro ⟨p, hp, h⟩
    obtain ⟨t, ht, rfl⟩ := List.mem_map.mp h
    exact ⟨p, hp, t, ht, rfl⟩
  · rintro ⟨p, hp, t, ht, rfl⟩
    exact ⟨p, hp, List.mem_map.mpr ⟨t, ht, rfl⟩⟩
theorem snoc_inj {a b : List PyData} {x y : PyData} (h : a ++ [x] = b ++ [y]) : a = b ∧ x = y := by
  have := List.append_inj' h rfl
  exact ⟨this.1, by simpa using this.2⟩
theorem TP.step {pre found : Rows} {ts : List PyData} (p : TP pre found) (hn : ts.Nodup) : TP (pre ++ [ts]) (longer found ts) := by
  refine ⟨?_, fun o ho => ?_, ?_⟩
  · rw [longer_len, p.len, lenProd_app]
    simp [lenProd]
  · obtain ⟨q, hq, t, ht, rfl⟩ := longer_mem.mp ho
    obtain ⟨h1, h2⟩ := p.mem q hq
    refine ⟨by rw [List.length_append, List.length_append, h1]; rfl, fun i x l ex el => ?_⟩
    by_cases hi : i < q.length
    · rw [List.getElem?_append_left hi] at ex
      rw [List.getElem?_append_left (by omega)] at el
      exact h2 i x l ex el
    · rw [List.getElem?_append_right (by omega)] at ex
      rw [List.getElem?_append_right (by omega)] at el
      have z1 : i - q.length = 0 := by
        have := (List.getElem?_eq_some_iff.mp ex).1
        simp at this
        omega
      have z2 : i - pre.length = 0 := by omega
      rw [z1] at ex
      rw [z2] at el
      simp at ex el
      rw [← ex, ← el]
      exact ht
  · unfold longer
    refine List.pairwise_flatMap.mpr ⟨fun o _ => List.pairwise_map.mpr (hn.imp fun {x y} h z => h (snoc_inj z).2), p.nd.imp fun {a b} h x hx y hy z => ?_⟩
    obtain ⟨t, _, rfl⟩ := List.mem_map.mp hx
    obtain ⟨u, _, rfl⟩ := List.mem_map.mp hy
    exact h (snoc_inj z).1
theorem TP.fold : ∀ {ls pre found : Rows}, TP pre found → (∀ l ∈ ls, l.Nodup) → TP (pre ++ ls) (ls.foldl longer found)
  | [], pre, found, p, _ => by rw [List.append_nil]; exact p
  | l :: ls, pre, found, p, h => by
    have := TP.fold (ls := ls) (p.step (h l List.mem_cons_self)) fun x hx => h x (List.mem_cons_of_mem _ hx)
    rw [List.append_assoc] at this
    exact this
theorem TP.nil : TP [] [[]] := ⟨rfl, fun o ho => by
  rw [List.mem_singleton.mp ho]
  exact ⟨rfl, fun i x l e _ => by simp at e⟩, List.pairwise_singleton _ _⟩
theorem tuples_tp {ls : Rows} (h : ∀ l ∈ ls, l.Nodup) : TP ls (tuplesL ls) := by
  have := TP.fold (ls := ls) TP.nil h
  rw [List.nil_append] at this
  exact this
theorem lenProd_nil {ls : Rows} (h : [] ∈ ls) : lenProd ls = 0 := by
  induction ls with
  | nil => cases h
  | cons l ls ih =>
    rcases List.mem_cons.mp h with e | e
    · rw [lenProd, ← e]; simp
    · rw [lenProd, ih e, Nat.mul_zero]
theorem tuples_nil {ls : Rows} (hn : ∀ l ∈ ls, l.Nodup) (h : [] ∈ ls) : tuplesL ls = [] := by
  have := (tuples_tp hn).len
  rw [lenProd_nil h] at this
  exact List.eq_nil_of_length_eq_zero this
theorem lenProd_pos {ls : Rows} (h : [] ∉ ls) : 1 ≤ lenProd ls := by
  induction ls with
  | nil => exact Nat.le_refl _
  | cons l ls ih =>
    have h1 : l ≠ [] := fun e => h (by rw [e]; exact List.mem_cons_self)
    have h2 := ih fun e => h (List.mem_cons_of_mem _ e)
    have h3 : 1 ≤ l.length := by
      cases l with
      | nil => exact absurd rfl h1
      | cons x xs => simp
    rw [lenProd]
    exact Nat.mul_le_mul h3 h2
theorem lenProd_take {ls : Rows} (h : [] ∉ ls) (i : Nat) : lenProd (ls.take i) ≤ lenProd ls := by
  have e : ls = ls.take i ++ ls.drop i := (List.take_append_drop i ls).symm
  have h1 : 1 ≤ lenProd (ls.drop i) := lenProd_pos fun z => h (List.mem_of_mem_drop z)
  calc lenProd (ls.take i) = lenProd (ls.take i) * 1 := (Nat.mul_one _).symm
    _ ≤ lenProd (ls.take i) * lenProd (ls.drop i) := Nat.mul_le_mul_left _ h1
    _ = lenProd (ls.take i ++ ls.drop i) := (lenProd_app _ _).symm
    _ = lenProd ls := by rw [← e]
theorem prodN_len (k : Nat) : ∀ {ls : Rows} {cs : List ON}, cs = ls.map (fun l => some l.length) → prodN cs = lenProd ls
  | [], _, e => by rw [e]; rfl
  | l :: ls, _, e => by
    rw [e, List.map_cons, prodN, prodN_len k rfl, lenProd]
    rfl
/-! subsets -/
structure SP (pre : List PyData) (found : Rows) : Prop where
  len : found.length = 2 ^ pre.length
  mem : ∀ o ∈ found, o.Sublist pre
  nd : found.Nodup
theorem SP.nil : SP [] [[]] := ⟨rfl, fun o ho => by rw [List.mem_singleton.mp ho]; exact List.Sublist.refl _, List.pairwise_singleton _ _⟩
theorem SP.step {pre : List PyData} {found : Rows} {t : PyData} (p : SP pre found) (hn : t ∉ pre) : SP (pre ++ [t]) (found ++ found.map fun o => o ++ [t]) := by
  refine ⟨?_, fun o ho => ?_, ?_⟩
  · rw [List.length_append, List.length_map, p.len, List.length_append, List.length_singleton, Nat.pow_succ]
    omega
  · rcases List.mem_append.mp ho with h | h
    · exact (p.mem o h).trans (List.sublist_append_left _ _)
    · obtain ⟨q, hq, rfl⟩ := List.mem_map.mp h
      exact (p.mem q hq).append (List.Sublist.refl _)
  · refine List.pairwise_append.mpr ⟨p.nd, List.pairwise_map.mpr (p.nd.imp fun {a b} h z => h (snoc_inj z).1), fun a ha b hb z => ?_⟩
    obtain ⟨q, hq, rfl⟩ := List.mem_map.mp hb
    have h1 := (p.mem a ha).subset
    rw [z] at h1
    exact hn (h1 (List.mem_append_right _ (List.mem_singleton.mpr rfl)))
theorem SP.fold : ∀ {es pre : List PyData} {found : Rows}, SP pre found → (pre ++ es).Nodup → SP (pre ++ es) (es.foldl (fun found t => found ++ found.map fun o => o ++ [t]) found)
  | [], pre, found, p, _ => by rw [List.append_nil]; exact p
  | t :: es, pre, found, p, h => by
    have e : pre ++ t :: es = (pre ++ [t]) ++ es := by simp
    rw [e] at h ⊢
    have h1 : t ∉ pre := fun z => by
      have h2 := (List.pairwise_append.mp (List.pairwise_append.mp h).1).2.2 t z t (List.mem_singleton.mpr rfl)
      exact h2 rfl
    exact SP.fold (p.step h1) h
theorem subs_sp {es : List PyData} (h : es.Nodup) : SP es (subsL es) := by
  have := SP.fold (es := es) SP.nil (by rw [List.nil_append]; exact h)
  rw [List.nil_append] at this
  exact this
/-! ### what the list of a shape's values is -/
structure VL (k : Nat) (s : Sh) (ds : List PyData) : Prop where
  cnt : cnt k s = some ds.length
  fit : ∀ d ∈ ds, FI.fitsB k s d = true
  nd : ds.Nodup
theorem limN_some {n m : Nat} (h : limN n = some m) : n = m := by
  unfold limN at h
  split at h
  · exact Option.some.inj h
  · cases h
theorem limN_of {n : Nat} (h : n ≤ 1000000000) : limN n = some n := if_pos h
theorem few_some {c : ON} (h : fewN c = true) : ∃ n, c = some n ∧ n ≤ 70 := by
  cases c with
  | none => cases h
  | some n => exact ⟨n, rfl, of_decide_eq_true h⟩
theorem map_tuple_nd {rs : Rows} (h : rs.Nodup) : (rs.map PyData.tuple).Nodup := List.pairwise_map.mpr (h.imp fun {a b} q z => q (PyData.tuple.inj z))
theorem vl_letters {k j : Nat} : VL k (.letters j) ((List.range j).map fun i => PyData.int ((i : Nat) : Int)) := by
  refine ⟨by rw [List.length_map, List.length_range]; rfl, fun d hd => ?_, ?_⟩
  · obtain ⟨i, hi, rfl⟩ := List.mem_map.mp hd
    have hi := List.mem_range.mp hi
    rw [FI.fitsB]
    show (decide ((0 : Int) ≤ (i : Int)) && decide ((i : Int) < (j : Int))) = true
    rw [decide_eq_true (by omega), decide_eq_true (by omega)]
    rfl
  · exact List.pairwise_map.mpr (List.nodup_range.imp fun {a b} h z => h (by have := PyData.int.inj z; omega))
theorem vl_self {k : Nat} (hk : k ≤ 1000000000) : VL k .self ((List.range k).map fun i => PyData.int ((i : Nat) : Int)) := by
  refine ⟨by rw [List.length_map, List.length_range]; exact limN_of hk, fun d hd => ?_, ?_⟩
  · obtain ⟨i, hi, rfl⟩ := List.mem_map.mp hd
    have hi := List.mem_range.mp hi
    rw [FI.fitsB]
    show (decide ((0 : Int) ≤ (i : Int)) && decide ((i : Int) < (k : Int))) = true
    rw [decide_eq_true (by omega), decide_eq_true (by omega)]
    rfl
  · exact List.pairwise_map.mpr (List.nodup_range.imp fun {a b} h z => h (by have := PyData.int.inj z; omega))
/-- the lists of the shapes that stand side by side -/
structure VLs (k : Nat) (xs : List Sh) (ls : Rows) : Prop where
  len : xs.length = ls.length
  at_ : ∀ (i : Nat) (s : Sh) (l : List PyData), xs[i]? = some s → ls[i]? = some l → VL k s l
theorem VLs.cnts {k : Nat} {xs : List Sh} {ls : Rows} (h : VLs k xs ls) : xs.map (cnt k) = ls.map fun l => some l.length := by
  refine List.ext_getElem? fun i => ?_
  rw [List.getElem?_map, List.getElem?_map]
  by_cases hi : i < xs.length
  · have hi2 : i < ls.length := by rw [← h.len]; exact hi
    rw [List.getElem?_eq_getElem hi, List.getElem?_eq_getElem hi2]
    exact congrArg some (h.at_ i _ _ (List.getElem?_eq_getElem hi) (List.getElem?_eq_getElem hi2)).cnt
  · rw [List.getElem?_eq_none (by omega), List.getElem?_eq_none (by rw [← h.len]; omega)]
    rfl
theorem VLs.nd {k : Nat} {xs : List Sh} {ls : Rows} (h : VLs k xs ls) : ∀ l ∈ ls, l.Nodup := fun l hl => by
  obtain ⟨i, hi, e⟩ := List.getElem_of_mem hl
  have hi2 : i < xs.length := by rw [h.len]; exact hi
  exact (h.at_ i _ l (List.getElem?_eq_getElem hi2) (by rw [List.getElem?_eq_getElem hi, e])).nd
theorem mulN_len {ls : Rows} (hs : lenProd ls ≤ 1000000000) : mulN (ls.map fun l => some l.length) = some (lenProd ls) := by
  unfold mulN
  by_cases h : some 0 ∈ ls.map fun l => some l.length
  · rw [if_pos h]
    obtain ⟨l, hl, e⟩ := List.mem_map.mp h
    have e2 : l = [] := List.eq_nil_of_length_eq_zero (Option.some.inj e)
    rw [e2] at hl
    rw [lenProd_nil hl]
  · rw [if_neg h, if_neg (fun z => by obtain ⟨l, _, e⟩ := List.mem_map.mp z; cases e), prodN_len 0 rfl]
    exact limN_of hs
theorem mulN_small {ls : Rows} {n : Nat} (h : mulN (ls.map fun l => some l.length) = some n) : lenProd ls = n := by
  unfold mulN at h
  by_cases q : some 0 ∈ ls.map fun l => some l.length
  · rw [if_pos q] at h
    obtain ⟨l, hl, e⟩ := List.mem_map.mp q
    have e2 : l = [] := List.eq_nil_of_length_eq_zero (Option.some.inj e)
    rw [e2] at hl
    rw [lenProd_nil hl]
    exact Option.some.inj h
  · rw [if_neg q, if_neg (fun z => by obtain ⟨l, _, e⟩ := List.mem_map.mp z; cases e), prodN_len 0 rfl] at h
    exact limN_some h
theorem vl_both {k : Nat} {xs : List Sh} {ls : Rows} (h : VLs k xs ls) {n : Nat} (hn : cnt k (.both xs) = some n) : VL k (.both xs) ((tuplesL ls).map PyData.tuple) ∧ lenProd ls = n := by
  have e : cnt k (.both xs) = mulN (xs.map (cnt k)) := congrArg mulN (cnts_map k xs)
  rw [e, h.cnts] at hn
  have hp := mulN_small hn
  have tp := tuples_tp h.nd
  refine ⟨⟨?_, fun d hd => ?_, map_tuple_nd tp.nd⟩, hp⟩
  · rw [e, h.cnts, hn, List.length_map, tp.len, hp]
  · obtain ⟨o, ho, rfl⟩ := List.mem_map.mp hd
    obtain ⟨l1, l2⟩ := tp.mem o ho
    rw [FI.fitsB, FI.allFit_iff (by rw [l1, h.len])]
    intro i s d e1 e2
    have hi : i < ls.length := by
      have := (List.getElem?_eq_some_iff.mp e1).1
      rw [← h.len]; exact this
    exact (h.at_ i s _ e1 (List.getElem?_eq_getElem hi)).fit d (l2 i d _ e2 (List.getElem?_eq_getElem hi))
theorem vl_after {k j : Nat} {s : Sh} {l : List PyData} (h : VL k s l) {n : Nat} (hn : cnt k (.after j s) = some n) : VL k (.after j s) ((tuplesL (List.replicate j l)).map PyData.tuple) ∧ lenProd (List.replicate j l) = n := by
  have e : cnt k (.after j s) = mulN (List.replicate j (cnt k s)) := rfl
  have e2 : List.replicate j (cnt k s) = (List.replicate j l).map fun l => some l.length := by rw [List.map_replicate, h.cnt]
  rw [e, e2] at hn
  have hp := mulN_small hn
  have tp := tuples_tp (ls := List.replicate j l) fun x hx => by rw [List.eq_of_mem_replicate hx]; exact h.nd
  refine ⟨⟨?_, fun d hd => ?_, map_tuple_nd tp.nd⟩, hp⟩
  · rw [e, e2, hn, List.length_map, tp.len, hp]
  · obtain ⟨o, ho, rfl⟩ := List.mem_map.mp hd
    obtain ⟨l1, l2⟩ := tp.mem o ho
    rw [List.length_replicate] at l1
    rw [FI.fitsB, Bool.and_eq_true]
    refine ⟨decide_eq_true l1, List.all_eq_true.mpr fun x hx => ?_⟩
    obtain ⟨i, hi, ei⟩ := List.getElem_of_mem hx
    have hj : i < j := by omega
    exact h.fit x (l2 i x l (by rw [List.getElem?_eq_getElem hi, ei]) (by rw [List.getElem?_replicate, if_pos hj]))
theorem vl_chance {k : Nat} {s : Sh} {l : List PyData} (h : VL k s l) {n : Nat} (hn : cnt k (.chance s) = some n) : VL k (.chance s) (l.map fun v => .tuple [.tuple [v, .int 1, .int 1]]) := by
  have e : cnt k (.chance s) = oneN (cnt k s) := rfl
  refine ⟨?_, fun d hd => ?_, List.pairwise_map.mpr (h.nd.imp fun {a b} q z => q ?_)⟩
  · rw [e] at hn ⊢
    rw [List.length_map, ← h.cnt]
    unfold oneN at hn ⊢
    split at hn
    · rename_i c; rw [if_pos c]
    · cases hn
  · obtain ⟨v, hv, rfl⟩ := List.mem_map.mp hd
    rw [FI.fitsB]
    have hf := h.fit v hv
    show ([PyData.tuple [v, .int 1, .int 1]].all (FI.longB 3) && FI.addUp [(.int 1, .int 1)] && FI.riseB (FI.fitsB k s) none [v]) = true
    have h1 : ([PyData.tuple [v, .int 1, .int 1]].all (FI.longB 3)) = true := rfl
    have h2 : FI.addUp [(.int 1, .int 1)] = true := by decide
    have h3 : FI.riseB (FI.fitsB k s) none [v] = true := by
      show (FI.fitsB k s v && true) = true
      rw [hf]; rfl
    rw [h1, h2, h3]; rfl
  · have z1 := PyData.tuple.inj z
    have z2 := (List.cons.inj z1).1
    exact (List.cons.inj (PyData.tuple.inj z2)).1
theorem rise_of {f : PyData → Bool} : ∀ {l : Option PyData} {ds : List PyData}, (∀ d ∈ ds, f d = true) → ds.Pairwise (fun a b => ltD a b = some true) → (∀ x, l = some x → ∀ d ∈ ds, ltD x d = some true) → FI.riseB f l ds = true
  | none, [], _, _, _ => rfl
  | some _, [], _, _, _ => rfl
  | none, d :: ds, h, hp, _ => by
    show (f d && FI.riseB f (some d) ds) = true
    rw [h d List.mem_cons_self, rise_of (fun x hx => h x (List.mem_cons_of_mem _ hx)) (List.pairwise_cons.mp hp).2 fun x e y hy => by cases e; exact (List.pairwise_cons.mp hp).1 y hy]
    rfl
  | some l, d :: ds, h, hp, hl => by
    show (f d && (ltD l d == some true) && FI.riseB f (some d) ds) = true
    rw [h d List.mem_cons_self, hl l rfl d List.mem_cons_self, rise_of (fun x hx => h x (List.mem_cons_of_mem _ hx)) (List.pairwise_cons.mp hp).2 fun x e y hy => by cases e; exact (List.pairwise_cons.mp hp).1 y hy]
    rfl
theorem vl_some {k m : Nat} {s : Sh} {l es : List PyData} (hw : Sh.wf m s) (h : VL k s l) {n : Nat} (hn : cnt k (.some s) = some n) (hp : es.Perm l) (hs : es.Pairwise fun x y => dLt y x = false) : VL k (.some s) ((subsL es).map PyData.tuple) ∧ 2 ^ es.length = n := by
  have e : cnt k (.some s) = setsN (cnt k s) := rfl
  rw [e, h.cnt] at hn
  have hlen : es.length = l.length := hp.length_eq
  have e30 : ¬ 30 ≤ l.length := fun z => by
    unfold setsN at hn
    simp only [if_pos z] at hn
    cases hn
  have hn2 : limN (2 ^ l.length) = some n := by
    unfold setsN at hn
    simp only [if_neg e30] at hn
    exact hn
  have hnn := limN_some hn2
  have nd : es.Nodup := hp.nodup_iff.mpr h.nd
  have sp := subs_sp nd
  have fit : ∀ d ∈ es, FI.fitsB k s d = true := fun d hd => h.fit d (hp.mem_iff.mp hd)
  have gd := FI.good_of k m s hw
  have up : es.Pairwise fun a b => ltD a b = some true := by
    have both := hs.and nd
    refine List.Pairwise.imp_of_mem (fun {a b} ha hb q => ?_) both
    obtain ⟨c, hc⟩ := gd.2 a b (fit a ha) (fit b hb)
    exact ltD_up (gd.1 a (fit a ha)) (gd.1 b (fit b hb)) hc q.2 q.1
  refine ⟨⟨?_, fun d hd => ?_, map_tuple_nd sp.nd⟩, by rw [hlen]; exact hnn⟩
  · rw [e, h.cnt, hn, List.length_map, sp.len, hlen, hnn]
  · obtain ⟨o, ho, rfl⟩ := List.mem_map.mp hd
    have sub := sp.mem o ho
    rw [FI.fitsB]
    exact rise_of (fun x hx => fit x (sub.subset hx)) (up.sublist sub) fun x e => by cases e
/-- of "either" -/
def eithL : Nat → Rows → List PyData
  | _, [] => []
  | i, l :: ls => l.map (fun v => .tuple [.int ((i : Nat) : Int), v]) ++ eithL (i + 1) ls
theorem eith_mem : ∀ {ls : Rows} {i : Nat} {d : PyData}, d ∈ eithL i ls → ∃ (j : Nat) (l : List PyData) (v : PyData), ls[j]? = some l ∧ v ∈ l ∧ d = .tuple [.int (((i + j : Nat)) : Int), v]
  | [], _, _, h => by cases h
  | l :: ls, i, d, h => by
    rcases List.mem_append.mp h with h | h
    · obtain ⟨v, hv, rfl⟩ := List.mem_map.mp h
      exact ⟨0, l, v, rfl, hv, rfl⟩
    · obtain ⟨j, l', v, e, hv, rfl⟩ := eith_mem h
      exact ⟨j + 1, l', v, by simpa using e, hv, by rw [show i + (j + 1) = i + 1 + j by omega]⟩
theorem eith_nd : ∀ {ls : Rows} {i : Nat}, (∀ l ∈ ls, l.Nodup) → (eithL i ls).Nodup
  | [], _, _ => List.Pairwise.nil
  | l :: ls, i, h => by
    refine List.pairwise_append.mpr ⟨List.pairwise_map.mpr ((h l List.mem_cons_self).imp fun {a b} q z => q ?_), eith_nd fun x hx => h x (List.mem_cons_of_mem _ hx), fun a ha b hb z => ?_⟩
    · obtain ⟨v, _, rfl⟩ := List.mem_map.mp ha
      obtain ⟨j, l', u, _, _, rfl⟩ := eith_mem hb
      have := PyData.int.inj (List.cons.inj (PyData.tuple.inj z)).1
      omega
    · exact (List.cons.inj (List.cons.inj (PyData.tuple.inj z)).2).1
theorem eith_len : ∀ {ls : Rows} {i : Nat}, (eithL i ls).length = sumN (ls.map fun l => some l.length)
  | [], _ => rfl
  | l :: ls, i => by rw [eithL, List.length_append, List.length_map, eith_len, List.map_cons, sumN]; rfl
theorem vl_either {k : Nat} {xs : List Sh} {ls : Rows} (h : VLs k xs ls) {n : Nat} (hn : cnt k (.either xs) = some n) : VL k (.either xs) (eithL 0 ls) := by
  have e : cnt k (.either xs) = addN (xs.map (cnt k)) := congrArg addN (cnts_map k xs)
  have no : none ∉ ls.map fun l => some l.length := fun z => by obtain ⟨l, _, e⟩ := List.mem_map.mp z; cases e
  have hn2 : limN (sumN (ls.map fun l => some l.length)) = some n := by
    rw [e, h.cnts] at hn
    unfold addN at hn
    rw [if_neg no] at hn
    exact hn
  refine ⟨?_, fun d hd => ?_, eith_nd h.nd⟩
  · rw [hn, eith_len, limN_some hn2]
  · obtain ⟨j, l, v, e1, hv, rfl⟩ := eith_mem hd
    have hj : j < xs.length := by rw [h.len]; exact (List.getElem?_eq_some_iff.mp e1).1
    have hx : xs[j]? = some xs[j] := List.getElem?_eq_getElem hj
    rw [FI.fitsB]
    show (decide (2 = 2) && FI.numBelow (.int ((0 + j : Nat) : Int)) xs.length && FI.nthB k xs ((0 + j : Nat) : Int).toNat v) = true
    have b1 : FI.numBelow (.int ((0 + j : Nat) : Int)) xs.length = true := by
      show (decide ((0 : Int) ≤ ((0 + j : Nat) : Int)) && decide (((0 + j : Nat) : Int) < (xs.length : Int))) = true
      rw [decide_eq_true (by omega), decide_eq_true (by omega)]; rfl
    rw [b1, Int.toNat_natCast, Nat.zero_add, FI.nthB_eq v hx, (h.at_ j _ l hx e1).fit v hv]
    rfl
end M4
end
section
set_option Elab.async false
set_option linter.all false
set_option maxRecDepth 100000
set_option maxHeartbeats 4000000
namespace M4
open PySem PySem.Spec PyProof.Rows L2 GE MS
abbrev s_law_tuples : Stmt := top 49
abbrev s_law_longer : Stmt := top 50
abbrev s_law_list : Stmt := top 51
abbrev tups (rs : Rows) : List PyData := rs.map PyData.tuple
/-- another one than the lists that stood -/
def NewL (H : Hp) (p : Addr) : Prop := ∀ D xs, H D = some (.lst xs) → p ≠ D
theorem newL_of {H H' : Hp} {p : Addr} (g : Gr H H') (h : H' p = none) : NewL H p := fun D xs e z => by
  have := grLst g e
  rw [← z, h] at this
  cases this
theorem NewL.later {H H' : Hp} {p : Addr} (g : Gr H H') (h : NewL H' p) : NewL H p := fun D xs e => h D xs (grLst g e)
theorem longer_snoc (os : Rows) (o : List PyData) (ts : List PyData) : longer (os ++ [o]) ts = longer os ts ++ ts.map fun t => o ++ [t] := by
  unfold longer
  rw [List.flatMap_append]
  simp
section
variable {P : Program} {w : World} {K : PySem.W.Frag} {mg : Str → Option Value} {base : Heap} {f fL : Addr} {fd dL : FuncData}
def spLonger (K : PySem.W.Frag) : Sp := fun vs H Q _ => ∃ (a b : Addr) (us ws : List V) (os : Rows) (ts : List PyData), vs = [.ref a, .ref b] ∧ SqL K H a us ∧ DtAll K H us (tups os) ∧ SqL K H b ws ∧ DtAll K H ws ts ∧ os.length * ts.length ≤ 100000 ∧ ts.length ≤ 100000 ∧ (∀ o ∈ os, o.length ≤ 1000) ∧
  ∀ H' p ys, Gr H H' → NewL H p → H' p = some (.lst ys) → DtAll K H' ys (tups (longer os ts)) → Q (.ref p) H'
abbrev kLonger : List Str := ["found", "things", "more", "one", "thing"]
theorem sc_longer : FnScope kLonger ["found", "things"] (defScope s_law_longer) := ⟨rfl, rfl, rfl, by decide +kernel, rfl, by decide +kernel, by decide +kernel⟩
theorem ok_longer (F : Fun K "_law_longer" "_law_longer" s_law_longer f fd) : FnOk P w K mg base CX0 1 f fd ["found", "things"] (spLonger K) := by
  refine F.ok sc_longer (fun vs H Q E h => ?_) (fun cdv A outer s0 H vs Q E hr h => ?_)
  · obtain ⟨a, b, us, ws, os, ts, rfl, _⟩ := h
    rfl
  obtain ⟨a, b, us, ws, os, ts, rfl, hS, hA, hT, hB, hz, hz2, ho, q⟩ := h
  have nd := sc_longer.nd
  refine ⟨_, pss_cons (ps_set (i := 2) nd rfl (.inl rfl) (pe_lst pa_nil))
    (pss_cons (ps_for PassesOwn.never rfl (pi_list (pv 0)) (pg_name (i := 3) nd rfl (Or.inr rfl))
      (pss_one (ps_set (i := 2) nd rfl (.inl rfl) (pe_op op_cat (pv 2)
        (pe_lc (own := [("thing", 4)]) (g := gName 4) (tt := tYes) rfl nd (pi_list (pv 1)) (blkOk_by (own := [("thing", 4)]) (N := kLonger) (sc := defScope s_law_longer) (by decide +kernel))
          (fun _ _ _ _ _ => pg_name (i := 4) nd rfl (Or.inl rfl)) (fun _ _ _ _ _ => pts_nil) (fun _ _ _ _ _ => pe_op (catAK (K := K) rfl) (pv 3) (pe_tup (pa_cons (pv 4) pa_nil))))))))
    (pss_one (ps_ret (pv 2)))), ?_⟩
  have sz : sizeLine = 16777216 := by decide
  refine ⟨by show 0 ≤ sizeLine; omega, fun p0 hp0 => ?_⟩
  have g0 : Gr H (upd H p0 (.lst [])) := Gx.new hp0
  refine ⟨_, rfl, a, rfl, ⟨_, SqL.ofGr g0 hS⟩, for_list (xs := us) (fun i σ H1 => ∃ (p : Addr) (ys : List V) (o : Option V), σ = [some (.ref a), some (.ref b), some (.ref p), o, none] ∧ Gr H H1 ∧ NewL H p ∧ H1 p = some (.lst ys) ∧ DtAll K H1 ys (tups (longer (os.take i) ts)))
    ⟨p0, [], none, rfl, g0, newL_of Gx.refl hp0, upd_same, .nil⟩ (fun i σ H1 _ p => SqL.ofGr p.choose_spec.choose_spec.choose_spec.2.1 hS) (fun i x σ H1 hx p => ?_) fun σ H1 p => ?_⟩
  · obtain ⟨p, ys, o, rfl, g1, _, e1, a1⟩ := p
    obtain ⟨d, hdd, hxd⟩ := hA.of_get hx
    rw [List.getElem?_map] at hdd
    obtain ⟨od, hod, rfl⟩ := Option.map_eq_some_iff.mp hdd
    have hi : i < os.length := (List.getElem?_eq_some_iff.mp hod).1
    have hT1 := SqL.ofGr g1 hT
    refine ⟨_, rfl, _, rfl, b, rfl, ⟨_, hT1⟩, fun D hD => lcL_data (f := fun t => .tuple (od ++ [t])) hT1 (hB.gr g1) (by omega) hD (fun _ => rfl) (fun j u t H' _ _ g hu R hR => ?_) fun H2 zs g2 e2 a2 => ?_⟩
    · refine ⟨_, rfl, _, rfl, by show 1 ≤ sizeLine; omega, fun p1 hp1 => ?_⟩
      refine cat_tups ((hxd.gr (g1.trans g)).gr (Gx.new hp1)) (new_tup (ds := [t]) (.cons hu .nil) hp1) ?_ (by show 1 ≤ 100000; omega) fun z H3 g3 dz => hR z H3 ((Gx.new hp1).trans g3) dz
      have := ho od (List.mem_of_getElem? hod)
      omega
    · have e1' := grLst g2 e1
      have a1' := a1.gr g2
      have ly := a1'.length
      have lz := a2.length
      rw [List.length_map, longer_len, List.length_take] at ly
      rw [List.length_map] at lz
      have hm : min i os.length * ts.length ≤ os.length * ts.length := Nat.mul_le_mul_right _ (Nat.min_le_right _ _)
      refine ⟨p, D, ys, zs, rfl, rfl, e1', e2, by omega, fun q2 hq2 => ⟨q2, ys ++ zs, some x, rfl, (g1.trans g2).trans (Gx.new hq2), newL_of (g1.trans g2) hq2, upd_same, ?_⟩⟩
      rw [List.take_succ, hod]
      show DtAll K _ (ys ++ zs) (tups (longer (os.take i ++ [od]) ts))
      rw [longer_snoc]
      unfold tups at a1' ⊢
      rw [List.map_append, List.map_map]
      exact DtAll.append (a1'.gr (Gx.new hq2)) (a2.gr (Gx.new hq2))
  · obtain ⟨p, ys, o, rfl, g1, n1, e1, a1⟩ := p
    have el : us.length = os.length := by rw [hA.length, List.length_map]
    rw [List.take_of_length_le (by omega)] at a1
    exact ⟨_, rfl, q H1 p ys g1 n1 e1 a1⟩
end
end M4
end
section
set_option Elab.async false
set_option linter.all false
set_option maxRecDepth 100000
set_option maxHeartbeats 4000000
namespace M4
open PySem PySem.Spec PyProof.Rows L2 GE MS
/-- a row of lists of data -/
structure LsOf (K : PySem.W.Frag) (H : Hp) (us : List V) (ls : Rows) : Prop where
  len : us.length = ls.length
  at_ : ∀ (i : Nat) (u : V) (l : List PyData), us[i]? = some u → ls[i]? = some l → ∃ b vs, u = .ref b ∧ H b = some (.lst vs) ∧ DtAll K H vs l
theorem LsOf.gr {K : PySem.W.Frag} {H H' : Hp} {us : List V} {ls : Rows} (g : Gr H H') (h : LsOf K H us ls) : LsOf K H' us ls := ⟨h.len, fun i u l e1 e2 => by
  obtain ⟨b, vs, e, h1, h2⟩ := h.at_ i u l e1 e2
  exact ⟨b, vs, e, grLst g h1, h2.gr g⟩⟩
theorem LsOf.dp {K : PySem.W.Frag} {H : Hp} : ∀ {us : List V} {ls : Rows}, LsOf K H us ls → DpAll K H us (ls.map PyData.list)
  | [], [], _ => .nil
  | [], _ :: _, h => by have := h.len; simp at this
  | _ :: _, [], h => by have := h.len; simp at this
  | u :: us, l :: ls, h => by
    obtain ⟨b, vs, rfl, h1, h2⟩ := h.at_ 0 u l rfl rfl
    refine .cons (.lst (SqL.of h1) (DtAll.dp _ _ h2)) (LsOf.dp ⟨by have := h.len; simpa using this, fun i u l e1 e2 => h.at_ (i + 1) u l (by simpa using e1) (by simpa using e2)⟩)
theorem eqv_lnil (l : List PyData) : PyData.eqv (.list l) (.list []) = decide (l = []) := by
  cases l with
  | nil => rfl
  | cons x xs => rfl
theorem any_lnil (ls : Rows) : ((ls.map PyData.list).any fun z => PyData.eqv z (.list [])) = true ↔ [] ∈ ls := by
  rw [List.any_eq_true]
  constructor
  · rintro ⟨z, hz, e⟩
    obtain ⟨l, hl, rfl⟩ := List.mem_map.mp hz
    rw [eqv_lnil] at e
    rw [← of_decide_eq_true e]
    exact hl
  · intro h
    exact ⟨_, List.mem_map.mpr ⟨[], h, rfl⟩, rfl⟩
theorem shp_all {n : Nat} : ∀ {ds : List PyData}, (∀ d ∈ ds, d.canLay0 = true ∧ d.depth ≤ n) → PyData.canLayAll0 ds = true ∧ PyData.depthAll ds ≤ n
  | [], _ => ⟨rfl, Nat.zero_le _⟩
  | d :: ds, h => by
    obtain ⟨h1, h2⟩ := h d List.mem_cons_self
    obtain ⟨h3, h4⟩ := shp_all fun x hx => h x (List.mem_cons_of_mem _ hx)
    simp only [PyData.canLayAll0, PyData.depthAll, h1, h3, Bool.and_self]
    exact ⟨trivial, by omega⟩
theorem shp_list {n : Nat} {ds : List PyData} (h : ∀ d ∈ ds, d.canLay0 = true ∧ d.depth ≤ n) : (PyData.list ds).canLay0 = true ∧ (PyData.list ds).depth ≤ n + 1 := by
  obtain ⟨h1, h2⟩ := shp_all h
  simp only [PyData.canLay0, PyData.depth, h1]
  exact ⟨trivial, by omega⟩
theorem shp_of {n : Nat} {d : PyData} (h : d.canLay0 = true ∧ d.depth ≤ n) (hn : n ≤ 64) : SeqAt.shaped d = true := by
  show (d.canLay0 && decide (d.depth ≤ 64)) = true
  rw [h.1, decide_eq_true (by omega : d.depth ≤ 64)]
  rfl
theorem tuplesL_snoc (ls : Rows) (l : List PyData) : tuplesL (ls ++ [l]) = longer (tuplesL ls) l := by
  unfold tuplesL
  rw [List.foldl_append]
  rfl
section
variable {P : Program} {w : World} {K : PySem.W.Frag} {mg : Str → Option Value} {base : Heap} {f fL : Addr} {fd dL : FuncData}
def spTuples (K : PySem.W.Frag) : Sp := fun vs H Q _ => ∃ (a : Addr) (us : List V) (ls : Rows), vs = [.ref a] ∧ SqL K H a us ∧ LsOf K H us ls ∧ ls.length ≤ 100 ∧ lenProd ls ≤ 100 ∧ (∀ l ∈ ls, l.Nodup ∧ l.length ≤ 1000 ∧ ∀ d ∈ l, d.canLay0 = true ∧ d.depth ≤ 60) ∧
  ∀ H' p ys, Gr H H' → NewL H p → H' p = some (.lst ys) → DtAll K H' ys (tups (tuplesL ls)) → Q (.ref p) H'
abbrev kTup : List Str := ["lists", "found", "things"]
theorem sc_tuples : FnScope kTup ["lists"] (defScope s_law_tuples) := ⟨rfl, rfl, rfl, by decide +kernel, rfl, by decide +kernel, by decide +kernel⟩
theorem ok_tuples (OL : FnOk P w K mg base CX0 1 fL dL ["found", "things"] (spLonger K)) (gL : mg "_law_longer" = some (.ref fL)) (kL : PySem.W.keepIn K (.ref fL) = true) (bL : Binds K dL ["found", "things"] []) (F : Fun K "_law_tuples" "_law_tuples" s_law_tuples f fd) : FnOk P w K mg base CX0 2 f fd ["lists"] (spTuples K) := by
  refine F.ok sc_tuples (fun vs H Q E h => ?_) (fun cdv A outer s0 H vs Q E hr h => ?_)
  · obtain ⟨a, us, ls, rfl, _⟩ := h
    rfl
  obtain ⟨a, us, ls, rfl, hS, hL, hl, hp, hd, q⟩ := h
  have nd := sc_tuples.nd
  refine ⟨_, pss_cons (ps_if (pt_cmpR (op_inD (M4.Room.u65 hr)) (pe_lst pa_nil) (pv 0) (by rfl)) (pss_one (ps_ret (pe_lst pa_nil))) pss_nil)
    (pss_cons (ps_set (i := 1) nd rfl (.inl rfl) (pe_lst (pa_cons (pe_tup pa_nil) pa_nil)))
    (pss_cons (ps_for PassesOwn.never rfl (pi_list (pv 0)) (pg_name (i := 2) nd rfl (Or.inl rfl))
      (pss_one (ps_set (i := 1) nd rfl (.inl rfl) (pe_call OL hr rfl gL kL bL .nil pass0 (pa_cons (pv 1) (pa_cons (pv 2) pa_nil))))))
    (pss_one (ps_ret (pv 1))))), ?_⟩
  have sz : sizeLine = 16777216 := by decide
  refine ⟨by show 0 ≤ sizeLine; omega, fun p0 hp0 => ?_⟩
  have g0 : Gr H (upd H p0 (.lst [])) := Gx.new hp0
  have hS0 := SqL.ofGr g0 hS
  have hL0 := hL.gr g0
  have sh1 : SeqAt.shaped (.list (ls.map PyData.list)) = true := by
    refine shp_of (n := 62) (shp_list (n := 61) fun d hd' => ?_) (by decide)
    obtain ⟨l, hl', rfl⟩ := List.mem_map.mp hd'
    exact shp_list (hd l hl').2.2
  refine ⟨_, rfl, .list [], ls.map PyData.list, .lst (SqL.of upd_same) .nil, .lst hS0 hL0.dp, by decide +kernel, sh1, _, rfl, ?_⟩
  by_cases hn : [] ∈ ls
  · refine ifT ((any_lnil ls).mpr hn) ⟨by show 0 ≤ sizeLine; omega, fun p1 hp1 => ?_⟩
    refine q _ p1 [] (g0.trans (Gx.new hp1)) (newL_of g0 hp1) upd_same ?_
    rw [tuples_nil (fun l hl' => (hd l hl').1) hn]
    exact .nil
  · refine ifF (Bool.eq_false_iff.mpr fun z => hn ((any_lnil ls).mp z)) ⟨by show 0 ≤ sizeLine; omega, fun p1 hp1 => ⟨by show 1 ≤ sizeLine; omega, fun p2 hp2 => ?_⟩⟩
    have g1 : Gr H (upd (upd H p0 (.lst [])) p1 (.tup [])) := g0.trans (Gx.new hp1)
    have g2 : Gr H (upd (upd (upd H p0 (.lst [])) p1 (.tup [])) p2 (.lst [.ref p1])) := g1.trans (Gx.new hp2)
    have d1 : Dt K (upd (upd (upd H p0 (.lst [])) p1 (.tup [])) p2 (.lst [.ref p1])) (.ref p1) (.tuple []) := (new_tup .nil hp1).gr (Gx.new hp2)
    refine ⟨_, rfl, a, rfl, ⟨_, SqL.ofGr g2 hS⟩, for_list (xs := us) (fun i σ H1 => ∃ (p : Addr) (ys : List V) (o : Option V), σ = [some (.ref a), some (.ref p), o] ∧ Gr H H1 ∧ NewL H p ∧ H1 p = some (.lst ys) ∧ DtAll K H1 ys (tups (tuplesL (ls.take i))))
      ⟨p2, [.ref p1], none, rfl, g2, newL_of g1 hp2, upd_same, .cons d1 .nil⟩ (fun i σ H1 _ p => SqL.ofGr p.choose_spec.choose_spec.choose_spec.2.1 hS) (fun i x σ H1 hx p => ?_) fun σ H1 p => ?_⟩
    · obtain ⟨p, ys, o, rfl, g3, n3, e1, a1⟩ := p
      have hi : i < ls.length := by
        have := (List.getElem?_eq_some_iff.mp hx).1
        rw [hL.len] at this
        exact this
      have hli : ls[i]? = some ls[i] := List.getElem?_eq_getElem hi
      obtain ⟨b, vs, rfl, hb, hab⟩ := hL.at_ i x _ hx hli
      have hm := List.getElem_mem hi
      have tp := tuples_tp (ls := ls.take i) fun l h => (hd l (List.mem_of_mem_take h)).1
      have e2 : ls.take (i + 1) = ls.take i ++ [ls[i]] := by rw [List.take_succ, hli]; rfl
      have bound : (tuplesL (ls.take i)).length * ls[i].length ≤ 100 := by
        have h1 := lenProd_take hn (i + 1)
        rw [e2, lenProd_app] at h1
        rw [tp.len]
        simp only [lenProd, Nat.mul_one] at h1
        omega
      refine ⟨_, rfl, _, rfl, p, b, ys, vs, tuplesL (ls.take i), ls[i], rfl, SqL.of e1, a1, SqL.of (grLst g3 hb), hab.gr g3, by omega, by have := (hd _ hm).2.1; omega, fun o ho => ?_, fun H4 p4 ys4 g4 n4 e4 a4 => ⟨p4, ys4, _, rfl, g3.trans g4, n4.later g3, e4, ?_⟩⟩
      · have := (tp.mem o ho).1
        rw [List.length_take] at this
        omega
      · rw [e2, tuplesL_snoc]
        exact a4
    · obtain ⟨p, ys, o, rfl, g3, n3, e1, a1⟩ := p
      rw [List.take_of_length_le (by rw [hL.len]; exact Nat.le_refl _)] at a1
      exact ⟨_, rfl, q H1 p ys g3 n3 e1 a1⟩
end
end M4
end
section
set_option Elab.async false
set_option linter.all false
set_option maxRecDepth 100000
set_option maxHeartbeats 4000000
namespace M4
open PySem PySem.Spec PyProof.Rows L2 GE MS
/-- data of so many levels that can be read -/
structure Nice (n : Nat) (d : PyData) : Prop where
  lay : d.canLay0 = true
  dep : d.depth ≤ 2 * n
  th : thin d
theorem Nice.fine {n : Nat} {d : PyData} (h : Nice n d) (hn : n ≤ 10) : Fine d := ⟨shp_of (n := 20) ⟨h.lay, by have := h.dep; omega⟩ (by decide), h.th⟩
theorem nice_tup {n : Nat} {ds : List PyData} (h : ∀ d ∈ ds, d.canLay0 = true ∧ d.depth ≤ 2 * n + 1 ∧ thin d) (hl : ds.length ≤ 1000) : Nice (n + 1) (.tuple ds) := by
  obtain ⟨h1, h2⟩ := shp_all (n := 2 * n + 1) fun d hd => ⟨(h d hd).1, (h d hd).2.1⟩
  refine ⟨by simp only [PyData.canLay0]; exact h1, by simp only [PyData.depth]; omega, by omega, thins_iff.mpr fun d hd => (h d hd).2.2⟩
theorem nice_int (n : Nat) (i : Int) : Nice n (.int i) := ⟨by simp only [PyData.canLay0], by simp only [PyData.depth]; omega, trivial⟩
theorem Nice.up {n : Nat} {d : PyData} (h : Nice n d) : d.canLay0 = true ∧ d.depth ≤ 2 * n + 1 ∧ thin d := ⟨h.lay, by have := h.dep; omega, h.th⟩
structure VN (k n : Nat) (s : Sh) (ds : List PyData) : Prop where
  vl : VL k s ds
  ni : ∀ d ∈ ds, Nice n d
theorem int_list {K : PySem.W.Frag} {H : Hp} (m : Nat) : DtAll K H (rgV 0 (m : Int)) ((List.range m).map fun i => PyData.int ((i : Nat) : Int)) := by
  have e : rgV 0 (m : Int) = (List.range m).map fun i => V.int ((i : Nat) : Int) := by
    unfold rgV
    rw [show ((m : Int) - 0).toNat = m by omega]
    refine List.map_congr_left fun i _ => ?_
    rw [Int.zero_add]
  rw [e]
  generalize List.range m = l
  induction l with
  | nil => exact .nil
  | cons i l ih => exact .cons (.int _) ih
theorem eith_snoc : ∀ (ls : Rows) (i : Nat) (l : List PyData), eithL i (ls ++ [l]) = eithL i ls ++ l.map fun v => .tuple [.int ((i + ls.length : Nat) : Int), v]
  | [], i, l => by simp [eithL]
  | x :: ls, i, l => by
    rw [List.cons_append, eithL, eith_snoc ls (i + 1) l, eithL, List.append_assoc, List.length_cons, show i + 1 + ls.length = i + (ls.length + 1) by omega]
theorem subsL_snoc (es : List PyData) (t : PyData) : subsL (es ++ [t]) = subsL es ++ (subsL es).map fun o => o ++ [t] := by
  unfold subsL
  rw [List.foldl_append]
  rfl
theorem smallS_few {k : Nat} {s : Sh} (h : smallS k s = true) : ∃ n, cnt k s = some n ∧ n ≤ 70 := by
  cases s <;> simp only [smallS, Bool.and_eq_true] at h
  · exact few_some h
  · exact few_some h
  all_goals exact few_some h.1
theorem smallSs_mem {k : Nat} : ∀ {xs : List Sh}, smallSs k xs = true → ∀ x ∈ xs, smallS k x = true
  | [], _, x, hx => absurd hx (by simp)
  | y :: ys, h, x, hx => by
    simp only [smallSs, Bool.and_eq_true] at h
    rcases List.mem_cons.mp hx with e | e
    · rw [e]; exact h.1
    · exact smallSs_mem h.2 x e
theorem hasBs_mem : ∀ {xs : List Sh}, hasBs xs = false → ∀ x ∈ xs, hasB x = false
  | [], _, x, hx => absurd hx (by simp)
  | y :: ys, h, x, hx => by
    simp only [hasBs, Bool.or_eq_false_iff] at h
    rcases List.mem_cons.mp hx with e | e
    · rw [e]; exact h.1
    · exact hasBs_mem h.2 x e
theorem LsOf.put {K : PySem.W.Frag} {H : Hp} {D : Addr} {xs zs : List V} {o : HO} {ls : Rows} (e : H D = some (.lst xs)) (h : LsOf K H zs ls) (hn : ∀ u ∈ zs, u ≠ .ref D) : LsOf K (upd H D o) zs ls :=
  ⟨h.len, fun i u l e1 e2 => by
    obtain ⟨b, vs, rfl, h1, h2⟩ := h.at_ i u l e1 e2
    have ne : b ≠ D := fun z => hn (.ref b) (List.mem_of_getElem? e1) (by rw [z])
    exact ⟨b, vs, rfl, (upd_ne ne).trans h1, DtAll.gx (notAt e) (gxAt e) h2⟩⟩
theorem LsOf.snoc {K : PySem.W.Frag} {H : Hp} {us vs : List V} {ls : Rows} {b : Addr} {l : List PyData} (h : LsOf K H us ls) (e : H b = some (.lst vs)) (a : DtAll K H vs l) : LsOf K H (us ++ [.ref b]) (ls ++ [l]) :=
  ⟨by rw [List.length_append, List.length_append, h.len]; rfl, fun i u l' e1 e2 => by
    by_cases hi : i < us.length
    · rw [List.getElem?_append_left hi] at e1
      rw [List.getElem?_append_left (by rw [← h.len]; exact hi)] at e2
      exact h.at_ i u l' e1 e2
    · rw [List.getElem?_append_right (by omega)] at e1
      rw [List.getElem?_append_right (by rw [← h.len]; omega)] at e2
      have z1 : i - us.length = 0 := by
        have := (List.getElem?_eq_some_iff.mp e1).1
        simp at this
        omega
      rw [z1] at e1
      rw [← h.len, z1] at e2
      simp at e1 e2
      subst e1 e2
      exact ⟨b, vs, rfl, e, a⟩⟩
structure VNs (k n : Nat) (xs : List Sh) (ls : Rows) : Prop where
  at_ : ∀ (i : Nat) (s : Sh) (l : List PyData), xs[i]? = some s → ls[i]? = some l → VN k n s l
theorem VNs.vls {k n : Nat} {xs : List Sh} {ls : Rows} (h : VNs k n xs ls) (e : xs.length = ls.length) : VLs k xs ls := ⟨e, fun i s l e1 e2 => (h.at_ i s l e1 e2).vl⟩
theorem VNs.each {k n : Nat} {xs : List Sh} {ls : Rows} (h : VNs k n xs ls) (e : xs.length = ls.length) : ∀ l ∈ ls, ∃ s ∈ xs, VN k n s l := fun l hl => by
  obtain ⟨i, hi, el⟩ := List.getElem_of_mem hl
  have hi2 : i < xs.length := by omega
  exact ⟨xs[i], List.getElem_mem hi2, h.at_ i _ l (List.getElem?_eq_getElem hi2) (by rw [List.getElem?_eq_getElem hi, el])⟩
theorem VNs.snoc {k n : Nat} {xs : List Sh} {ls : Rows} {s : Sh} {l : List PyData} (h : VNs k n xs ls) (e : xs[ls.length]? = some s) (v : VN k n s l) : VNs k n xs (ls ++ [l]) := ⟨fun i s' l' e1 e2 => by
  by_cases hi : i < ls.length
  · rw [List.getElem?_append_left hi] at e2
    exact h.at_ i s' l' e1 e2
  · rw [List.getElem?_append_right (by omega)] at e2
    have z1 : i - ls.length = 0 := by
      have := (List.getElem?_eq_some_iff.mp e2).1
      simp at this
      omega
    have z2 : i = ls.length := by omega
    rw [z1] at e2
    rw [z2, e] at e1
    simp at e2
    cases e1
    subst e2
    exact v⟩
theorem vn_len {k n : Nat} {s : Sh} {l : List PyData} (h : VN k n s l) (hs : smallS k s = true) : l.length ≤ 70 := by
  obtain ⟨m, e, hm⟩ := smallS_few hs
  rw [h.vl.cnt] at e
  cases e
  exact hm
/-- tuples of nice ones -/
theorem nice_tups {n : Nat} {ls : Rows} (hn : ∀ l ∈ ls, l.Nodup) (hi : ∀ l ∈ ls, ∀ d ∈ l, Nice n d) (hl : ls.length ≤ 1000) : ∀ d ∈ tups (tuplesL ls), Nice (n + 1) d := fun d hd => by
  obtain ⟨o, ho, rfl⟩ := List.mem_map.mp hd
  obtain ⟨l1, l2⟩ := (tuples_tp hn).mem o ho
  refine nice_tup (fun x hx => ?_) (by omega)
  obtain ⟨i, hi2, ei⟩ := List.getElem_of_mem hx
  have hi3 : i < ls.length := by omega
  exact (hi _ (List.getElem_mem hi3) x (l2 i x _ (by rw [List.getElem?_eq_getElem hi2, ei]) (List.getElem?_eq_getElem hi3))).up
section
variable {P : Program} {w : World} {K : PySem.W.Frag} {mg : Str → Option Value} {base : Heap} {f fT : Addr} {fd dT : FuncData}
def spList (K : PySem.W.Frag) (n : Nat) : Sp := fun vs H Q _ => ∃ (v : V) (k : Nat) (s : Sh), vs = [v, .int k] ∧ k ≤ 1000000 ∧ Dt K H v (Sh.data s) ∧ Sh.wf n s ∧ n ≤ 10 ∧ smallS k s = true ∧ hasB s = false ∧
  ∀ H' p ys ds, Gr H H' → NewL H p → H' p = some (.lst ys) → DtAll K H' ys ds → VN k n s ds → Q (.ref p) H'
abbrev kList : List Str := ["shape", "states", "word", "found", "k", "below", "thing", "inner", "v", "one"]
theorem sc_list : FnScope kList ["shape", "states"] (defScope s_law_list) := ⟨rfl, rfl, rfl, by decide +kernel, rfl, by decide +kernel, by decide +kernel⟩
/-- what _law_list leans on -/
structure LLx (P : Program) (w : World) (K : PySem.W.Frag) (mg : Str → Option Value) (base : Heap) (fT : Addr) (dT : FuncData) : Prop where
  B : Blt mg
  list : mg "list" = none
  range : mg "range" = none
  sorted : mg "sorted" = none
  OT : FnOk P w K mg base CX0 2 fT dT ["lists"] (spTuples K)
  gT : mg "_law_tuples" = some (.ref fT)
  kT : PySem.W.keepIn K (.ref fT) = true
  bT : Binds K dT ["lists"] []
theorem ok_list {n : Nat} (X : LLx P w K mg base fT dT) (F : Fun K "_law_list" "_law_list" s_law_list f fd) (gS : mg "_law_list" = some (.ref f)) (bS : Binds K fd ["shape", "states"] []) (GS : FnOk P w K mg base CX0 (n + 2) f fd ["shape", "states"] (spList K n)) :
    FnOk P w K mg base CX0 (n + 3) f fd ["shape", "states"] (spList K (n + 1)) := by
  refine F.ok sc_list (fun vs H Q E h => ?_) (fun cdv A outer s0 H vs Q E hr h => ?_)
  · obtain ⟨v, k, s, rfl, _⟩ := h
    rfl
  obtain ⟨v, k, s, rfl, hk, hd, hw, hn, hsm, hhb, q⟩ := h
  have nd := sc_list.nd
  have hr2 : Room 2 (A.deeper (envOfC "_law_list" (defScope s_law_list) s0.heap.objs.size f cdv)) := hr.mono (by omega)
  have hu : (cxOf CX0 P w K mg base kList "_law_list" (defScope s_law_list) f cdv A outer s0 H E).nox.A.units + 100 < cLine := by
    have := hr.un
    show (A.deeper (envOfC "_law_list" (defScope s_law_list) s0.heap.objs.size f cdv)).units + 100 < cLine
    omega
  refine ⟨_, pss_cons (ps_set (i := 2) nd rfl (.inl rfl) (pe_ix ix_tup (pv 0) pe_int (fun _ _ => rfl)))
    (pss_cons (ps_if (pt_cmpR op_eq (pv 2) pe_str (nomark _)) (pss_one (ps_ret (pe_listRg rfl (by rfl) X.list (prg_1 (by rfl) X.range (pe_ix ix_tup (pv 0) pe_int (fun _ _ => rfl)))))) pss_nil)
    (pss_cons (ps_if (pt_cmpR op_eq (pv 2) pe_str (nomark _)) (pss_one (ps_ret (pe_listRg rfl (by rfl) X.list (prg_1 (by rfl) X.range (pv 1))))) pss_nil)
    (pss_cons (ps_if (pt_cmpR op_eq (pv 2) pe_str (nomark _)) (pss_one (ps_ret (pe_call X.OT hr2 rfl X.gT X.kT X.bT .nil pass0 (pa_cons
      (pe_lc (own := [("inner", 7)]) (g := gName 7) (tt := tYes) rfl nd (pi_tup (pe_ix ix_tup (pv 0) pe_int (fun _ _ => rfl))) (blkOk_by (own := [("inner", 7)]) (N := kList) (sc := defScope s_law_list) (by decide +kernel))
          (fun _ _ _ _ _ => pg_name (i := 7) nd rfl (Or.inl rfl)) (fun _ _ _ _ _ => pts_nil) (fun _ _ _ _ _ => pe_call GS hr rfl gS F.kp bS .nil pass0 (pa_cons (pv 7) (pa_cons (pv 1) pa_nil)))) pa_nil)))) pss_nil)
    (pss_cons (ps_if (pt_cmpR op_eq (pv 2) pe_str (nomark _))
      (pss_cons (ps_set (i := 3) nd rfl (.inl rfl) (pe_lst pa_nil))
      (pss_cons (ps_for PassesOwn.never rfl (pi_range1 (by rfl) X.range (pa_cons (pe_callB call_len_seq (by rfl) X.B.len PySem.boot_len (pa_cons (pe_ix ix_tup (pv 0) pe_int (fun _ _ => rfl)) pa_nil)) pa_nil)) (pg_name (i := 4) nd rfl (Or.inr rfl))
        (pss_one (ps_set (i := 3) nd rfl (.inl rfl) (pe_op op_cat (pv 3)
          (pe_lc (own := [("v", 8)]) (g := gName 8) (tt := tYes) rfl nd (pi_list (pe_call GS hr rfl gS F.kp bS .nil pass0 (pa_cons (pe_ix ix_tup (pe_ix ix_tup (pv 0) pe_int (fun _ _ => rfl)) (pv 4) (fun _ _ => rfl)) (pa_cons (pv 1) pa_nil))))
            (blkOk_by (own := [("v", 8)]) (N := kList) (sc := defScope s_law_list) (by decide +kernel))
            (fun _ _ _ _ _ => pg_name (i := 8) nd rfl (Or.inl rfl)) (fun _ _ _ _ _ => pts_nil) (fun _ _ _ _ _ => pe_tup (pa_cons (pv 4) (pa_cons (pv 8) pa_nil))))))))
      (pss_one (ps_ret (pv 3))))) pss_nil)
    (pss_cons (ps_set (i := 5) nd rfl (.inl rfl) (pe_call GS hr rfl gS F.kp bS .nil pass0 (pa_cons (pe_ix ix_tup (pv 0) (pe_op op_sub (pe_callB call_len_seq (by rfl) X.B.len PySem.boot_len (pa_cons (pv 0) pa_nil)) pe_int) (fun _ _ => rfl)) (pa_cons (pv 1) pa_nil))))
    (pss_cons (ps_if (pt_cmpR op_eq (pv 2) pe_str (nomark _)) (pss_one (ps_ret (pe_call X.OT hr2 rfl X.gT X.kT X.bT .nil pass0 (pa_cons (pe_op op_rep (pe_lst (pa_cons (pv 5) pa_nil)) (pe_ix ix_tup (pv 0) pe_int (fun _ _ => rfl))) pa_nil)))) pss_nil)
    (pss_cons (ps_if (pt_cmpR op_eq (pv 2) pe_str (nomark _)) (pss_one (ps_ret
      (pe_lc (own := [("v", 8)]) (g := gName 8) (tt := tYes) rfl nd (pi_list (pv 5)) (blkOk_by (own := [("v", 8)]) (N := kList) (sc := defScope s_law_list) (by decide +kernel))
        (fun _ _ _ _ _ => pg_name (i := 8) nd rfl (Or.inl rfl)) (fun _ _ _ _ _ => pts_nil) (fun _ _ _ _ _ => pe_tup (pa_cons (pe_tup (pa_cons (pv 8) (pa_cons pe_int (pa_cons pe_int pa_nil)))) pa_nil))))) pss_nil)
    (pss_cons (ps_set (i := 3) nd rfl (.inl rfl) (pe_lst (pa_cons (pe_tup pa_nil) pa_nil)))
    (pss_cons (ps_for PassesOwn.never rfl (pi_list (pe_callB (cr_sortedD hu) (by rfl) X.sorted (by decide +kernel) (pa_cons (pv 5) pa_nil))) (pg_name (i := 6) nd rfl (Or.inr rfl))
      (pss_one (ps_set (i := 3) nd rfl (.inl rfl) (pe_op op_cat (pv 3)
        (pe_lc (own := [("one", 9)]) (g := gName 9) (tt := tYes) rfl nd (pi_list (pv 3)) (blkOk_by (own := [("one", 9)]) (N := kList) (sc := defScope s_law_list) (by decide +kernel))
          (fun _ _ _ _ _ => pg_name (i := 9) nd rfl (Or.inl rfl)) (fun _ _ _ _ _ => pts_nil) (fun _ _ _ _ _ => pe_op (catAK (K := K) rfl) (pv 9) (pe_tup (pa_cons (pv 6) pa_nil))))))))
    (pss_one (ps_ret (pv 3)))))))))))), ?_⟩
  have sz : sizeLine = 16777216 := by decide
  obtain ⟨m, hm, hm70⟩ := smallS_few hsm
  cases s with
  | letters i =>
    have hj : i ≤ 5 := hw.2
    cases hd with | @tup a ys _ hs ha => cases ha with | cons h1 h2 => cases h1; cases h2 with | cons h3 h4 =>
      cases h4; cases h3
      refine ⟨_, rfl, a, _, _, _, rfl, rfl, hs, atI_nat (j := 0) rfl, _, rfl, rfl, _, rfl, ifT (by decide +kernel) ?_⟩
      refine ⟨_, rfl, a, _, _, _, rfl, rfl, hs, atI_nat (j := 1) rfl, _, rfl, RgOk.of_le (by omega) (by omega) (by omega) (by omega), fun p hp => ?_⟩
      exact q _ p _ _ (Gx.new hp) (newL_of Gx.refl hp) upd_same (int_list i) ⟨vl_letters, fun d hd => by obtain ⟨_, _, rfl⟩ := List.mem_map.mp hd; exact nice_int _ _⟩
  | self =>
    cases hd with | @tup a ys _ hs ha => cases ha with | cons h1 h2 =>
      cases h1; cases h2
      refine ⟨_, rfl, a, _, _, _, rfl, rfl, hs, atI_nat (j := 0) rfl, _, rfl, rfl, _, rfl, ifF (by decide +kernel) ⟨_, rfl, rfl, _, rfl, ifT (by decide +kernel) ?_⟩⟩
      refine ⟨_, rfl, _, rfl, RgOk.of_le (by omega) (by omega) (by omega) (by omega), fun p hp => ?_⟩
      exact q _ p _ _ (Gx.new hp) (newL_of Gx.refl hp) upd_same (int_list k) ⟨vl_self (by omega), fun d hd => by obtain ⟨_, _, rfl⟩ := List.mem_map.mp hd; exact nice_int _ _⟩
  | both xs =>
    obtain ⟨a, v2, rfl, hs, h3⟩ := dt2 hd
    simp only [smallS, Bool.and_eq_true] at hsm
    refine ⟨_, rfl, a, _, _, _, rfl, rfl, hs, atI_nat (j := 0) rfl, ?_⟩
    refine ⟨_, rfl, rfl, _, rfl, ifF (by decide +kernel) ⟨_, rfl, rfl, _, rfl, ifF (by decide +kernel) ⟨_, rfl, rfl, _, rfl, ifT (by decide +kernel) ?_⟩⟩⟩
    cases h3 with
    | @tup a2 ys _ hs2 ha2 =>
      have hly : ys.length = xs.length := by rw [ha2.length, Sh.datas_map, List.length_map]
      have hx4 : xs.length ≤ 4 := hw.2.1
      refine ⟨_, rfl, a, _, _, _, rfl, rfl, hs, atI_nat (j := 1) rfl, a2, rfl, ⟨_, hs2⟩, fun D hD => ?_⟩
      refine lc_tup (xs := ys) (fun i H' => ∃ zs ls, H' D = some (.lst zs) ∧ LsOf K H' zs ls ∧ ls.length = i ∧ VNs k n xs ls ∧ (∀ u ∈ zs, u ≠ .ref D) ∧ Gr H H') ⟨[], [], upd_same, ⟨rfl, fun i u l e => by simp at e⟩, rfl, ⟨fun i s l _ e => by simp at e⟩, fun u hu => absurd hu (by simp), Gx.new hD⟩
        (fun i H' _ p => SqT.gx NoT.none p.choose_spec.choose_spec.2.2.2.2.2 hs2) (fun i y H' hy p => ?_) fun H' p => ?_
      · obtain ⟨zs, ls, e1, hL, hl, hV, hne, g1⟩ := p
        obtain ⟨dx, hdx, hdt⟩ := ha2.of_get hy
        rw [Sh.datas_map, List.getElem?_map] at hdx
        obtain ⟨sx, hsx, rfl⟩ := Option.map_eq_some_iff.mp hdx
        have hmx := List.mem_of_getElem? hsx
        have hi : i < xs.length := (List.getElem?_eq_some_iff.mp hsx).1
        refine ⟨rfl, y, rfl, _, rfl, y, k, sx, rfl, hk, hdt.gr g1, hw.2.2 sx hmx, by omega, smallSs_mem hsm.2 sx hmx, hasBs_mem hhb sx hmx, fun H4 p ys4 ds4 g4 n4 e4 a4 vn4 => ?_⟩
        have eD := grLst g4 e1
        have pD : p ≠ D := n4 D zs e1
        refine ⟨zs, eD, by rw [hL.len]; omega, zs ++ [.ref p], ls ++ [ds4], upd_same, ?_, by rw [List.length_append, hl]; rfl, hV.snoc (by rw [hl]; exact hsx) vn4, fun u hu => ?_, gxLate (g1.trans g4) hD eD⟩
        · have hL4 := (hL.gr g4).snoc e4 a4
          refine LsOf.put eD hL4 fun u hu => ?_
          rcases List.mem_append.mp hu with h | h
          · exact hne u h
          · rw [List.mem_singleton.mp h]; exact fun z => pD (V.ref.inj z)
        · rcases List.mem_append.mp hu with h | h
          · exact hne u h
          · rw [List.mem_singleton.mp h]; exact fun z => pD (V.ref.inj z)
      · obtain ⟨zs, ls, e1, hL, hl, hV, hne, g1⟩ := p
        have hxl : xs.length = ls.length := by omega
        obtain ⟨v1, v2⟩ := vl_both (hV.vls hxl) hm
        refine ⟨D, zs, ls, rfl, SqL.of e1, hL, by omega, by omega, fun l hl' => ?_, fun H5 p5 ys5 g5 n5 e5 a5 => q H5 p5 ys5 _ (g1.trans g5) (n5.later g1) e5 a5 ⟨v1, nice_tups (fun l hl' => ?_) (fun l hl' => ?_) (by omega)⟩⟩
        · obtain ⟨s, hs', vn⟩ := hV.each hxl l hl'
          exact ⟨vn.vl.nd, by have := vn_len vn (smallSs_mem hsm.2 s hs'); omega, fun d hd => ⟨(vn.ni d hd).lay, by have := (vn.ni d hd).dep; omega⟩⟩
        · obtain ⟨s, hs', vn⟩ := hV.each hxl l hl'
          exact vn.vl.nd
        · obtain ⟨s, hs', vn⟩ := hV.each hxl l hl'
          exact vn.ni
  | either xs =>
    obtain ⟨a, v2, rfl, hs, h3⟩ := dt2 hd
    simp only [smallS, Bool.and_eq_true] at hsm
    refine ⟨_, rfl, a, _, _, _, rfl, rfl, hs, atI_nat (j := 0) rfl, ?_⟩
    refine ⟨_, rfl, rfl, _, rfl, ifF (by decide +kernel) ⟨_, rfl, rfl, _, rfl, ifF (by decide +kernel) ⟨_, rfl, rfl, _, rfl, ifF (by decide +kernel) ⟨_, rfl, rfl, _, rfl, ifT (by decide +kernel) ?_⟩⟩⟩⟩
    cases h3 with
    | @tup a2 ys _ hs2 ha2 =>
      have hly : ys.length = xs.length := by rw [ha2.length, Sh.datas_map, List.length_map]
      have hx4 : xs.length ≤ 4 := hw.2.1
      refine ⟨by show 0 ≤ sizeLine; omega, fun p0 hp0 => ?_⟩
      have g0 : Gr H (upd H p0 (.lst [])) := Gx.new hp0
      refine ⟨_, rfl, a, _, _, _, rfl, rfl, SqT.gx NoT.none g0 hs, atI_nat (j := 1) rfl, a2, ys, rfl, .inr (SqT.gx NoT.none g0 hs2), _, rfl, by omega, by omega, ?_⟩
      rw [Int.toNat_natCast]
      refine for_range (n := ys.length) (fun i σ H' => ∃ (p : Addr) (zs : List V) (ls : Rows) (o : Option V), σ = [some (.ref a), some (.int (k : Int)), some (.str "either"), some (.ref p), o, none, none, none, none, none] ∧ Gr H H' ∧ NewL H p ∧ H' p = some (.lst zs) ∧ ls.length = i ∧ VNs k n xs ls ∧ DtAll K H' zs (eithL 0 ls))
        ⟨p0, [], [], none, rfl, g0, newL_of Gx.refl hp0, upd_same, rfl, ⟨fun i s l _ e => by simp at e⟩, .nil⟩ (fun i σ H' hi p => ?_) fun σ H' p => ?_
      · obtain ⟨p, zs, ls, o, rfl, g1, n1, e1, hl, hV, a1⟩ := p
        have hix : i < xs.length := by omega
        have hy : ys[i]? = some ys[i] := List.getElem?_eq_getElem hi
        obtain ⟨dx, hdx, hdt⟩ := ha2.of_get hy
        rw [Sh.datas_map, List.getElem?_map] at hdx
        obtain ⟨sx, hsx, rfl⟩ := Option.map_eq_some_iff.mp hdx
        have hmx := List.mem_of_getElem? hsx
        have e0 : (0 : Int) + ((i : Nat) : Int) = ((i : Nat) : Int) := Int.zero_add _
        rw [e0]
        refine ⟨_, rfl, _, rfl, a, _, _, _, rfl, rfl, SqT.gx NoT.none g1 hs, atI_nat (j := 1) rfl, _, rfl, a2, _, _, _, rfl, rfl, SqT.gx NoT.none g1 hs2, atI_nat hy, _, rfl, ys[i], k, sx, rfl, hk, hdt.gr g1, hw.2.2 sx hmx, by omega, smallSs_mem hsm.2 sx hmx, hasBs_mem hhb sx hmx, fun H4 p4 ys4 ds4 g4 n4 e4 a4 vn4 => ?_⟩
        have hlen4 := vn_len vn4 (smallSs_mem hsm.2 sx hmx)
        refine ⟨p4, rfl, ⟨_, SqL.of e4⟩, fun D hD => lcL_data (f := fun v => .tuple [.int ((i : Nat) : Int), v]) (SqL.of e4) a4 (by omega) hD (fun _ => rfl) (fun j u t H' _ _ g hu R hR => ?_) fun H5 qs g5 e5 a5 => ?_⟩
        · exact ⟨_, rfl, _, rfl, by show 2 ≤ sizeLine; omega, fun p1 hp1 => hR _ _ (Gx.new hp1) (new_tup (ds := [.int ((i : Nat) : Int), t]) (.cons (.int _) (.cons hu .nil)) hp1)⟩
        · have g45 := g4.trans g5
          have e1' := grLst g45 e1
          have lz := (a1.gr g45).length
          have lq := a5.length
          rw [List.length_map] at lq
          have bound : zs.length ≤ 280 := by
            rw [lz, eith_len]
            have hb : ∀ l ∈ ls, l.length ≤ 70 := fun l hl' => by
              obtain ⟨i', hi', el⟩ := List.getElem_of_mem hl'
              have hi2 : i' < xs.length := by omega
              exact vn_len (hV.at_ i' xs[i'] l (List.getElem?_eq_getElem hi2) (by rw [List.getElem?_eq_getElem hi', el])) (smallSs_mem hsm.2 _ (List.getElem_mem hi2))
            have hs : ∀ ls : Rows, (∀ l ∈ ls, l.length ≤ 70) → sumN (ls.map fun l => some l.length) ≤ 70 * ls.length := fun ls => by
              induction ls with
              | nil => intro _; simp [sumN]
              | cons l ls ih =>
                intro h
                have h1 := h l List.mem_cons_self
                have h2 := ih fun x hx => h x (List.mem_cons_of_mem _ hx)
                rw [List.map_cons, sumN, List.length_cons]
                show l.length + _ ≤ _
                omega
            have := hs ls hb
            omega
          refine ⟨p, D, zs, qs, rfl, rfl, e1', e5, by omega, fun q2 hq2 => ⟨q2, zs ++ qs, ls ++ [ds4], some (.int ((i : Nat) : Int)), rfl, (g1.trans g45).trans (Gx.new hq2), newL_of (g1.trans g45) hq2, upd_same, by rw [List.length_append, hl]; rfl, hV.snoc (by rw [hl]; exact hsx) vn4, ?_⟩⟩
          rw [eith_snoc, hl, Nat.zero_add]
          exact DtAll.append ((a1.gr g45).gr (Gx.new hq2)) (a5.gr (Gx.new hq2))
      · obtain ⟨p, zs, ls, o, rfl, g1, n1, e1, hl, hV, a1⟩ := p
        have hxl : xs.length = ls.length := by omega
        refine ⟨_, rfl, q H' p zs _ g1 n1 e1 a1 ⟨vl_either (hV.vls hxl) hm, fun d hd => ?_⟩⟩
        obtain ⟨j, l, v, ej, hv, rfl⟩ := eith_mem hd
        obtain ⟨s, hs', vn⟩ := hV.each hxl l (List.mem_of_getElem? ej)
        refine nice_tup (fun x hx => ?_) (by show 2 ≤ 1000; omega)
        rcases List.mem_cons.mp hx with h | h
        · rw [h]; exact (nice_int n _).up
        · rw [List.mem_singleton.mp h]; exact (vn.ni v hv).up
  | after i s =>
    obtain ⟨a, v2, rfl, hs, h3⟩ := dt3 hd
    simp only [smallS, Bool.and_eq_true] at hsm
    have hi4 : i ≤ 4 := hw.1
    refine ⟨_, rfl, a, _, _, _, rfl, rfl, hs, atI_nat (j := 0) rfl, ?_⟩
    refine ⟨_, rfl, rfl, _, rfl, ifF (by decide +kernel) ⟨_, rfl, rfl, _, rfl, ifF (by decide +kernel) ⟨_, rfl, rfl, _, rfl, ifF (by decide +kernel) ⟨_, rfl, rfl, _, rfl, ifF (by decide +kernel) ?_⟩⟩⟩⟩
    refine ⟨_, rfl, _, rfl, a, _, rfl, .inr hs, _, _, rfl, rfl, a, _, _, _, rfl, rfl, hs, atI_nat (j := 2) rfl, _, rfl, v2, k, s, rfl, hk, h3, hw.2, by omega, hsm.2, hhb, fun H1 p1 ys1 ds1 g1 n1 e1 a1 vn1 => ?_⟩
    have hl1 := vn_len vn1 hsm.2
    refine ⟨_, rfl, rfl, _, rfl, ifT (by decide +kernel) ?_⟩
    refine ⟨_, rfl, by show 1 ≤ sizeLine; omega, fun L hL => ?_⟩
    have g2 : Gr H1 (upd H1 L (.lst [.ref p1])) := Gx.new hL
    refine ⟨_, rfl, a, _, _, _, rfl, rfl, SqT.gx NoT.none (g1.trans g2) hs, atI_nat (j := 1) rfl, L, (i : Int), _, rfl, rfl, upd_same, by omega, by omega, ?_, fun p hp => ?_⟩
    · show 1 * ((i : Int)).toNat ≤ sizeLine
      omega
    · have e2 : (List.replicate ((i : Int)).toNat [V.ref p1]).flatten = List.replicate i (V.ref p1) := by rw [Int.toNat_natCast]; exact flat_one _ _
      rw [e2] at *
      have g3 : Gr H1 (upd (upd H1 L (.lst [.ref p1])) p (.lst (List.replicate i (.ref p1)))) := g2.trans (Gx.new hp)
      obtain ⟨v1, v2'⟩ := vl_after vn1.vl hm
      refine ⟨p, List.replicate i (.ref p1), List.replicate i ds1, rfl, SqL.of upd_same, ⟨by rw [List.length_replicate, List.length_replicate], fun j u l eu el => ?_⟩, by rw [List.length_replicate]; omega, by omega, fun l hl => ?_, fun H5 p5 ys5 g5 n5 e5 a5 => q H5 p5 ys5 _ ((g1.trans g3).trans g5) (n5.later (g1.trans g3)) e5 a5 ⟨v1, nice_tups (fun l hl => ?_) (fun l hl => ?_) (by rw [List.length_replicate]; omega)⟩⟩
      · have eu := List.eq_of_mem_replicate (List.mem_of_getElem? eu)
        have el := List.eq_of_mem_replicate (List.mem_of_getElem? el)
        subst eu el
        exact ⟨p1, ys1, rfl, grLst g3 e1, a1.gr g3⟩
      · rw [List.eq_of_mem_replicate hl]
        exact ⟨vn1.vl.nd, by omega, fun d hd => ⟨(vn1.ni d hd).lay, by have := (vn1.ni d hd).dep; omega⟩⟩
      · rw [List.eq_of_mem_replicate hl]; exact vn1.vl.nd
      · rw [List.eq_of_mem_replicate hl]; exact vn1.ni
  | some s =>
    obtain ⟨a, v2, rfl, hs, h3⟩ := dt2 hd
    simp only [smallS, Bool.and_eq_true] at hsm
    refine ⟨_, rfl, a, _, _, _, rfl, rfl, hs, atI_nat (j := 0) rfl, ?_⟩
    refine ⟨_, rfl, rfl, _, rfl, ifF (by decide +kernel) ⟨_, rfl, rfl, _, rfl, ifF (by decide +kernel) ⟨_, rfl, rfl, _, rfl, ifF (by decide +kernel) ⟨_, rfl, rfl, _, rfl, ifF (by decide +kernel) ?_⟩⟩⟩⟩
    refine ⟨_, rfl, _, rfl, a, _, rfl, .inr hs, _, _, rfl, rfl, a, _, _, _, rfl, rfl, hs, atI_nat (j := 1) rfl, _, rfl, v2, k, s, rfl, hk, h3, hw, by omega, hsm.2, hhb, fun H1 p1 ys1 ds1 g1 n1 e1 a1 vn1 => ?_⟩
    have hl1 := vn_len vn1 hsm.2
    have gd := FI.good_of k n s hw
    refine ⟨_, rfl, rfl, _, rfl, ifF (by decide +kernel) ⟨_, rfl, rfl, _, rfl, ifF (by decide +kernel) ?_⟩⟩
    refine ⟨by show 0 ≤ sizeLine; omega, fun p2 hp2 => ⟨by show 1 ≤ sizeLine; omega, fun p3 hp3 => ?_⟩⟩
    have g2 : Gr H1 (upd H1 p2 (.tup [])) := Gx.new hp2
    have g3 : Gr H1 (upd (upd H1 p2 (.tup [])) p3 (.lst [.ref p2])) := g2.trans (Gx.new hp3)
    have d2 : Dt K (upd (upd H1 p2 (.tup [])) p3 (.lst [.ref p2])) (.ref p2) (.tuple []) := (new_tup .nil hp2).gr (Gx.new hp3)
    refine ⟨_, rfl, p1, ys1, ds1, rfl, SqL.of (grLst g3 e1), a1.gr g3, fun d hd => ⟨gd.1 d (vn1.vl.fit d hd), ((vn1.ni d hd).fine (by omega)).sh⟩, fun d hd e he => gd.2 d e (vn1.vl.fit d hd) (vn1.vl.fit e he), fun ys es p4 hperm hsrt a4 hlen hp4 => ?_⟩
    have g4 : Gr H1 (upd (upd (upd H1 p2 (.tup [])) p3 (.lst [.ref p2])) p4 (.lst ys)) := g3.trans (Gx.new hp4)
    have el : ys.length = es.length := a4.length
    have les : es.length = ds1.length := hperm.length_eq
    obtain ⟨v1, v2x⟩ := vl_some (m := n) (s := s) hw vn1.vl hm hperm hsrt
    have les6 : es.length ≤ 6 := by
      by_cases z : es.length ≤ 6
      · exact z
      · have : 2 ^ 7 ≤ 2 ^ es.length := Nat.pow_le_pow_right (by decide) (by omega)
        omega
    have nde : es.Nodup := hperm.nodup_iff.mpr vn1.vl.nd
    have nies : ∀ d ∈ es, Nice n d := fun d hd => vn1.ni d (hperm.mem_iff.mp hd)
    refine ⟨p4, rfl, ⟨_, SqL.of upd_same⟩, for_list (xs := ys) (fun i σ H' => ∃ (p : Addr) (zs : List V) (o : Option V), σ = [some (.ref a), some (.int (k : Int)), some (.str "some"), some (.ref p), none, some (.ref p1), o, none, none, none] ∧ Gr H1 H' ∧ NewL H p ∧ H' p = some (.lst zs) ∧ DtAll K H' zs (tups (subsL (es.take i))) ∧ H' p4 = some (.lst ys) ∧ DtAll K H' ys es)
      ⟨p3, [.ref p2], none, rfl, g4, newL_of (g1.trans g2) hp3, ?_, .cons (d2.gr (Gx.new hp4)) .nil, upd_same, a4.gr (Gx.new hp4)⟩ (fun i σ H' _ p => SqL.of p.choose_spec.choose_spec.choose_spec.2.2.2.2.2.1) (fun i x σ H' hx p => ?_) fun σ H' p => ?_⟩
    · rw [upd_ne (show p3 ≠ p4 from fun z => by rw [← z, upd_same] at hp4; cases hp4)]
      exact upd_same
    · obtain ⟨p, zs, o, rfl, g5, n5, e5, a5, e6, a6⟩ := p
      obtain ⟨t, ht, hxt⟩ := a6.of_get hx
      have hi : i < es.length := (List.getElem?_eq_some_iff.mp ht).1
      have sp := subs_sp (nde.sublist (List.take_sublist i es))
      have lzs : zs.length ≤ 64 := by
        rw [a5.length, List.length_map, sp.len, List.length_take]
        have : 2 ^ (min i es.length) ≤ 2 ^ 6 := Nat.pow_le_pow_right (by decide) (by omega)
        exact this
      refine ⟨_, rfl, _, rfl, p, rfl, ⟨_, SqL.of e5⟩, fun D hD => lcL_data (f := fun d => match d with | .tuple o => .tuple (o ++ [t]) | _ => .none) (SqL.of e5) a5 (by rw [← a5.length]; omega) hD (fun _ => rfl) (fun j u d H2 _ hdj g hu R hR => ?_) fun H2 qs g7 e7 a7 => ?_⟩
      · rw [List.getElem?_map] at hdj
        obtain ⟨o, ho, rfl⟩ := Option.map_eq_some_iff.mp hdj
        have lo : o.length ≤ 6 := by
          have h1 := (sp.mem o (List.mem_of_getElem? ho)).length_le
          rw [List.length_take] at h1
          omega
        refine ⟨_, rfl, _, rfl, by show 1 ≤ sizeLine; omega, fun p5 hp5 => ?_⟩
        exact cat_tups (hu.gr (Gx.new hp5)) (new_tup (ds := [t]) (.cons (hxt.gr g) .nil) hp5) (by omega) (by show 1 ≤ 100000; omega) fun z H3 g3 dz => hR z H3 ((Gx.new hp5).trans g3) dz
      · have e5' := grLst g7 e5
        have lq := a7.length
        rw [List.length_map, ← a5.length] at lq
        refine ⟨p, D, zs, qs, rfl, rfl, e5', e7, by omega, fun q2 hq2 => ⟨q2, zs ++ qs, some x, rfl, (g5.trans g7).trans (Gx.new hq2), newL_of ((g1.trans g5).trans g7) hq2, upd_same, ?_, grLst (g7.trans (Gx.new hq2)) e6, a6.gr (g7.trans (Gx.new hq2))⟩⟩
        rw [List.take_succ, ht]
        show DtAll K _ (zs ++ qs) (tups (subsL (es.take i ++ [t])))
        rw [subsL_snoc]
        unfold tups at a5 a7 ⊢
        rw [List.map_append, List.map_map]
        rw [List.map_map] at a7
        exact DtAll.append ((a5.gr g7).gr (Gx.new hq2)) (a7.gr (Gx.new hq2))
    · obtain ⟨p, zs, o, rfl, g5, n5, e5, a5, e6, a6⟩ := p
      rw [List.take_of_length_le (by omega)] at a5
      refine ⟨_, rfl, q H' p zs _ (g1.trans g5) n5 e5 a5 ⟨v1, fun d hd => ?_⟩⟩
      obtain ⟨o, ho, rfl⟩ := List.mem_map.mp hd
      have sub := (subs_sp nde).mem o ho
      exact nice_tup (fun x hx => (nies x (sub.subset hx)).up) (by have := sub.length_le; omega)
  | many s => cases hhb
  | chance s =>
    obtain ⟨a, v2, rfl, hs, h3⟩ := dt2 hd
    simp only [smallS, Bool.and_eq_true] at hsm
    refine ⟨_, rfl, a, _, _, _, rfl, rfl, hs, atI_nat (j := 0) rfl, ?_⟩
    refine ⟨_, rfl, rfl, _, rfl, ifF (by decide +kernel) ⟨_, rfl, rfl, _, rfl, ifF (by decide +kernel) ⟨_, rfl, rfl, _, rfl, ifF (by decide +kernel) ⟨_, rfl, rfl, _, rfl, ifF (by decide +kernel) ?_⟩⟩⟩⟩
    refine ⟨_, rfl, _, rfl, a, _, rfl, .inr hs, _, _, rfl, rfl, a, _, _, _, rfl, rfl, hs, atI_nat (j := 1) rfl, _, rfl, v2, k, s, rfl, hk, h3, hw, by omega, hsm.2, hhb, fun H1 p1 ys1 ds1 g1 n1 e1 a1 vn1 => ?_⟩
    have hl1 := vn_len vn1 hsm.2
    refine ⟨_, rfl, rfl, _, rfl, ifF (by decide +kernel) ⟨_, rfl, rfl, _, rfl, ifT (by decide +kernel) ?_⟩⟩
    refine ⟨_, rfl, p1, rfl, ⟨_, SqL.of e1⟩, fun D hD => lcL_data (f := fun v => .tuple [.tuple [v, .int 1, .int 1]]) (SqL.of e1) a1 (by omega) hD (fun _ => rfl) (fun j u t H' _ _ g hu R hR => ?_) fun H5 qs g5 e5 a5 => ?_⟩
    · refine ⟨_, rfl, by show 3 ≤ sizeLine; omega, fun p2 hp2 => ⟨by show 1 ≤ sizeLine; omega, fun p3 hp3 => ?_⟩⟩
      exact hR _ _ ((Gx.new hp2).trans (Gx.new hp3)) (new_tup (ds := [.tuple [t, .int 1, .int 1]]) (.cons (new_tup (.cons hu (.cons (.int 1) (.cons (.int 1) .nil))) hp2) .nil) hp3)
    · refine q H5 D qs _ (g1.trans g5) (fun D' xs' e z => ?_) e5 a5 ⟨vl_chance vn1.vl hm, fun d hd => ?_⟩
      · have := grLst g1 e
        rw [← z, hD] at this
        cases this
      · obtain ⟨v, hv, rfl⟩ := List.mem_map.mp hd
        have h1 := vn1.ni v hv
        refine nice_tup (n := n) (fun x hx => ?_) (by show 1 ≤ 1000; omega)
        rw [List.mem_singleton.mp hx]
        obtain ⟨l1, l2⟩ := shp_all (ds := [v, .int 1, .int 1]) (n := 2 * n) fun y hy => by
          simp only [List.mem_cons, List.not_mem_nil, or_false] at hy
          rcases hy with rfl | rfl | rfl
          · exact ⟨h1.lay, h1.dep⟩
          · exact ⟨(nice_int n 1).lay, (nice_int n 1).dep⟩
          · exact ⟨(nice_int n 1).lay, (nice_int n 1).dep⟩
        exact ⟨by simp only [PyData.canLay0]; exact l1, by simp only [PyData.depth]; omega, by show 3 ≤ 100000; omega, h1.th, trivial, trivial, trivial⟩
end
end M4
end
section
set_option Elab.async false
set_option linter.all false
set_option maxRecDepth 100000
set_option maxHeartbeats 4000000
namespace MS
open PySem PySem.Spec PyProof.Rows L2 L2H GE
/-- a def's run in one place alone -/
theorem run_at {CX : CXT} {P : Program} {w : World} {K : PySem.W.Frag} {mg : Str → Option Value} {base : Heap} {x qual : Str} {st : Stmt} {f : Addr} {fd : FuncData} {N ps : List Str} {k : Nat} (F : Fun K x qual st f fd) (S : FnScope N ps (defScope st)) {A : Around} {outer : List Env} {s : Shared} {H : Hp} {args : Args} {us : List Value} {vs : List V} {Q : VK} {E : XK}
    (hr : Room (k + 1) A) (e0 : Env0 P w K mg base A outer s H) (hb : BindsTo s fd args (ps.zip us)) (r : Vals vs us) (hl : vs.length = ps.length)
    (hbody : ∀ cdv : Value, Room k (A.deeper (envOfC qual (defScope st) s.heap.objs.size f cdv)) → ∃ t, PSs (cxOf CX P w K mg base N qual (defScope st) f cdv A outer s H E) (defBody st) t ∧ t { nx := fun _ H' => Q .non H', rt := Q } (L2.start N vs) H) :
    codeAny (model P w) A (.call (.ref f) args) (CR CX outer P w H s Q E) s := by
  obtain ⟨oc, od, kV, doc, pm, an, cdv, ct, osl, rfl, lk, hcd⟩ := F.ex
  obtain ⟨t, ht, hq⟩ := hbody cdv (hr.deeper _)
  -- the same def, with a word that says just this
  have kb : ∀ b o, base.get? b = some o → s.heap.get? b = some o := fun b o e => (e0.bs b o e).1
  have kin : K.In s.heap := e0.mod.kin.keeps kb
  have names : ∀ y ∈ ps.zip us, (defScope st).names.lookup y.1 = some .local ∨ ((defScope st).names.lookup y.1 = some .cell ∧ ((cellsFrom (s.heap.objs.size + 1) (defScope st).names []).lookup y.1).isSome = true) := fun ⟨n, v⟩ hy =>
    (S.par n (List.of_mem_zip hy).1).imp id fun q => ⟨q, PySem.W.cellsFrom_some _ _ _ (.inl q)⟩
  refine codeAny_call_function hr.depth (kin _ _ lk) rfl S.co S.gen rfl (PySem.W.codeRec_of kin hcd) (hb _ _ _ _ (wpAny_newFunctionEnv_cells S.kind names fun env he s1 x => ?_))
  subst he
  refine ⟨(e0.mod.nolimit.keeps kb).keeps x.toInCall.keep, codeAny_func (wpAny_mono (ht.run [] s1 (L2.start N vs) H _ (inv_start S hr.hd e0 hl r x) hq) (fun fl s' hs => ?_) fun e s' hs => hs)⟩
  cases fl with
  | ret u =>
    obtain ⟨v, σ', H', J, rv, q⟩ := hs
    exact ⟨v, H', J.os, J.bare, J.base, J.hok, rv, q⟩
  | next =>
    obtain ⟨σ', H', J, q⟩ := hs
    exact ⟨V.non, H', J.os, J.bare, J.base, J.hok, rfl, q⟩
  | brk =>
    obtain ⟨_, _, _, q⟩ := hs
    exact False.elim q
  | cont =>
    obtain ⟨_, _, _, q⟩ := hs
    exact False.elim q
section
variable {X : Cx}
theorem call_repr_none : CallR X (.builtin "repr") (fun xs H Q => xs = [.non] ∧ Q (.str "None") H) := by
  intro pins s σ H xs us Q I r h
  obtain ⟨rfl, q⟩ := h
  obtain ⟨u, rfl, ru⟩ := vals1 r
  cases ru
  exact PySem.P.repr_of_none ⟨.str _, H, I.tok _, ⟨_, rfl⟩, q⟩
end
end MS
end
section
set_option Elab.async false
set_option linter.all false
set_option maxRecDepth 100000
set_option maxHeartbeats 4000000
/-! The end of a row whose law is run in one place alone (where no repr is under way). -/
namespace MS
open PySem PySem.Spec PyProof.Rows L2 L2H GE
abbrev lstO (vs : List Value) : Obj := { cls := .type "list", data := .seq vs.toArray }
abbrev tab0 : Obj := { cls := .none, data := .fields #[] }
structure Gd (K : PySem.W.Frag) (mg mb : Str → Option Value) (s₁ : Shared) (cs : List (Addr × Addr)) (a : Addr) (vs : List Value) (ns : List Int) : Prop where
  kin : K.In s₁.heap
  glob : s₁.heap.Ns mainGlobals mg
  blt : s₁.heap.Ns builtinsNs mb
  same : ∀ x : Str, x ≠ "__name__" → mb x = bootBuiltins x
  lim : s₁.heap.NoLimit
  gens : s₁.gens = #[]
  tab : ∀ p ∈ cs, s₁.heap.get? p.2 = some tab0
  ntab : ∀ p ∈ cs, K.lookup p.2 = none
  code : ∀ p ∈ cs, PySem.W.CodeHd s₁.heap p.1 p.2
  bm : ∃ (bm : Addr) (ob : Obj), mg "__builtins__" = some (.ref bm) ∧ bm ≠ builtinsNs ∧ s₁.heap.get? bm = some ob ∧ ob.cls = .type "module" ∧ ob.dict = some builtinsNs ∧ ob.data = .plain
  obj : s₁.heap.get? a = some (lstO vs)
  nums : IntsAre vs ns
  len : ns.length ≤ sizeLine
def H1 (K : PySem.W.Frag) (cs : List (Addr × Addr)) (a : Addr) (vs : List Value) (ns : List Int) : Hp := fun b =>
  if b ∈ cs.map (·.2) then some (.tbl #[]) else if b = a ∧ (K.lookup a).isNone = true then some (.frz (lstO vs) (.lst (ns.map V.int))) else none
section
variable {P : Program} {w : World} {K : PySem.W.Frag} {mg mb : Str → Option Value} {s₁ : Shared} {cs : List (Addr × Addr)} {a : Addr} {vs : List Value} {ns : List Int}
theorem tabs_at (G : Gd K mg mb s₁ cs a vs ns) {b : Addr} (hb : b ∈ cs.map (·.2)) : s₁.heap.get? b = some tab0 ∧ K.lookup b = none := by
  obtain ⟨p, hp, rfl⟩ := List.mem_map.mp hb
  exact ⟨G.tab p hp, G.ntab p hp⟩
theorem a_no_tab (G : Gd K mg mb s₁ cs a vs ns) : a ∉ cs.map (·.2) := fun z => by
  have q := G.obj.symm.trans (tabs_at G z).1
  have q2 : Data.seq vs.toArray = Data.fields #[] := congrArg Obj.data (Option.some.inj q)
  cases q2
theorem H1_cases (b : Addr) : H1 K cs a vs ns b = none ∨ (b ∈ cs.map (·.2) ∧ H1 K cs a vs ns b = some (.tbl #[])) ∨ (b = a ∧ K.lookup a = none ∧ H1 K cs a vs ns b = some (.frz (lstO vs) (.lst (ns.map V.int)))) := by
  by_cases h1 : b ∈ cs.map (·.2)
  · exact .inr (.inl ⟨h1, if_pos h1⟩)
  · by_cases h2 : b = a ∧ (K.lookup a).isNone = true
    · exact .inr (.inr ⟨h2.1, Option.isNone_iff_eq_none.mp h2.2, (if_neg h1).trans (if_pos h2)⟩)
    · exact .inl ((if_neg h1).trans (if_neg h2))
theorem H1_none (G : Gd K mg mb s₁ cs a vs ns) {b : Addr} {o : Obj} (e : s₁.heap.get? b = some o) (h : o ≠ tab0) (h2 : o ≠ lstO vs) : H1 K cs a vs ns b = none := by
  rcases H1_cases (K := K) (cs := cs) (a := a) (vs := vs) (ns := ns) b with z | ⟨z, _⟩ | ⟨z, _, _⟩
  · exact z
  · exact absurd (Option.some.inj (e.symm.trans (tabs_at G z).1)) h
  · rw [z] at e
    exact absurd (Option.some.inj (e.symm.trans G.obj)) h2
theorem H1_K (G : Gd K mg mb s₁ cs a vs ns) {b : Addr} {o : Obj} (e : K.lookup b = some o) : H1 K cs a vs ns b = none := by
  rcases H1_cases (K := K) (cs := cs) (a := a) (vs := vs) (ns := ns) b with z | ⟨z, _⟩ | ⟨z, z2, _⟩
  · exact z
  · exact absurd (e.symm.trans (tabs_at G z).2) (by simp)
  · rw [z, z2] at e
    cases e
theorem H1_hok (G : Gd K mg mb s₁ cs a vs ns) : HOk P w (H1 K cs a vs ns) s₁.heap := fun b u e => by
  rcases H1_cases (K := K) (cs := cs) (a := a) (vs := vs) (ns := ns) b with z | ⟨z, z2⟩ | ⟨z, _, z2⟩
  · rw [z] at e
    cases e
  · rw [z2] at e
    cases e
    exact (tabs_at G z).1
  · rw [z2] at e
    cases e
    rw [z]
    exact ⟨G.obj, by rw [List.length_map]; exact G.len, vs, _, vals_ints G.nums, G.obj⟩
abbrev B1 (K : PySem.W.Frag) (s₁ : Shared) (cs : List (Addr × Addr)) (a : Addr) (vs : List Value) (ns : List Int) : Heap := hidT s₁.heap (H1 K cs a vs ns)
theorem ns_B1 (G : Gd K mg mb s₁ cs a vs ns) {b : Addr} {m : Str → Option Value} (h : s₁.heap.Ns b m) : (B1 K s₁ cs a vs ns).Ns b m := by
  obtain ⟨o, es, ep, e, d, r⟩ := h
  refine ⟨o, es, ep, hidT_get e (H1_none G e (fun z => ?_) fun z => ?_), d, r⟩
  · rw [z] at d; cases d
  · rw [z] at d; cases d
theorem env1 (G : Gd K mg mb s₁ cs a vs ns) : Env0 P w K mg (B1 K s₁ cs a vs ns) callerA [] s₁ (H1 K cs a vs ns) where
  frames := rfl
  mod := ⟨fun b o e => hidT_get (G.kin b o e) (H1_K G e), ns_B1 G G.glob, ⟨mb, ns_B1 G G.blt, G.same⟩, let ⟨mc, q1, q2⟩ := G.lim; ⟨mc, ns_B1 G q1, q2⟩⟩
  bs := fun b o e => of_hidT e
  bsz := Nat.le_of_eq (hidT_size _ _)
  funs := trivial
  frf := fun b hb => absurd (show b ∈ ([] : List Addr) from hb) (by simp)
  hok := H1_hok G
  bare := .of_eq G.gens
theorem tabB1 (G : Gd K mg mb s₁ cs a vs ns) : ∀ p ∈ cs, GxR.TabB (B1 K s₁ cs a vs ns) mg p.1 p.2 := fun p hp => by
  have hTp := G.tab p hp
  refine ⟨?_, ?_, fun z => ?_⟩
  · obtain ⟨o, us, file, tf, flags, tg, inF, text, tt, e1, r⟩ := G.code p hp
    refine ⟨o, us, file, tf, flags, tg, inF, text, tt, hidT_get e1 (H1_none G e1 (fun z => ?_) fun z => ?_), r⟩
    · obtain ⟨_, r2, r3, _⟩ := r
      rw [z] at r2
      cases r2
      simp at r3
    · obtain ⟨_, r2, _⟩ := r
      rw [z] at r2
      cases r2
  · obtain ⟨bm, ob, b1, b2, b3, b4, b5, b6⟩ := G.bm
    have other : ∀ {q : Addr} {oq : Obj}, s₁.heap.get? q = some oq → oq.data ≠ .plain → bm ≠ q := fun {q oq} e h z => by
      rw [z, e] at b3
      cases b3
      exact h b6
    obtain ⟨o, es, ep, e, hd, _⟩ := G.glob
    refine ⟨bm, ob, b1, b2, other e (by rw [hd]; simp), other hTp (by simp), hidT_get b3 (H1_none G b3 (fun z => ?_) fun z => ?_), b4, b5, b6⟩
    · rw [z] at b6; cases b6
    · rw [z] at b6; cases b6
  · obtain ⟨o, es, ep, e, hd, _⟩ := G.glob
    rw [z, hTp] at e
    cases e
    cases hd
theorem sq1 (G : Gd K mg mb s₁ cs a vs ns) : SqL K (H1 K cs a vs ns) a (ns.map V.int) := by
  cases hk : K.lookup a with
  | none => exact .inl (.inr ⟨lstO vs, (if_neg (a_no_tab G)).trans (if_pos ⟨rfl, by rw [hk]; rfl⟩)⟩)
  | some o =>
    have e := G.kin a o hk
    rw [G.obj] at e
    cases e
    exact .inr ⟨_, vs.toArray, _, hk, rfl, rfl, rfl, by rw [List.size_toArray, G.nums.length]; exact G.len, by simpa using vals_ints G.nums⟩
theorem tabH1 : ∀ p ∈ cs, H1 K cs a vs ns p.2 = some (.tbl #[]) := fun p hp => if_pos (List.mem_map.mpr ⟨p, hp, rfl⟩)
/-- what a run from there leaves -/
theorem left1 (G : Gd K mg mb s₁ cs a vs ns) {H' : Hp} {s' : Shared} (un : Un (frs []) [] (H1 K cs a vs ns) H' s₁.heap s'.heap) (hok' : HOk P w H' s'.heap) : OldK s₁.heap s'.heap := by
  have grown : ∀ b ∈ cs.map (·.2), ∃ more : Array Value, s'.heap.get? b = some { cls := .none, data := .fields more } := fun b hb => by
    obtain ⟨p, hp, rfl⟩ := List.mem_map.mp hb
    obtain ⟨more, z⟩ := un.tbls p.2 #[] (tabH1 p hp)
    exact ⟨_, hok' p.2 _ z⟩
  have key : ∀ b o, b ∉ cs.map (·.2) → s₁.heap.get? b = some o → s'.heap.get? b = some o := fun b o nb e => by
    rcases H1_cases (K := K) (cs := cs) (a := a) (vs := vs) (ns := ns) b with z | ⟨z, _⟩ | ⟨z, _, z2⟩
    · exact un.keep b o e z (fun m => absurd (show b ∈ ([] : List Addr) from m) (by simp)) (by simp)
    · exact absurd z nb
    · obtain ⟨e2, _⟩ := hok' b _ (un.frzs b _ _ z2)
      rw [z] at e e2 ⊢
      rw [G.obj] at e
      cases e
      exact e2
  refine ⟨fun b o e => ?_, fun b o e => ?_⟩
  · by_cases hb : b ∈ cs.map (·.2)
    · obtain ⟨more, hm⟩ := grown b hb
      have e0 := (tabs_at G hb).1
      obtain ⟨p, hp, rfl⟩ := List.mem_map.mp hb
      rw [e0] at e
      cases e
      exact .inr (.inl ⟨((G.code p hp).tab e0).isCodeTable, rfl, #[], more, rfl, by rw [Array.empty_append]; exact hm⟩)
    · exact .inl (key b o hb e)
  · by_cases hb : b ∈ cs.map (·.2)
    · obtain ⟨more, hm⟩ := grown b hb
      exact ⟨_, hm⟩
    · exact ⟨o, key b o hb e⟩
theorem end1 {fa : Addr} (G : Gd K mg mb s₁ cs a vs ns) (h : codeAny (model P w) callerA (.call (.ref fa) ⟨[.ref a], []⟩) (CR CX0 [] P w (H1 K cs a vs ns) s₁ (fun v _ => v = .bl true) fun _ _ _ => False) s₁) :
    codeAny (model P w) callerA (.call (.ref fa) ⟨[.ref a], []⟩) (fun r s' => r = .ok (.ret (.bool true)) ∧ OldK s₁.heap s'.heap ∧ s'.os = s₁.os ∧ AllBare s'.gens) s₁ := by
  refine codeAny_mono h fun r s' q => ?_
  cases r with
  | error e => exact False.elim q
  | ok fl =>
    cases fl with
    | next => exact False.elim q
    | brk => exact False.elim q
    | cont => exact False.elim q
    | ret u =>
      obtain ⟨v, H', os, bare, un, hok', r', q⟩ := q
      have q' : v = .bl true := q
      subst q'
      obtain rfl : u = Value.bool true := r'
      exact ⟨rfl, left1 G un hok', os, bare⟩
end
/-- the end -/
theorem walk1 {l : PySem.W.OpenLaw} {q : Program} {loose : List Str} {XP : (Str → Option Value) → Heap → Prop} {YP : World → Heap → Prop} {d : DefRec} {K : Params → PySem.W.Frag} (hn : l.most = some 63) (hdf : d.params.defaults = []) (hY : ∀ (w : World) (h : Heap), YP w h → (K w.params).In h)
    (F : ∀ (w : World) (s₀ s₁ : Shared) (mg mb : Str → Option Value) (fa : Addr), PySem.W.Ground q loose [] XP w s₀ mg mb s₁.heap → (K w.params).In s₁.heap → mg d.name = some (.ref fa) → ∃ (cA cI T1 T2 : Addr), (K w.params).lookup T1 = none ∧ (K w.params).lookup T2 = none ∧
      (PySem.W.CodeHd s₁.heap cA T1 ∧ s₁.heap.get? T1 = some tab0) ∧ (PySem.W.CodeHd s₁.heap cI T2 ∧ s₁.heap.get? T2 = some tab0) ∧
      ∀ (base : Heap), (K w.params).In base → base.Ns mainGlobals mg → GxR.TabB base mg cA T1 → GxR.TabB base mg cI T2 → ∀ (s : Shared) (H : Hp) (a : Addr) (ns : List Int), Env0 l.prog w (K w.params) mg base callerA [] s H →
        GxR.TabG H T1 → GxR.TabG H T2 → SqL (K w.params) H a (ns.map V.int) → ns.length ≤ 63 → codeAny (model l.prog w) callerA (.call (.ref fa) ⟨[.ref a], []⟩) (CR CX0 [] l.prog w H s (fun v _ => v = .bl true) fun _ _ _ => False) s) :
    PySem.W.WalkO q loose XP YP l.row.toRowW d [] (fun f vs => PySem.call f vs) := by
  refine Att.attach_callB hn hdf fun w s₀ s₁ mg mb fa o pm cd doc a vs ns G Y ho hd hcd hmg hobj hnum hlen hbits hg => ?_
  obtain ⟨cA, cI, T1, T2, n1, n2, ⟨h1, e1⟩, ⟨h2, e2⟩, hF⟩ := F w s₀ s₁ mg mb fa G (hY w _ Y) hmg
  have two : ∀ {R : Addr × Addr → Prop}, R (cA, T1) → R (cI, T2) → ∀ p ∈ [(cA, T1), (cI, T2)], R p := fun r1 r2 p hp => by
    rcases List.mem_cons.mp hp with z | z
    · rw [z]; exact r1
    · rw [List.mem_singleton.mp z]; exact r2
  have D : Gd (K w.params) mg mb s₁ [(cA, T1), (cI, T2)] a vs ns := ⟨hY w _ Y, G.T.g, G.T.b, G.T.builtins, G.T.nolimit, hg, two (R := fun p => s₁.heap.get? p.2 = some tab0) e1 e2, two (R := fun p => (K w.params).lookup p.2 = none) n1 n2, two (R := fun p => PySem.W.CodeHd s₁.heap p.1 p.2) h1 h2, G.T.bmain, hobj, hnum, Nat.le_trans hlen (by decide)⟩
  have E := env1 (P := l.prog) (w := w) D
  exact end1 D (hF _ E.mod.kin E.mod.glob (tabB1 D (cA, T1) List.mem_cons_self) (tabB1 D (cI, T2) (List.mem_cons_of_mem _ List.mem_cons_self)) s₁ _ a ns E ⟨#[], tabH1 (cA, T1) List.mem_cons_self, trivial⟩ ⟨#[], tabH1 (cI, T2) (List.mem_cons_of_mem _ List.mem_cons_self), trivial⟩ (sq1 D) hlen)
end MS
end
section
set_option Elab.async false
set_option linter.all false
set_option maxRecDepth 100000
set_option maxHeartbeats 4000000
namespace M4
open PySem PySem.Spec PyProof.Rows L2 L2H GE MS
abbrev s_law : Stmt := top 54
section
variable {P : Program} {w : World} {K : PySem.W.Frag} {mg : Str → Option Value} {base : Heap} {f fT : Addr} {fd dT : FuncData}
theorem all_list (X : LLx P w K mg base fT dT) (F : Fun K "_law_list" "_law_list" s_law_list f fd) (gS : mg "_law_list" = some (.ref f)) (bS : Binds K fd ["shape", "states"] []) : ∀ n : Nat, FnOk P w K mg base CX0 (n + 2) f fd ["shape", "states"] (spList K n)
  | 0 => by
    have no : ∀ vs H Q E, ¬ spList K 0 vs H Q E := fun vs H Q E h => by
      obtain ⟨_, _, _, _, _, _, h, _⟩ := h
      exact h
    exact ⟨fun vs H Q E h => absurd h (no vs H Q E), fun A outer s H args us vs Q E _ _ _ _ h => absurd h (no vs H Q E)⟩
  | n + 1 => ok_list X F gS bS (all_list X F gS bS n)
end
structure LW (P : Program) (w : World) (K : PySem.W.Frag) (mg : Str → Option Value) (base : Heap) (fT fP fB fS fN fM fC fH fL fV fG : Addr) (dT dP dB dS dN dM dC dH dL dV dG : FuncData) (T1 T2 : Addr) : Prop where
  D : DTxt P w K mg base fT fP dT dP
  rp : mg "repr" = none
  OB : FnOk P w K mg base CX0 1 fB dB ["script"] (spBox K)
  gB : mg "_law_box" = some (.ref fB)
  kB : PySem.W.keepIn K (.ref fB) = true
  bB : Binds K dB ["script"] []
  OS : FnOk P w K mg base CX0 7 fS dS ["box", "levels"] (spLShape K)
  gS : mg "_law_shape" = some (.ref fS)
  kS : PySem.W.keepIn K (.ref fS) = true
  bS : Binds K dS ["box", "levels"] []
  ON : FnOk P w K mg base CX0 23 fN dN ["shape", "states"] (spCountV K T1 T2)
  gN : mg "count_values" = some (.ref fN)
  kN : PySem.W.keepIn K (.ref fN) = true
  bN : Binds K dN ["shape", "states"] []
  OC : FnOk P w K mg base CX0 6 fC dC ["shape", "states"] (spCnt K 4)
  gC : mg "_law_count" = some (.ref fC)
  kC : PySem.W.keepIn K (.ref fC) = true
  bC : Binds K dC ["shape", "states"] []
  OM : FnOk P w K mg base CX0 7 fM dM ["shape", "states"] (spSmall K 4)
  gM : mg "_law_is_small" = some (.ref fM)
  kM : PySem.W.keepIn K (.ref fM) = true
  bM : Binds K dM ["shape", "states"] []
  OH : FnOk P w K mg base CX0 4 fH dH ["shape"] (spHas K 4)
  gH : mg "_law_has_bags" = some (.ref fH)
  kH : PySem.W.keepIn K (.ref fH) = true
  bH : Binds K dH ["shape"] []
  OL : FnOk P w K mg base CX0 6 fL dL ["shape", "states"] (spList K 4)
  gL : mg "_law_list" = some (.ref fL)
  kL : PySem.W.keepIn K (.ref fL) = true
  bL : Binds K dL ["shape", "states"] []
  OV : FnOk P w K mg base CX0 23 fV dV ["shape", "states", "x"] (spIsVal K T1 T2)
  gV : mg "is_value" = some (.ref fV)
  kV : PySem.W.keepIn K (.ref fV) = true
  bV : Binds K dV ["shape", "states", "x"] []
  OG : FnOk P w K mg base CX0 2 fG dG ["many"] (spOne bagsN)
  gG : mg "_law_bags" = some (.ref fG)
  kG : PySem.W.keepIn K (.ref fG) = true
  bG : Binds K dG ["many"] []
abbrev kLaw : List Str := ["script", "box", "turn", "shape", "states", "told", "values", "many", "value", "k"]
theorem sc_law : FnScope kLaw ["script"] (defScope s_law) := ⟨rfl, rfl, rfl, by decide +kernel, rfl, by decide +kernel, by decide +kernel⟩
section
variable {P : Program} {w : World} {K : PySem.W.Frag} {mg : Str → Option Value} {base : Heap} {f fT fP fB fS fN fM fC fH fL fV fG : Addr} {fd dT dP dB dS dN dM dC dH dL dV dG : FuncData} {T1 T2 : Addr}
def forB : Stmt → List Stmt
  | .For _ _ b _ _ => b
  | _ => []
abbrev rest4 : List Stmt := (forB ((defBody s_law).getD 1 (.Pass ⟨0, 0, 0, 0⟩))).drop 3
def repO : ON → Str
  | none => "None"
  | some n => Str.ofString (toString (n : Int))
inductive rRep (xs : List V) (H : Hp) (Q : VK) : Prop
  | mk (h : (∃ i, xs = [V.int i] ∧ i.natAbs.log2 < 1920 ∧ Q (V.str (Str.ofString (toString i))) H) ∨ xs = [V.non] ∧ Q (V.str (Str.ofString "None")) H)
theorem cr_rep {X : Cx} : CallR X (.builtin "repr") rRep := fun pins s σ H xs us Q I r h => by
  obtain ⟨h⟩ := h
  exact CallR.or SkE.call_repr_int MS.call_repr_none pins s σ H xs us Q I r h
theorem rep_on {c : ON} {H : Hp} {Q : VK} (hc : ∀ n, c = some n → n ≤ 1000000000) (q : Q (.str (repO c)) H) : rRep [oV c] H Q := by
  refine ⟨?_⟩
  cases c with
  | none => exact .inr ⟨rfl, q⟩
  | some n =>
    refine .inl ⟨(n : Int), rfl, ?_, q⟩
    have := hc n rfl
    rw [Int.natAbs_natCast]
    by_cases z : n = 0
    · rw [z]; decide
    · exact Nat.lt_of_lt_of_le ((Nat.log2_lt (k := 30) z).mpr (by omega)) (by decide)
theorem rest_at (X : LW P w K mg base fT fP fB fS fN fM fC fH fL fV fG dT dP dB dS dN dM dC dH dL dV dG T1 T2) {cdv : Value} {A : Around} {outer : List Env} {s : Shared} {H0 : Hp} {E : XK}
    (hr : Room 23 (A.deeper (envOfC "law" (defScope s_law) s.heap.objs.size f cdv))) :
    ∃ t, PSs (cxOf CX0 P w K mg base kLaw "law" (defScope s_law) f cdv A outer s H0 E).nox rest4 t ∧ ∀ (D : Ends) (a b v : V) (y2 y5 y6 y7 y8 y9 : Option V) (k : Nat) (sh : Sh) (H : Hp), k ≤ 20 → Dt K H v (Sh.data sh) → Sh.wf 4 sh → Sh.size sh ≤ 40 → GxR.TabG H T1 → GxR.TabG H T2 →
      (∀ (z5 z6 z8 z9 : Option V) H', Gr H H' → D.nx [some a, some b, y2, some v, some (.int (k : Int)), z5, z6, y7, z8, z9] H') → t D [some a, some b, y2, some v, some (.int (k : Int)), y5, y6, y7, y8, y9] H := by
  have nd := sc_law.nd
  have hr1 := hr.mono (j := 1) (by omega)
  have hr2 := hr.mono (j := 2) (by omega)
  have hr4 := hr.mono (j := 4) (by omega)
  have hr6 := hr.mono (j := 6) (by omega)
  have hr7 := hr.mono (j := 7) (by omega)
  have rep : CallR (cxOf CX0 P w K mg base kLaw "law" (defScope s_law) f cdv A outer s H0 E).nox (.builtin "repr") rRep := cr_rep
  have hu : (cxOf CX0 P w K mg base kLaw "law" (defScope s_law) f cdv A outer s H0 E).nox.A.units + 65 < cLine := M4.Room.u65 hr
  refine ⟨_, (pss_cons (ps_set (i := 5) nd rfl (.inl rfl) (pe_call X.ON hr rfl X.gN X.kN X.bN .nil pass0 (pa_cons (pv 3) (pa_cons (pv 4) pa_nil))))
      (pss_cons (ps_if (pt_cmpR op_ne (pe_callB rep (by rfl) X.rp (by decide +kernel) (pa_cons (pv 5) pa_nil)) (pe_callB rep (by rfl) X.rp (by decide +kernel) (pa_cons (pe_call X.OC hr6 rfl X.gC X.kC X.bC .nil pass0 (pa_cons (pv 3) (pa_cons (pv 4) pa_nil))) pa_nil)) (nomark _)) (pss_one (ps_ret pe_bl)) pss_nil)
      (pss_one (ps_if (PW.pt (pw_and (pt_val (pe_call X.OM hr7 rfl X.gM X.kM X.bM .nil pass0 (pa_cons (pv 3) (pa_cons (pv 4) pa_nil)))) (pw_and1 (pt_not (pt_val (pe_call X.OH hr4 rfl X.gH X.kH X.bH .nil pass0 (pa_cons (pv 3) pa_nil)))))))
        (pss_cons (ps_set (i := 6) nd rfl (.inr rfl) (pe_call X.OL hr6 rfl X.gL X.kL X.bL .nil pass0 (pa_cons (pv 3) (pa_cons (pv 4) pa_nil))))
        (pss_cons (ps_if (PW.pt (pw_or (pt_cmpR op_ne (pe_callB call_len_seq (by rfl) X.D.B.len PySem.boot_len (pa_cons (pv 6) pa_nil)) (pv 5) (nomark _)) (pw_or1 (pt_cmpR (op_inD hu) pe_bl
            (pe_lc (own := [("value", 8)]) (g := gName 8) (tt := tYes) rfl nd (pi_list (pv 6)) (blkOk_by (own := [("value", 8)]) (N := kLaw) (sc := defScope s_law) (by decide +kernel))
              (fun _ _ _ _ _ => pg_name (i := 8) nd rfl (Or.inl rfl)) (fun _ _ _ _ _ => pts_nil) (fun _ _ _ _ _ => pe_call X.OV hr rfl X.gV X.kV X.bV .nil pass0 (pa_cons (pv 3) (pa_cons (pv 4) (pa_cons (pv 8) pa_nil))))) (by rfl))))) (pss_one (ps_ret pe_bl)) pss_nil)
        (pss_one (ps_if (pt_cmpR (op_neD (by omega))
            (pe_lc (own := [("k", 9)]) (g := gName 9) rfl nd (pi_range2 (by rfl) X.D.B2.range (pa_cons pe_int (pa_cons (pe_callB call_len_seq (by rfl) X.D.B.len PySem.boot_len (pa_cons (pv 6) pa_nil)) pa_nil))) (blkOk_by (own := [("k", 9)]) (N := kLaw) (sc := defScope s_law) (by decide +kernel))
              (fun _ _ _ _ _ => pg_name (i := 9) nd rfl (Or.inl rfl)) (fun _ _ _ _ _ => pts_one (pt_cmpR (inDK (K := K) hu rfl) (pe_ix (ixLK (K := K) rfl) (pv 6) (pv 9) (fun _ _ => rfl)) (pe_slice (slLK (K := K) rfl) (pv 6) po_none (po_some (pv 9))) (by rfl))) (fun _ _ _ _ _ => pv 9)) (pe_lst pa_nil) (by rfl)) (pss_one (ps_ret pe_bl)) pss_nil)))) pss_nil)))), ?_⟩
  intro D a b v y2 y5 y6 y7 y8 y9 k sh H hk d w4 z4 ta tb hD
  have w6 : Sh.wf 6 sh := Sh.wf_mono w4 6 (by decide)
  have hsmall : ∀ n, cnt k sh = some n → n ≤ 1000000000 := fun n e => cnt_small w4 n e
  refine ⟨_, rfl, _, rfl, v, k, sh, rfl, d, w6, z4, ta, tb, fun H1 g1 => ?_⟩
  refine ⟨_, rfl, ?_⟩
  refine rep_on hsmall ?_
  refine ⟨_, rfl, _, rfl, v, k, sh, rfl, by omega, d.gr g1, w4, by decide, fun H2 g2 => ?_⟩
  refine rep_on hsmall ?_
  refine ⟨rfl, _, rfl, ifF (by simp) ?_⟩
  have g2 : Gr H H2 := g1.trans g2
  refine ⟨_, rfl, _, rfl, v, k, sh, rfl, by omega, d.gr g2, w4, by decide, fun H3 g3 => ⟨_, rfl, ite2 (fun c => ?_) (fun c => ?_)⟩⟩
  · have g3 : Gr H H3 := g2.trans g3
    refine ⟨_, rfl, v, sh, rfl, d.gr g3, w4, by decide, fun H4 g4 => ⟨_, rfl, ite2 (fun c2 => ?_) (fun c2 => ?_)⟩⟩
    · have g4 : Gr H H4 := g3.trans g4
      have hb : hasB sh = false := by simpa using c2
      refine ⟨_, rfl, _, rfl, v, k, sh, rfl, by omega, d.gr g4, w4, by decide, c, hb, fun H5 p ys ds g5 n5 e5 a5 vn => ?_⟩
      have g5 : Gr H H5 := g4.trans g5
      have hl70 := vn_len vn c
      have hlen := a5.length
      have sz : sizeLine = 16777216 := by decide
      have d5 := d.gr g5
      have tellL : oV (cnt k sh) = .int ((ys.length : Nat) : Int) := by rw [vn.vl.cnt, hlen]; rfl
      refine ⟨_, rfl, p, _, rfl, .inl (SqL.of e5), _, rfl, by rw [tellL]; rfl, _, rfl, ifF (by rw [tellL]; simp) ?_⟩
      refine ⟨_, rfl, p, rfl, ⟨_, SqL.of e5⟩, fun L hL => lcL_data (f := fun d => .bool (FI.fitsB k sh d)) (SqL.of e5) a5 (by omega) hL (fun _ => rfl) (fun i u d' H' hiu hid g hu' R hR => ?_) fun H6 zs g6 e6 a6 => ?_⟩
      · exact ⟨_, rfl, _, rfl, _, rfl, v, u, k, sh, d', rfl, d5.gr g, w6, z4, g.tab _ (g5.tab _ ta), g.tab _ (g5.tab _ tb), hu', (vn.ni d' (List.mem_of_getElem? hid)).fine (by decide), fun H'' g'' => hR _ _ g'' (.bl _)⟩
      · have g6' : Gr H H6 := g5.trans g6
        have em : ds.map (fun d => PyData.bool (FI.fitsB k sh d)) = (ds.map (FI.fitsB k sh)).map PyData.bool := by rw [List.map_map]; rfl
        have noF : ((ds.map fun d => PyData.bool (FI.fitsB k sh d)).any fun z => PyData.eqv z (.bool false)) = false := by
          have h := any_fa (ds.map (FI.fitsB k sh))
          rw [em]
          have : (ds.map (FI.fitsB k sh)).all id = true := by
            rw [List.all_map]
            exact List.all_eq_true.mpr fun d hd => vn.vl.fit d hd
          rw [this] at h
          simpa using h
        refine ⟨.bool false, _, .bl false, .lst (SqL.of e6) (DtAll.dp _ _ a6), by decide +kernel, by rw [em]; exact shBs _, _, rfl, ifF noF ?_⟩
        have e5' := grLst g6 e5
        have a5' := a5.gr g6
        have pl : ∀ d ∈ ds, plain d := fun d hd => (FI.good_of k 4 sh w4).1 d (vn.vl.fit d hd)
        refine ⟨_, rfl, p, _, rfl, .inl (SqL.of e5'), 1, _, rfl, by omega, fun L2 hL2 => lc_range (n := (((ys.length : Nat) : Int) - 1).toNat) (fun i H' => Gr H6 H' ∧ H' L2 = some (.lst [])) ⟨Gx.new hL2, upd_same⟩ (fun i H' hi pp => ?_) fun H' pp => ?_⟩
        · obtain ⟨g7, eL⟩ := pp
          have hi1 : 1 + i < ds.length := by omega
          obtain ⟨u, hu1, hu2⟩ := (a5'.gr g7).get (List.getElem?_eq_getElem hi1)
          have at1 : atI ys (1 + ((i : Nat) : Int)) = some u := by
            rw [show (1 : Int) + ((i : Nat) : Int) = ((1 + i : Nat) : Int) by omega]
            exact atI_nat hu1
          have e7 := grLst g7 e5'
          refine ⟨rfl, _, rfl, _, rfl, p, _, _, u, rfl, rfl, SqL.of e7, at1, _, rfl, ?_⟩
          unfold tNoPart
          refine ⟨_, rfl, _, rfl, p, _, rfl, SqL.of e7, fun q hq => ?_⟩
          have g8 : Gr H' (upd H' q (.lst (cutV ys none (some (1 + ((i : Nat) : Int)))))) := Gx.new hq
          have cut : cutV ys none (some (1 + ((i : Nat) : Int))) = ys.take (1 + i) := by
            unfold cutV
            have h0 : HT.sIx ys.length 0 none = 0 := rfl
            have h1 : HT.sIx ys.length ys.length (some (1 + ((i : Nat) : Int))) = 1 + i := by
              rw [show (1 : Int) + ((i : Nat) : Int) = ((1 + i : Nat) : Int) by omega, HT.sIx_nat]
              omega
            rw [h0, h1, List.drop_zero, Nat.sub_zero]
          have dd := DtAll.take (1 + i) (a5'.gr (g7.trans g8))
          rw [← cut] at dd
          have ni : ∀ d ∈ ds, d.canLay0 = true ∧ d.depth ≤ 8 := fun d hd => ⟨(vn.ni d hd).lay, (vn.ni d hd).dep⟩
          have nd1 : ds[1 + i] ∈ ds := List.getElem_mem hi1
          have none : ((ds.take (1 + i)).any fun z => PyData.eqv z ds[1 + i]) = false := by
            refine Bool.eq_false_iff.mpr fun h => ?_
            obtain ⟨z, hz, h⟩ := List.any_eq_true.mp h
            have e := eqv_plain z _ (pl z (List.mem_of_mem_take hz)) (pl _ nd1) h
            obtain ⟨j, hj, ej⟩ := List.getElem_of_mem hz
            rw [List.length_take] at hj
            rw [List.getElem_take] at ej
            have := (List.getElem_inj (h₀ := by omega) (h₁ := hi1) vn.vl.nd).mp (ej.trans e)
            omega
          refine ⟨ds[1 + i], ds.take (1 + i), Dt.dp _ _ (hu2.gr g8), .lst (SqL.of upd_same) (DtAll.dp _ _ dd), shp_of (ni _ nd1) (by decide), shp_of (n := 9) (shp_list fun d hd => ni d (List.mem_of_mem_take hd)) (by decide), _, rfl, ifF none ⟨g7.trans g8, ?_⟩⟩
          exact grLst g8 eL
        · obtain ⟨g7, eL⟩ := pp
          refine ⟨by show 0 ≤ sizeLine; omega, fun p2 hp2 => ?_⟩
          have g8 : Gr H' (upd H' p2 (.lst [])) := Gx.new hp2
          refine ⟨.list [], .list [], .lst (SqL.of (grLst g8 eL)) .nil, .lst (SqL.of upd_same) .nil, by decide +kernel, by decide +kernel, _, rfl, ifF (by decide +kernel) ?_⟩
          exact hD _ _ _ _ _ (g6'.trans (g7.trans g8))
    · exact hD _ _ _ _ _ (g3.trans g4)
  · exact hD _ _ _ _ _ (g2.trans g3)
theorem law_at (X : LW P w K mg base fT fP fB fS fN fM fC fH fL fV fG dT dP dB dS dN dM dC dH dL dV dG T1 T2) {cdv : Value} {A : Around} {outer : List Env} {s : Shared} {H0 : Hp} {E : XK}
    (hr : Room 23 (A.deeper (envOfC "law" (defScope s_law) s.heap.objs.size f cdv))) :
    ∃ t, PSs (cxOf CX0 P w K mg base kLaw "law" (defScope s_law) f cdv A outer s H0 E).nox (defBody s_law) t ∧ ∀ (a : Addr) (ns : List Int) (H : Hp), ns.length ≤ 63 → GxR.TabG H T1 → GxR.TabG H T2 → SqL K H a (ns.map V.int) →
      t { nx := fun _ _ => V.non = V.bl true, rt := fun v _ => v = .bl true } (L2.start kLaw [.ref a]) H := by
  have nd := sc_law.nd
  have hr1 := hr.mono (j := 1) (by omega)
  have hr2 := hr.mono (j := 2) (by omega)
  have hr4 := hr.mono (j := 4) (by omega)
  have hr6 := hr.mono (j := 6) (by omega)
  have hr7 := hr.mono (j := 7) (by omega)
  have rep : CallR (cxOf CX0 P w K mg base kLaw "law" (defScope s_law) f cdv A outer s H0 E).nox (.builtin "repr") rRep := cr_rep
  have hu : (cxOf CX0 P w K mg base kLaw "law" (defScope s_law) f cdv A outer s H0 E).nox.A.units + 65 < cLine := M4.Room.u65 hr
  obtain ⟨tr, ht, hq⟩ := rest_at X (cdv := cdv) (outer := outer) (s := s) (H0 := H0) (E := E) hr
  refine ⟨_, (pss_cons (ps_set (i := 1) nd rfl (.inl rfl) (pe_call X.OB hr1 rfl X.gB X.kB X.bB .nil pass0 (pa_cons (pv 0) pa_nil)))
    (pss_cons (ps_for PassesOwn.never rfl (pi_range1 (by rfl) X.D.B2.range (pa_cons pe_int pa_nil)) (pg_name (i := 2) nd rfl (Or.inl rfl))
      (pss_cons (ps_set (i := 3) nd rfl (.inr rfl) (pe_call X.OS hr7 rfl X.gS X.kS X.bS .nil pass0 (pa_cons (pv 1) (pa_cons (pe_op op_add pe_int (pe_call X.D.OT hr1 rfl X.D.gT X.D.kT X.D.bT .nil pass0 (pa_cons (pv 1) (pa_cons pe_int pa_nil)))) pa_nil))))
      (pss_cons (ps_set (i := 4) nd rfl (.inr rfl) (pe_call X.D.OT hr1 rfl X.D.gT X.D.kT X.D.bT .nil pass0 (pa_cons (pv 1) (pa_cons pe_int pa_nil))))
      (pss_cons (ps_if (pt_cmpR op_eq (pe_call X.D.OT hr1 rfl X.D.gT X.D.kT X.D.bT .nil pass0 (pa_cons (pv 1) (pa_cons pe_int pa_nil))) pe_int (nomark _)) (pss_one (ps_set (i := 4) nd rfl (.inr rfl) (pe_call X.D.OT hr1 rfl X.D.gT X.D.kT X.D.bT .nil pass0 (pa_cons (pv 1) (pa_cons pe_int pa_nil))))) pss_nil)
      ht))))
    (pss_cons (ps_for PassesOwn.never rfl (pi_range1 (by rfl) X.D.B2.range (pa_cons pe_int pa_nil)) (pg_name (i := 7) nd rfl (Or.inl rfl))
      (pss_one (ps_if (pt_cmpR op_ne (pe_callB rep (by rfl) X.rp (by decide +kernel) (pa_cons (pe_call X.ON hr rfl X.gN X.kN X.bN .nil pass0 (pa_cons (pe_tup (pa_cons pe_str (pa_cons (pe_tup (pa_cons pe_str pa_nil)) pa_nil))) (pa_cons (pv 7) pa_nil))) pa_nil)) (pe_callB rep (by rfl) X.rp (by decide +kernel) (pa_cons (pe_call X.OG hr2 rfl X.gG X.kG X.bG .nil pass0 (pa_cons (pv 7) pa_nil)) pa_nil)) (nomark _)) (pss_one (ps_ret pe_bl)) pss_nil)))
    (pss_one (ps_ret (pe_and (pe_cmpR op_eq (pe_call X.ON hr rfl X.gN X.kN X.bN .nil pass0 (pa_cons (pe_tup (pa_cons pe_str (pa_cons (pe_tup (pa_cons (pe_tup (pa_cons pe_str (pa_cons (pe_tup (pa_cons pe_str (pa_cons (pe_tup (pa_cons pe_str (pa_cons pe_int pa_nil))) pa_nil))) pa_nil))) (pa_cons (pe_tup (pa_cons pe_str pa_nil)) pa_nil))) pa_nil))) (pa_cons pe_int pa_nil))) pe_int (nomark _))
      (pe_one (pe_cmpR op_eq (pe_call X.ON hr rfl X.gN X.kN X.bN .nil pass0 (pa_cons (pe_tup (pa_cons pe_str (pa_cons pe_int (pa_cons (pe_tup (pa_cons pe_str (pa_cons (pe_tup (pa_cons pe_str (pa_cons pe_int pa_nil))) pa_nil))) pa_nil)))) (pa_cons pe_int pa_nil))) pe_int (nomark _))))))))), ?_⟩
  intro a ns H hl t1 t2 hS
  refine ⟨_, rfl, a, ns, rfl, hl, hS, fun b l ms H1 g1 B1 => ?_⟩
  refine ⟨4, rfl, by decide, by decide, for_range (n := 4) (fun _ σ H' => (∃ y2 y3 y4 y5 y6 y7 y8 y9, σ = [some (.ref a), some (.ref b), y2, y3, y4, y5, y6, y7, y8, y9]) ∧ Bx b l ms H' ∧ GxR.TabG H' T1 ∧ GxR.TabG H' T2) ⟨⟨_, _, _, _, _, _, _, _, rfl⟩, B1, g1.tab _ t1, g1.tab _ t2⟩ (fun i σ H2 hi p => ?_) fun σ H2 p => ?_⟩
  · obtain ⟨⟨y2, y3, y4, y5, y6, y7, y8, y9, rfl⟩, B2, ta2, tb2⟩ := p
    refine ⟨_, rfl, _, rfl, b, l, ms, 4, rfl, by decide, by decide, B2, fun r H3 r0 r4 B3 g3 => ?_⟩
    obtain ⟨m, hm⟩ : ∃ m : Nat, (m : Int) = 1 + r := ⟨(1 + r).toNat, by omega⟩
    refine ⟨1, r, rfl, rfl, b, l, ms, m, by rw [hm]; rfl, by omega, by omega, B3, fun v sh H4 d4 w4 z4 B4 g4 => ?_⟩
    refine ⟨_, rfl, b, l, ms, 5, rfl, by decide, by decide, B4, fun r2 H5 r20 r25 B5 g5 => ?_⟩
    refine ⟨_, rfl, b, l, ms, 5, rfl, by decide, by decide, B5, fun r3 H6 r30 r35 B6 g6 => ?_⟩
    have g6 : Gb b H4 H6 := g5.trans g6
    have d6 : Dt K H6 v (Sh.data sh) := Dt.gx B4.not g6 d4
    have ta6 := g6.tab _ (g4.tab _ (g3.tab _ ta2))
    have tb6 := g6.tab _ (g4.tab _ (g3.tab _ tb2))
    refine ⟨rfl, _, rfl, ite2 (fun c => ?_) (fun c => ?_)⟩
    · refine ⟨_, rfl, b, l, ms, 21, rfl, by decide, by decide, B6, fun r4 H7 r40 r45 B7 g7 => ?_⟩
      obtain ⟨k, hk⟩ : ∃ k : Nat, (k : Int) = r4 := ⟨r4.toNat, by omega⟩
      rw [← hk]
      exact hq _ (.ref a) (.ref b) v _ _ _ _ _ _ k sh H7 (by omega) (Dt.gx B6.not g7 d6) w4 z4 (g7.tab _ ta6) (g7.tab _ tb6) fun z5 z6 z8 z9 H' g => ⟨⟨_, _, _, _, _, _, _, _, rfl⟩, B7.gr g, g.tab _ (g7.tab _ ta6), g.tab _ (g7.tab _ tb6)⟩
    · obtain ⟨k, hk⟩ : ∃ k : Nat, (k : Int) = r2 := ⟨r2.toNat, by omega⟩
      rw [← hk]
      exact hq _ (.ref a) (.ref b) v _ _ _ _ _ _ k sh H6 (by omega) d6 w4 z4 ta6 tb6 fun z5 z6 z8 z9 H' g => ⟨⟨_, _, _, _, _, _, _, _, rfl⟩, B6.gr g, g.tab _ ta6, g.tab _ tb6⟩
  · obtain ⟨⟨y2, y3, y4, y5, y6, y7, y8, y9, rfl⟩, B2, ta2, tb2⟩ := p
    have sz : sizeLine = 16777216 := by decide
    refine ⟨5, rfl, by decide, by decide, for_range (n := 5) (fun _ σ H' => (∃ y2 y3 y4 y5 y6 y7 y8 y9, σ = [some (.ref a), some (.ref b), y2, y3, y4, y5, y6, y7, y8, y9]) ∧ Gr H2 H') ⟨⟨_, _, _, _, _, _, _, _, rfl⟩, Gx.refl⟩ (fun i σ H3 hi p => ?_) fun σ H3 p => ?_⟩
    · obtain ⟨⟨x2, x3, x4, x5, x6, x7, x8, x9, rfl⟩, g3⟩ := p
      refine ⟨by show 1 ≤ sizeLine; omega, fun p1 h1 => ⟨by show 2 ≤ sizeLine; omega, fun p2 h2 => ?_⟩⟩
      have m1 := Dt.mk (K := K) (ds := [kS "self"]) (.cons (.str _) .nil) h1
      have m2 := Dt.mk (K := K) (ds := [kS "many", .tuple [kS "self"]]) (.cons (.str _) (.cons m1 .nil)) h2
      have g4 := (g3.then (o := .tup [.str "self"]) h1).then (o := .tup [.str "many", .ref p1]) h2
      have small : ∀ n, cnt i (.many .self) = some n → n ≤ 1000000000 := fun n e => cnt_small (n := 2) (by simp [Sh.wf]) n e
      rw [Int.zero_add]
      refine ⟨_, rfl, .ref p2, i, .many .self, rfl, m2, by simp [Sh.wf], by decide, g4.tab _ ta2, g4.tab _ tb2, fun H5 g5 => ?_⟩
      refine rep_on small ?_
      refine ⟨_, rfl, some i, rfl, ?_⟩
      have ec : cnt i (.many .self) = bagsN (some i) := by
        show bagsN (limN i) = _
        rw [limN_of (by omega)]
      rw [ec] at small
      rw [ec]
      refine rep_on small ?_
      exact ⟨rfl, _, rfl, ifF (by simp) ⟨⟨_, _, _, _, _, _, _, _, rfl⟩, g4.trans g5⟩⟩
    · obtain ⟨⟨x2, x3, x4, x5, x6, x7, x8, x9, rfl⟩, g3⟩ := p
      have n2 : 2 ≤ sizeLine := by omega
      have n1 : 1 ≤ sizeLine := by omega
      have n3 : 3 ≤ sizeLine := by omega
      refine ⟨n2, fun p1 h1 => ⟨n2, fun p2 h2 => ⟨n2, fun p3 h3 => ⟨n1, fun p4 h4 => ⟨n2, fun p5 h5 => ⟨n2, fun p6 h6 => ?_⟩⟩⟩⟩⟩⟩
      have m1 := Dt.mk (K := K) (ds := [kS "letters", .int 2]) (.cons (.str _) (.cons (.int 2) .nil)) h1
      have m2 := Dt.mk (K := K) (ds := [kS "chance", .tuple [kS "letters", .int 2]]) (.cons (.str _) (.cons m1 .nil)) h2
      have m3 := Dt.mk (K := K) (ds := [kS "some", .tuple [kS "chance", .tuple [kS "letters", .int 2]]]) (.cons (.str _) (.cons m2 .nil)) h3
      have m4 := Dt.mk (K := K) (ds := [kS "self"]) (.cons (.str _) .nil) h4
      have m5 := Dt.mk (K := K) (ds := [.tuple [kS "some", .tuple [kS "chance", .tuple [kS "letters", .int 2]]], .tuple [kS "self"]]) (.cons (m3.new h4) (.cons m4 .nil)) h5
      have m6 := Dt.mk (K := K) (ds := [kS "both", .tuple [.tuple [kS "some", .tuple [kS "chance", .tuple [kS "letters", .int 2]]], .tuple [kS "self"]]]) (.cons (.str _) (.cons m5 .nil)) h6
      have g4 := (((((g3.then (o := .tup [.str "letters", .int 2]) h1).then (o := .tup [.str "chance", .ref p1]) h2).then (o := .tup [.str "some", .ref p2]) h3).then (o := .tup [.str "self"]) h4).then (o := .tup [.ref p3, .ref p4]) h5).then (o := .tup [.str "both", .ref p5]) h6
      refine ⟨.ref p6, 0, .both [.some (.chance (.letters 2)), .self], rfl, m6, by simp [Sh.wf], by decide, g4.tab _ ta2, g4.tab _ tb2, fun H5 g5 => ?_⟩
      have e0 : cnt 0 (.both [.some (.chance (.letters 2)), .self]) = some 0 := by decide +kernel
      rw [e0]
      refine ⟨rfl, _, rfl, ifT (by decide) ?_⟩
      have g5 := g4.trans g5
      refine ⟨n2, fun p1 h1 => ⟨n2, fun p2 h2 => ⟨n3, fun p3 h3 => ?_⟩⟩⟩
      have m1 := Dt.mk (K := K) (ds := [kS "letters", .int 2]) (.cons (.str _) (.cons (.int 2) .nil)) h1
      have m2 := Dt.mk (K := K) (ds := [kS "chance", .tuple [kS "letters", .int 2]]) (.cons (.str _) (.cons m1 .nil)) h2
      have m3 := Dt.mk (K := K) (ds := [kS "after", .int 0, .tuple [kS "chance", .tuple [kS "letters", .int 2]]]) (.cons (.str _) (.cons (.int 0) (.cons m2 .nil))) h3
      have g6 := ((g5.then (o := .tup [.str "letters", .int 2]) h1).then (o := .tup [.str "chance", .ref p1]) h2).then (o := .tup [.str "after", .int 0, .ref p2]) h3
      refine ⟨.ref p3, 3, .after 0 (.chance (.letters 2)), rfl, m3, by simp [Sh.wf], by decide, g6.tab _ ta2, g6.tab _ tb2, fun H7 g7 => ?_⟩
      have e1 : cnt 3 (.after 0 (.chance (.letters 2))) = some 1 := by decide +kernel
      rw [e1]
      exact ⟨rfl, rfl⟩
end
end M4
end
section
set_option Elab.async false
set_option linter.all false
set_option maxRecDepth 100000
set_option maxHeartbeats 4000000
/-! The end of a row with any number of tables. -/
namespace MS
open PySem PySem.Spec PyProof.Rows L2 L2H GE
theorem walkC {l : PySem.W.OpenLaw} {q : Program} {loose : List Str} {XP : (Str → Option Value) → Heap → Prop} {YP : World → Heap → Prop} {d : DefRec} {K : Params → PySem.W.Frag} (hn : l.most = some 63) (hdf : d.params.defaults = []) (hY : ∀ (w : World) (h : Heap), YP w h → (K w.params).In h)
    (F : ∀ (w : World) (s₀ s₁ : Shared) (mg mb : Str → Option Value) (fa : Addr), PySem.W.Ground q loose [] XP w s₀ mg mb s₁.heap → (K w.params).In s₁.heap → mg d.name = some (.ref fa) →
      ∃ cs : List (Addr × Addr), (∀ p ∈ cs, (K w.params).lookup p.2 = none ∧ PySem.W.CodeHd s₁.heap p.1 p.2 ∧ s₁.heap.get? p.2 = some tab0) ∧
      ∀ (base : Heap), (K w.params).In base → base.Ns mainGlobals mg → (∀ p ∈ cs, GxR.TabB base mg p.1 p.2) → ∀ (s : Shared) (H : Hp) (a : Addr) (ns : List Int), Env0 l.prog w (K w.params) mg base callerA [] s H →
        (∀ p ∈ cs, GxR.TabG H p.2) → SqL (K w.params) H a (ns.map V.int) → ns.length ≤ 63 → codeAny (model l.prog w) callerA (.call (.ref fa) ⟨[.ref a], []⟩) (CR CX0 [] l.prog w H s (fun v _ => v = .bl true) fun _ _ _ => False) s) :
    PySem.W.WalkO q loose XP YP l.row.toRowW d [] (fun f vs => PySem.call f vs) := by
  refine Att.attach_callB hn hdf fun w s₀ s₁ mg mb fa o pm cd doc a vs ns G Y ho hd hcd hmg hobj hnum hlen hbits hg => ?_
  obtain ⟨cs, hcs, hF⟩ := F w s₀ s₁ mg mb fa G (hY w _ Y) hmg
  have D : Gd (K w.params) mg mb s₁ cs a vs ns := ⟨hY w _ Y, G.T.g, G.T.b, G.T.builtins, G.T.nolimit, hg, fun p hp => (hcs p hp).2.2, fun p hp => (hcs p hp).1, fun p hp => (hcs p hp).2.1, G.T.bmain, hobj, hnum, Nat.le_trans hlen (by decide)⟩
  have E := env1 (P := l.prog) (w := w) D
  exact end1 D (hF _ E.mod.kin E.mod.glob (tabB1 D) s₁ _ a ns E (fun p hp => ⟨#[], tabH1 p hp, trivial⟩) (sq1 D) hlen)
end MS
end
section
set_option Elab.async false
set_option linter.all false
set_option maxRecDepth 100000
set_option maxHeartbeats 4000000
namespace M4
open PySem PySem.Spec PyProof.Rows L2 L2H GE MS
theorem all_mk {P : Program} {w : World} {K : PySem.W.Frag} {h : Heap} {mg : Str → Option Value} {fa : Addr} (X : K.In h) (G : h.Ns mainGlobals mg) (hfa : mg "law" = some (.ref fa))
    {f0 f1 f2 f3 f4 f5 f6 f7 f8 f9 f10 f11 f12 f13 f14 f15 f16 f17 f18 f19 f20 f21 f22 f23 f24 f25 f26 f27 f28 f29 f30 f31 f32 f33 f34 f35 f36 f37 f38 cA T1 cI T2 CBadShape : Addr} {oc0 kV0 dc0 pm0 ct0 cd0 oc1 kV1 dc1 pm1 ct1 cd1 oc2 kV2 dc2 pm2 ct2 cd2 oc3 kV3 dc3 pm3 ct3 cd3 oc4 kV4 dc4 pm4 ct4 oc5 kV5 dc5 pm5 ct5 cd5 oc6 kV6 dc6 pm6 ct6 oc7 kV7 dc7 pm7 ct7 cd7 oc8 kV8 dc8 pm8 ct8 cd8 oc9 kV9 dc9 pm9 ct9 cd9 oc10 kV10 dc10 pm10 ct10 cd10 oc11 kV11 dc11 pm11 ct11 cd11 oc12 kV12 dc12 pm12 ct12 cd12 oc13 kV13 dc13 pm13 ct13 cd13 oc14 kV14 dc14 pm14 ct14 cd14 oc15 kV15 dc15 pm15 ct15 cd15 oc16 kV16 dc16 pm16 ct16 cd16 oc17 kV17 dc17 pm17 ct17 cd17 oc18 kV18 dc18 pm18 ct18 cd18 oc19 kV19 dc19 pm19 ct19 cd19 oc20 kV20 dc20 pm20 ct20 cd20 oc21 kV21 dc21 pm21 ct21 cd21 oc22 kV22 dc22 pm22 ct22 cd22 oc23 kV23 dc23 pm23 ct23 cd23 oc24 kV24 dc24 pm24 ct24 cd24 oc25 kV25 dc25 pm25 ct25 cd25 oc26 kV26 dc26 pm26 ct26 cd26 oc27 kV27 dc27 pm27 ct27 cd27 oc28 kV28 dc28 pm28 ct28 cd28 oc29 kV29 dc29 pm29 ct29 cd29 oc30 kV30 dc30 pm30 ct30 cd30 oc31 kV31 dc31 pm31 ct31 cd31 oc32 kV32 dc32 pm32 ct32 cd32 oc33 kV33 dc33 pm33 ct33 cd33 oc34 kV34 dc34 pm34 ct34 cd34 oc35 kV35 dc35 pm35 ct35 cd35 oc36 kV36 dc36 pm36 ct36 cd36 oc37 kV37 dc37 pm37 ct37 cd37 oc38 kV38 dc38 pm38 ct38 cd38 : Value} {od0 an0 od1 an1 od2 an2 od3 an3 od4 an4 od5 an5 od6 an6 od7 an7 od8 an8 od9 an9 od10 an10 od11 an11 od12 an12 od13 an13 od14 an14 od15 an15 od16 an16 od17 an17 od18 an18 od19 an19 od20 an20 od21 an21 od22 an22 od23 an23 od24 an24 od25 an25 od26 an26 od27 an27 od28 an28 od29 an29 od30 an30 od31 an31 od32 an32 od33 an33 od34 an34 od35 an35 od36 an36 od37 an37 od38 an38 : Option Addr} {sl0 sl1 sl2 sl3 sl4 sl5 sl6 sl7 sl8 sl9 sl10 sl11 sl12 sl13 sl14 sl15 sl16 sl17 sl18 sl19 sl20 sl21 sl22 sl23 sl24 sl25 sl26 sl27 sl28 sl29 sl30 sl31 sl32 sl33 sl34 sl35 sl36 sl37 sl38 : Array (Option Value)} {tMOST_AFTER tMOST_LETTERS tMOST_BESIDE tMOST_LEVELS tMOST_SHAPES tMOST_COUNTED tMANY_VALUES tMOST_IN_BAG tLOWS_BELOW : Tok}
    (a0 : PySem.W.nsIn K mainGlobals "check_shape" = some (some (.ref f0)))
    (l0 : K.lookup f0 = some ⟨oc0, od0, .func (PySem.W.fnOf "check_shape" "check_shape" (defArgs (top 10)) (defBody (top 10)) (defScope (top 10)) .none kV0 dc0 pm0 an0 cd0 ct0), sl0⟩)
    (c0 : PySem.W.codeIn K cd0 "check_shape" = true)
    (k0 : PySem.W.keepIn K (.ref f0) = true)
    (a1 : PySem.W.nsIn K mainGlobals "is_number" = some (some (.ref f1)))
    (l1 : K.lookup f1 = some ⟨oc1, od1, .func (PySem.W.fnOf "is_number" "is_number" (defArgs (top 11)) (defBody (top 11)) (defScope (top 11)) .none kV1 dc1 pm1 an1 cd1 ct1), sl1⟩)
    (c1 : PySem.W.codeIn K cd1 "is_number" = true)
    (k1 : PySem.W.keepIn K (.ref f1) = true)
    (a2 : PySem.W.nsIn K mainGlobals "is_number_below" = some (some (.ref f2)))
    (l2 : K.lookup f2 = some ⟨oc2, od2, .func (PySem.W.fnOf "is_number_below" "is_number_below" (defArgs (top 12)) (defBody (top 12)) (defScope (top 12)) .none kV2 dc2 pm2 an2 cd2 ct2), sl2⟩)
    (c2 : PySem.W.codeIn K cd2 "is_number_below" = true)
    (k2 : PySem.W.keepIn K (.ref f2) = true)
    (a3 : PySem.W.nsIn K mainGlobals "is_nested" = some (some (.ref f3)))
    (l3 : K.lookup f3 = some ⟨oc3, od3, .func (PySem.W.fnOf "is_nested" "is_nested" (defArgs (top 13)) (defBody (top 13)) (defScope (top 13)) .none kV3 dc3 pm3 an3 cd3 ct3), sl3⟩)
    (c3 : PySem.W.codeIn K cd3 "is_nested" = true)
    (k3 : PySem.W.keepIn K (.ref f3) = true)
    (a4 : PySem.W.nsIn K mainGlobals "are_nested" = some (some (.ref f4)))
    (l4 : K.lookup f4 = some ⟨oc4, od4, .func (PySem.W.fnOf "are_nested" "are_nested" (defArgs (top 14)) (defBody (top 14)) (defScope (top 14)) .none kV4 dc4 pm4 an4 (.ref cA) ct4), sl4⟩)
    (c4 : PySem.W.codeIn K (.ref cA) "are_nested" = true)
    (k4 : PySem.W.keepIn K (.ref f4) = true)
    (a5 : PySem.W.nsIn K mainGlobals "shapes_below" = some (some (.ref f5)))
    (l5 : K.lookup f5 = some ⟨oc5, od5, .func (PySem.W.fnOf "shapes_below" "shapes_below" (defArgs (top 15)) (defBody (top 15)) (defScope (top 15)) .none kV5 dc5 pm5 an5 cd5 ct5), sl5⟩)
    (c5 : PySem.W.codeIn K cd5 "shapes_below" = true)
    (k5 : PySem.W.keepIn K (.ref f5) = true)
    (a6 : PySem.W.nsIn K mainGlobals "shapes_in" = some (some (.ref f6)))
    (l6 : K.lookup f6 = some ⟨oc6, od6, .func (PySem.W.fnOf "shapes_in" "shapes_in" (defArgs (top 16)) (defBody (top 16)) (defScope (top 16)) .none kV6 dc6 pm6 an6 (.ref cI) ct6), sl6⟩)
    (c6 : PySem.W.codeIn K (.ref cI) "shapes_in" = true)
    (k6 : PySem.W.keepIn K (.ref f6) = true)
    (a7 : PySem.W.nsIn K mainGlobals "is_value" = some (some (.ref f7)))
    (l7 : K.lookup f7 = some ⟨oc7, od7, .func (PySem.W.fnOf "is_value" "is_value" (defArgs (top 22)) (defBody (top 22)) (defScope (top 22)) .none kV7 dc7 pm7 an7 cd7 ct7), sl7⟩)
    (c7 : PySem.W.codeIn K cd7 "is_value" = true)
    (k7 : PySem.W.keepIn K (.ref f7) = true)
    (a8 : PySem.W.nsIn K mainGlobals "count_values" = some (some (.ref f8)))
    (l8 : K.lookup f8 = some ⟨oc8, od8, .func (PySem.W.fnOf "count_values" "count_values" (defArgs (top 23)) (defBody (top 23)) (defScope (top 23)) .none kV8 dc8 pm8 an8 cd8 ct8), sl8⟩)
    (c8 : PySem.W.codeIn K cd8 "count_values" = true)
    (k8 : PySem.W.keepIn K (.ref f8) = true)
    (a9 : PySem.W.nsIn K mainGlobals "fits" = some (some (.ref f9)))
    (l9 : K.lookup f9 = some ⟨oc9, od9, .func (PySem.W.fnOf "fits" "fits" (defArgs (top 24)) (defBody (top 24)) (defScope (top 24)) .none kV9 dc9 pm9 an9 cd9 ct9), sl9⟩)
    (c9 : PySem.W.codeIn K cd9 "fits" = true)
    (k9 : PySem.W.keepIn K (.ref f9) = true)
    (a10 : PySem.W.nsIn K mainGlobals "all_fit" = some (some (.ref f10)))
    (l10 : K.lookup f10 = some ⟨oc10, od10, .func (PySem.W.fnOf "all_fit" "all_fit" (defArgs (top 25)) (defBody (top 25)) (defScope (top 25)) .none kV10 dc10 pm10 an10 cd10 ct10), sl10⟩)
    (c10 : PySem.W.codeIn K cd10 "all_fit" = true)
    (k10 : PySem.W.keepIn K (.ref f10) = true)
    (a11 : PySem.W.nsIn K mainGlobals "is_choice" = some (some (.ref f11)))
    (l11 : K.lookup f11 = some ⟨oc11, od11, .func (PySem.W.fnOf "is_choice" "is_choice" (defArgs (top 26)) (defBody (top 26)) (defScope (top 26)) .none kV11 dc11 pm11 an11 cd11 ct11), sl11⟩)
    (c11 : PySem.W.codeIn K cd11 "is_choice" = true)
    (k11 : PySem.W.keepIn K (.ref f11) = true)
    (a12 : PySem.W.nsIn K mainGlobals "all_rise" = some (some (.ref f12)))
    (l12 : K.lookup f12 = some ⟨oc12, od12, .func (PySem.W.fnOf "all_rise" "all_rise" (defArgs (top 27)) (defBody (top 27)) (defScope (top 27)) .none kV12 dc12 pm12 an12 cd12 ct12), sl12⟩)
    (c12 : PySem.W.codeIn K cd12 "all_rise" = true)
    (k12 : PySem.W.keepIn K (.ref f12) = true)
    (a13 : PySem.W.nsIn K mainGlobals "is_bag" = some (some (.ref f13)))
    (l13 : K.lookup f13 = some ⟨oc13, od13, .func (PySem.W.fnOf "is_bag" "is_bag" (defArgs (top 28)) (defBody (top 28)) (defScope (top 28)) .none kV13 dc13 pm13 an13 cd13 ct13), sl13⟩)
    (c13 : PySem.W.codeIn K cd13 "is_bag" = true)
    (k13 : PySem.W.keepIn K (.ref f13) = true)
    (a14 : PySem.W.nsIn K mainGlobals "is_chance" = some (some (.ref f14)))
    (l14 : K.lookup f14 = some ⟨oc14, od14, .func (PySem.W.fnOf "is_chance" "is_chance" (defArgs (top 29)) (defBody (top 29)) (defScope (top 29)) .none kV14 dc14 pm14 an14 cd14 ct14), sl14⟩)
    (c14 : PySem.W.codeIn K cd14 "is_chance" = true)
    (k14 : PySem.W.keepIn K (.ref f14) = true)
    (a15 : PySem.W.nsIn K mainGlobals "all_long" = some (some (.ref f15)))
    (l15 : K.lookup f15 = some ⟨oc15, od15, .func (PySem.W.fnOf "all_long" "all_long" (defArgs (top 30)) (defBody (top 30)) (defScope (top 30)) .none kV15 dc15 pm15 an15 cd15 ct15), sl15⟩)
    (c15 : PySem.W.codeIn K cd15 "all_long" = true)
    (k15 : PySem.W.keepIn K (.ref f15) = true)
    (a16 : PySem.W.nsIn K mainGlobals "add_up_to_one" = some (some (.ref f16)))
    (l16 : K.lookup f16 = some ⟨oc16, od16, .func (PySem.W.fnOf "add_up_to_one" "add_up_to_one" (defArgs (top 31)) (defBody (top 31)) (defScope (top 31)) .none kV16 dc16 pm16 an16 cd16 ct16), sl16⟩)
    (c16 : PySem.W.codeIn K cd16 "add_up_to_one" = true)
    (k16 : PySem.W.keepIn K (.ref f16) = true)
    (a17 : PySem.W.nsIn K mainGlobals "is_lowest" = some (some (.ref f17)))
    (l17 : K.lookup f17 = some ⟨oc17, od17, .func (PySem.W.fnOf "is_lowest" "is_lowest" (defArgs (top 32)) (defBody (top 32)) (defScope (top 32)) .none kV17 dc17 pm17 an17 cd17 ct17), sl17⟩)
    (c17 : PySem.W.codeIn K cd17 "is_lowest" = true)
    (k17 : PySem.W.keepIn K (.ref f17) = true)
    (a18 : PySem.W.nsIn K mainGlobals "number_of_values" = some (some (.ref f18)))
    (l18 : K.lookup f18 = some ⟨oc18, od18, .func (PySem.W.fnOf "number_of_values" "number_of_values" (defArgs (top 33)) (defBody (top 33)) (defScope (top 33)) .none kV18 dc18 pm18 an18 cd18 ct18), sl18⟩)
    (c18 : PySem.W.codeIn K cd18 "number_of_values" = true)
    (k18 : PySem.W.keepIn K (.ref f18) = true)
    (a19 : PySem.W.nsIn K mainGlobals "multiplied" = some (some (.ref f19)))
    (l19 : K.lookup f19 = some ⟨oc19, od19, .func (PySem.W.fnOf "multiplied" "multiplied" (defArgs (top 34)) (defBody (top 34)) (defScope (top 34)) .none kV19 dc19 pm19 an19 cd19 ct19), sl19⟩)
    (c19 : PySem.W.codeIn K cd19 "multiplied" = true)
    (k19 : PySem.W.keepIn K (.ref f19) = true)
    (a20 : PySem.W.nsIn K mainGlobals "number_of_sets" = some (some (.ref f20)))
    (l20 : K.lookup f20 = some ⟨oc20, od20, .func (PySem.W.fnOf "number_of_sets" "number_of_sets" (defArgs (top 35)) (defBody (top 35)) (defScope (top 35)) .none kV20 dc20 pm20 an20 cd20 ct20), sl20⟩)
    (c20 : PySem.W.codeIn K cd20 "number_of_sets" = true)
    (k20 : PySem.W.keepIn K (.ref f20) = true)
    (a21 : PySem.W.nsIn K mainGlobals "number_of_bags" = some (some (.ref f21)))
    (l21 : K.lookup f21 = some ⟨oc21, od21, .func (PySem.W.fnOf "number_of_bags" "number_of_bags" (defArgs (top 36)) (defBody (top 36)) (defScope (top 36)) .none kV21 dc21 pm21 an21 cd21 ct21), sl21⟩)
    (c21 : PySem.W.codeIn K cd21 "number_of_bags" = true)
    (k21 : PySem.W.keepIn K (.ref f21) = true)
    (a22 : PySem.W.nsIn K mainGlobals "limited" = some (some (.ref f22)))
    (l22 : K.lookup f22 = some ⟨oc22, od22, .func (PySem.W.fnOf "limited" "limited" (defArgs (top 37)) (defBody (top 37)) (defScope (top 37)) .none kV22 dc22 pm22 an22 cd22 ct22), sl22⟩)
    (c22 : PySem.W.codeIn K cd22 "limited" = true)
    (k22 : PySem.W.keepIn K (.ref f22) = true)
    (a23 : PySem.W.nsIn K mainGlobals "_law_box" = some (some (.ref f23)))
    (l23 : K.lookup f23 = some ⟨oc23, od23, .func (PySem.W.fnOf "_law_box" "_law_box" (defArgs (top 39)) (defBody (top 39)) (defScope (top 39)) .none kV23 dc23 pm23 an23 cd23 ct23), sl23⟩)
    (c23 : PySem.W.codeIn K cd23 "_law_box" = true)
    (k23 : PySem.W.keepIn K (.ref f23) = true)
    (a24 : PySem.W.nsIn K mainGlobals "_law_take" = some (some (.ref f24)))
    (l24 : K.lookup f24 = some ⟨oc24, od24, .func (PySem.W.fnOf "_law_take" "_law_take" (defArgs (top 40)) (defBody (top 40)) (defScope (top 40)) .none kV24 dc24 pm24 an24 cd24 ct24), sl24⟩)
    (c24 : PySem.W.codeIn K cd24 "_law_take" = true)
    (k24 : PySem.W.keepIn K (.ref f24) = true)
    (a25 : PySem.W.nsIn K mainGlobals "_law_pick" = some (some (.ref f25)))
    (l25 : K.lookup f25 = some ⟨oc25, od25, .func (PySem.W.fnOf "_law_pick" "_law_pick" (defArgs (top 41)) (defBody (top 41)) (defScope (top 41)) .none kV25 dc25 pm25 an25 cd25 ct25), sl25⟩)
    (c25 : PySem.W.codeIn K cd25 "_law_pick" = true)
    (k25 : PySem.W.keepIn K (.ref f25) = true)
    (a26 : PySem.W.nsIn K mainGlobals "_law_drawn" = some (some (.ref f26)))
    (l26 : K.lookup f26 = some ⟨oc26, od26, .func (PySem.W.fnOf "_law_drawn" "_law_drawn" (defArgs (top 42)) (defBody (top 42)) (defScope (top 42)) .none kV26 dc26 pm26 an26 cd26 ct26), sl26⟩)
    (c26 : PySem.W.codeIn K cd26 "_law_drawn" = true)
    (k26 : PySem.W.keepIn K (.ref f26) = true)
    (a27 : PySem.W.nsIn K mainGlobals "_law_shapes" = some (some (.ref f27)))
    (l27 : K.lookup f27 = some ⟨oc27, od27, .func (PySem.W.fnOf "_law_shapes" "_law_shapes" (defArgs (top 43)) (defBody (top 43)) (defScope (top 43)) .none kV27 dc27 pm27 an27 cd27 ct27), sl27⟩)
    (c27 : PySem.W.codeIn K cd27 "_law_shapes" = true)
    (k27 : PySem.W.keepIn K (.ref f27) = true)
    (a28 : PySem.W.nsIn K mainGlobals "_law_shape" = some (some (.ref f28)))
    (l28 : K.lookup f28 = some ⟨oc28, od28, .func (PySem.W.fnOf "_law_shape" "_law_shape" (defArgs (top 44)) (defBody (top 44)) (defScope (top 44)) .none kV28 dc28 pm28 an28 cd28 ct28), sl28⟩)
    (c28 : PySem.W.codeIn K cd28 "_law_shape" = true)
    (k28 : PySem.W.keepIn K (.ref f28) = true)
    (a29 : PySem.W.nsIn K mainGlobals "_law_times" = some (some (.ref f29)))
    (l29 : K.lookup f29 = some ⟨oc29, od29, .func (PySem.W.fnOf "_law_times" "_law_times" (defArgs (top 45)) (defBody (top 45)) (defScope (top 45)) .none kV29 dc29 pm29 an29 cd29 ct29), sl29⟩)
    (c29 : PySem.W.codeIn K cd29 "_law_times" = true)
    (k29 : PySem.W.keepIn K (.ref f29) = true)
    (a30 : PySem.W.nsIn K mainGlobals "_law_capped" = some (some (.ref f30)))
    (l30 : K.lookup f30 = some ⟨oc30, od30, .func (PySem.W.fnOf "_law_capped" "_law_capped" (defArgs (top 46)) (defBody (top 46)) (defScope (top 46)) .none kV30 dc30 pm30 an30 cd30 ct30), sl30⟩)
    (c30 : PySem.W.codeIn K cd30 "_law_capped" = true)
    (k30 : PySem.W.keepIn K (.ref f30) = true)
    (a31 : PySem.W.nsIn K mainGlobals "_law_bags" = some (some (.ref f31)))
    (l31 : K.lookup f31 = some ⟨oc31, od31, .func (PySem.W.fnOf "_law_bags" "_law_bags" (defArgs (top 47)) (defBody (top 47)) (defScope (top 47)) .none kV31 dc31 pm31 an31 cd31 ct31), sl31⟩)
    (c31 : PySem.W.codeIn K cd31 "_law_bags" = true)
    (k31 : PySem.W.keepIn K (.ref f31) = true)
    (a32 : PySem.W.nsIn K mainGlobals "_law_count" = some (some (.ref f32)))
    (l32 : K.lookup f32 = some ⟨oc32, od32, .func (PySem.W.fnOf "_law_count" "_law_count" (defArgs (top 48)) (defBody (top 48)) (defScope (top 48)) .none kV32 dc32 pm32 an32 cd32 ct32), sl32⟩)
    (c32 : PySem.W.codeIn K cd32 "_law_count" = true)
    (k32 : PySem.W.keepIn K (.ref f32) = true)
    (a33 : PySem.W.nsIn K mainGlobals "_law_tuples" = some (some (.ref f33)))
    (l33 : K.lookup f33 = some ⟨oc33, od33, .func (PySem.W.fnOf "_law_tuples" "_law_tuples" (defArgs (top 49)) (defBody (top 49)) (defScope (top 49)) .none kV33 dc33 pm33 an33 cd33 ct33), sl33⟩)
    (c33 : PySem.W.codeIn K cd33 "_law_tuples" = true)
    (k33 : PySem.W.keepIn K (.ref f33) = true)
    (a34 : PySem.W.nsIn K mainGlobals "_law_longer" = some (some (.ref f34)))
    (l34 : K.lookup f34 = some ⟨oc34, od34, .func (PySem.W.fnOf "_law_longer" "_law_longer" (defArgs (top 50)) (defBody (top 50)) (defScope (top 50)) .none kV34 dc34 pm34 an34 cd34 ct34), sl34⟩)
    (c34 : PySem.W.codeIn K cd34 "_law_longer" = true)
    (k34 : PySem.W.keepIn K (.ref f34) = true)
    (a35 : PySem.W.nsIn K mainGlobals "_law_list" = some (some (.ref f35)))
    (l35 : K.lookup f35 = some ⟨oc35, od35, .func (PySem.W.fnOf "_law_list" "_law_list" (defArgs (top 51)) (defBody (top 51)) (defScope (top 51)) .none kV35 dc35 pm35 an35 cd35 ct35), sl35⟩)
    (c35 : PySem.W.codeIn K cd35 "_law_list" = true)
    (k35 : PySem.W.keepIn K (.ref f35) = true)
    (a36 : PySem.W.nsIn K mainGlobals "_law_has_bags" = some (some (.ref f36)))
    (l36 : K.lookup f36 = some ⟨oc36, od36, .func (PySem.W.fnOf "_law_has_bags" "_law_has_bags" (defArgs (top 52)) (defBody (top 52)) (defScope (top 52)) .none kV36 dc36 pm36 an36 cd36 ct36), sl36⟩)
    (c36 : PySem.W.codeIn K cd36 "_law_has_bags" = true)
    (k36 : PySem.W.keepIn K (.ref f36) = true)
    (a37 : PySem.W.nsIn K mainGlobals "_law_is_small" = some (some (.ref f37)))
    (l37 : K.lookup f37 = some ⟨oc37, od37, .func (PySem.W.fnOf "_law_is_small" "_law_is_small" (defArgs (top 53)) (defBody (top 53)) (defScope (top 53)) .none kV37 dc37 pm37 an37 cd37 ct37), sl37⟩)
    (c37 : PySem.W.codeIn K cd37 "_law_is_small" = true)
    (k37 : PySem.W.keepIn K (.ref f37) = true)
    (a38 : PySem.W.nsIn K mainGlobals "law" = some (some (.ref f38)))
    (l38 : K.lookup f38 = some ⟨oc38, od38, .func (PySem.W.fnOf "law" "law" (defArgs (top 54)) (defBody (top 54)) (defScope (top 54)) .none kV38 dc38 pm38 an38 cd38 ct38), sl38⟩)
    (c38 : PySem.W.codeIn K cd38 "law" = true)
    (k38 : PySem.W.keepIn K (.ref f38) = true)
    (qMOST_AFTER : PySem.W.nsIn K mainGlobals "MOST_AFTER" = some (some (.int 4 tMOST_AFTER)))
    (qMOST_LETTERS : PySem.W.nsIn K mainGlobals "MOST_LETTERS" = some (some (.int 5 tMOST_LETTERS)))
    (qMOST_BESIDE : PySem.W.nsIn K mainGlobals "MOST_BESIDE" = some (some (.int 4 tMOST_BESIDE)))
    (qMOST_LEVELS : PySem.W.nsIn K mainGlobals "MOST_LEVELS" = some (some (.int 6 tMOST_LEVELS)))
    (qMOST_SHAPES : PySem.W.nsIn K mainGlobals "MOST_SHAPES" = some (some (.int 40 tMOST_SHAPES)))
    (qMOST_COUNTED : PySem.W.nsIn K mainGlobals "MOST_COUNTED" = some (some (.int 1000000000 tMOST_COUNTED)))
    (qMANY_VALUES : PySem.W.nsIn K mainGlobals "MANY_VALUES" = some (some (.int 30 tMANY_VALUES)))
    (qMOST_IN_BAG : PySem.W.nsIn K mainGlobals "MOST_IN_BAG" = some (some (.int 1000 tMOST_IN_BAG)))
    (qLOWS_BELOW : PySem.W.nsIn K mainGlobals "LOWS_BELOW" = some (some (.int 1000000000000000000000000000000 tLOWS_BELOW)))
    (ucomb : PySem.W.nsIn K mainGlobals "comb" = some (some (.builtin "math.comb")))
    (ugcd : PySem.W.nsIn K mainGlobals "gcd" = some (some (.builtin "math.gcd")))
    (ulcm : PySem.W.nsIn K mainGlobals "lcm" = some (some (.builtin "math.lcm")))
    (nisinstance : PySem.W.nsIn K mainGlobals "isinstance" = some none)
    (nint : PySem.W.nsIn K mainGlobals "int" = some none)
    (nbool : PySem.W.nsIn K mainGlobals "bool" = some none)
    (ntuple : PySem.W.nsIn K mainGlobals "tuple" = some none)
    (nlen : PySem.W.nsIn K mainGlobals "len" = some none)
    (nall : PySem.W.nsIn K mainGlobals "all" = some none)
    (nsum : PySem.W.nsIn K mainGlobals "sum" = some none)
    (nabs : PySem.W.nsIn K mainGlobals "abs" = some none)
    (nrange : PySem.W.nsIn K mainGlobals "range" = some none)
    (nzip : PySem.W.nsIn K mainGlobals "zip" = some none)
    (nmin : PySem.W.nsIn K mainGlobals "min" = some none)
    (nlist : PySem.W.nsIn K mainGlobals "list" = some none)
    (nsorted : PySem.W.nsIn K mainGlobals "sorted" = some none)
    (nrepr : PySem.W.nsIn K mainGlobals "repr" = some none)
    (gBadShape : PySem.W.nsIn K mainGlobals "BadShape" = some (some (.ref CBadShape)))
    (kC : PySem.W.keepIn K (.ref CBadShape) = true)
    (xC : PySem.W.excIn K CBadShape [.type "ValueError", .type "Exception", .type "BaseException", .type "object"] "ValueError.__new__" = true)
    (bC : PySem.W.subIn K (.ref CBadShape) (.type "BaseException") = some true)
    (tC : PySem.W.typeIn K (.ref CBadShape) = some (.type "type")) :
    ∀ (base : Heap), K.In base → base.Ns mainGlobals mg → GxR.TabB base mg cA T1 → GxR.TabB base mg cI T2 → ∀ (s : Shared) (H : Hp) (a : Addr) (ns : List Int), Env0 P w K mg base callerA [] s H →
      GxR.TabG H T1 → GxR.TabG H T2 → SqL K H a (ns.map V.int) → ns.length ≤ 63 → codeAny (model P w) callerA (.call (.ref fa) ⟨[.ref a], []⟩) (CR CX0 [] P w H s (fun v _ => v = .bl true) fun _ _ _ => False) s := by
  have e := hfa.symm.trans (PySem.W.mg_of X G a38)
  cases e
  have F0 := fun_mk (st := top 10) l0 c0 k0
  have b0 := F0.binds (ps := ["shape"]) fun _ _ _ _ _ _ us hl => match us, hl with | [_], _ => rfl
  have g0 := PySem.W.mg_of X G a0
  have F1 := fun_mk (st := top 11) l1 c1 k1
  have b1 := F1.binds (ps := ["x"]) fun _ _ _ _ _ _ us hl => match us, hl with | [_], _ => rfl
  have g1 := PySem.W.mg_of X G a1
  have F2 := fun_mk (st := top 12) l2 c2 k2
  have b2 := F2.binds (ps := ["x", "end"]) fun _ _ _ _ _ _ us hl => match us, hl with | [_, _], _ => rfl
  have g2 := PySem.W.mg_of X G a2
  have F3 := fun_mk (st := top 13) l3 c3 k3
  have b3 := F3.binds (ps := ["shape", "levels"]) fun _ _ _ _ _ _ us hl => match us, hl with | [_, _], _ => rfl
  have g3 := PySem.W.mg_of X G a3
  have F4 := fun_mk (st := top 14) l4 c4 k4
  have b4 := F4.binds (ps := ["shapes", "levels"]) fun _ _ _ _ _ _ us hl => match us, hl with | [_, _], _ => rfl
  have g4 := PySem.W.mg_of X G a4
  have F5 := fun_mk (st := top 15) l5 c5 k5
  have b5 := F5.binds (ps := ["shape"]) fun _ _ _ _ _ _ us hl => match us, hl with | [_], _ => rfl
  have g5 := PySem.W.mg_of X G a5
  have F6 := fun_mk (st := top 16) l6 c6 k6
  have b6 := F6.binds (ps := ["shape"]) fun _ _ _ _ _ _ us hl => match us, hl with | [_], _ => rfl
  have g6 := PySem.W.mg_of X G a6
  have F7 := fun_mk (st := top 22) l7 c7 k7
  have b7 := F7.binds (ps := ["shape", "states", "x"]) fun _ _ _ _ _ _ us hl => match us, hl with | [_, _, _], _ => rfl
  have g7 := PySem.W.mg_of X G a7
  have F8 := fun_mk (st := top 23) l8 c8 k8
  have b8 := F8.binds (ps := ["shape", "states"]) fun _ _ _ _ _ _ us hl => match us, hl with | [_, _], _ => rfl
  have g8 := PySem.W.mg_of X G a8
  have F9 := fun_mk (st := top 24) l9 c9 k9
  have b9 := F9.binds (ps := ["shape", "states", "x"]) fun _ _ _ _ _ _ us hl => match us, hl with | [_, _, _], _ => rfl
  have g9 := PySem.W.mg_of X G a9
  have F10 := fun_mk (st := top 25) l10 c10 k10
  have b10 := F10.binds (ps := ["shapes", "states", "xs"]) fun _ _ _ _ _ _ us hl => match us, hl with | [_, _, _], _ => rfl
  have g10 := PySem.W.mg_of X G a10
  have F11 := fun_mk (st := top 26) l11 c11 k11
  have b11 := F11.binds (ps := ["shapes", "states", "x"]) fun _ _ _ _ _ _ us hl => match us, hl with | [_, _, _], _ => rfl
  have g11 := PySem.W.mg_of X G a11
  have F12 := fun_mk (st := top 27) l12 c12 k12
  have b12 := F12.binds (ps := ["shape", "states", "xs"]) fun _ _ _ _ _ _ us hl => match us, hl with | [_, _, _], _ => rfl
  have g12 := PySem.W.mg_of X G a12
  have F13 := fun_mk (st := top 28) l13 c13 k13
  have b13 := F13.binds (ps := ["shape", "states", "rows"]) fun _ _ _ _ _ _ us hl => match us, hl with | [_, _, _], _ => rfl
  have g13 := PySem.W.mg_of X G a13
  have F14 := fun_mk (st := top 29) l14 c14 k14
  have b14 := F14.binds (ps := ["shape", "states", "rows"]) fun _ _ _ _ _ _ us hl => match us, hl with | [_, _, _], _ => rfl
  have g14 := PySem.W.mg_of X G a14
  have F15 := fun_mk (st := top 30) l15 c15 k15
  have b15 := F15.binds (ps := ["rows", "length"]) fun _ _ _ _ _ _ us hl => match us, hl with | [_, _], _ => rfl
  have g15 := PySem.W.mg_of X G a15
  have F16 := fun_mk (st := top 31) l16 c16 k16
  have b16 := F16.binds (ps := ["chances"]) fun _ _ _ _ _ _ us hl => match us, hl with | [_], _ => rfl
  have g16 := PySem.W.mg_of X G a16
  have F17 := fun_mk (st := top 32) l17 c17 k17
  have b17 := F17.binds (ps := ["top", "low"]) fun _ _ _ _ _ _ us hl => match us, hl with | [_, _], _ => rfl
  have g17 := PySem.W.mg_of X G a17
  have F18 := fun_mk (st := top 33) l18 c18 k18
  have b18 := F18.binds (ps := ["shape", "states"]) fun _ _ _ _ _ _ us hl => match us, hl with | [_, _], _ => rfl
  have g18 := PySem.W.mg_of X G a18
  have F19 := fun_mk (st := top 34) l19 c19 k19
  have b19 := F19.binds (ps := ["counts"]) fun _ _ _ _ _ _ us hl => match us, hl with | [_], _ => rfl
  have g19 := PySem.W.mg_of X G a19
  have F20 := fun_mk (st := top 35) l20 c20 k20
  have b20 := F20.binds (ps := ["count"]) fun _ _ _ _ _ _ us hl => match us, hl with | [_], _ => rfl
  have g20 := PySem.W.mg_of X G a20
  have F21 := fun_mk (st := top 36) l21 c21 k21
  have b21 := F21.binds (ps := ["count"]) fun _ _ _ _ _ _ us hl => match us, hl with | [_], _ => rfl
  have g21 := PySem.W.mg_of X G a21
  have F22 := fun_mk (st := top 37) l22 c22 k22
  have b22 := F22.binds (ps := ["count"]) fun _ _ _ _ _ _ us hl => match us, hl with | [_], _ => rfl
  have g22 := PySem.W.mg_of X G a22
  have F23 := fun_mk (st := top 39) l23 c23 k23
  have b23 := F23.binds (ps := ["script"]) fun _ _ _ _ _ _ us hl => match us, hl with | [_], _ => rfl
  have g23 := PySem.W.mg_of X G a23
  have F24 := fun_mk (st := top 40) l24 c24 k24
  have b24 := F24.binds (ps := ["box", "m"]) fun _ _ _ _ _ _ us hl => match us, hl with | [_, _], _ => rfl
  have g24 := PySem.W.mg_of X G a24
  have F25 := fun_mk (st := top 41) l25 c25 k25
  have b25 := F25.binds (ps := ["box", "menu"]) fun _ _ _ _ _ _ us hl => match us, hl with | [_, _], _ => rfl
  have g25 := PySem.W.mg_of X G a25
  have F26 := fun_mk (st := top 42) l26 c26 k26
  have b26 := F26.binds (ps := ["box", "levels"]) fun _ _ _ _ _ _ us hl => match us, hl with | [_, _], _ => rfl
  have g26 := PySem.W.mg_of X G a26
  have F27 := fun_mk (st := top 43) l27 c27 k27
  have b27 := F27.binds (ps := ["shape"]) fun _ _ _ _ _ _ us hl => match us, hl with | [_], _ => rfl
  have g27 := PySem.W.mg_of X G a27
  have F28 := fun_mk (st := top 44) l28 c28 k28
  have b28 := F28.binds (ps := ["box", "levels"]) fun _ _ _ _ _ _ us hl => match us, hl with | [_, _], _ => rfl
  have g28 := PySem.W.mg_of X G a28
  have F29 := fun_mk (st := top 45) l29 c29 k29
  have b29 := F29.binds (ps := ["numbers"]) fun _ _ _ _ _ _ us hl => match us, hl with | [_], _ => rfl
  have g29 := PySem.W.mg_of X G a29
  have F30 := fun_mk (st := top 46) l30 c30 k30
  have b30 := F30.binds (ps := ["n"]) fun _ _ _ _ _ _ us hl => match us, hl with | [_], _ => rfl
  have g30 := PySem.W.mg_of X G a30
  have F31 := fun_mk (st := top 47) l31 c31 k31
  have b31 := F31.binds (ps := ["many"]) fun _ _ _ _ _ _ us hl => match us, hl with | [_], _ => rfl
  have g31 := PySem.W.mg_of X G a31
  have F32 := fun_mk (st := top 48) l32 c32 k32
  have b32 := F32.binds (ps := ["shape", "states"]) fun _ _ _ _ _ _ us hl => match us, hl with | [_, _], _ => rfl
  have g32 := PySem.W.mg_of X G a32
  have F33 := fun_mk (st := top 49) l33 c33 k33
  have b33 := F33.binds (ps := ["lists"]) fun _ _ _ _ _ _ us hl => match us, hl with | [_], _ => rfl
  have g33 := PySem.W.mg_of X G a33
  have F34 := fun_mk (st := top 50) l34 c34 k34
  have b34 := F34.binds (ps := ["found", "things"]) fun _ _ _ _ _ _ us hl => match us, hl with | [_, _], _ => rfl
  have g34 := PySem.W.mg_of X G a34
  have F35 := fun_mk (st := top 51) l35 c35 k35
  have b35 := F35.binds (ps := ["shape", "states"]) fun _ _ _ _ _ _ us hl => match us, hl with | [_, _], _ => rfl
  have g35 := PySem.W.mg_of X G a35
  have F36 := fun_mk (st := top 52) l36 c36 k36
  have b36 := F36.binds (ps := ["shape"]) fun _ _ _ _ _ _ us hl => match us, hl with | [_], _ => rfl
  have g36 := PySem.W.mg_of X G a36
  have F37 := fun_mk (st := top 53) l37 c37 k37
  have b37 := F37.binds (ps := ["shape", "states"]) fun _ _ _ _ _ _ us hl => match us, hl with | [_, _], _ => rfl
  have g37 := PySem.W.mg_of X G a37
  have F38 := fun_mk (st := top 54) l38 c38 k38
  have b38 := F38.binds (ps := ["script"]) fun _ _ _ _ _ _ us hl => match us, hl with | [_], _ => rfl
  have g38 := PySem.W.mg_of X G a38
  have FC4 : FunC K "are_nested" "are_nested" (top 14) f4 _ cA := ⟨_, _, _, _, _, _, _, _, rfl, l4, c4⟩
  have FC6 : FunC K "shapes_in" "shapes_in" (top 16) f6 _ cI := ⟨_, _, _, _, _, _, _, _, rfl, l6, c6⟩
  intro base hb hn BcA BcI s H a ns e0 tT1 tT2 hS hl
  have B : Blt mg := ⟨PySem.W.mg_none_of X G nisinstance, PySem.W.mg_none_of X G nint, PySem.W.mg_none_of X G nbool, PySem.W.mg_none_of X G ntuple, PySem.W.mg_none_of X G nlen, PySem.W.mg_none_of X G nall, PySem.W.mg_none_of X G nsum⟩
  have B2 : Blt2 mg := ⟨PySem.W.mg_none_of X G nabs, PySem.W.mg_none_of X G nint, PySem.W.mg_none_of X G nlen, PySem.W.mg_none_of X G nrange⟩
  have O_is_number := ok_is_number (P := P) (w := w) (base := base) (k := 0) B F1
  have O_is_number_below := ok_is_number_below F2 O_is_number g1 k1 b1
  have NX : NTxt P w K mg base f3 f4 f2 _ _ _ cA T1 := ⟨B, F3, FC4, k4, k2, g3, g4, g2, b3, b4, b2, ⟨_, PySem.W.mg_of X G qMOST_AFTER⟩, ⟨_, PySem.W.mg_of X G qMOST_LETTERS⟩, ⟨_, PySem.W.mg_of X G qMOST_BESIDE⟩, O_is_number_below, BcA⟩
  have IX : ITxt P w K mg base f6 f5 _ _ cI T2 := ⟨B, FC6, k6, g6, b6, F5, g5, b5, BcI⟩
  have SX : STxt P w K mg base f3 f6 _ _ T1 T2 := ⟨(both_nested NX 7).1, g3, k3, b3, all_in IX 6, g6, k6, b6⟩
  have Z : CTxt K mg CBadShape := ⟨PySem.W.mg_of X G gBadShape, kC, xC, bC, tC, ⟨_, PySem.W.mg_of X G qMOST_LEVELS⟩, ⟨_, PySem.W.mg_of X G qMOST_SHAPES⟩⟩
  have O_check_shape := ok_check_shape F0 SX Z
  have O_law_take := ok_law_take (P := P) (w := w) (base := base) (k := 0) B2 F24
  have O_law_pick := ok_law_pick B2 F25 O_law_take g24 k24 b24
  have O_law_box := ok_law_box (P := P) (w := w) (base := base) (k := 0) B2 F23
  have DX : DTxt P w K mg base f24 f25 _ _ := ⟨B, B2, O_law_take, g24, k24, b24, O_law_pick, g25, k25, b25⟩
  have O_law_drawn := all_shape DX F26 g26 b26 4
  have O_law_shapes := all_law_size (P := P) (w := w) (base := base) B F27 g27 b27 4
  have O_law_shape := ok_law_shape2 O_law_drawn g26 k26 b26 O_law_shapes g27 k27 b27 F28
  have O_limited := ok_limited (P := P) (w := w) (base := base) (k := 0) ⟨_, PySem.W.mg_of X G qMOST_COUNTED⟩ F22
  have LX : LTx P w K mg base f22 _ := ⟨O_limited, g22, k22, b22, ⟨_, PySem.W.mg_of X G qMANY_VALUES⟩, ⟨_, PySem.W.mg_of X G qMOST_IN_BAG⟩, PySem.W.mg_of X G ucomb⟩
  have O_number_of_sets := ok_number_of_sets LX F20
  have O_number_of_bags := ok_number_of_bags LX F21
  have O_multiplied := ok_multiplied LX F19
  have VX : VTx P w K mg base f22 f19 f20 f21 f5 _ _ _ _ _ := ⟨B, LX, O_multiplied, g19, k19, b19, O_number_of_sets, g20, k20, b20, O_number_of_bags, g21, k21, b21, fun n => ok_shapes_below (k := 0) F5, g5, k5, b5⟩
  have O_number_of_values := all_num VX F18 g18 b18 6
  have O_count_values := ok_count_values O_check_shape g0 k0 b0 O_number_of_values g18 k18 b18 F8
  have AX : VAx P w K mg base f9 f1 f2 f10 f11 f12 f13 f14 f15 f17 f16 _ _ _ _ _ _ _ _ _ _ _ := ⟨B, PySem.W.mg_none_of X G nzip, ⟨_, PySem.W.mg_of X G qMOST_IN_BAG⟩, ⟨_, PySem.W.mg_of X G qLOWS_BELOW⟩, PySem.W.mg_of X G ugcd, PySem.W.mg_of X G ulcm, O_is_number, g1, k1, b1, O_is_number_below, g2, k2, b2, F9, g9, b9, F10, g10, b10, F11, g11, b11, F12, g12, b12, F13, g13, b13, F14, g14, b14, F15, g15, b15, F17, g17, b17, F16, g16, b16⟩
  have FX : FTx P w K mg base 6 21 f9 _ := ⟨all_fits AX 6, g9, k9, b9⟩
  have O_is_value := ok_is_value O_check_shape g0 k0 b0 FX F7
  have O_law_capped := ok_law_capped (P := P) (w := w) (mg := mg) (base := base) (k := 0) F30
  have CX : CTx P w K mg base f30 _ := ⟨O_law_capped, g30, k30, b30, PySem.W.mg_none_of X G nmin, PySem.W.mg_none_of X G nrange⟩
  have O_law_times := ok_law_times CX F29
  have O_law_bags := ok_law_bags CX F31
  have WX : WTx P w K mg base f30 f29 f31 _ _ _ := ⟨B, CX, O_law_times, g29, k29, b29, O_law_bags, g31, k31, b31⟩
  have O_law_count := all_cnt WX F32 g32 b32
  have O_law_is_small := all_small B O_law_count g32 k32 b32 F37 g37 b37 4
  have O_law_has_bags := all_has (P := P) (w := w) (base := base) B F36 g36 b36 4
  have O_law_longer := ok_longer (P := P) (w := w) (mg := mg) (base := base) F34
  have O_law_tuples := ok_tuples O_law_longer g34 k34 b34 F33
  have LL : LLx P w K mg base f33 _ := ⟨B, PySem.W.mg_none_of X G nlist, PySem.W.mg_none_of X G nrange, PySem.W.mg_none_of X G nsorted, O_law_tuples, g33, k33, b33⟩
  have O_law_list := all_list LL F35 g35 b35 4
  have LW0 : LW P w K mg base f24 f25 f23 f28 f8 f37 f32 f36 f35 f7 f31 _ _ _ _ _ _ _ _ _ _ _ T1 T2 := ⟨DX, PySem.W.mg_none_of X G nrepr, O_law_box, g23, k23, b23, O_law_shape, g28, k28, b28, O_count_values, g8, k8, b8, O_law_count 4, g32, k32, b32, O_law_is_small, g37, k37, b37, O_law_has_bags, g36, k36, b36, O_law_list, g35, k35, b35, O_is_value, g7, k7, b7, O_law_bags, g31, k31, b31⟩
  refine run_at (k := 23) (N := kLaw) (ps := ["script"]) (us := [.ref a]) (vs := [.ref a]) F38 sc_law ⟨rfl, by decide, by decide⟩ e0 (.of_eq rfl) (.cons rfl .nil) rfl fun cdv hr => ?_
  obtain ⟨t, ht, hq⟩ := law_at LW0 (cdv := cdv) (outer := []) (s := s) (H0 := H) (E := fun _ _ _ => False) (A := callerA) hr
  exact ⟨t, ht.nox, hq a ns H hl tT1 tT2 hS⟩
/-- all that the head must tell -/
theorem fin {P : Program} {w : World} {q : Program} {loose : List Str} {XP : (Str → Option Value) → Heap → Prop} {K : PySem.W.Frag} {s₀ s₁ : Shared} {mg mb : Str → Option Value} {fa : Addr} (G : PySem.W.Ground q loose [] XP w s₀ mg mb s₁.heap) (X : K.In s₁.heap) (hfa : mg "law" = some (.ref fa))
    {f0 f1 f2 f3 f4 f5 f6 f7 f8 f9 f10 f11 f12 f13 f14 f15 f16 f17 f18 f19 f20 f21 f22 f23 f24 f25 f26 f27 f28 f29 f30 f31 f32 f33 f34 f35 f36 f37 f38 cA T1 cI T2 CBadShape : Addr} {oc0 kV0 dc0 pm0 ct0 cd0 oc1 kV1 dc1 pm1 ct1 cd1 oc2 kV2 dc2 pm2 ct2 cd2 oc3 kV3 dc3 pm3 ct3 cd3 oc4 kV4 dc4 pm4 ct4 oc5 kV5 dc5 pm5 ct5 cd5 oc6 kV6 dc6 pm6 ct6 oc7 kV7 dc7 pm7 ct7 cd7 oc8 kV8 dc8 pm8 ct8 cd8 oc9 kV9 dc9 pm9 ct9 cd9 oc10 kV10 dc10 pm10 ct10 cd10 oc11 kV11 dc11 pm11 ct11 cd11 oc12 kV12 dc12 pm12 ct12 cd12 oc13 kV13 dc13 pm13 ct13 cd13 oc14 kV14 dc14 pm14 ct14 cd14 oc15 kV15 dc15 pm15 ct15 cd15 oc16 kV16 dc16 pm16 ct16 cd16 oc17 kV17 dc17 pm17 ct17 cd17 oc18 kV18 dc18 pm18 ct18 cd18 oc19 kV19 dc19 pm19 ct19 cd19 oc20 kV20 dc20 pm20 ct20 cd20 oc21 kV21 dc21 pm21 ct21 cd21 oc22 kV22 dc22 pm22 ct22 cd22 oc23 kV23 dc23 pm23 ct23 cd23 oc24 kV24 dc24 pm24 ct24 cd24 oc25 kV25 dc25 pm25 ct25 cd25 oc26 kV26 dc26 pm26 ct26 cd26 oc27 kV27 dc27 pm27 ct27 cd27 oc28 kV28 dc28 pm28 ct28 cd28 oc29 kV29 dc29 pm29 ct29 cd29 oc30 kV30 dc30 pm30 ct30 cd30 oc31 kV31 dc31 pm31 ct31 cd31 oc32 kV32 dc32 pm32 ct32 cd32 oc33 kV33 dc33 pm33 ct33 cd33 oc34 kV34 dc34 pm34 ct34 cd34 oc35 kV35 dc35 pm35 ct35 cd35 oc36 kV36 dc36 pm36 ct36 cd36 oc37 kV37 dc37 pm37 ct37 cd37 oc38 kV38 dc38 pm38 ct38 cd38 : Value} {od0 an0 od1 an1 od2 an2 od3 an3 od4 an4 od5 an5 od6 an6 od7 an7 od8 an8 od9 an9 od10 an10 od11 an11 od12 an12 od13 an13 od14 an14 od15 an15 od16 an16 od17 an17 od18 an18 od19 an19 od20 an20 od21 an21 od22 an22 od23 an23 od24 an24 od25 an25 od26 an26 od27 an27 od28 an28 od29 an29 od30 an30 od31 an31 od32 an32 od33 an33 od34 an34 od35 an35 od36 an36 od37 an37 od38 an38 : Option Addr} {sl0 sl1 sl2 sl3 sl4 sl5 sl6 sl7 sl8 sl9 sl10 sl11 sl12 sl13 sl14 sl15 sl16 sl17 sl18 sl19 sl20 sl21 sl22 sl23 sl24 sl25 sl26 sl27 sl28 sl29 sl30 sl31 sl32 sl33 sl34 sl35 sl36 sl37 sl38 : Array (Option Value)} {tMOST_AFTER tMOST_LETTERS tMOST_BESIDE tMOST_LEVELS tMOST_SHAPES tMOST_COUNTED tMANY_VALUES tMOST_IN_BAG tLOWS_BELOW : Tok} {ocA : Value} {dcA : Option Addr} {vcA : Array Value} {scA : Array (Option Value)} {ocI : Value} {dcI : Option Addr} {vcI : Array Value} {scI : Array (Option Value)} 
    (a0 : PySem.W.nsIn K mainGlobals "check_shape" = some (some (.ref f0)))
    (l0 : K.lookup f0 = some ⟨oc0, od0, .func (PySem.W.fnOf "check_shape" "check_shape" (defArgs (top 10)) (defBody (top 10)) (defScope (top 10)) .none kV0 dc0 pm0 an0 cd0 ct0), sl0⟩)
    (c0 : PySem.W.codeIn K cd0 "check_shape" = true)
    (k0 : PySem.W.keepIn K (.ref f0) = true)
    (a1 : PySem.W.nsIn K mainGlobals "is_number" = some (some (.ref f1)))
    (l1 : K.lookup f1 = some ⟨oc1, od1, .func (PySem.W.fnOf "is_number" "is_number" (defArgs (top 11)) (defBody (top 11)) (defScope (top 11)) .none kV1 dc1 pm1 an1 cd1 ct1), sl1⟩)
    (c1 : PySem.W.codeIn K cd1 "is_number" = true)
    (k1 : PySem.W.keepIn K (.ref f1) = true)
    (a2 : PySem.W.nsIn K mainGlobals "is_number_below" = some (some (.ref f2)))
    (l2 : K.lookup f2 = some ⟨oc2, od2, .func (PySem.W.fnOf "is_number_below" "is_number_below" (defArgs (top 12)) (defBody (top 12)) (defScope (top 12)) .none kV2 dc2 pm2 an2 cd2 ct2), sl2⟩)
    (c2 : PySem.W.codeIn K cd2 "is_number_below" = true)
    (k2 : PySem.W.keepIn K (.ref f2) = true)
    (a3 : PySem.W.nsIn K mainGlobals "is_nested" = some (some (.ref f3)))
    (l3 : K.lookup f3 = some ⟨oc3, od3, .func (PySem.W.fnOf "is_nested" "is_nested" (defArgs (top 13)) (defBody (top 13)) (defScope (top 13)) .none kV3 dc3 pm3 an3 cd3 ct3), sl3⟩)
    (c3 : PySem.W.codeIn K cd3 "is_nested" = true)
    (k3 : PySem.W.keepIn K (.ref f3) = true)
    (a4 : PySem.W.nsIn K mainGlobals "are_nested" = some (some (.ref f4)))
    (l4 : K.lookup f4 = some ⟨oc4, od4, .func (PySem.W.fnOf "are_nested" "are_nested" (defArgs (top 14)) (defBody (top 14)) (defScope (top 14)) .none kV4 dc4 pm4 an4 (.ref cA) ct4), sl4⟩)
    (c4 : PySem.W.codeIn K (.ref cA) "are_nested" = true)
    (k4 : PySem.W.keepIn K (.ref f4) = true)
    (a5 : PySem.W.nsIn K mainGlobals "shapes_below" = some (some (.ref f5)))
    (l5 : K.lookup f5 = some ⟨oc5, od5, .func (PySem.W.fnOf "shapes_below" "shapes_below" (defArgs (top 15)) (defBody (top 15)) (defScope (top 15)) .none kV5 dc5 pm5 an5 cd5 ct5), sl5⟩)
    (c5 : PySem.W.codeIn K cd5 "shapes_below" = true)
    (k5 : PySem.W.keepIn K (.ref f5) = true)
    (a6 : PySem.W.nsIn K mainGlobals "shapes_in" = some (some (.ref f6)))
    (l6 : K.lookup f6 = some ⟨oc6, od6, .func (PySem.W.fnOf "shapes_in" "shapes_in" (defArgs (top 16)) (defBody (top 16)) (defScope (top 16)) .none kV6 dc6 pm6 an6 (.ref cI) ct6), sl6⟩)
    (c6 : PySem.W.codeIn K (.ref cI) "shapes_in" = true)
    (k6 : PySem.W.keepIn K (.ref f6) = true)
    (a7 : PySem.W.nsIn K mainGlobals "is_value" = some (some (.ref f7)))
    (l7 : K.lookup f7 = some ⟨oc7, od7, .func (PySem.W.fnOf "is_value" "is_value" (defArgs (top 22)) (defBody (top 22)) (defScope (top 22)) .none kV7 dc7 pm7 an7 cd7 ct7), sl7⟩)
    (c7 : PySem.W.codeIn K cd7 "is_value" = true)
    (k7 : PySem.W.keepIn K (.ref f7) = true)
    (a8 : PySem.W.nsIn K mainGlobals "count_values" = some (some (.ref f8)))
    (l8 : K.lookup f8 = some ⟨oc8, od8, .func (PySem.W.fnOf "count_values" "count_values" (defArgs (top 23)) (defBody (top 23)) (defScope (top 23)) .none kV8 dc8 pm8 an8 cd8 ct8), sl8⟩)
    (c8 : PySem.W.codeIn K cd8 "count_values" = true)
    (k8 : PySem.W.keepIn K (.ref f8) = true)
    (a9 : PySem.W.nsIn K mainGlobals "fits" = some (some (.ref f9)))
    (l9 : K.lookup f9 = some ⟨oc9, od9, .func (PySem.W.fnOf "fits" "fits" (defArgs (top 24)) (defBody (top 24)) (defScope (top 24)) .none kV9 dc9 pm9 an9 cd9 ct9), sl9⟩)
    (c9 : PySem.W.codeIn K cd9 "fits" = true)
    (k9 : PySem.W.keepIn K (.ref f9) = true)
    (a10 : PySem.W.nsIn K mainGlobals "all_fit" = some (some (.ref f10)))
    (l10 : K.lookup f10 = some ⟨oc10, od10, .func (PySem.W.fnOf "all_fit" "all_fit" (defArgs (top 25)) (defBody (top 25)) (defScope (top 25)) .none kV10 dc10 pm10 an10 cd10 ct10), sl10⟩)
    (c10 : PySem.W.codeIn K cd10 "all_fit" = true)
    (k10 : PySem.W.keepIn K (.ref f10) = true)
    (a11 : PySem.W.nsIn K mainGlobals "is_choice" = some (some (.ref f11)))
    (l11 : K.lookup f11 = some ⟨oc11, od11, .func (PySem.W.fnOf "is_choice" "is_choice" (defArgs (top 26)) (defBody (top 26)) (defScope (top 26)) .none kV11 dc11 pm11 an11 cd11 ct11), sl11⟩)
    (c11 : PySem.W.codeIn K cd11 "is_choice" = true)
    (k11 : PySem.W.keepIn K (.ref f11) = true)
    (a12 : PySem.W.nsIn K mainGlobals "all_rise" = some (some (.ref f12)))
    (l12 : K.lookup f12 = some ⟨oc12, od12, .func (PySem.W.fnOf "all_rise" "all_rise" (defArgs (top 27)) (defBody (top 27)) (defScope (top 27)) .none kV12 dc12 pm12 an12 cd12 ct12), sl12⟩)
    (c12 : PySem.W.codeIn K cd12 "all_rise" = true)
    (k12 : PySem.W.keepIn K (.ref f12) = true)
    (a13 : PySem.W.nsIn K mainGlobals "is_bag" = some (some (.ref f13)))
    (l13 : K.lookup f13 = some ⟨oc13, od13, .func (PySem.W.fnOf "is_bag" "is_bag" (defArgs (top 28)) (defBody (top 28)) (defScope (top 28)) .none kV13 dc13 pm13 an13 cd13 ct13), sl13⟩)
    (c13 : PySem.W.codeIn K cd13 "is_bag" = true)
    (k13 : PySem.W.keepIn K (.ref f13) = true)
    (a14 : PySem.W.nsIn K mainGlobals "is_chance" = some (some (.ref f14)))
    (l14 : K.lookup f14 = some ⟨oc14, od14, .func (PySem.W.fnOf "is_chance" "is_chance" (defArgs (top 29)) (defBody (top 29)) (defScope (top 29)) .none kV14 dc14 pm14 an14 cd14 ct14), sl14⟩)
    (c14 : PySem.W.codeIn K cd14 "is_chance" = true)
    (k14 : PySem.W.keepIn K (.ref f14) = true)
    (a15 : PySem.W.nsIn K mainGlobals "all_long" = some (some (.ref f15)))
    (l15 : K.lookup f15 = some ⟨oc15, od15, .func (PySem.W.fnOf "all_long" "all_long" (defArgs (top 30)) (defBody (top 30)) (defScope (top 30)) .none kV15 dc15 pm15 an15 cd15 ct15), sl15⟩)
    (c15 : PySem.W.codeIn K cd15 "all_long" = true)
    (k15 : PySem.W.keepIn K (.ref f15) = true)
    (a16 : PySem.W.nsIn K mainGlobals "add_up_to_one" = some (some (.ref f16)))
    (l16 : K.lookup f16 = some ⟨oc16, od16, .func (PySem.W.fnOf "add_up_to_one" "add_up_to_one" (defArgs (top 31)) (defBody (top 31)) (defScope (top 31)) .none kV16 dc16 pm16 an16 cd16 ct16), sl16⟩)
    (c16 : PySem.W.codeIn K cd16 "add_up_to_one" = true)
    (k16 : PySem.W.keepIn K (.ref f16) = true)
    (a17 : PySem.W.nsIn K mainGlobals "is_lowest" = some (some (.ref f17)))
    (l17 : K.lookup f17 = some ⟨oc17, od17, .func (PySem.W.fnOf "is_lowest" "is_lowest" (defArgs (top 32)) (defBody (top 32)) (defScope (top 32)) .none kV17 dc17 pm17 an17 cd17 ct17), sl17⟩)
    (c17 : PySem.W.codeIn K cd17 "is_lowest" = true)
    (k17 : PySem.W.keepIn K (.ref f17) = true)
    (a18 : PySem.W.nsIn K mainGlobals "number_of_values" = some (some (.ref f18)))
    (l18 : K.lookup f18 = some ⟨oc18, od18, .func (PySem.W.fnOf "number_of_values" "number_of_values" (defArgs (top 33)) (defBody (top 33)) (defScope (top 33)) .none kV18 dc18 pm18 an18 cd18 ct18), sl18⟩)
    (c18 : PySem.W.codeIn K cd18 "number_of_values" = true)
    (k18 : PySem.W.keepIn K (.ref f18) = true)
    (a19 : PySem.W.nsIn K mainGlobals "multiplied" = some (some (.ref f19)))
    (l19 : K.lookup f19 = some ⟨oc19, od19, .func (PySem.W.fnOf "multiplied" "multiplied" (defArgs (top 34)) (defBody (top 34)) (defScope (top 34)) .none kV19 dc19 pm19 an19 cd19 ct19), sl19⟩)
    (c19 : PySem.W.codeIn K cd19 "multiplied" = true)
    (k19 : PySem.W.keepIn K (.ref f19) = true)
    (a20 : PySem.W.nsIn K mainGlobals "number_of_sets" = some (some (.ref f20)))
    (l20 : K.lookup f20 = some ⟨oc20, od20, .func (PySem.W.fnOf "number_of_sets" "number_of_sets" (defArgs (top 35)) (defBody (top 35)) (defScope (top 35)) .none kV20 dc20 pm20 an20 cd20 ct20), sl20⟩)
    (c20 : PySem.W.codeIn K cd20 "number_of_sets" = true)
    (k20 : PySem.W.keepIn K (.ref f20) = true)
    (a21 : PySem.W.nsIn K mainGlobals "number_of_bags" = some (some (.ref f21)))
    (l21 : K.lookup f21 = some ⟨oc21, od21, .func (PySem.W.fnOf "number_of_bags" "number_of_bags" (defArgs (top 36)) (defBody (top 36)) (defScope (top 36)) .none kV21 dc21 pm21 an21 cd21 ct21), sl21⟩)
    (c21 : PySem.W.codeIn K cd21 "number_of_bags" = true)
    (k21 : PySem.W.keepIn K (.ref f21) = true)
    (a22 : PySem.W.nsIn K mainGlobals "limited" = some (some (.ref f22)))
    (l22 : K.lookup f22 = some ⟨oc22, od22, .func (PySem.W.fnOf "limited" "limited" (defArgs (top 37)) (defBody (top 37)) (defScope (top 37)) .none kV22 dc22 pm22 an22 cd22 ct22), sl22⟩)
    (c22 : PySem.W.codeIn K cd22 "limited" = true)
    (k22 : PySem.W.keepIn K (.ref f22) = true)
    (a23 : PySem.W.nsIn K mainGlobals "_law_box" = some (some (.ref f23)))
    (l23 : K.lookup f23 = some ⟨oc23, od23, .func (PySem.W.fnOf "_law_box" "_law_box" (defArgs (top 39)) (defBody (top 39)) (defScope (top 39)) .none kV23 dc23 pm23 an23 cd23 ct23), sl23⟩)
    (c23 : PySem.W.codeIn K cd23 "_law_box" = true)
    (k23 : PySem.W.keepIn K (.ref f23) = true)
    (a24 : PySem.W.nsIn K mainGlobals "_law_take" = some (some (.ref f24)))
    (l24 : K.lookup f24 = some ⟨oc24, od24, .func (PySem.W.fnOf "_law_take" "_law_take" (defArgs (top 40)) (defBody (top 40)) (defScope (top 40)) .none kV24 dc24 pm24 an24 cd24 ct24), sl24⟩)
    (c24 : PySem.W.codeIn K cd24 "_law_take" = true)
    (k24 : PySem.W.keepIn K (.ref f24) = true)
    (a25 : PySem.W.nsIn K mainGlobals "_law_pick" = some (some (.ref f25)))
    (l25 : K.lookup f25 = some ⟨oc25, od25, .func (PySem.W.fnOf "_law_pick" "_law_pick" (defArgs (top 41)) (defBody (top 41)) (defScope (top 41)) .none kV25 dc25 pm25 an25 cd25 ct25), sl25⟩)
    (c25 : PySem.W.codeIn K cd25 "_law_pick" = true)
    (k25 : PySem.W.keepIn K (.ref f25) = true)
    (a26 : PySem.W.nsIn K mainGlobals "_law_drawn" = some (some (.ref f26)))
    (l26 : K.lookup f26 = some ⟨oc26, od26, .func (PySem.W.fnOf "_law_drawn" "_law_drawn" (defArgs (top 42)) (defBody (top 42)) (defScope (top 42)) .none kV26 dc26 pm26 an26 cd26 ct26), sl26⟩)
    (c26 : PySem.W.codeIn K cd26 "_law_drawn" = true)
    (k26 : PySem.W.keepIn K (.ref f26) = true)
    (a27 : PySem.W.nsIn K mainGlobals "_law_shapes" = some (some (.ref f27)))
    (l27 : K.lookup f27 = some ⟨oc27, od27, .func (PySem.W.fnOf "_law_shapes" "_law_shapes" (defArgs (top 43)) (defBody (top 43)) (defScope (top 43)) .none kV27 dc27 pm27 an27 cd27 ct27), sl27⟩)
    (c27 : PySem.W.codeIn K cd27 "_law_shapes" = true)
    (k27 : PySem.W.keepIn K (.ref f27) = true)
    (a28 : PySem.W.nsIn K mainGlobals "_law_shape" = some (some (.ref f28)))
    (l28 : K.lookup f28 = some ⟨oc28, od28, .func (PySem.W.fnOf "_law_shape" "_law_shape" (defArgs (top 44)) (defBody (top 44)) (defScope (top 44)) .none kV28 dc28 pm28 an28 cd28 ct28), sl28⟩)
    (c28 : PySem.W.codeIn K cd28 "_law_shape" = true)
    (k28 : PySem.W.keepIn K (.ref f28) = true)
    (a29 : PySem.W.nsIn K mainGlobals "_law_times" = some (some (.ref f29)))
    (l29 : K.lookup f29 = some ⟨oc29, od29, .func (PySem.W.fnOf "_law_times" "_law_times" (defArgs (top 45)) (defBody (top 45)) (defScope (top 45)) .none kV29 dc29 pm29 an29 cd29 ct29), sl29⟩)
    (c29 : PySem.W.codeIn K cd29 "_law_times" = true)
    (k29 : PySem.W.keepIn K (.ref f29) = true)
    (a30 : PySem.W.nsIn K mainGlobals "_law_capped" = some (some (.ref f30)))
    (l30 : K.lookup f30 = some ⟨oc30, od30, .func (PySem.W.fnOf "_law_capped" "_law_capped" (defArgs (top 46)) (defBody (top 46)) (defScope (top 46)) .none kV30 dc30 pm30 an30 cd30 ct30), sl30⟩)
    (c30 : PySem.W.codeIn K cd30 "_law_capped" = true)
    (k30 : PySem.W.keepIn K (.ref f30) = true)
    (a31 : PySem.W.nsIn K mainGlobals "_law_bags" = some (some (.ref f31)))
    (l31 : K.lookup f31 = some ⟨oc31, od31, .func (PySem.W.fnOf "_law_bags" "_law_bags" (defArgs (top 47)) (defBody (top 47)) (defScope (top 47)) .none kV31 dc31 pm31 an31 cd31 ct31), sl31⟩)
    (c31 : PySem.W.codeIn K cd31 "_law_bags" = true)
    (k31 : PySem.W.keepIn K (.ref f31) = true)
    (a32 : PySem.W.nsIn K mainGlobals "_law_count" = some (some (.ref f32)))
    (l32 : K.lookup f32 = some ⟨oc32, od32, .func (PySem.W.fnOf "_law_count" "_law_count" (defArgs (top 48)) (defBody (top 48)) (defScope (top 48)) .none kV32 dc32 pm32 an32 cd32 ct32), sl32⟩)
    (c32 : PySem.W.codeIn K cd32 "_law_count" = true)
    (k32 : PySem.W.keepIn K (.ref f32) = true)
    (a33 : PySem.W.nsIn K mainGlobals "_law_tuples" = some (some (.ref f33)))
    (l33 : K.lookup f33 = some ⟨oc33, od33, .func (PySem.W.fnOf "_law_tuples" "_law_tuples" (defArgs (top 49)) (defBody (top 49)) (defScope (top 49)) .none kV33 dc33 pm33 an33 cd33 ct33), sl33⟩)
    (c33 : PySem.W.codeIn K cd33 "_law_tuples" = true)
    (k33 : PySem.W.keepIn K (.ref f33) = true)
    (a34 : PySem.W.nsIn K mainGlobals "_law_longer" = some (some (.ref f34)))
    (l34 : K.lookup f34 = some ⟨oc34, od34, .func (PySem.W.fnOf "_law_longer" "_law_longer" (defArgs (top 50)) (defBody (top 50)) (defScope (top 50)) .none kV34 dc34 pm34 an34 cd34 ct34), sl34⟩)
    (c34 : PySem.W.codeIn K cd34 "_law_longer" = true)
    (k34 : PySem.W.keepIn K (.ref f34) = true)
    (a35 : PySem.W.nsIn K mainGlobals "_law_list" = some (some (.ref f35)))
    (l35 : K.lookup f35 = some ⟨oc35, od35, .func (PySem.W.fnOf "_law_list" "_law_list" (defArgs (top 51)) (defBody (top 51)) (defScope (top 51)) .none kV35 dc35 pm35 an35 cd35 ct35), sl35⟩)
    (c35 : PySem.W.codeIn K cd35 "_law_list" = true)
    (k35 : PySem.W.keepIn K (.ref f35) = true)
    (a36 : PySem.W.nsIn K mainGlobals "_law_has_bags" = some (some (.ref f36)))
    (l36 : K.lookup f36 = some ⟨oc36, od36, .func (PySem.W.fnOf "_law_has_bags" "_law_has_bags" (defArgs (top 52)) (defBody (top 52)) (defScope (top 52)) .none kV36 dc36 pm36 an36 cd36 ct36), sl36⟩)
    (c36 : PySem.W.codeIn K cd36 "_law_has_bags" = true)
    (k36 : PySem.W.keepIn K (.ref f36) = true)
    (a37 : PySem.W.nsIn K mainGlobals "_law_is_small" = some (some (.ref f37)))
    (l37 : K.lookup f37 = some ⟨oc37, od37, .func (PySem.W.fnOf "_law_is_small" "_law_is_small" (defArgs (top 53)) (defBody (top 53)) (defScope (top 53)) .none kV37 dc37 pm37 an37 cd37 ct37), sl37⟩)
    (c37 : PySem.W.codeIn K cd37 "_law_is_small" = true)
    (k37 : PySem.W.keepIn K (.ref f37) = true)
    (a38 : PySem.W.nsIn K mainGlobals "law" = some (some (.ref f38)))
    (l38 : K.lookup f38 = some ⟨oc38, od38, .func (PySem.W.fnOf "law" "law" (defArgs (top 54)) (defBody (top 54)) (defScope (top 54)) .none kV38 dc38 pm38 an38 cd38 ct38), sl38⟩)
    (c38 : PySem.W.codeIn K cd38 "law" = true)
    (k38 : PySem.W.keepIn K (.ref f38) = true)
    (qMOST_AFTER : PySem.W.nsIn K mainGlobals "MOST_AFTER" = some (some (.int 4 tMOST_AFTER)))
    (qMOST_LETTERS : PySem.W.nsIn K mainGlobals "MOST_LETTERS" = some (some (.int 5 tMOST_LETTERS)))
    (qMOST_BESIDE : PySem.W.nsIn K mainGlobals "MOST_BESIDE" = some (some (.int 4 tMOST_BESIDE)))
    (qMOST_LEVELS : PySem.W.nsIn K mainGlobals "MOST_LEVELS" = some (some (.int 6 tMOST_LEVELS)))
    (qMOST_SHAPES : PySem.W.nsIn K mainGlobals "MOST_SHAPES" = some (some (.int 40 tMOST_SHAPES)))
    (qMOST_COUNTED : PySem.W.nsIn K mainGlobals "MOST_COUNTED" = some (some (.int 1000000000 tMOST_COUNTED)))
    (qMANY_VALUES : PySem.W.nsIn K mainGlobals "MANY_VALUES" = some (some (.int 30 tMANY_VALUES)))
    (qMOST_IN_BAG : PySem.W.nsIn K mainGlobals "MOST_IN_BAG" = some (some (.int 1000 tMOST_IN_BAG)))
    (qLOWS_BELOW : PySem.W.nsIn K mainGlobals "LOWS_BELOW" = some (some (.int 1000000000000000000000000000000 tLOWS_BELOW)))
    (ucomb : PySem.W.nsIn K mainGlobals "comb" = some (some (.builtin "math.comb")))
    (ugcd : PySem.W.nsIn K mainGlobals "gcd" = some (some (.builtin "math.gcd")))
    (ulcm : PySem.W.nsIn K mainGlobals "lcm" = some (some (.builtin "math.lcm")))
    (nisinstance : PySem.W.nsIn K mainGlobals "isinstance" = some none)
    (nint : PySem.W.nsIn K mainGlobals "int" = some none)
    (nbool : PySem.W.nsIn K mainGlobals "bool" = some none)
    (ntuple : PySem.W.nsIn K mainGlobals "tuple" = some none)
    (nlen : PySem.W.nsIn K mainGlobals "len" = some none)
    (nall : PySem.W.nsIn K mainGlobals "all" = some none)
    (nsum : PySem.W.nsIn K mainGlobals "sum" = some none)
    (nabs : PySem.W.nsIn K mainGlobals "abs" = some none)
    (nrange : PySem.W.nsIn K mainGlobals "range" = some none)
    (nzip : PySem.W.nsIn K mainGlobals "zip" = some none)
    (nmin : PySem.W.nsIn K mainGlobals "min" = some none)
    (nlist : PySem.W.nsIn K mainGlobals "list" = some none)
    (nsorted : PySem.W.nsIn K mainGlobals "sorted" = some none)
    (nrepr : PySem.W.nsIn K mainGlobals "repr" = some none)
    (gBadShape : PySem.W.nsIn K mainGlobals "BadShape" = some (some (.ref CBadShape)))
    (kC : PySem.W.keepIn K (.ref CBadShape) = true)
    (xC : PySem.W.excIn K CBadShape [.type "ValueError", .type "Exception", .type "BaseException", .type "object"] "ValueError.__new__" = true)
    (bC : PySem.W.subIn K (.ref CBadShape) (.type "BaseException") = some true)
    (tC : PySem.W.typeIn K (.ref CBadShape) = some (.type "type"))
    (ycA : K.lookup cA = some ⟨ocA, dcA, .fields vcA, scA⟩)
    (pcA : vcA[11]? = some (.ref T1))
    (hcA : PySem.W.tabIn K "are_nested" = some (cA, T1))
    (mcA : K.lookup T1 = none)
    (rcA : ((recsOf q).find? fun e => e.name == ("are_nested" : Str)).isSome = true)
    (ycI : K.lookup cI = some ⟨ocI, dcI, .fields vcI, scI⟩)
    (pcI : vcI[11]? = some (.ref T2))
    (hcI : PySem.W.tabIn K "shapes_in" = some (cI, T2))
    (mcI : K.lookup T2 = none)
    (rcI : ((recsOf q).find? fun e => e.name == ("shapes_in" : Str)).isSome = true) :
    ∃ cs : List (Addr × Addr), (∀ p ∈ cs, K.lookup p.2 = none ∧ PySem.W.CodeHd s₁.heap p.1 p.2 ∧ s₁.heap.get? p.2 = some tab0) ∧
      ∀ (base : Heap), K.In base → base.Ns mainGlobals mg → (∀ p ∈ cs, GxR.TabB base mg p.1 p.2) → ∀ (s : Shared) (H : Hp) (a : Addr) (ns : List Int), Env0 P w K mg base callerA [] s H →
      (∀ p ∈ cs, GxR.TabG H p.2) → SqL K H a (ns.map V.int) → ns.length ≤ 63 → codeAny (model P w) callerA (.call (.ref fa) ⟨[.ref a], []⟩) (CR CX0 [] P w H s (fun v _ => v = .bl true) fun _ _ _ => False) s := by
  obtain ⟨zcA, ecA⟩ := Option.isSome_iff_exists.mp rcA
  obtain ⟨zcI, ecI⟩ := Option.isSome_iff_exists.mp rcI
  refine ⟨[(cA, T1), (cI, T2)], fun p hp => ?_, fun base hb hn hB s H a ns e0 hG hS hl => ?_⟩
  · simp only [List.mem_cons, List.not_mem_nil, or_false] at hp
    rcases hp with rfl | rfl
    · exact ⟨mcA, PySem.W.tab_of G.T X ecA hcA⟩
    · exact ⟨mcI, PySem.W.tab_of G.T X ecI hcI⟩
  · exact all_mk X G.T.g hfa a0 l0 c0 k0 a1 l1 c1 k1 a2 l2 c2 k2 a3 l3 c3 k3 a4 l4 c4 k4 a5 l5 c5 k5 a6 l6 c6 k6 a7 l7 c7 k7 a8 l8 c8 k8 a9 l9 c9 k9 a10 l10 c10 k10 a11 l11 c11 k11 a12 l12 c12 k12 a13 l13 c13 k13 a14 l14 c14 k14 a15 l15 c15 k15 a16 l16 c16 k16 a17 l17 c17 k17 a18 l18 c18 k18 a19 l19 c19 k19 a20 l20 c20 k20 a21 l21 c21 k21 a22 l22 c22 k22 a23 l23 c23 k23 a24 l24 c24 k24 a25 l25 c25 k25 a26 l26 c26 k26 a27 l27 c27 k27 a28 l28 c28 k28 a29 l29 c29 k29 a30 l30 c30 k30 a31 l31 c31 k31 a32 l32 c32 k32 a33 l33 c33 k33 a34 l34 c34 k34 a35 l35 c35 k35 a36 l36 c36 k36 a37 l37 c37 k37 a38 l38 c38 k38 qMOST_AFTER qMOST_LETTERS qMOST_BESIDE qMOST_LEVELS qMOST_SHAPES qMOST_COUNTED qMANY_VALUES qMOST_IN_BAG qLOWS_BELOW ucomb ugcd ulcm nisinstance nint nbool ntuple nlen nall nsum nabs nrange nzip nmin nlist nsorted nrepr gBadShape kC xC bC tC base hb hn (hB (cA, T1) (List.mem_cons_self)) (hB (cI, T2) (List.mem_cons_of_mem _ (List.mem_cons_self))) s H a ns e0 (hG (cA, T1) (List.mem_cons_self)) (hG (cI, T2) (List.mem_cons_of_mem _ (List.mem_cons_self))) hS hl
end M4
end
section
set_option Elab.async false
set_option linter.all false
set_option maxRecDepth 100000
open PySem PySem.W PyProof.Rows
set_option maxHeartbeats 0 in
theorem PySem.Challenge.cw_manyshaped_k04_numbers_of_values_holds : PySem.Challenge.rw_manyshaped_k04_numbers_of_values.Holds := by
  w_on; o_law; k_head; (case hw => w_witness2)
  k_fill
  refine MS.walkC (l := PySem.Challenge.rw_manyshaped_k04_numbers_of_values) rfl rfl (fun w h Y => PySem.W.kIn_of Y) ?F
  case F =>
    intro w s₀ s₁ mg mb fa G KX hmg
    refine' M4.fin G KX hmg ?a0 ?l0 ?c0 ?k0 ?a1 ?l1 ?c1 ?k1 ?a2 ?l2 ?c2 ?k2 ?a3 ?l3 ?c3 ?k3 ?a4 ?l4 ?c4 ?k4 ?a5 ?l5 ?c5 ?k5 ?a6 ?l6 ?c6 ?k6 ?a7 ?l7 ?c7 ?k7 ?a8 ?l8 ?c8 ?k8 ?a9 ?l9 ?c9 ?k9 ?a10 ?l10 ?c10 ?k10 ?a11 ?l11 ?c11 ?k11 ?a12 ?l12 ?c12 ?k12 ?a13 ?l13 ?c13 ?k13 ?a14 ?l14 ?c14 ?k14 ?a15 ?l15 ?c15 ?k15 ?a16 ?l16 ?c16 ?k16 ?a17 ?l17 ?c17 ?k17 ?a18 ?l18 ?c18 ?k18 ?a19 ?l19 ?c19 ?k19 ?a20 ?l20 ?c20 ?k20 ?a21 ?l21 ?c21 ?k21 ?a22 ?l22 ?c22 ?k22 ?a23 ?l23 ?c23 ?k23 ?a24 ?l24 ?c24 ?k24 ?a25 ?l25 ?c25 ?k25 ?a26 ?l26 ?c26 ?k26 ?a27 ?l27 ?c27 ?k27 ?a28 ?l28 ?c28 ?k28 ?a29 ?l29 ?c29 ?k29 ?a30 ?l30 ?c30 ?k30 ?a31 ?l31 ?c31 ?k31 ?a32 ?l32 ?c32 ?k32 ?a33 ?l33 ?c33 ?k33 ?a34 ?l34 ?c34 ?k34 ?a35 ?l35 ?c35 ?k35 ?a36 ?l36 ?c36 ?k36 ?a37 ?l37 ?c37 ?k37 ?a38 ?l38 ?c38 ?k38 ?qMOST_AFTER ?qMOST_LETTERS ?qMOST_BESIDE ?qMOST_LEVELS ?qMOST_SHAPES ?qMOST_COUNTED ?qMANY_VALUES ?qMOST_IN_BAG ?qLOWS_BELOW ?ucomb ?ugcd ?ulcm ?nisinstance ?nint ?nbool ?ntuple ?nlen ?nall ?nsum ?nabs ?nrange ?nzip ?nmin ?nlist ?nsorted ?nrepr ?gBadShape ?kC ?xC ?bC ?tC ?ycA ?pcA ?hcA ?mcA ?rcA ?ycI ?pcI ?hcI ?mcI ?rcI
    (case a0 => k_is)
    (case l0 => k_is)
    (case c0 => k_is)
    (case k0 => k_is)
    (case a1 => k_is)
    (case l1 => k_is)
    (case c1 => k_is)
    (case k1 => k_is)
    (case a2 => k_is)
    (case l2 => k_is)
    (case c2 => k_is)
    (case k2 => k_is)
    (case a3 => k_is)
    (case l3 => k_is)
    (case c3 => k_is)
    (case k3 => k_is)
    (case a4 => k_is)
    (case l4 => k_is)
    (case c4 => k_is)
    (case k4 => k_is)
    (case a5 => k_is)
    (case l5 => k_is)
    (case c5 => k_is)
    (case k5 => k_is)
    (case a6 => k_is)
    (case l6 => k_is)
    (case c6 => k_is)
    (case k6 => k_is)
    (case a7 => k_is)
    (case l7 => k_is)
    (case c7 => k_is)
    (case k7 => k_is)
    (case a8 => k_is)
    (case l8 => k_is)
    (case c8 => k_is)
    (case k8 => k_is)
    (case a9 => k_is)
    (case l9 => k_is)
    (case c9 => k_is)
    (case k9 => k_is)
    (case a10 => k_is)
    (case l10 => k_is)
    (case c10 => k_is)
    (case k10 => k_is)
    (case a11 => k_is)
    (case l11 => k_is)
    (case c11 => k_is)
    (case k11 => k_is)
    (case a12 => k_is)
    (case l12 => k_is)
    (case c12 => k_is)
    (case k12 => k_is)
    (case a13 => k_is)
    (case l13 => k_is)
    (case c13 => k_is)
    (case k13 => k_is)
    (case a14 => k_is)
    (case l14 => k_is)
    (case c14 => k_is)
    (case k14 => k_is)
    (case a15 => k_is)
    (case l15 => k_is)
    (case c15 => k_is)
    (case k15 => k_is)
    (case a16 => k_is)
    (case l16 => k_is)
    (case c16 => k_is)
    (case k16 => k_is)
    (case a17 => k_is)
    (case l17 => k_is)
    (case c17 => k_is)
    (case k17 => k_is)
    (case a18 => k_is)
    (case l18 => k_is)
    (case c18 => k_is)
    (case k18 => k_is)
    (case a19 => k_is)
    (case l19 => k_is)
    (case c19 => k_is)
    (case k19 => k_is)
    (case a20 => k_is)
    (case l20 => k_is)
    (case c20 => k_is)
    (case k20 => k_is)
    (case a21 => k_is)
    (case l21 => k_is)
    (case c21 => k_is)
    (case k21 => k_is)
    (case a22 => k_is)
    (case l22 => k_is)
    (case c22 => k_is)
    (case k22 => k_is)
    (case a23 => k_is)
    (case l23 => k_is)
    (case c23 => k_is)
    (case k23 => k_is)
    (case a24 => k_is)
    (case l24 => k_is)
    (case c24 => k_is)
    (case k24 => k_is)
    (case a25 => k_is)
    (case l25 => k_is)
    (case c25 => k_is)
    (case k25 => k_is)
    (case a26 => k_is)
    (case l26 => k_is)
    (case c26 => k_is)
    (case k26 => k_is)
    (case a27 => k_is)
    (case l27 => k_is)
    (case c27 => k_is)
    (case k27 => k_is)
    (case a28 => k_is)
    (case l28 => k_is)
    (case c28 => k_is)
    (case k28 => k_is)
    (case a29 => k_is)
    (case l29 => k_is)
    (case c29 => k_is)
    (case k29 => k_is)
    (case a30 => k_is)
    (case l30 => k_is)
    (case c30 => k_is)
    (case k30 => k_is)
    (case a31 => k_is)
    (case l31 => k_is)
    (case c31 => k_is)
    (case k31 => k_is)
    (case a32 => k_is)
    (case l32 => k_is)
    (case c32 => k_is)
    (case k32 => k_is)
    (case a33 => k_is)
    (case l33 => k_is)
    (case c33 => k_is)
    (case k33 => k_is)
    (case a34 => k_is)
    (case l34 => k_is)
    (case c34 => k_is)
    (case k34 => k_is)
    (case a35 => k_is)
    (case l35 => k_is)
    (case c35 => k_is)
    (case k35 => k_is)
    (case a36 => k_is)
    (case l36 => k_is)
    (case c36 => k_is)
    (case k36 => k_is)
    (case a37 => k_is)
    (case l37 => k_is)
    (case c37 => k_is)
    (case k37 => k_is)
    (case a38 => k_is)
    (case l38 => k_is)
    (case c38 => k_is)
    (case k38 => k_is)
    (case qMOST_AFTER => k_is)
    (case qMOST_LETTERS => k_is)
    (case qMOST_BESIDE => k_is)
    (case qMOST_LEVELS => k_is)
    (case qMOST_SHAPES => k_is)
    (case qMOST_COUNTED => k_is)
    (case qMANY_VALUES => k_is)
    (case qMOST_IN_BAG => k_is)
    (case qLOWS_BELOW => k_is)
    (case ucomb => k_is)
    (case ugcd => k_is)
    (case ulcm => k_is)
    (case nisinstance => k_is)
    (case nint => k_is)
    (case nbool => k_is)
    (case ntuple => k_is)
    (case nlen => k_is)
    (case nall => k_is)
    (case nsum => k_is)
    (case nabs => k_is)
    (case nrange => k_is)
    (case nzip => k_is)
    (case nmin => k_is)
    (case nlist => k_is)
    (case nsorted => k_is)
    (case nrepr => k_is)
    (case gBadShape => k_is)
    (case kC => k_is)
    (case xC => k_exc)
    (case bC => k_is)
    (case tC => k_is)
    (case ycA => k_is)
    (case pcA => exact rfl)
    (case hcA => kernel_rfl)
    (case mcA => kernel_rfl)
    (case rcA => kernel_rfl)
    (case ycI => k_is)
    (case pcI => exact rfl)
    (case hcI => kernel_rfl)
    (case mcI => kernel_rfl)
    (case rcI => kernel_rfl)
end
