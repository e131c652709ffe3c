import PyProof.Rows.All
import Wide.All
import OpenK.AllK
import Wide.FinOn
import HandS.ForMost
import HandS.ForExc
import HandS.AnyAll
import HandS.GenBody
import HandS.IsInst
import HandS.TupAny
import HandS.Wide
import HandS.More
import KE.GoesMore
import HandS.EndTab
import HandS.NestedK
import PySem.Challenge.RW_comersline_k02_queues_one_by_one
set_option Elab.async false
set_option linter.all false
set_option maxRecDepth 100000
set_option maxHeartbeats 1000000
namespace GE
open PySem PySem.Spec PyProof.Rows L2 GenW
open Sem (wp)

/-- what a consumer holds between two turns of a generator -/
structure Con (α : Type) where
  fp : List Addr
  at_ : α → Heap → Prop
structure ConOk {α : Type} (C : Con α) : Prop where
  obj : ∀ a h, C.at_ a h → ∀ b ∈ C.fp, ∃ o, h.get? b = some o ∧ ∀ v, o.data ≠ .cell v
  keep : ∀ a h h', C.at_ a h → (∀ b ∈ C.fp, ∀ o, h.get? b = some o → h'.get? b = some o) → C.at_ a h'
  inj : ∀ a b h, C.at_ a h → C.at_ b h → a = b
def conU : Con Unit := ⟨[], fun _ _ => True⟩
theorem conU_ok : ConOk conU := ⟨(fun _ _ _ b hb => nomatch hb), (fun _ _ _ _ _ => trivial), (fun _ _ _ _ _ => rfl)⟩

abbrev nones (n : Nat) : L2.St := List.replicate n none
theorem nones_some {n i : Nat} {v : V} (h : (nones n)[i]? = some (some v)) : False := by
  rw [List.getElem?_replicate] at h
  split at h <;> cases h

section
variable {α : Type}
def GI (Y : Cx) (C : Con α) (fpI : List Addr) (tn : Nat → Heap → Prop) (a : α) (i : Nat) (H : Hp) (s : Shared) : Prop :=
  Inv Y (pinsAt C.fp s.heap) (nones Y.N.length) H s ∧ C.at_ a s.heap ∧ tn i s.heap ∧ ∀ b ∈ fpI, H b = none
def GP (Y : Cx) (C : Con α) (fpI : List Addr) (tn : Nat → Heap → Prop) (Out : α → V → Hp → (α → Hp → Prop) → Prop) : Protocol := fun _ s₀ v s kap =>
  ∃ a i H y Nx, RelV y v ∧ GI Y C fpI tn a i H s ∧ Out a y H Nx ∧ (∀ b ∈ C.fp, ∀ o, s₀.heap.get? b = some o → s.heap.get? b = some o) ∧ ∀ a' s'', GI Y C fpI tn a' i H s'' → Nx a' H → kap (.send .none) s''
def GF (Y : Cx) (C : Con α) (Fin : α → Hp → Prop) : Nat → Shared → Shared → Prop := fun _ s₀ s₁ =>
  ∃ a H, Inv Y (pinsAt C.fp s₁.heap) (nones Y.N.length) H s₁ ∧ C.at_ a s₁.heap ∧ (∀ b ∈ C.fp, ∀ o, s₀.heap.get? b = some o → s₁.heap.get? b = some o) ∧ Fin a H
abbrev GRr (Y : Cx) (C : Con α) (Fin : α → Hp → Prop) : GenEnd := fun n s₀ r s₁ => r = .ok .next ∧ GF Y C Fin n s₀ s₁
def TurnOf (J : It) (n0 : Nat) (g : TG) (tt : TT) (te : TE) (Out : α → V → Hp → (α → Hp → Prop) → Prop) (Fin : α → Hp → Prop) (W : α → Nat → Nat → Hp → Prop) : Prop :=
  ∀ a i m H, W a i m H → (J.stop i H ∧ Fin a H) ∨ (J.go i H ∧ ∃ Nx : α → Hp → Prop, (∀ a' H', Nx a' H' → ∃ m', m' < m ∧ W a' (i + 1) m' H') ∧
    ∀ x H', J.yld i H x H' → g x (nones n0) H' fun σ2 H2 => tt σ2 H2 fun b H3 => if b = true then te σ2 H3 fun y H4 => Out a y H4 Nx else Nx a H3)

def GoOn (M : Model) (A : Around) (R : GenEnd) (P : Protocol) (gi : α → Shared → Prop) (nx : α → Prop) (gs1 : GenState) : Nat → Prop
  | 0 => ∀ a' s'', gi a' s'' → nx a' → False
  | n1 + 1 => ∀ a' s'', gi a' s'' → nx a' → gs1.Goes M A R P n1 (.send .none) s''
theorem over_loopG {A : Around} {elt tg iter : Expr} {ifs : List Expr} {scope : Scope} {pos : Pos} {it acc : Value} {env : Env} :
    A.over (.compLoop (.GeneratorExp elt [⟨tg, iter, ifs, 0⟩] scope pos) 0 it acc env) [] = A.deeper env := by
  first
    | rfl
    | (obtain ⟨hd, d, fr, gs, u⟩ := A; simp [Around.over, Around.deeper, marksOver, frameCount, unitsOf, envsOf, guardsOf, pushEnvs, pushGuards, Code.envs, Code.env?, Code.isFrame, Code.guards, Code.isGuard, Code.weight, Code.frames, Code.isCreation, Code.isCaller, Code.cUnits])
theorem over_startG {A : Around} {elt tg iter : Expr} {ifs : List Expr} {scope : Scope} {pos : Pos} {it acc : Value} {env : Env} :
    A.over (.compStart (.GeneratorExp elt [⟨tg, iter, ifs, 0⟩] scope pos) 0 it acc env) [] = A.deeper env := by
  first
    | rfl
    | (obtain ⟨hd, d, fr, gs, u⟩ := A; simp [Around.over, Around.deeper, marksOver, frameCount, unitsOf, envsOf, guardsOf, pushEnvs, pushGuards, Code.envs, Code.env?, Code.isFrame, Code.guards, Code.isGuard, Code.weight, Code.frames, Code.isCreation, Code.isCaller, Code.cUnits])

theorem Inv.gensG {X : Cx} {pins : List (Addr × Obj)} {σ : L2.St} {H : Hp} {s : Shared} (I : Inv X pins σ H s) {G : Array GenState} (h : AllBare G) : Inv X pins σ H { s with gens := G } :=
  ⟨I.ok, I.os, h, I.base, I.loc, I.cell, I.free, I.freeC, I.pin, I.hok, I.len⟩
theorem bare_setGen {s : Shared} {g : Nat} {x : GenState} (h : AllBare s.gens) (hx : x.bare = true) : AllBare (s.setGen g x).gens := by
  intro y hy
  show y.bare = true
  have hy : y ∈ s.gens.setIfInBounds g x := hy
  rcases Array.mem_or_eq_of_mem_setIfInBounds hy with h1 | h1
  · exact h y h1
  · rw [h1]; exact hx

section
variable {Y : Cx} {C : Con α} {tg elt iter : Expr} {ifs : List Expr} {scope : Scope} {pos : Pos} {J : It} {fpI : List Addr} {it : Addr} {tn : Nat → Heap → Prop} {g : TG} {tt : TT} {te : TE}
  {Out : α → V → Hp → (α → Hp → Prop) → Prop} {Fin : α → Hp → Prop} {W : α → Nat → Nat → Hp → Prop} {A : Around}
/-- the loop of a generator expression -/
theorem seg_loop (CO : ConOk C) (hcalm : Y.calm = true) (T : Turn Y.prog Y.w Y.K tg J fpI it tn) (hg : PG Y tg g) (ht : PTs Y ifs tt) (he : PE Y elt te) (hA : A.deeper Y.env = Y.A)
    (hex : ∀ b ∈ fpI, b ∈ Y.ex) (hdis : ∀ b ∈ C.fp, b ∉ fpI) (hpn : ∀ p ∈ Y.pn, p.1 ∉ fpI) (hxe : Y.xe = fun _ _ => False) (hco : Y.env.scope.isCoroutine = false) (turn : TurnOf J Y.N.length g tt te Out Fin W) :
    ∀ (m : Nat) (a : α) (i n : Nat) (H : Hp) (s₀ s : Shared), m < n → W a i m H → GI Y C fpI tn a i H s → (∀ b ∈ C.fp, ∀ o, s₀.heap.get? b = some o → s.heap.get? b = some o) →
      Seg (model Y.prog Y.w) A (GRr Y C Fin) (GP Y C fpI tn Out) n s₀ (.compLoop (.GeneratorExp elt [⟨tg, iter, ifs, 0⟩] scope pos) 0 (.ref it) .none Y.env)
        ((model Y.prog Y.w).den (.compLoop (.GeneratorExp elt [⟨tg, iter, ifs, 0⟩] scope pos) 0 (.ref it) .none Y.env)) [] s := by
  have ov : A.over (.compLoop (.GeneratorExp elt [⟨tg, iter, ifs, 0⟩] scope pos) 0 (.ref it) .none Y.env) [] = Y.A := over_loopG.trans hA
  have stat : ∀ {pins : List (Addr × Obj)} {σ' : L2.St} {H' : Hp} {s' : Shared}, Inv Y pins σ' H' s' → (∀ p ∈ pins, p.1 ∉ fpI) → (∀ b ∈ fpI, H' b = none) → ∀ b ∈ fpI, FpOk Y pins H' b := fun {pins σ' H' s'} I' hp hn b hb =>
    ⟨hn b hb, (I'.ok.exf b (hex b hb)).1, I'.ok.exfs b (hex b hb), .inl (hex b hb), fun x c e => (I'.ok.exf b (hex b hb)).2 x c e, fun p hp' z => (List.mem_append.mp hp').elim (fun q => hpn p q (z ▸ hb)) fun q => hp p q (z ▸ hb)⟩
  have pinN : ∀ h : Heap, ∀ p ∈ pinsAt C.fp h, p.1 ∉ fpI := fun h p hp => hdis p.1 (of_pinsAt hp).1
  intro m
  induction m using Nat.strongRecOn with
  | ind m ih =>
    intro a i n H s₀ s hmn hw hGI since
    obtain ⟨I, hat, st, hn0⟩ := hGI
    show Seg _ A _ _ n s₀ _ ((compTurn (.GeneratorExp elt [⟨tg, iter, ifs, 0⟩] scope pos) 0 (.ref it) .none Y.env).onRaise (leaving Y.env)) [] s
    rw [compTurn_gen, Sem.onRaise_eq_wrap]
    refine seg_bind_wrap (wpAny_standAt ?_)
    have sf := stat I (pinN s.heap) hn0
    rcases turn a i m H hw with ⟨stop, fin⟩ | ⟨go, Nx, hNx, step⟩
    · refine seg_bind_wrap ?_
      rw [ov]
      refine thnF (T.done Y rfl rfl rfl hcalm i _ s _ H (fun _ _ => False) I sf st stop) fun r s1 ⟨hr, I1⟩ => ?_
      subst hr
      have hk : ∀ b ∈ C.fp, ∀ o, s.heap.get? b = some o → s1.heap.get? b = some o := fun b hb o e => (I1.pin (b, o) (List.mem_append_right _ (mem_pinsAt hb e))).1
      refine seg_end (.ok .next) ⟨rfl, a, H, I1.pins_of fun p hp => ?_, CO.keep _ _ _ hat hk, fun b hb o e => hk b hb o (since b hb o e), fin⟩
      obtain ⟨hb, e⟩ := of_pinsAt hp
      obtain ⟨o, e2, _⟩ := CO.obj _ _ hat p.1 hb
      have e3 := hk p.1 hb o e2
      rw [e] at e3
      cases e3
      exact I1.pin (p.1, p.2) (List.mem_append_right _ (mem_pinsAt hb e2))
    · refine seg_bind_wrap ?_
      rw [ov]
      refine thnF (T.item Y rfl rfl rfl hcalm i _ s _ H (fun _ _ => False) I sf st go) fun r s1 ⟨u, hr, h1⟩ => ?_
      subst hr
      refine seg_bind_wrap ?_
      rw [ov]
      refine thnF h1 fun _ s2 ⟨x, H2, I2, r2, y2, st2, n2⟩ => ?_
      have I2' := I2.pinned (stat I2 (pinN s.heap) n2) (T.obj _ _ st2)
      refine seg_bind_wrap ?_
      rw [ov]
      have xf : ∀ {β : Type} {t : Sem β} {P P' : β → Shared → Prop} {E' : Value → Shared → Prop} {z : Shared}, wpAny (model Y.prog Y.w) Y.A t P Y.xe z → (∀ a s, P a s → P' a s) → wpAny (model Y.prog Y.w) Y.A t P' E' z := fun {β t P P' E' z} q hq => by
        rw [hxe] at q
        exact thnF q hq
      refine xf (hg.run _ s2 _ H2 x u _ I2' r2 (step x H2 y2)) fun _ s3 ⟨σ3, H3, I3, q3⟩ => ?_
      refine seg_bind_wrap ?_
      rw [ov]
      refine xf (ht.run _ s3 σ3 H3 _ I3 q3) fun ok s4 ⟨H4, I4, q4⟩ => ?_
      -- what stands at a turn's end
      have fin : ∀ {s' : Shared} {H' : Hp} {σ' : L2.St}, Inv Y (pinsAt C.fp s.heap ++ pinsAt fpI s2.heap) σ' H' s' →
          GI Y C fpI tn a (i + 1) H' s' ∧ ∀ b ∈ C.fp, ∀ o, s₀.heap.get? b = some o → s'.heap.get? b = some o := fun {s' H' σ'} I' => by
        have hk : ∀ b ∈ C.fp, ∀ o, s.heap.get? b = some o → s'.heap.get? b = some o := fun b hb o e => (I'.pin (b, o) (List.mem_append_right _ (List.mem_append_left _ (mem_pinsAt hb e)))).1
        have pin' : ∀ b ∈ fpI, ∀ o, s2.heap.get? b = some o → s'.heap.get? b = some o ∧ H' b = none := fun b hb o e =>
          let z := I'.pin (b, o) (List.mem_append_right _ (List.mem_append_right _ (mem_pinsAt hb e)))
          ⟨z.1, z.2.1⟩
        have I1 : Inv Y (pinsAt C.fp s'.heap) σ' H' s' := I'.pins_of fun p hp => by
          obtain ⟨hb, e⟩ := of_pinsAt hp
          obtain ⟨o, e2, _⟩ := CO.obj _ _ hat p.1 hb
          have e3 := hk p.1 hb o e2
          rw [e] at e3
          cases e3
          exact I'.pin (p.1, p.2) (List.mem_append_right _ (List.mem_append_left _ (mem_pinsAt hb e2)))
        refine ⟨⟨I1.weak (by rw [I1.len, List.length_replicate]) fun j v e => (nones_some e).elim, CO.keep _ _ _ hat hk, T.keep _ _ _ st2 fun b hb o e => (pin' b hb o e).1, fun b hb => ?_⟩, fun b hb o e => hk b hb o (since b hb o e)⟩
        obtain ⟨o, e, _⟩ := T.obj _ _ st2 b hb
        exact (pin' b hb o e).2
      cases ok with
      | false =>
        simp only [Bool.false_eq_true, if_false] at q4 ⊢
        obtain ⟨f1, f2⟩ := fin I4
        obtain ⟨m', hm', w'⟩ := hNx a H4 q4
        exact seg_again rfl (ih m' hm' a (i + 1) n H4 s₀ s4 (by omega) w' f1 f2)
      | true =>
        simp only [if_true] at q4 ⊢
        obtain ⟨n', rfl⟩ : ∃ n', n = n' + 1 := ⟨n - 1, by omega⟩
        have hy : ∀ v, yieldOut Y.env v = yieldValue v := fun v => by simp only [yieldOut, hco, Bool.false_eq_true, if_false]
        simp only [hy]
        rw [Sem.bind_eq_wrap', Sem.bind_eq_wrap', Sem.wrap_wrap, Sem.wrap_wrap]
        refine seg_wrap ?_
        rw [ov]
        refine xf (he.run _ s4 σ3 H4 _ I4 q4) fun y s5 ⟨yv, H5, I5, r5, o5⟩ => ?_
        obtain ⟨f1, f2⟩ := fin I5
        refine seg_at (seg_yield rfl rfl rfl ⟨a, i + 1, H5, yv, Nx, r5, f1, o5, f2, fun a' s'' hGI' hN' => ?_⟩)
        obtain ⟨m', hm', w'⟩ := hNx a' H5 hN'
        exact seg_again rfl (ih m' hm' a' (i + 1) n' H5 s'' s'' (by omega) w' hGI' fun _ _ _ e => e)

/-- .. and its start -/
theorem seg_start (CO : ConOk C) (hcalm : Y.calm = true) (T : Turn Y.prog Y.w Y.K tg J fpI it tn) (hg : PG Y tg g) (ht : PTs Y ifs tt) (he : PE Y elt te) (hA : A.deeper Y.env = Y.A)
    (hex : ∀ b ∈ fpI, b ∈ Y.ex) (hdis : ∀ b ∈ C.fp, b ∉ fpI) (hpn : ∀ p ∈ Y.pn, p.1 ∉ fpI) (hxe : Y.xe = fun _ _ => False) (hco : Y.env.scope.isCoroutine = false) (turn : TurnOf J Y.N.length g tt te Out Fin W)
    (m : Nat) (a : α) (n : Nat) (H : Hp) (s : Shared) (hm : m < n) (hw : W a 0 m H) (hGI : GI Y C fpI tn a 0 H s) :
      Seg (model Y.prog Y.w) A (GRr Y C Fin) (GP Y C fpI tn Out) n s (.compStart (.GeneratorExp elt [⟨tg, iter, ifs, 0⟩] scope pos) 0 (.ref it) .none Y.env)
        ((model Y.prog Y.w).den (.compStart (.GeneratorExp elt [⟨tg, iter, ifs, 0⟩] scope pos) 0 (.ref it) .none Y.env)) [] s := by
  have loop := seg_loop (iter := iter) (scope := scope) (pos := pos) CO hcalm T hg ht he hA hex hdis hpn hxe hco turn m a 0 n H s s hm hw hGI fun _ _ _ e => e
  show Seg _ A _ _ _ s _ ((compStart (.GeneratorExp elt [⟨tg, iter, ifs, 0⟩] scope pos) 0 (.ref it) .none Y.env).onRaise (leaving Y.env)) [] s
  unfold compStart
  rw [Sem.onRaise_eq_wrap]
  show Seg _ A _ _ _ s _ ((ask >>= _).wrap _ _ _ _) [] s
  refine seg_bind_wrap (wpAny_askSetting ?_)
  split
  · exact seg_again rfl loop
  · first
      | exact seg_bind_wrap (wpAny_rule (seg_bind_wrap (wpAny_standAt (seg_bind_wrap (T.self _ 0 s _ _ hGI.2.2.1 (seg_again rfl loop))))))
      | (refine seg_bind_wrap (wpAny_rule ?_); show Seg _ A _ _ _ s _ ((standAt iter.pos >>= _).wrap _ _ _ _) [] s; exact seg_bind_wrap (wpAny_standAt (seg_bind_wrap (T.self _ 0 s _ _ hGI.2.2.1 (seg_again rfl loop)))))

theorem repin {a : α} {h : Heap} {σ : L2.St} {H : Hp} {s' : Shared} (CO : ConOk C) (hat : C.at_ a h) (I : Inv Y (pinsAt C.fp h) σ H s') (hk : ∀ b ∈ C.fp, ∀ o, h.get? b = some o → s'.heap.get? b = some o) :
    Inv Y (pinsAt C.fp s'.heap) σ H s' := I.pins_of fun p hp => by
  obtain ⟨hb, e⟩ := of_pinsAt hp
  obtain ⟨o, e2, _⟩ := CO.obj _ _ hat p.1 hb
  have e3 := hk p.1 hb o e2
  rw [e] at e3
  cases e3
  exact I.pin (p.1, p.2) (List.mem_append_right _ (mem_pinsAt hb e2))

/-- one item of such a generator -/
theorem next_ge {A : Around} {ga : Addr} {go : Obj} {g i n : Nat} {gs : GenState} {a : α} {H : Hp} {Nx : α → Hp → Prop} {s : Shared} {Q : Option Value → Shared → Prop} {E : Value → Shared → Prop}
    (CO : ConOk C) (hh : A.handled = none) (hd : A.depth < recursionLimit) (hpn : (ga, go) ∈ Y.pn) (hgo : ∀ h : Heap, h.get? ga = some go → h.IsGen ga g) (hgs : s.gens[g]? = some gs)
    (gi : GI Y C fpI tn a i H s) (hN : Nx a H)
    (goes : ∀ a' s'', GI Y C fpI tn a' i H s'' → Nx a' H → gs.Goes (model Y.prog Y.w) A.in1 (GRr Y C Fin) (GP Y C fpI tn Out) n (.send .none) s'')
    (hsome : ∀ i1 H1 y v Nx1 s1 gs1, RelV y v → GI Y C fpI tn a i1 H1 s1 → Out a y H1 Nx1 → s1.gens[g]? = some gs1 →
      GoOn (model Y.prog Y.w) A.in1 (GRr Y C Fin) (GP Y C fpI tn Out) (fun a' s'' => GI Y C fpI tn a' i1 H1 s'') (fun a' => Nx1 a' H1) gs1 n → Q (some v) s1)
    (hnone : ∀ H1 s1, Inv Y (pinsAt C.fp s1.heap) (nones Y.N.length) H1 s1 → C.at_ a s1.heap → Fin a H1 → Q none s1) :
    wpAny (model Y.prog Y.w) A (pyNext (.ref ga)) Q E s := by
  obtain ⟨I, hat, st, hn0⟩ := id gi
  have hlt : g < s.gens.size := by
    rcases Nat.lt_or_ge g s.gens.size with h' | h'
    · exact h'
    · rw [Array.getElem?_eq_none h'] at hgs; cases hgs
  refine wpAny_gsz (n := g + 1) hlt ?_
  have gi' : GI Y C fpI tn a i H (s.setGen g .running) := ⟨Inv.gensG I (bare_setGen I.bare rfl), hat, st, hn0⟩
  have hig : s.heap.IsGen ga g := hgo _ (I.pin (ga, go) (List.mem_append_left _ hpn)).1
  refine wpAny_pyNext_genexpQ (P := GF Y C Fin) (Y := GP Y C fpI tn Out) hh I.nolimit hd hig hgs (goes a _ gi' hN) (fun v s1 gs1 hb hv => ?_) (fun s1 hp h' hk => ?_)
  · obtain ⟨a1, i1, H1, y, Nx1, rv, gi1, o1, since, kap⟩ := hv
    have hat1 : C.at_ a s1.heap := CO.keep _ _ _ hat since
    have ea : a1 = a := CO.inj _ _ _ gi1.2.1 hat1
    subst ea
    intro hsz
    have hlt1 : g < s1.gens.size := by
      rw [setGen_size] at hsz
      exact hsz
    have gi2 : GI Y C fpI tn a1 i1 H1 (s1.setGen g gs1) := ⟨Inv.gensG gi1.1 (bare_setGen gi1.1.bare hb), gi1.2.1, gi1.2.2.1, gi1.2.2.2⟩
    refine hsome i1 H1 y v Nx1 _ gs1 rv gi2 o1 (by simp [Shared.setGen, hlt1]) ?_
    cases n with
    | zero => exact fun a' s'' q1 q2 => kap a' s'' q1 q2
    | succ n1 => exact fun a' s'' q1 q2 => kap a' s'' q1 q2
  · obtain ⟨a1, H1, I1, hat1, since, fin⟩ := hp
    have ea : a1 = a := CO.inj _ _ _ hat1 (CO.keep _ _ _ hat since)
    subst ea
    intro _
    have I2 : Inv Y (pinsAt C.fp s1.heap) (nones Y.N.length) H1 { s1.setGen g .finished with heap := h' } := (Inv.gensG I1 (bare_setGen (x := .finished) (g := g) I1.bare rfl)).kept (t' := s1.toks) hk
    exact hnone H1 _ (repin CO hat1 I2 fun b _ o e => hk b o e) (CO.keep _ _ _ hat1 fun b _ o e => hk b o e) fin
end
end

section
variable {Y : Cx} {fpI : List Addr} {tn : Nat → Heap → Prop}
def outAll (QB : Bool → Hp → Prop) : Unit → V → Hp → (Unit → Hp → Prop) → Prop := fun _ y H Nx => ∃ c, y = .bl c ∧ if c = true then Nx () H else QB false H
def outAny (QB : Bool → Hp → Prop) : Unit → V → Hp → (Unit → Hp → Prop) → Prop := fun _ y H Nx => ∃ c, y = .bl c ∧ if c = true then QB true H else Nx () H
theorem all_loop {A : Around} {ga : Addr} {go : Obj} {g : Nat} {QB : Bool → Hp → Prop} {R : Result → Shared → Prop} (hh : A.handled = none) (hd : A.depth < recursionLimit) (hpn : (ga, go) ∈ Y.pn) (hgo : ∀ h : Heap, h.get? ga = some go → h.IsGen ga g)
    (hR : ∀ b s' H', Inv Y [] (nones Y.N.length) H' s' → QB b H' → R (.ok (.ret (.bool b))) s') :
    ∀ (n i : Nat) (H : Hp) (Nx : Unit → Hp → Prop) (s : Shared) (gs : GenState), s.gens[g]? = some gs → GI Y conU fpI tn () i H s → Nx () H →
      (∀ a' s'', GI Y conU fpI tn a' i H s'' → Nx a' H → gs.Goes (model Y.prog Y.w) A.in1.in1 (GRr Y conU fun _ H => QB true H) (GP Y conU fpI tn (outAll QB)) n (.send .none) s'') →
      codeAny (model Y.prog Y.w) A (.builtin "all.loop" ⟨[.ref ga], []⟩) R s := by
  intro n
  induction n with
  | zero =>
    intro i H Nx s gs hgs gi hN goes
    refine codeAny_builtin F.entry_all_loop ?_
    rw [Around.under_plainId F.plain_all_loop _]
    show wpAny _ A.in1 (pyNext (.ref ga) >>= _) _ _ s
    refine wpAny_bind (next_ge (A := A.in1) conU_ok hh hd hpn hgo hgs gi hN goes (fun i1 H1 y v Nx1 s1 gs1 rv gi1 o1 hg1 go1 => ?_) (fun H1 s1 I1 _ fin => ?_))
    · obtain ⟨c, rfl, hc⟩ := o1
      cases (show v = Value.bool c from rv)
      refine wpAny_bind (wpAny_holding (wpAny_truthy_bool ?_))
      refine wpAny_bind (wpAny_letGo ?_)
      cases c with
      | true => exact (go1 () s1 gi1 hc).elim
      | false =>
        simp only [Bool.false_eq_true, if_false]
        exact wpAny_bind (wpAny_rule (wpAny_pure (hR false s1 H1 gi1.1 hc)))
    · exact wpAny_bind (wpAny_rule (wpAny_pure (hR true s1 H1 I1 fin)))
  | succ n ih =>
    intro i H Nx s gs hgs gi hN goes
    refine codeAny_builtin F.entry_all_loop ?_
    rw [Around.under_plainId F.plain_all_loop _]
    show wpAny _ A.in1 (pyNext (.ref ga) >>= _) _ _ s
    refine wpAny_bind (next_ge (A := A.in1) conU_ok hh hd hpn hgo hgs gi hN goes (fun i1 H1 y v Nx1 s1 gs1 rv gi1 o1 hg1 go1 => ?_) (fun H1 s1 I1 _ fin => ?_))
    · obtain ⟨c, rfl, hc⟩ := o1
      cases (show v = Value.bool c from rv)
      refine wpAny_bind (wpAny_holding (wpAny_truthy_bool ?_))
      refine wpAny_bind (wpAny_letGo ?_)
      cases c with
      | true =>
        simp only [if_true]
        exact wpAny_pure ⟨plainId_quiet F.plain_all_loop _, ih i1 H1 Nx1 s1 gs1 hg1 gi1 hc go1⟩
      | false =>
        simp only [Bool.false_eq_true, if_false]
        exact wpAny_bind (wpAny_rule (wpAny_pure (hR false s1 H1 gi1.1 hc)))
    · exact wpAny_bind (wpAny_rule (wpAny_pure (hR true s1 H1 I1 fin)))
theorem any_loop {A : Around} {ga : Addr} {go : Obj} {g : Nat} {QB : Bool → Hp → Prop} {R : Result → Shared → Prop} (hh : A.handled = none) (hd : A.depth < recursionLimit) (hpn : (ga, go) ∈ Y.pn) (hgo : ∀ h : Heap, h.get? ga = some go → h.IsGen ga g)
    (hR : ∀ b s' H', Inv Y [] (nones Y.N.length) H' s' → QB b H' → R (.ok (.ret (.bool b))) s') :
    ∀ (n i : Nat) (H : Hp) (Nx : Unit → Hp → Prop) (s : Shared) (gs : GenState), s.gens[g]? = some gs → GI Y conU fpI tn () i H s → Nx () H →
      (∀ a' s'', GI Y conU fpI tn a' i H s'' → Nx a' H → gs.Goes (model Y.prog Y.w) A.in1.in1 (GRr Y conU fun _ H => QB false H) (GP Y conU fpI tn (outAny QB)) n (.send .none) s'') →
      codeAny (model Y.prog Y.w) A (.builtin "any.loop" ⟨[.ref ga], []⟩) R s := by
  intro n
  induction n with
  | zero =>
    intro i H Nx s gs hgs gi hN goes
    refine codeAny_builtin F.entry_any_loop ?_
    rw [Around.under_plainId F.plain_any_loop _]
    show wpAny _ A.in1 (pyNext (.ref ga) >>= _) _ _ s
    refine wpAny_bind (next_ge (A := A.in1) conU_ok hh hd hpn hgo hgs gi hN goes (fun i1 H1 y v Nx1 s1 gs1 rv gi1 o1 hg1 go1 => ?_) (fun H1 s1 I1 _ fin => ?_))
    · obtain ⟨c, rfl, hc⟩ := o1
      cases (show v = Value.bool c from rv)
      refine wpAny_bind (wpAny_holding (wpAny_truthy_bool ?_))
      refine wpAny_bind (wpAny_letGo ?_)
      cases c with
      | false => exact (go1 () s1 gi1 hc).elim
      | true =>
        simp only [if_true]
        exact wpAny_bind (wpAny_rule (wpAny_pure (hR true s1 H1 gi1.1 hc)))
    · exact wpAny_bind (wpAny_rule (wpAny_pure (hR false s1 H1 I1 fin)))
  | succ n ih =>
    intro i H Nx s gs hgs gi hN goes
    refine codeAny_builtin F.entry_any_loop ?_
    rw [Around.under_plainId F.plain_any_loop _]
    show wpAny _ A.in1 (pyNext (.ref ga) >>= _) _ _ s
    refine wpAny_bind (next_ge (A := A.in1) conU_ok hh hd hpn hgo hgs gi hN goes (fun i1 H1 y v Nx1 s1 gs1 rv gi1 o1 hg1 go1 => ?_) (fun H1 s1 I1 _ fin => ?_))
    · obtain ⟨c, rfl, hc⟩ := o1
      cases (show v = Value.bool c from rv)
      refine wpAny_bind (wpAny_holding (wpAny_truthy_bool ?_))
      refine wpAny_bind (wpAny_letGo ?_)
      cases c with
      | false =>
        simp only [Bool.false_eq_true, if_false]
        exact wpAny_pure ⟨plainId_quiet F.plain_any_loop _, ih i1 H1 Nx1 s1 gs1 hg1 gi1 hc go1⟩
      | true =>
        simp only [if_true]
        exact wpAny_bind (wpAny_rule (wpAny_pure (hR true s1 H1 gi1.1 hc)))
    · exact wpAny_bind (wpAny_rule (wpAny_pure (hR false s1 H1 I1 fin)))
end

/-! ### a generator expression is made -/
abbrev ce (X : Cx) (scope : Scope) (C : Addr) (code : Value) : Env := genEnv scope [] C code builtinsNs X.env
abbrev gx (X : Cx) (A : Around) (N : List Str) (s : Shared) (H : Hp) (cenv : Env) (fp : List Addr) (pn : List (Addr × Obj)) : Cx :=
  { X with A := A.deeper cenv, N := N, s_0 := s, H_0 := H, env := cenv, outer := X.stack, stack := cenv :: X.stack, ex := fp, fn := fun _ => false, calm := true, pn := pn, xe := fun _ _ => False }
structure GSc (scope : Scope) : Prop where
  kind : scope.kind = .function
  co : scope.isCoroutine = false
  own : ∀ y ∈ scope.names, y.2 ≠ .cell ∧ y.2 ≠ .free
  dot : scope.names.lookup (".0" : Str) = some NameKind.local
theorem cloFrom_nil {cells : List (Str × Addr)} : ∀ {names : List (Str × NameKind)} {acc : List (Str × Addr)}, (∀ y ∈ names, y.2 ≠ .free) → cloFrom cells names acc = acc
  | [], _, _ => rfl
  | (n, k) :: r, acc, h => by
    unfold cloFrom
    rw [if_neg (by simpa using h (n, k) List.mem_cons_self)]
    exact cloFrom_nil fun y hy => h y (List.mem_cons_of_mem _ hy)
theorem GSc.nocell {scope : Scope} (S : GSc scope) {x : Str} (h : scope.names.lookup x = some .cell ∨ scope.names.lookup x = some .free) : False := by
  rcases h with h | h
  · exact (S.own _ (PySem.mem_of_lookup h)).1 rfl
  · exact (S.own _ (PySem.mem_of_lookup h)).2 rfl
section
variable {X : Cx} {pins : List (Addr × Obj)} {σ : L2.St} {H : Hp} {s : Shared}
theorem ge_start {A : Around} {N : List Str} {scope : Scope} {code : Value} {fp : List Addr} {go : Obj} {G : Array GenState} {tk : Nat} {h5 : Heap} {m0 : Str → Option Value} (I : Inv X pins σ H s) (S : GSc scope) (hA : A.handled = none) (hf : A.frames = some X.stack)
    (hfp : ∀ b ∈ fp, FpOk X pins H b ∧ b < s.heap.objs.size) (hG : AllBare G) (hns : h5.Ns s.heap.objs.size m0) (hk : ∀ b o, s.heap.get? b = some o → h5.get? b = some o) (hgo : h5.get? (s.heap.objs.size + 1) = some go) (hgd : ∀ v, go.data ≠ .cell v) :
    Inv (gx X A N s H (ce X scope s.heap.objs.size code) fp [(s.heap.objs.size + 1, go)]) [] (nones N.length) H { s with gens := G, toks := tk, heap := h5 } := by
  have noc : ∀ x c, (ce X scope s.heap.objs.size code).cells.lookup x = some c → False := fun x c e => by simp [genEnv] at e
  have stkne : ∀ b, s.heap.objs.size ≤ b → b ∉ frs X.stack := fun b hb z => by
    rcases List.mem_cons.mp (I.stkSub b z) with e | e
    · exact absurd (Nat.lt_of_lt_of_le I.lt (by rw [← e]; exact hb)) (Nat.lt_irrefl _)
    · exact I.nofs hb e
  refine ⟨⟨I.ok.mod, S.kind, I.ok.glob, rfl, Nat.le_refl _, fun x y c h1 _ => (noc x c h1).elim, fun x hx => (S.nocell hx).elim, fun x c h _ => (by cases h), fun _ => hA, Around.frames_deeper hf, .inr ⟨rfl, rfl⟩, fun b hb => ⟨Nat.ne_of_lt (hfp b hb).2, fun x c e => (noc x c e).elim⟩,
    I.bs, Nat.le_trans I.ok.bsz I.sz, fun b o e hb => ?_, fun b hb z => ?_, I.stack, I.stkFree⟩, rfl, hG, Un.kept hk, ⟨m0, hns, fun i x v _ h2 _ => (nones_some h2).elim⟩, fun x c e => (noc x c e).elim, I.hok.fresh (Nat.le_refl _), fun x c e => (noc x c e).elim, fun p hp => ?_, I.hok.kept hk, List.length_replicate⟩
  · rcases (hfp b hb).1.2.2.2.1 with z | z
    · exact I.ok.noex b o e z
    · exact absurd (Nat.lt_of_lt_of_le (Heap.lt_size e) (Nat.le_trans I.ok.bsz z)) (Nat.lt_irrefl _)
  · rcases List.mem_cons.mp (I.stkSub b z) with e | e
    · exact (hfp b hb).1.2.1 e
    · exact (hfp b hb).1.2.2.1 e
  · have hp' : p ∈ [(s.heap.objs.size + 1, go)] := by simpa using hp
    rw [List.mem_singleton.mp hp']
    exact ⟨hgo, I.hok.fresh (Nat.le_succ _), Nat.succ_ne_self _, stkne _ (Nat.le_succ _), hgd⟩
/-- back in the def that asked -/
theorem ge_back {A : Around} {N : List Str} {cenv : Env} {fp : List Addr} {pn pins' : List (Addr × Obj)} {σ' : L2.St} {H' : Hp} {s' : Shared} (I : Inv X pins σ H s) (hfp : ∀ b ∈ fp, FpOk X pins H b ∧ b < s.heap.objs.size)
    (J : Inv (gx X A N s H cenv fp pn) pins' σ' H' s') : Inv X pins σ H' s' :=
  I.call' (ch := fp) J.os J.base J.hok J.bare fun b hb => ⟨(hfp b hb).1.2.2.2.1, (hfp b hb).1.2.1, (hfp b hb).1.2.2.2.2.1, (hfp b hb).1.2.2.2.2.2⟩
theorem room3 {k : Nat} {A : Around} (r : Room (k + 1) A) (env : Env) : Room k (A.in1.in1.deeper env) :=
  ⟨r.hd, by have := r.dp; show A.depth + 1 + 3 * k + 5 < _; omega, by have := r.un; show A.units + 1 + 1 + 3 + 16 * k + 200 < _; omega⟩

theorem gen_make {c P : Addr} {elt tg iter : Expr} {ifs : List Expr} {gpos : Pos} {scope : Scope} {wi : TI} {k : Nat} {Q' : Value → Shared → Prop} {R : It → Hp → Prop}
    (hr : Room k X.A) (TB : GxR.TabB X.base X.mg c P) (hcode : X.env.code = .ref c) (S : GSc scope) (hi : PI X tg iter wi) (hs : ∀ v, genFold iter X.env v = pure v) (I : Inv X pins σ H s) (h : wi σ H fun J H1 => GxR.TabG H1 P ∧ R J H1)
    (hQ : ∀ J H1 H2 s4 s5 code fp it tn go g, R J H1 → GxR.Tabbed P H1 H2 → Inv X pins σ H2 s4 → (∀ b ∈ fp, FpOk X pins H2 b ∧ b < s4.heap.objs.size) → Turn X.prog X.w X.K tg J fp it tn → tn 0 s5.heap →
      (∀ A N, A.handled = none → A.frames = some X.stack → Inv (gx X A N s4 H2 (ce X scope s4.heap.objs.size code) fp [(s4.heap.objs.size + 1, go)]) [] (nones N.length) H2 s5) →
      (∀ h : Heap, h.get? (s4.heap.objs.size + 1) = some go → h.IsGen (s4.heap.objs.size + 1) g) →
      s5.gens[g]? = some (.fresh (.compStart (.GeneratorExp elt [⟨tg, iter, ifs, 0⟩] scope gpos) 0 (.ref it) .none (ce X scope s4.heap.objs.size code))) → Q' (.ref (s4.heap.objs.size + 1)) s5) :
    wpAny (model X.prog X.w) X.A (eval (.GeneratorExp elt [⟨tg, iter, ifs, 0⟩] scope gpos) X.env) Q' X.xe s := by
  have hcl : closureFor scope X.env = pure [] := by
    rw [closure_ok fun y hy e => absurd e (S.own y hy).2, cloFrom_nil fun y hy => (S.own y hy).2]
  refine wpAny_GeneratorExp_make S.co hcl (fun y hy => (S.own y hy).1) S.dot S.kind (by have := hr.dp; omega) (thn (hi.run pins s σ H _ I h) fun xv s1 hx => thn hx fun itv s2 h2 => ?_) hs
  obtain ⟨it, fp, tn, J, H1, e, I2, T, st2, f2, ⟨ps, hP, ht⟩, q1⟩ := h2
  subst e
  have hPs : s2.heap.get? P = some { cls := .none, data := .fields ps } := I2.hok P _ hP
  have cd : PySem.W.CodeHd s2.heap c P := TB.code.keeps fun b u e => I2.bk b u e
  have nfp : ∀ b ∈ fp, b ≠ P := fun b hb z => by
    have := (f2 b hb).1
    rw [z, hP] at this
    cases this
  have szf : ∀ b ∈ fp, b < s2.heap.objs.size := fun b hb => by
    obtain ⟨o, e, _⟩ := T.obj _ _ st2 b hb
    exact Heap.lt_size e
  have cont : ∀ (code : Value) (h3 : Heap) (tk : Nat) (ps' : Array Value), Heap.ExtBut P s2.heap h3 → s2.heap.objs.size ≤ h3.objs.size → h3.get? P = some { cls := .none, data := .fields ps' } → (∃ more, ps' = ps ++ more) → TriplesOk ps'.toList →
      wpAny (model X.prog X.w) X.A (builtinsFor X.env.globals X.env.builtins) (fun bi s4 =>
        ∀ h', h'.Ns s4.heap.objs.size (fun y => if y = ".0" then some (.ref it) else none) → Heap.SameBut s4.heap.objs.size (s4.heap.push { cls := .type "frame", data := .dict #[] }) h' →
          Q' (.ref h'.objs.size) { s4 with
            gens := s4.gens.push (.fresh (.compStart (.GeneratorExp elt [⟨tg, iter, ifs, 0⟩] scope gpos) 0 (.ref it) .none (genEnv scope [] s4.heap.objs.size code bi X.env))),
            toks := s4.toks + 1 + 1 + 1,
            heap := h'.push { cls := .type "generator", data := .fields #[.int s4.gens.size 0, .str "<genexpr>" (s4.toks + 1), .str (X.env.qual ++ "<genexpr>") (s4.toks + 1 + 1)] } }) X.xe { s2 with heap := h3, toks := tk } := by
    intro code h3 tk ps' hx hsz hP3 hmore ht3
    obtain ⟨bm, ob, e1, e2, e3, e4, e5, e6, e7, e8⟩ := TB.bm
    obtain ⟨more, rfl⟩ := hmore
    have I3 : Inv X pins σ (upd H1 P (.tbl (ps ++ more))) { s2 with heap := h3, toks := tk } := GxR.inv_tab (more := more) (g' := s2.gens) (d' := s2.drawn) I2 hP (fun b u hb e => hx b u hb e) hP3 I2.bare
    have tab : GxR.Tabbed P H1 (upd H1 P (.tbl (ps ++ more))) := ⟨⟨_, upd_same, ht3⟩, fun b hb => upd_ne hb⟩
    have st3 : tn 0 h3 := T.keep _ _ _ st2 fun b hb o e => hx b o (nfp b hb) e
    have f3 : ∀ b ∈ fp, FpOk X pins (upd H1 P (.tbl (ps ++ more))) b ∧ b < h3.objs.size := fun b hb =>
      ⟨⟨by rw [upd_ne (nfp b hb)]; exact (f2 b hb).1, (f2 b hb).2⟩, Nat.lt_of_lt_of_le (szf b hb) hsz⟩
    refine wpAny_builtinsFor (m := X.mg) (by rw [I3.ok.glob]; exact I3.mod.glob.keeps I3.bk) e1 e2 (I3.bk _ _ e5) e6 e7 e8 ?_
    intro h' hns hsb
    have hsz' : h'.objs.size = h3.objs.size + 1 := by rw [hsb.1, Heap.size_push]
    have keep' : ∀ b o, h3.get? b = some o → h'.get? b = some o := fun b o e => hsb.extBut b o (Nat.ne_of_lt (Heap.lt_size e)) (Heap.get?_push_of_some _ e)
    have main : ∀ (go : Obj), go.cls = .type "generator" → (∃ nm qn, go.data = .fields #[.int s2.gens.size 0, nm, qn]) → go.slots = #[] → (∀ h : Heap, (h.push go).get? h.objs.size = some go) → ∀ t',
        Q' (.ref h'.objs.size) { s2 with heap := h'.push go, toks := t', gens := s2.gens.push (.fresh (.compStart (.GeneratorExp elt [⟨tg, iter, ifs, 0⟩] scope gpos) 0 (.ref it) .none (genEnv scope [] h3.objs.size code builtinsNs X.env))) } := by
      intro go gc ⟨nm, qn, gd⟩ gsl gp t'
      have hgp := gp h'
      rw [hsz'] at hgp ⊢
      have keep5 : ∀ b o, h3.get? b = some o → (h'.push go).get? b = some o := fun b o e => Heap.get?_push_of_some _ (keep' b o e)
      refine hQ J H1 (upd H1 P (.tbl (ps ++ more))) { s2 with heap := h3, toks := tk } _ code fp it tn go s2.gens.size q1 tab I3 f3 T (T.keep _ _ _ st3 fun b _ o e => keep5 b o e) (fun A N hA hf => ?_) (fun h e => ⟨go, nm, qn, e, gc, gd, gsl⟩) (Array.getElem?_push_size ..)
      exact ge_start (s := { s2 with heap := h3, toks := tk }) I3 S hA hf f3 (I2.bare.push rfl) (hns.push _) keep5 hgp (fun v z => by rw [gd] at z; cases z)
    exact main _ rfl ⟨_, _, rfl⟩ rfl (fun h => Heap.get?_push_size _ rfl) _
  refine ⟨I2.nolimit, ?_⟩
  cases hf : codeAmong gpos ps.toList with
  | none =>
    refine wpAny_genexprCodeX hcode (cd.code hPs ht) (cd.tab hPs) hf fun c' h' tk hx hge hlt hco' _ htab' _ => ?_
    obtain ⟨o1, vs, f1, tf, fl, tg', inF, tx, tt, op, _, _, _, _, _, _, _, _, _, htr, _⟩ := hco'
    exact cont _ h' tk _ hx (Nat.le_trans hge (Nat.le_of_lt hlt)) htab'.2 ⟨_, rfl⟩ htr
  | some cv =>
    refine wpAny_genexprCode_hit hcode (cd.code hPs ht) hf ?_
    exact cont cv s2.heap s2.toks ps (Heap.ExtBut.refl _ _) (Nat.le_refl _) hPs ⟨#[], by simp⟩ ht

/-! ### all and any of one -/
def tGen (P : Addr) (n0 : Nat) (wi : TI) (g : TG) (tt : TT) (te : TE) (Out : (Bool → Hp → Prop) → Unit → V → Hp → (Unit → Hp → Prop) → Prop) (fin : Bool) : TE := fun σ H Q => wi σ H fun J H1 => GxR.TabG H1 P ∧ ∀ H2, GxR.Tabbed P H1 H2 →
  ∃ W : Unit → Nat → Nat → Hp → Prop, (∃ m, W () 0 m H2) ∧ TurnOf J n0 g tt te (Out fun b H => Q (.bl b) H) (fun _ H => Q (.bl fin) H) W
theorem pe_allG {N : List Str} {c P : Addr} {elt tg iter : Expr} {ifs : List Expr} {p pos gpos : Pos} {scope : Scope} {wi : TI} {g : TG} {tt : TT} {te : TE} {k : Nat}
    (hr : Room (k + 1) X.A) (hgl : Gl X "all") (hm : X.mg "all" = none) (TB : GxR.TabB X.base X.mg c P) (hcode : X.env.code = .ref c) (S : GSc scope) (hi : PI X tg iter wi)
    (hg : ∀ (A : Around) (s : Shared) (H : Hp) (C : Addr) (code : Value) (fp : List Addr) (pn : List (Addr × Obj)), Room k (A.deeper (ce X scope C code)) → PG (gx X A N s H (ce X scope C code) fp pn) tg g)
    (ht : ∀ (A : Around) (s : Shared) (H : Hp) (C : Addr) (code : Value) (fp : List Addr) (pn : List (Addr × Obj)), Room k (A.deeper (ce X scope C code)) → PTs (gx X A N s H (ce X scope C code) fp pn) ifs tt)
    (he : ∀ (A : Around) (s : Shared) (H : Hp) (C : Addr) (code : Value) (fp : List Addr) (pn : List (Addr × Obj)), Room k (A.deeper (ce X scope C code)) → PE (gx X A N s H (ce X scope C code) fp pn) elt te)
    (hs : ∀ v, genFold iter X.env v = pure v := by intro _; rfl)
    (hb : bootBuiltins "all" = some (.builtin "all") := by decide +kernel)
    (hst : starEach [.GeneratorExp elt [⟨tg, iter, ifs, 0⟩] scope gpos] X.env = (false, eval (.GeneratorExp elt [⟨tg, iter, ifs, 0⟩] scope gpos) X.env) :: starEach [] X.env := by rfl) :
    PE X (.Call (.Name "all" p) [.GeneratorExp elt [⟨tg, iter, ifs, 0⟩] scope gpos] [] pos) (tGen P N.length wi g tt te outAll true) := by
  refine ⟨fun pins s σ H Q I h => ?_⟩
  refine wpAny_Call_Name_kw (ld_blt I hgl hm hb ?_)
  refine PyProof.Rows.callWith_builtin1 ?_ hst (by rfl)
  rw [hst]
  show wpAny _ _ (spliced ((false, eval (.GeneratorExp elt [⟨tg, iter, ifs, 0⟩] scope gpos) X.env) :: backTo pos (starEach [] X.env))) _ _ s
  refine Calls.spliced_cons (gen_make hr TB hcode S hi hs I h fun J H1 H2 s4 s5 code fp it tn go gn hR tab I4 f4 T st5 mk hgo hgs => ?_)
  refine Calls.spliced_nil ?_
  obtain ⟨W, ⟨m0, w0⟩, turn⟩ := hR H2 tab
  have rY := room3 hr (ce X scope s4.heap.objs.size code)
  have I5 := mk X.A.in1.in1 N hr.hd I.ok.frames
  generalize hpn : [(s4.heap.objs.size + 1, go)] = pn at I5
  have hpm : (s4.heap.objs.size + 1, go) ∈ pn := by rw [← hpn]; exact List.mem_singleton.mpr rfl
  have hpf : ∀ p ∈ pn, p.1 ∉ fp := fun p hp z => by
    rw [← hpn] at hp
    rw [List.mem_singleton.mp hp] at z
    exact absurd (f4 _ z).2 (Nat.not_lt.mpr (Nat.le_succ _))
  have gi0 : GI (gx X X.A.in1.in1 N s4 H2 (ce X scope s4.heap.objs.size code) fp pn) conU fp tn () 0 H2 s5 := ⟨I5, trivial, st5, fun b hb => (f4 b hb).1.1⟩
  have isg := hgo _ (I5.pin _ (List.mem_append_left _ hpm)).1
  refine call_function_tree F.kind_all F.plain_all F.entry_all (F.args_all1 _) ?_
  unfold Builtin.«all»
  refine wpAny_bind (m := oneArg "all" _) (wpAny_pure ?_)
  refine wpAny_bind (wpAny_pyIter_gen isg ?_)
  refine wpAny_pure ⟨plainId_quiet F.plain_all_loop _, ?_⟩
  refine all_loop (Y := gx X X.A.in1.in1 N s4 H2 (ce X scope s4.heap.objs.size code) fp pn) (A := X.A) (g := gn) (QB := fun b H => Q (.bl b) H) hr.hd hr.depth hpm hgo (fun b s' H' I' q => ?_) (m0 + 1) 0 H2 (fun a H => W a 0 m0 H) s5 _ hgs gi0 w0 (fun a' s'' gi' w' => ?_)
  · exact ⟨.bl b, H', ge_back I4 f4 I', rfl, q⟩
  · exact ⟨rfl, seg_start (Y := gx X X.A.in1.in1 N s4 H2 (ce X scope s4.heap.objs.size code) fp pn) conU_ok rfl T (hg _ _ _ _ _ _ _ rY) (ht _ _ _ _ _ _ _ rY) (he _ _ _ _ _ _ _ rY) rfl (fun b hb => hb) (fun b hb => nomatch hb) hpf rfl S.co turn m0 a' (m0 + 1) H2 s'' (Nat.lt_succ_self _) w' gi'⟩
theorem pe_anyG {N : List Str} {c P : Addr} {elt tg iter : Expr} {ifs : List Expr} {p pos gpos : Pos} {scope : Scope} {wi : TI} {g : TG} {tt : TT} {te : TE} {k : Nat}
    (hr : Room (k + 1) X.A) (hgl : Gl X "any") (hm : X.mg "any" = none) (TB : GxR.TabB X.base X.mg c P) (hcode : X.env.code = .ref c) (S : GSc scope) (hi : PI X tg iter wi)
    (hg : ∀ (A : Around) (s : Shared) (H : Hp) (C : Addr) (code : Value) (fp : List Addr) (pn : List (Addr × Obj)), Room k (A.deeper (ce X scope C code)) → PG (gx X A N s H (ce X scope C code) fp pn) tg g)
    (ht : ∀ (A : Around) (s : Shared) (H : Hp) (C : Addr) (code : Value) (fp : List Addr) (pn : List (Addr × Obj)), Room k (A.deeper (ce X scope C code)) → PTs (gx X A N s H (ce X scope C code) fp pn) ifs tt)
    (he : ∀ (A : Around) (s : Shared) (H : Hp) (C : Addr) (code : Value) (fp : List Addr) (pn : List (Addr × Obj)), Room k (A.deeper (ce X scope C code)) → PE (gx X A N s H (ce X scope C code) fp pn) elt te)
    (hs : ∀ v, genFold iter X.env v = pure v := by intro _; rfl)
    (hst : starEach [.GeneratorExp elt [⟨tg, iter, ifs, 0⟩] scope gpos] X.env = (false, eval (.GeneratorExp elt [⟨tg, iter, ifs, 0⟩] scope gpos) X.env) :: starEach [] X.env := by rfl) :
    PE X (.Call (.Name "any" p) [.GeneratorExp elt [⟨tg, iter, ifs, 0⟩] scope gpos] [] pos) (tGen P N.length wi g tt te outAny false) := by
  refine ⟨fun pins s σ H Q I h => ?_⟩
  refine wpAny_Call_Name_kw (ld_blt I hgl hm boot_any ?_)
  refine PyProof.Rows.callWith_builtin1 ?_ hst (by rfl)
  rw [hst]
  show wpAny _ _ (spliced ((false, eval (.GeneratorExp elt [⟨tg, iter, ifs, 0⟩] scope gpos) X.env) :: backTo pos (starEach [] X.env))) _ _ s
  refine Calls.spliced_cons (gen_make hr TB hcode S hi hs I h fun J H1 H2 s4 s5 code fp it tn go gn hR tab I4 f4 T st5 mk hgo hgs => ?_)
  refine Calls.spliced_nil ?_
  obtain ⟨W, ⟨m0, w0⟩, turn⟩ := hR H2 tab
  have rY := room3 hr (ce X scope s4.heap.objs.size code)
  have I5 := mk X.A.in1.in1 N hr.hd I.ok.frames
  generalize hpn : [(s4.heap.objs.size + 1, go)] = pn at I5
  have hpm : (s4.heap.objs.size + 1, go) ∈ pn := by rw [← hpn]; exact List.mem_singleton.mpr rfl
  have hpf : ∀ p ∈ pn, p.1 ∉ fp := fun p hp z => by
    rw [← hpn] at hp
    rw [List.mem_singleton.mp hp] at z
    exact absurd (f4 _ z).2 (Nat.not_lt.mpr (Nat.le_succ _))
  have gi0 : GI (gx X X.A.in1.in1 N s4 H2 (ce X scope s4.heap.objs.size code) fp pn) conU fp tn () 0 H2 s5 := ⟨I5, trivial, st5, fun b hb => (f4 b hb).1.1⟩
  have isg := hgo _ (I5.pin _ (List.mem_append_left _ hpm)).1
  refine call_function_tree F.kind_any F.plain_any F.entry_any (F.args_any1 _) ?_
  unfold Builtin.«any»
  refine wpAny_bind (m := oneArg "any" _) (wpAny_pure ?_)
  refine wpAny_bind (wpAny_pyIter_gen isg ?_)
  refine wpAny_pure ⟨plainId_quiet F.plain_any_loop _, ?_⟩
  refine any_loop (Y := gx X X.A.in1.in1 N s4 H2 (ce X scope s4.heap.objs.size code) fp pn) (A := X.A) (g := gn) (QB := fun b H => Q (.bl b) H) hr.hd hr.depth hpm hgo (fun b s' H' I' q => ?_) (m0 + 1) 0 H2 (fun a H => W a 0 m0 H) s5 _ hgs gi0 w0 (fun a' s'' gi' w' => ?_)
  · exact ⟨.bl b, H', ge_back I4 f4 I', rfl, q⟩
  · exact ⟨rfl, seg_start (Y := gx X X.A.in1.in1 N s4 H2 (ce X scope s4.heap.objs.size code) fp pn) conU_ok rfl T (hg _ _ _ _ _ _ _ rY) (ht _ _ _ _ _ _ _ rY) (he _ _ _ _ _ _ _ rY) rfl (fun b hb => hb) (fun b hb => nomatch hb) hpf rfl S.co turn m0 a' (m0 + 1) H2 s'' (Nat.lt_succ_self _) w' gi'⟩

/-! ### sum of one -/
def sumObj (a : Int) (t : Tok) (c : Nat) : Obj := { cls := .type "list", dict := none, data := .seq #[.int a t] c, slots := #[] }
def conS (S : Addr) : Con Int := ⟨[S], fun a h => ∃ t c, h.get? S = some (sumObj a t c)⟩
theorem conS_ok (S : Addr) : ConOk (conS S) :=
  ⟨(fun a h ⟨t, c, e⟩ b hb => by
      rw [List.mem_singleton.mp hb]
      exact ⟨_, e, fun v z => by cases z⟩),
   (fun a h h' ⟨t, c, e⟩ k => ⟨t, c, k S (List.mem_singleton.mpr rfl) _ e⟩),
   (fun a b h ⟨t, c, e⟩ ⟨t', c', e'⟩ => by
      rw [e] at e'
      have z : Data.seq #[Value.int a t] c = Data.seq #[Value.int b t'] c' := congrArg Obj.data (Option.some.inj e')
      injection z with z1 _
      have z2 : [Value.int a t] = [Value.int b t'] := congrArg Array.toList z1
      injection z2 with z3 _
      injection z3)⟩
def outSum : Int → V → Hp → (Int → Hp → Prop) → Prop := fun a y H Nx => ∃ v, y = .int v ∧ Nx (a + v) H
structure ApS (Y : Cx) (S : Addr) : Prop where
  young : Y.s_0.heap.objs.size ≤ S
  loc : S ≠ Y.env.locals
  cell : ∀ x c, Y.env.cells.lookup x = some c → c ≠ S
  pn : ∀ p ∈ Y.pn, p.1 ≠ S
theorem gi_upd {Y : Cx} {fpI : List Addr} {tn : Nat → Heap → Prop} {S : Addr} {a v : Int} {i : Nat} {H : Hp} {s : Shared} {tk : Nat} {h' : Heap} {t : Tok} {c : Nat} (hSf : S ∉ fpI) (ap : ApS Y S) (keepT : ∀ i h h', tn i h → (∀ b ∈ fpI, ∀ o, h.get? b = some o → h'.get? b = some o) → tn i h')
    (gi : GI Y (conS S) fpI tn a i H s) (hk : ∀ b o, b ≠ S → s.heap.get? b = some o → h'.get? b = some o) (hS : h'.get? S = some (sumObj v t c)) : GI Y (conS S) fpI tn v i H { s with heap := h', toks := tk } := by
  obtain ⟨I, ⟨t0, c0, e0⟩, st, hn⟩ := gi
  obtain ⟨_, p2, p3, p4, _⟩ := I.pin (S, sumObj a t0 c0) (List.mem_append_right _ (mem_pinsAt (List.mem_singleton.mpr rfl) e0))
  have I0 : Inv Y [] (nones Y.N.length) H s := I.pins_of fun p hp => by cases hp
  have I1 : Inv Y [] (nones Y.N.length) H { s with heap := h', toks := tk } := I0.turned (it := S) (fun b o hb e => hk b o hb e) p2 p3 (.inr ap.young) ap.cell fun p hp => (List.mem_append.mp hp).elim (fun z => ap.pn p z) fun z => by cases z
  refine ⟨I1.pins_of fun p hp => ?_, ⟨t, c, hS⟩, keepT _ _ _ st fun b hb o e => hk b o (fun z => hSf (z ▸ hb)) e, hn⟩
  obtain ⟨hb, e⟩ := of_pinsAt hp
  have eS : p.1 = S := List.mem_singleton.mp hb
  rw [eS] at e ⊢
  have e' : h'.get? S = some p.2 := e
  rw [hS] at e'
  refine ⟨e, p2, p3, p4, fun v z => ?_⟩
  rw [← Option.some.inj e'] at z
  cases z
theorem sum_loop {Y : Cx} {fpI : List Addr} {tn : Nat → Heap → Prop} {A : Around} {ga : Addr} {go : Obj} {g : Nat} {S : Addr} {QI : Int → Hp → Prop} {R : Result → Shared → Prop} (hSf : S ∉ fpI) (ap : ApS Y S) (keepT : ∀ i h h', tn i h → (∀ b ∈ fpI, ∀ o, h.get? b = some o → h'.get? b = some o) → tn i h')
    (hh : A.handled = none) (hd : A.depth < recursionLimit) (hpn : (ga, go) ∈ Y.pn) (hgo : ∀ h : Heap, h.get? ga = some go → h.IsGen ga g)
    (hR : ∀ a t' s' H', Inv Y [] (nones Y.N.length) H' s' → QI a H' → R (.ok (.ret (.int a t'))) s') :
    ∀ (n i : Nat) (H : Hp) (Nx : Int → Hp → Prop) (s : Shared) (gs : GenState) (a : Int) (t : Tok) (c : Nat) (st : Int), (st = 0 ∨ st = 2) → s.gens[g]? = some gs → GI Y (conS S) fpI tn a i H s → s.heap.get? S = some (sumObj a t c) → Nx a H →
      (∀ a' s'', GI Y (conS S) fpI tn a' i H s'' → Nx a' H → gs.Goes (model Y.prog Y.w) A.in1.in1 (GRr Y (conS S) QI) (GP Y (conS S) fpI tn outSum) n (.send .none) s'') →
      codeAny (model Y.prog Y.w) A (.builtin "sum.loop" ⟨[.ref ga, .ref S, rawInt st, rawInt 0], []⟩) R s := by
  -- what a turn comes to, the loop going on or not
  have turn : ∀ (n i : Nat) (H : Hp) (Nx : Int → Hp → Prop) (s : Shared) (gs : GenState) (a : Int) (t : Tok) (c : Nat) (st : Int), (st = 0 ∨ st = 2) → s.gens[g]? = some gs → GI Y (conS S) fpI tn a i H s → s.heap.get? S = some (sumObj a t c) → Nx a H →
      (∀ a' s'', GI Y (conS S) fpI tn a' i H s'' → Nx a' H → gs.Goes (model Y.prog Y.w) A.in1.in1 (GRr Y (conS S) QI) (GP Y (conS S) fpI tn outSum) n (.send .none) s'') →
      (∀ (i1 : Nat) (H1 : Hp) (Nx1 : Int → Hp → Prop) (s1 : Shared) (gs1 : GenState) (b : Int) (t1 : Tok) (c1 : Nat) (st1 : Int), (st1 = 0 ∨ st1 = 2) → s1.gens[g]? = some gs1 → GI Y (conS S) fpI tn b i1 H1 s1 → s1.heap.get? S = some (sumObj b t1 c1) → Nx1 b H1 →
        GoOn (model Y.prog Y.w) A.in1.in1 (GRr Y (conS S) QI) (GP Y (conS S) fpI tn outSum) (fun a' s'' => GI Y (conS S) fpI tn a' i1 H1 s'') (fun a' => Nx1 a' H1) gs1 n →
        codeAny (model Y.prog Y.w) A (.builtin "sum.loop" ⟨[.ref ga, .ref S, rawInt st1, rawInt 0], []⟩) R s1) →
      codeAny (model Y.prog Y.w) A (.builtin "sum.loop" ⟨[.ref ga, .ref S, rawInt st, rawInt 0], []⟩) R s := by
    intro n i H Nx s gs a t c st hst2 hgs gi hS hN goes again
    refine codeAny_builtin F.entry_sum_loop ?_
    rw [Around.under_plainId F.plain_sum_loop _]
    show wpAny _ A.in1 (seqItems? (.ref S) >>= _) _ _ s
    refine wpAny_bind (wpAny_seqItems hS rfl ?_)
    show wpAny _ A.in1 (tryCatch (pyNext (.ref ga)) _ >>= _) _ _ s
    refine wpAny_bind (wpAny_tryCatch (next_ge (A := A.in1) (conS_ok S) hh hd hpn hgo hgs gi hN goes (fun i1 H1 y v Nx1 s1 gs1 rv gi1 o1 hg1 go1 => ?_) (fun H1 s1 I1 _ fin => ?_)))
    · obtain ⟨v', rfl, hc⟩ := o1
      obtain ⟨t', rfl⟩ := (show ∃ t', v = Value.int v' t' from rv)
      obtain ⟨tS, cS, hS'⟩ := gi1.2.1
      rcases hst2 with rfl | rfl
      · show wpAny _ A.in1 (if (_ : Bool) = true then (mkInt (a + v') >>= _) else _) _ _ _
        split
        · refine wpAny_bind (wpAny_mkInt ?_)
          show wpAny _ A.in1 (updateSeq S (fun _ => #[.int (a + v') s1.toks]) >>= _) _ _ _
          refine wpAny_bind ?_
          refine wpAny_updateSeq hS' rfl (wpAny_pure ⟨plainId_quiet F.plain_sum_loop _, ?_⟩)
          refine again i1 H1 Nx1 _ gs1 (a + v') s1.toks _ 0 (.inl rfl) hg1 (gi_upd (t := s1.toks) (s := s1) hSf ap keepT gi1 (fun b o hb e => (Heap.get?_update_other _ _ (Ne.symm hb)).trans e) (Heap.get?_update_self _ hS' rfl)) (Heap.get?_update_self _ hS' rfl) hc go1
        · refine wpAny_bind (wpAny_rule ?_)
          refine wpAny_bind (wpAny_attempt (wpAny_holding (wpAny_add_int ?_)))
          show wpAny _ A.in1 (updateSeq S (fun _ => #[.int (a + v') s1.toks]) >>= _) _ _ _
          refine wpAny_bind (wpAny_updateSeq hS' rfl ?_)
          have hS₂ := Heap.get?_update_self (Obj.mapSeq fun _ => #[Value.int (a + v') s1.toks]) hS' rfl
          refine wpAny_bind (wpAny_letGo ?_)
          refine wpAny_bind (wpAny_updateSeq hS₂ rfl (wpAny_pure ⟨plainId_quiet F.plain_sum_loop _, ?_⟩))
          refine again i1 H1 Nx1 _ gs1 (a + v') s1.toks _ 2 (.inr rfl) hg1 (gi_upd (t := s1.toks) (s := s1) hSf ap keepT gi1 (fun b o hb e => (Heap.get?_update_other _ _ (Ne.symm hb)).trans ((Heap.get?_update_other _ _ (Ne.symm hb)).trans e)) (Heap.get?_update_self _ hS₂ rfl)) (Heap.get?_update_self _ hS₂ rfl) hc go1
      · show wpAny _ A.in1 ((holding [Value.int v' t'] (binaryOp .Add (.int a t) (.int v' t'))).attempt >>= _) _ _ _
        refine wpAny_bind (wpAny_attempt (wpAny_holding (wpAny_add_int ?_)))
        show wpAny _ A.in1 (updateSeq S (fun _ => #[.int (a + v') s1.toks]) >>= _) _ _ _
        refine wpAny_bind (wpAny_updateSeq hS' rfl ?_)
        have hS₂ := Heap.get?_update_self (Obj.mapSeq fun _ => #[Value.int (a + v') s1.toks]) hS' rfl
        refine wpAny_bind (wpAny_letGo ?_)
        refine wpAny_bind (wpAny_updateSeq hS₂ rfl (wpAny_pure ⟨plainId_quiet F.plain_sum_loop _, ?_⟩))
        refine again i1 H1 Nx1 _ gs1 (a + v') s1.toks _ 2 (.inr rfl) hg1 (gi_upd (t := s1.toks) (s := s1) hSf ap keepT gi1 (fun b o hb e => (Heap.get?_update_other _ _ (Ne.symm hb)).trans ((Heap.get?_update_other _ _ (Ne.symm hb)).trans e)) (Heap.get?_update_self _ hS₂ rfl)) (Heap.get?_update_self _ hS₂ rfl) hc go1
    · exact wpAny_pure (hR a t s1 H1 (I1.pins_of fun p hp => by cases hp) fin)
  intro n
  induction n with
  | zero => exact fun i H Nx s gs a t c st h1 h2 h3 h4 h5 h6 => turn 0 i H Nx s gs a t c st h1 h2 h3 h4 h5 h6 fun i1 H1 Nx1 s1 gs1 b t1 c1 st1 _ _ g1 _ g3 g4 => (g4 b s1 g1 g3).elim
  | succ n ih => exact fun i H Nx s gs a t c st h1 h2 h3 h4 h5 h6 => turn (n + 1) i H Nx s gs a t c st h1 h2 h3 h4 h5 h6 fun i1 H1 Nx1 s1 gs1 b t1 c1 st1 g0 g1 g2 g3 g4 g5 => ih i1 H1 Nx1 s1 gs1 b t1 c1 st1 g0 g1 g2 g3 g4 g5
def tSumG (P : Addr) (n0 : Nat) (wi : TI) (g : TG) (tt : TT) (te : TE) : TE := fun σ H Q => wi σ H fun J H1 => GxR.TabG H1 P ∧ ∀ H2, GxR.Tabbed P H1 H2 →
  ∃ W : Int → Nat → Nat → Hp → Prop, (∃ m, W 0 0 m H2) ∧ TurnOf J n0 g tt te outSum (fun a H => Q (.int a) H) W
theorem pe_sumG {N : List Str} {c P : Addr} {elt tg iter : Expr} {ifs : List Expr} {p pos gpos : Pos} {scope : Scope} {wi : TI} {g : TG} {tt : TT} {te : TE} {k : Nat}
    (hr : Room (k + 1) X.A) (hgl : Gl X "sum") (hm : X.mg "sum" = none) (TB : GxR.TabB X.base X.mg c P) (hcode : X.env.code = .ref c) (S : GSc scope) (hi : PI X tg iter wi)
    (hg : ∀ (A : Around) (s : Shared) (H : Hp) (C : Addr) (code : Value) (fp : List Addr) (pn : List (Addr × Obj)), Room k (A.deeper (ce X scope C code)) → PG (gx X A N s H (ce X scope C code) fp pn) tg g)
    (ht : ∀ (A : Around) (s : Shared) (H : Hp) (C : Addr) (code : Value) (fp : List Addr) (pn : List (Addr × Obj)), Room k (A.deeper (ce X scope C code)) → PTs (gx X A N s H (ce X scope C code) fp pn) ifs tt)
    (he : ∀ (A : Around) (s : Shared) (H : Hp) (C : Addr) (code : Value) (fp : List Addr) (pn : List (Addr × Obj)), Room k (A.deeper (ce X scope C code)) → PE (gx X A N s H (ce X scope C code) fp pn) elt te)
    (hs : ∀ v, genFold iter X.env v = pure v := by intro _; rfl)
    (hb : bootBuiltins "sum" = some (.builtin "sum") := by decide +kernel)
    (hst : starEach [.GeneratorExp elt [⟨tg, iter, ifs, 0⟩] scope gpos] X.env = (false, eval (.GeneratorExp elt [⟨tg, iter, ifs, 0⟩] scope gpos) X.env) :: starEach [] X.env := by rfl) :
    PE X (.Call (.Name "sum" p) [.GeneratorExp elt [⟨tg, iter, ifs, 0⟩] scope gpos] [] pos) (tSumG P N.length wi g tt te) := by
  refine ⟨fun pins s σ H Q I h => ?_⟩
  refine wpAny_Call_Name_kw (ld_blt I hgl hm hb ?_)
  refine PyProof.Rows.callWith_builtin1 ?_ hst (by rfl)
  rw [hst]
  show wpAny _ _ (spliced ((false, eval (.GeneratorExp elt [⟨tg, iter, ifs, 0⟩] scope gpos) X.env) :: backTo pos (starEach [] X.env))) _ _ s
  refine Calls.spliced_cons (gen_make hr TB hcode S hi hs I h fun J H1 H2 s4 s5 code fp it tn go gn hR tab I4 f4 T st5 mk hgo hgs => ?_)
  refine Calls.spliced_nil ?_
  obtain ⟨W, ⟨m0, w0⟩, turn⟩ := hR H2 tab
  have rY := room3 hr (ce X scope s4.heap.objs.size code)
  have I5 := mk X.A.in1.in1 N hr.hd I.ok.frames
  generalize hpn : [(s4.heap.objs.size + 1, go)] = pn at I5
  have hpm : (s4.heap.objs.size + 1, go) ∈ pn := by rw [← hpn]; exact List.mem_singleton.mpr rfl
  have hpf : ∀ p ∈ pn, p.1 ∉ fp := fun p hp z => by
    rw [← hpn] at hp
    rw [List.mem_singleton.mp hp] at z
    exact absurd (f4 _ z).2 (Nat.not_lt.mpr (Nat.le_succ _))
  have isg := hgo _ (I5.pin _ (List.mem_append_left _ hpm)).1
  have fpl : ∀ b ∈ fp, b < s5.heap.objs.size := fun b hb => Nat.lt_of_lt_of_le (f4 b hb).2 I5.sz
  refine call_function_tree F.kind_sum F.plain_sum F.entry_sum (F.args_sum1 _) ?_
  unfold Builtin.«sum»
  simp only [List.length_cons, List.length_nil]
  rw [if_neg (by decide)]
  refine wpAny_bind (wpAny_of_eq (show Builtin.Builtins.bindParams "sum" ["start"] 0 { } = pure [none] from rfl) ?_)
  refine wpAny_bind (wpAny_pyIter_gen isg ?_)
  refine wpAny_bind (wpAny_mkInt ?_)
  refine wpAny_bind (wpAny_pure ?_)
  simp only [List.forIn_cons, List.forIn_nil]
  refine wpAny_bind (wpAny_bind (wpAny_bind (wpAny_isInstance (T := "int") (b := false) (typeIs_int _ _ _) PySem.sub_int_str ?_)))
  simp only [Bool.false_eq_true, if_false]
  refine wpAny_pure (wpAny_bind (wpAny_bind (wpAny_isInstance (T := "int") (b := false) (typeIs_int _ _ _) PySem.sub_int_bytes ?_)))
  simp only [Bool.false_eq_true, if_false]
  refine wpAny_pure (wpAny_bind (wpAny_bind (wpAny_isInstance (T := "int") (b := false) (typeIs_int _ _ _) PySem.sub_int_bytearray ?_)))
  simp only [Bool.false_eq_true, if_false]
  refine wpAny_pure (wpAny_pure ?_)
  refine wpAny_bind (wpAny_newObj_type ?_)
  refine wpAny_pure ⟨plainId_quiet F.plain_sum_loop _, ?_⟩
  have hSf : s5.heap.objs.size ∉ fp := fun hm => Nat.lt_irrefl _ (fpl _ hm)
  have hget : (s5.heap.push (sumObj 0 s5.toks 0)).get? s5.heap.objs.size = some (sumObj 0 s5.toks 0) := Heap.get?_push_size _ rfl
  have I6 : Inv (gx X X.A.in1.in1 N s4 H2 (ce X scope s4.heap.objs.size code) fp pn) [] (nones N.length) H2 { s5 with heap := s5.heap.push (sumObj 0 s5.toks 0), toks := s5.toks + 1 } := I5.kept fun b o e => Heap.get?_push_of_some _ e
  have gi0 : GI (gx X X.A.in1.in1 N s4 H2 (ce X scope s4.heap.objs.size code) fp pn) (conS s5.heap.objs.size) fp tn 0 0 H2 { s5 with heap := s5.heap.push (sumObj 0 s5.toks 0), toks := s5.toks + 1 } := by
    refine ⟨I6.pins_of fun p hp => ?_, ⟨s5.toks, 0, hget⟩, T.keep _ _ _ st5 fun b _ o e => Heap.get?_push_of_some _ e, fun b hb => (f4 b hb).1.1⟩
    obtain ⟨hb, e⟩ := of_pinsAt hp
    have eS : p.1 = s5.heap.objs.size := List.mem_singleton.mp hb
    rw [eS] at e ⊢
    have e' : (s5.heap.push (sumObj 0 s5.toks 0)).get? s5.heap.objs.size = some p.2 := e
    rw [hget] at e'
    refine ⟨e, I5.hok.fresh (Nat.le_refl _), Nat.ne_of_gt I5.lt, I5.nofs (Nat.le_refl _), fun v z => ?_⟩
    rw [← Option.some.inj e'] at z
    cases z
  have ap : ApS (gx X X.A.in1.in1 N s4 H2 (ce X scope s4.heap.objs.size code) fp pn) s5.heap.objs.size := ⟨I5.sz, Nat.ne_of_gt I5.lt, fun x c e => by simp [genEnv] at e, fun p hp z => by
    have := Heap.lt_size (I5.pin p (List.mem_append_left _ hp)).1
    rw [z] at this
    exact Nat.lt_irrefl _ this⟩
  refine sum_loop (Y := gx X X.A.in1.in1 N s4 H2 (ce X scope s4.heap.objs.size code) fp pn) (A := X.A) (g := gn) (QI := fun a H => Q (.int a) H) hSf ap T.keep hr.hd hr.depth hpm hgo (fun a t' s' H' I' q => ?_) (m0 + 1) 0 H2 (fun a H => W a 0 m0 H) _ _ 0 s5.toks 0 0 (.inl rfl) hgs gi0 hget w0 (fun a' s'' gi' w' => ?_)
  · exact ⟨.int a, H', ge_back I4 f4 I', ⟨_, rfl⟩, q⟩
  · exact ⟨rfl, seg_start (Y := gx X X.A.in1.in1 N s4 H2 (ce X scope s4.heap.objs.size code) fp pn) (conS_ok _) rfl T (hg _ _ _ _ _ _ _ rY) (ht _ _ _ _ _ _ _ rY) (he _ _ _ _ _ _ _ rY) rfl (fun b hb => hb) (fun b hb => by rw [List.mem_singleton.mp hb]; exact hSf) hpf rfl S.co turn m0 a' (m0 + 1) H2 s'' (Nat.lt_succ_self _) w' gi'⟩
end
end GE
set_option Elab.async false
set_option linter.all false
set_option maxRecDepth 100000
set_option maxHeartbeats 1000000
namespace CL
open PySem PySem.Spec PyProof.Rows L2 GE
/-! ### what a value is worth, as data -/
mutual
inductive Rp (H : Hp) : V → PyData → Prop
  | non : Rp H .non .none
  | bl (b : Bool) : Rp H (.bl b) (.bool b)
  | int (i : Int) : Rp H (.int i) (.int i)
  | str (x : Str) : Rp H (.str x) (.str x)
  | lst {a : Addr} {xs : List V} {ds : List PyData} : H a = some (.lst xs) → RpAll H xs ds → Rp H (.ref a) (.list ds)
  | tup {a : Addr} {xs : List V} {ds : List PyData} : H a = some (.tup xs) → RpAll H xs ds → Rp H (.ref a) (.tuple ds)
  | dct {a : Addr} : H a = some (.dK []) → Rp H (.ref a) (.dict [])
inductive RpAll (H : Hp) : List V → List PyData → Prop
  | nil : RpAll H [] []
  | cons {v : V} {vs : List V} {d : PyData} {ds : List PyData} : Rp H v d → RpAll H vs ds → RpAll H (v :: vs) (d :: ds)
end
/-- all stays but tables, which may grow -/
def Ex (H H' : Hp) : Prop := ∀ b o, H b = some o → H' b = some o ∨ ∃ ps qs, o = .tbl ps ∧ H' b = some (.tbl qs)
theorem Ex.refl (H : Hp) : Ex H H := fun _ _ h => .inl h
theorem Ex.of {H H' : Hp} (s : Same H H') : Ex H H' := fun b o h => .inl (s b o h)
theorem Ex.trans {H H1 H2 : Hp} (a : Ex H H1) (b : Ex H1 H2) : Ex H H2 := fun c o h => by
  rcases a c o h with q | ⟨ps, qs, e, q⟩
  · exact b c o q
  · rcases b c _ q with r | ⟨ps', qs', _, r⟩
    · exact .inr ⟨ps, qs, e, r⟩
    · exact .inr ⟨ps, qs', e, r⟩
theorem Ex.keep {H H' : Hp} (e : Ex H H') {b : Addr} {o : HO} (h : H b = some o) (n : ∀ ps, o ≠ .tbl ps) : H' b = some o := by
  rcases e b o h with q | ⟨ps, _, z, _⟩
  · exact q
  · exact absurd z (n ps)
theorem Ex.lst {H H' : Hp} (e : Ex H H') {b : Addr} {xs : List V} (h : H b = some (.lst xs)) : H' b = some (.lst xs) := e.keep h fun _ => nofun
theorem Ex.tup {H H' : Hp} (e : Ex H H') {b : Addr} {xs : List V} (h : H b = some (.tup xs)) : H' b = some (.tup xs) := e.keep h fun _ => nofun
theorem Ex.free {H H' : Hp} (e : Ex H H') {l : Addr} (h : H' l = none) : H l = none := by
  cases q : H l with
  | none => rfl
  | some o =>
    rcases e l o q with r | ⟨_, _, _, r⟩
    · rw [h] at r; cases r
    · rw [h] at r; cases r
theorem Ex.new {H : Hp} {p : Addr} {o : HO} (h : H p = none) : Ex H (upd H p o) := fun b x e => .inl (by rw [upd_ne (ne_of_none e h)]; exact e)
theorem same_upd {H : Hp} {p : Addr} {o : HO} (h : H p = none) : Same H (upd H p o) := fun b x e => by
  rw [upd_ne (ne_of_none e h)]
  exact e
mutual
theorem Rp.ex {H H' : Hp} (e : Ex H H') : ∀ (d : PyData) (v : V), Rp H v d → Rp H' v d
  | .none, _, h => by cases h; exact .non
  | .bool b, _, h => by cases h; exact .bl b
  | .int i, _, h => by cases h; exact .int i
  | .str x, _, h => by cases h; exact .str x
  | .list ds, _, h => by
    cases h with
    | lst h1 h2 => exact .lst (e.lst h1) (RpAll.ex e ds _ h2)
  | .tuple ds, _, h => by
    cases h with
    | tup h1 h2 => exact .tup (e.tup h1) (RpAll.ex e ds _ h2)
  | .dict _, _, h => by
    cases h with
    | dct h1 => exact .dct (e.keep h1 fun _ => nofun)
theorem RpAll.ex {H H' : Hp} (e : Ex H H') : ∀ (ds : List PyData) (vs : List V), RpAll H vs ds → RpAll H' vs ds
  | [], _, h => by cases h; exact .nil
  | d :: ds, _, h => by
    cases h with
    | cons h1 h2 => exact .cons (Rp.ex e d _ h1) (RpAll.ex e ds _ h2)
end
theorem RpAll.length {H : Hp} : ∀ {vs : List V} {ds : List PyData}, RpAll H vs ds → vs.length = ds.length
  | _, _, .nil => rfl
  | _, _, .cons _ t => congrArg (· + 1) (RpAll.length t)
theorem RpAll.get {H : Hp} : ∀ {vs : List V} {ds : List PyData} {i : Nat} {v : V}, RpAll H vs ds → vs[i]? = some v → ∃ d, ds[i]? = some d ∧ Rp H v d
  | _, _, _, _, .nil, e => by simp at e
  | _, _, 0, _, .cons r _, e => by simp at e; subst e; exact ⟨_, rfl, r⟩
  | _, _, i + 1, _, .cons _ t, e => by
    obtain ⟨d, h1, h2⟩ := RpAll.get (i := i) t (by simpa using e)
    exact ⟨d, by simpa using h1, h2⟩
theorem RpAll.take {H : Hp} : ∀ {vs : List V} {ds : List PyData} (n : Nat), RpAll H vs ds → RpAll H (vs.take n) (ds.take n)
  | _, _, 0, _ => .nil
  | _, _, _ + 1, .nil => .nil
  | _, _, n + 1, .cons r t => .cons r (RpAll.take n t)
theorem RpAll.append {H : Hp} : ∀ {vs ws : List V} {ds es : List PyData}, RpAll H vs ds → RpAll H ws es → RpAll H (vs ++ ws) (ds ++ es)
  | _, _, _, _, .nil, s => s
  | _, _, _, _, .cons r t, s => .cons r (RpAll.append t s)
/-! ### plans, as the document tells -/
def tyName : PyData → String
  | .none => "NoneType" | .bool _ => "bool" | .int _ => "int" | .str _ => "str" | .list _ => "list" | .tuple _ => "tuple" | .dict _ => "dict"
def rowsD : PyData → Option (List PyData)
  | .list xs => some xs
  | .tuple xs => some xs
  | _ => none
def isRow (d : PyData) : Bool := (rowsD d).isSome
def isWhole : PyData → Bool
  | .int _ => true
  | _ => false
def isIntB : PyData → Bool
  | .int _ => true
  | .bool _ => true
  | _ => false
def isBoolB : PyData → Bool
  | .bool _ => true
  | _ => false
def isNone : PyData → Bool
  | .none => true
  | _ => false
abbrev GREAT : Int := 1000000000000000000000000000000
def isPatience : PyData → Bool
  | .none => true
  | .int i => decide (0 ≤ i) && decide (i ≤ GREAT)
  | _ => false
def isTurns (d : PyData) : Bool := match rowsD d with
  | some ds => decide (1 ≤ ds.length) && decide (ds.length ≤ 8) && ds.all isPatience
  | none => false
def isMany : PyData → Bool
  | .none => true
  | .int i => decide (0 ≤ i)
  | _ => false
def isPiece (d : PyData) : Bool := match rowsD d with
  | some [t, m] => isTurns t && isMany m
  | _ => false
def sndD (d : PyData) : PyData := match rowsD d with
  | some [_, m] => m
  | _ => .none
def worth : PyData → Int
  | .int i => i
  | _ => 0
def sumSnd (ds : List PyData) : Int := (ds.map fun d => worth (sndD d)).sum
def isPlanL (ds : List PyData) : Bool := decide (1 ≤ ds.length) && decide (ds.length ≤ 8) && ds.all isPiece && !((ds.take (ds.length - 1)).any fun d => isNone (sndD d)) && decide (sumSnd ds ≤ GREAT)
def isPlan (d : PyData) : Bool := match rowsD d with
  | some ds => isPlanL ds
  | none => false
theorem Rp.ty {K : PySem.W.Frag} {H : Hp} {v : V} {d : PyData} (h : Rp H v d) : TyX K H v (.type (tyName d)) := by
  cases h with
  | non => exact .base .non
  | bl b => exact .base (.bl b)
  | int i => exact .base (.int i)
  | str x => exact .base (.str x)
  | lst h _ => exact .base (.lst h)
  | tup h _ => exact .base (.tup h)
  | dct h => exact .base (.dK h)
theorem kit_int {K : PySem.W.Frag} (d : PyData) : PySem.W.kitOne K (.type (tyName d)) (.type "int") = some (isIntB d) := by cases d <;> (refine kit_ty ?_; dsimp only [tyName, isIntB]; decide +kernel)
theorem kit_bool {K : PySem.W.Frag} (d : PyData) : PySem.W.kitOne K (.type (tyName d)) (.type "bool") = some (isBoolB d) := by cases d <;> (refine kit_ty ?_; dsimp only [tyName, isBoolB]; decide +kernel)
theorem kit_list {K : PySem.W.Frag} (d : PyData) : PySem.W.kitOne K (.type (tyName d)) (.type "list") = some (match d with | .list _ => true | _ => false) := by cases d <;> (refine kit_ty ?_; dsimp only [tyName]; decide +kernel)
theorem kit_tuple {K : PySem.W.Frag} (d : PyData) : PySem.W.kitOne K (.type (tyName d)) (.type "tuple") = some (match d with | .tuple _ => true | _ => false) := by cases d <;> (refine kit_ty ?_; dsimp only [tyName]; decide +kernel)
theorem kit_rows {K : PySem.W.Frag} (d : PyData) : PySem.W.kitAny K (.type (tyName d)) [.type "list", .type "tuple"] = some (isRow d) := by
  refine kitAny_cons (kit_list d) (fun h => kitAny_cons (kit_tuple d) (fun h2 => ?_) fun h2 => ?_) fun h => ?_
  · cases d <;> first | exact kitAny_nil | (simp at h; done) | (simp at h2; done)
  · cases d <;> first | rfl | (simp at h; done) | (simp at h2; done)
  · cases d <;> first | rfl | (simp at h; done)
/-- a row's things -/
theorem Rp.rows {H : Hp} {v : V} {d : PyData} {ds : List PyData} (h : Rp H v d) (e : rowsD d = some ds) : ∃ a xs, v = .ref a ∧ RpAll H xs ds ∧ (H a = some (.lst xs) ∨ H a = some (.tup xs)) := by
  cases h with
  | lst h1 h2 => cases e; exact ⟨_, _, rfl, h2, .inl h1⟩
  | tup h1 h2 => cases e; exact ⟨_, _, rfl, h2, .inr h1⟩
  | _ => cases e
/-! ### for x in a list or a tuple -/
structure StSeq (H : Hp) (a : Addr) (xs : List V) : Prop where
  or : H a = some (.lst xs) ∨ H a = some (.tup xs)
theorem StSeq.ex {H H' : Hp} {a : Addr} {xs : List V} (s : StSeq H a xs) (e : Ex H H') : StSeq H' a xs := ⟨s.or.elim (fun h => .inl (e.lst h)) fun h => .inr (e.tup h)⟩
theorem StSeq.sq {K : PySem.W.Frag} {H : Hp} {a : Addr} {xs : List V} (s : StSeq H a xs) : SqL K H a xs ∨ SqT K H a xs := s.or.elim (fun h => .inl (SqL.of h)) fun h => .inr (SqT.of h)
/-- the thing that is walked stands -/
def StandsAs (K : PySem.W.Frag) (a : Addr) (xs : List V) (J : It) (H : Hp) : Prop := (J = Itl K a ∧ SqL K H a xs) ∨ (J = Itt K a ∧ SqT K H a xs)
section
variable {X : Cx} {tg : Expr}
def iSeq (K : PySem.W.Frag) (tl : TE) : TI := fun σ H R => tl σ H fun x H1 => ∃ a xs, x = .ref a ∧ StSeq H1 a xs ∧ ∀ J, (∀ H2, Ex H1 H2 → StandsAs K a xs J H2) → R J H1
theorem pi_seq {l : Expr} {tl : TE} (hl : PE X l tl) : PI X tg l (iSeq X.K tl) := by
  refine ⟨fun pins s σ H R I h => ?_⟩
  refine thn (hl.run pins s σ H _ I h) fun v s1 ⟨x, H1, I1, r1, q1⟩ => ?_
  obtain ⟨a, xs, e, st, q⟩ := q1
  subst e
  cases r1
  have new : ∀ b ∈ [s1.heap.objs.size], FpOk X pins H1 b := fun b hb => by
    rw [List.mem_singleton.mp hb]
    exact I1.fpOk (Nat.le_refl _) (I1.hok.fresh (Nat.le_refl _))
  rcases st.or with hq | hq
  · obtain ⟨its, rv, p, hz⟩ := I1.list (SqL.of hq)
    exact wpAny_pyIter_list p.isList ⟨s1.heap.objs.size, [s1.heap.objs.size], _, _, H1, rfl, I1.kept (t' := s1.toks) fun b o e => Heap.get?_push_of_some _ e, turn_list a _, ⟨_, Heap.get?_push_size _ rfl, rfl, rfl⟩, new, q _ fun H2 e => .inl ⟨rfl, SqL.of (e.lst hq)⟩⟩
  · obtain ⟨its, rv, p, hz⟩ := I1.tuple (SqT.of hq)
    exact wpAny_pyIter_tuple (show s1.heap.IsTuple a its.toArray from p) ⟨s1.heap.objs.size, [s1.heap.objs.size], _, _, H1, rfl, I1.kept (t' := s1.toks) fun b o e => Heap.get?_push_of_some _ e, turn_tuple a _, ⟨_, Heap.get?_push_size _ rfl, rfl, rfl⟩, new, q _ fun H2 e => .inr ⟨rfl, SqT.of (e.tup hq)⟩⟩
end
theorem StandsAs.go {K : PySem.W.Frag} {a : Addr} {xs : List V} {J : It} {H : Hp} {i : Nat} {x : V} (s : StandsAs K a xs J H) (h : xs[i]? = some x) : J.go i H := by
  rcases s with ⟨rfl, q⟩ | ⟨rfl, q⟩ <;> exact ⟨xs, x, q, h⟩
theorem StandsAs.stop {K : PySem.W.Frag} {a : Addr} {xs : List V} {J : It} {H : Hp} {i : Nat} (s : StandsAs K a xs J H) (h : xs.length ≤ i) : J.stop i H := by
  rcases s with ⟨rfl, q⟩ | ⟨rfl, q⟩ <;> exact ⟨xs, q, h⟩
theorem StandsAs.yld {K : PySem.W.Frag} {a : Addr} {xs : List V} {J : It} {H H' : Hp} {i : Nat} {x : V} (s : StandsAs K a xs J H) (h : J.yld i H x H') : H' = H ∧ xs[i]? = some x := by
  rcases s with ⟨rfl, q⟩ | ⟨rfl, q⟩ <;> exact ⟨h.1, h.2 xs q⟩
theorem turn_by {α : Type} {K : PySem.W.Frag} {ad : Addr} {xs : List V} {J : It} {n0 : Nat} {g : TG} {tt : TT} {te : TE} {Out : α → V → Hp → (α → Hp → Prop) → Prop} {Fin : α → Hp → Prop} (Pv : α → Nat → Hp → Prop)
    (stands : ∀ a i H, Pv a i H → StandsAs K ad xs J H)
    (step : ∀ a i x H, xs[i]? = some x → Pv a i H → g x (nones n0) H fun σ2 H2 => tt σ2 H2 fun b H3 => if b = true then te σ2 H3 fun y H4 => Out a y H4 (fun a' H' => Pv a' (i + 1) H') else Pv a (i + 1) H3)
    (done : ∀ a H, Pv a xs.length H → Fin a H) : TurnOf J n0 g tt te Out Fin (fun a i m H => m = xs.length - i ∧ i ≤ xs.length ∧ Pv a i H) := by
  rintro a i m H ⟨rfl, hi, p⟩
  have s := stands a i H p
  by_cases hlt : i < xs.length
  · refine .inr ⟨s.go (List.getElem?_eq_getElem hlt), fun a' H' => Pv a' (i + 1) H', fun a' H' p' => ⟨xs.length - (i + 1), by omega, rfl, hlt, p'⟩, fun x H' y => ?_⟩
    obtain ⟨rfl, hx⟩ := s.yld y
    exact step a i x _ hx p
  · have e : i = xs.length := by omega
    subst e
    exact .inl ⟨s.stop (Nat.le_refl _), done a H p⟩
end CL
set_option Elab.async false
set_option linter.all false
set_option maxRecDepth 100000
set_option maxHeartbeats 1000000
namespace CL
open PySem PySem.Spec PyProof.Rows L2 GE
def topS (i : Nat) : Stmt := PySem.Challenge.pw_comersline_k02_queues_one_by_one.main.body.getD i (.Pass ⟨0, 0, 0, 0⟩)
abbrev sWhole : Stmt := topS 6
abbrev sRow : Stmt := topS 7
abbrev sPat : Stmt := topS 12
abbrev sTurns : Stmt := topS 13
abbrev sPiece : Stmt := topS 14
abbrev sPlan : Stmt := topS 15
theorem scWhole : FnScope ["thing"] ["thing"] (defScope sWhole) := ⟨rfl, rfl, rfl, by decide +kernel, rfl, by decide +kernel, by decide +kernel⟩
theorem scRow : FnScope ["thing"] ["thing"] (defScope sRow) := ⟨rfl, rfl, rfl, by decide +kernel, rfl, by decide +kernel, by decide +kernel⟩
theorem scPat : FnScope ["thing"] ["thing"] (defScope sPat) := ⟨rfl, rfl, rfl, by decide +kernel, rfl, by decide +kernel, by decide +kernel⟩
theorem scTurns : FnScope ["thing"] ["thing"] (defScope sTurns) := ⟨rfl, rfl, rfl, by decide +kernel, rfl, by decide +kernel, by decide +kernel⟩
theorem scPiece : FnScope ["thing"] ["thing"] (defScope sPiece) := ⟨rfl, rfl, rfl, by decide +kernel, rfl, by decide +kernel, by decide +kernel⟩
theorem scPlan : FnScope ["thing"] ["thing"] (defScope sPlan) := ⟨rfl, rfl, rfl, by decide +kernel, rfl, by decide +kernel, by decide +kernel⟩

/-- a def whose code object is known -/
structure FunC (K : PySem.W.Frag) (x qual : Str) (st : Stmt) (f : Addr) (fd : FuncData) (c : Addr) : Prop where
  ex : ∃ (oc : Value) (od : Option Addr) (kV doc pm : Value) (an : Option Addr) (ct : Value) (osl : Array (Option Value)),
    fd = PySem.W.fnOf x qual (defArgs st) (defBody st) (defScope st) .none kV doc pm an (.ref c) ct ∧ K.lookup f = some ⟨oc, od, .func fd, osl⟩ ∧ PySem.W.codeIn K (.ref c) qual = true
  kp : PySem.W.keepIn K (.ref f) = true
theorem FunC.ok {P : Program} {w : World} {K : PySem.W.Frag} {mg : Str → Option Value} {base : Heap} {x qual : Str} {st : Stmt} {f c : Addr} {fd : FuncData} {N ps : List Str} {k : Nat} {sp : Sp} (F : FunC K x qual st f fd c) (S : FnScope N ps (defScope st)) (len : ∀ vs H Q E, sp vs H Q E → vs.length = ps.length)
    (hbody : ∀ (A : Around) (outer : List Env) (s : Shared) (H : Hp) (vs : List V) (Q : VK) (E : XK), Room k (A.deeper (envOfC qual (defScope st) s.heap.objs.size f (.ref c))) → sp vs H Q E →
      ∃ t, PSs (cxOf CX0 P w K mg base N qual (defScope st) f (.ref c) A outer s H E).nox (defBody st) t ∧ t { nx := fun _ H' => Q .non H', rt := Q } (start N vs) H) : FnOk P w K mg base CX0 (k + 1) f fd ps sp := by
  obtain ⟨oc, od, kV, doc, pm, an, ct, osl, rfl, lk, hcd⟩ := F.ex
  refine fn_of lk hcd S len fun A outer s H vs Q E hr hsp => ?_
  obtain ⟨t, h, q⟩ := hbody A outer s H vs Q E hr hsp
  exact ⟨t, h.nox, q⟩
/-- a def that may be called by its name -/
structure Cal (P : Program) (w : World) (K : PySem.W.Frag) (mg : Str → Option Value) (base : Heap) (k : Nat) (x : Str) (ps : List Str) (sp : Sp) : Prop where
  ex : ∃ f fd, mg x = some (.ref f) ∧ PySem.W.keepIn K (.ref f) = true ∧ Binds K fd ps [] ∧ FnOk P w K mg base CX0 k f fd ps sp
theorem pe_cal {X : Cx} {k : Nat} {x : Str} {ps : List Str} {sp : Sp} {p pos : Pos} {e : Expr} {es : List Expr} {t : TA} (C : Cal X.prog X.w X.K X.mg X.base k x ps sp) (hr : Room k X.A) (hg : Gl X x) (ha : PA X (e :: es) t) (hdb : (x == ("__debug__" : Str)) = false := by decide)
    (he : starEach (e :: es) X.env = (false, eval e X.env) :: starEach es X.env := by rfl) (hpl : (backTo pos (starEach es X.env)).any (·.1) = false := by rfl) : PE X (.Call (.Name x p) (e :: es) [] pos) (tCall sp [] E0 t) := by
  obtain ⟨f, fd, h1, h2, h3, h4⟩ := C.ex
  exact pe_call h4 hr hg h1 h2 h3 .nil pass0 ha hdb he hpl
theorem Cal.mono {P : Program} {w : World} {K : PySem.W.Frag} {mg : Str → Option Value} {base : Heap} {j k : Nat} {x : Str} {ps : List Str} {sp : Sp} (C : Cal P w K mg base j x ps sp) (h : j ≤ k) : Cal P w K mg base k x ps sp := by
  obtain ⟨f, fd, h1, h2, h3, h4⟩ := C.ex
  exact ⟨f, fd, h1, h2, h3, h4.mono h⟩
/-- names that are still the built-in ones, and constants -/
structure Nm (mg : Str → Option Value) : Prop where
  isi : mg "isinstance" = none
  len : mg "len" = none
  all : mg "all" = none
  any : mg "any" = none
  sum : mg "sum" = none
  int : mg "int" = none
  bool : mg "bool" = none
  list : mg "list" = none
  tuple : mg "tuple" = none
  great : ∃ t, mg "GREATEST" = some (.int GREAT t)
  longest : ∃ t, mg "LONGEST" = some (.int 8 t)
/-- the tables of the two defs that hold generator expressions -/
def Tb (P1 P2 : Addr) (H : Hp) : Prop := GxR.TabG H P1 ∧ GxR.TabG H P2
theorem tabG_same {P : Addr} {H H' : Hp} (s : Same H H') (h : GxR.TabG H P) : GxR.TabG H' P := by
  obtain ⟨ps, e, t⟩ := h
  exact ⟨ps, s _ _ e, t⟩
theorem Tb.same {P1 P2 : Addr} {H H' : Hp} (s : Same H H') (h : Tb P1 P2 H) : Tb P1 P2 H' := ⟨tabG_same s h.1, tabG_same s h.2⟩
theorem ex_tabbed {P : Addr} {H H' : Hp} (g : GxR.TabG H P) (t : GxR.Tabbed P H H') : Ex H H' := fun b o e => by
  by_cases hb : b = P
  · subst hb
    obtain ⟨ps, h1, _⟩ := g
    obtain ⟨⟨qs, h2, _⟩, _⟩ := t
    rw [h1] at e
    cases e
    exact .inr ⟨ps, qs, rfl, h2⟩
  · exact .inl (by rw [t.2 b hb]; exact e)
theorem Tb.tab1 {P1 P2 : Addr} {H H' : Hp} (h : Tb P1 P2 H) (t : GxR.Tabbed P1 H H') : Tb P1 P2 H' := ⟨t.1, by
  by_cases hb : P2 = P1
  · rw [hb]; exact t.1
  · obtain ⟨ps, e, q⟩ := h.2
    exact ⟨ps, by rw [t.2 P2 hb]; exact e, q⟩⟩
theorem Tb.tab2 {P1 P2 : Addr} {H H' : Hp} (h : Tb P1 P2 H) (t : GxR.Tabbed P2 H H') : Tb P1 P2 H' := ⟨by
  by_cases hb : P1 = P2
  · rw [hb]; exact t.1
  · obtain ⟨ps, e, q⟩ := h.1
    exact ⟨ps, by rw [t.2 P1 hb]; exact e, q⟩, t.1⟩
def spOne (g : PyData → Bool) : Sp := fun vs H Q _ => ∃ v d, vs = [v] ∧ Rp H v d ∧ ∀ H', Same H H' → Q (.bl (g d)) H'
def spTab (P1 P2 : Addr) (g : PyData → Bool) : Sp := fun vs H Q _ => ∃ v d, vs = [v] ∧ Rp H v d ∧ Tb P1 P2 H ∧ ∀ H', Ex H H' → Tb P1 P2 H' → Q (.bl (g d)) H'
theorem spOne_len {g : PyData → Bool} : ∀ vs H Q E, spOne g vs H Q E → vs.length = 1 := fun vs H Q E ⟨v, d, e, _⟩ => by rw [e]; rfl
theorem spTab_len {P1 P2 : Addr} {g : PyData → Bool} : ∀ vs H Q E, spTab P1 P2 g vs H Q E → vs.length = 1 := fun vs H Q E ⟨v, d, e, _⟩ => by rw [e]; rfl
section
variable {P : Program} {w : World} {K : PySem.W.Frag} {mg : Str → Option Value} {base : Heap}
theorem ok_whole {f : Addr} {fd : FuncData} (F : Fun K "is_whole" "is_whole" sWhole f fd) (T : Nm mg) : FnOk P w K mg base CX0 1 f fd ["thing"] (spOne isWhole) := by
  refine F.ok scWhole spOne_len (fun cdv A outer s H vs Q E hr h => ?_)
  obtain ⟨v, d, rfl, hR, q⟩ := h
  refine ⟨_, pss_one (ps_ret (pe_and (pe_callB call_isi (by rfl) T.isi (by decide +kernel) (pa_cons (pv 0) (pa_cons (pe_bltn (v := .ty "int") (by rfl) T.int PyProof.Rows.boot_int rfl) pa_nil)))
    (pe_one (pe_not (pe_callB call_isi (by rfl) T.isi (by decide +kernel) (pa_cons (pv 0) (pa_cons (pe_bltn (v := .ty "bool") (by rfl) T.bool PyProof.Rows.boot_bool rfl) pa_nil))))))), ?_⟩
  refine ⟨v, rfl, v, .ty "int", _, _, isIntB d, rfl, .ty _, hR.ty, kit_int d, isIntB d, rfl, ite2 (fun e => ?_) (fun e => ?_)⟩
  · refine ⟨v, rfl, v, .ty "bool", _, _, isBoolB d, rfl, .ty _, hR.ty, kit_bool d, isBoolB d, rfl, ?_⟩
    have z : (!isBoolB d) = isWhole d := by cases d <;> first | rfl | (exact absurd e Bool.false_ne_true)
    rw [z]
    exact q H (Same.refl H)
  · have z : isWhole d = false := by cases d <;> first | rfl | (exact absurd rfl e)
    have q' := q H (Same.refl H)
    rw [z] at q'
    exact q'
theorem ok_row {f : Addr} {fd : FuncData} (F : Fun K "is_row" "is_row" sRow f fd) (T : Nm mg) : FnOk P w K mg base CX0 1 f fd ["thing"] (spOne isRow) := by
  refine F.ok scRow spOne_len (fun cdv A outer s H vs Q E hr h => ?_)
  obtain ⟨v, d, rfl, hR, q⟩ := h
  refine ⟨_, pss_one (ps_ret (pe_callB call_isiT (by rfl) T.isi (by decide +kernel) (pa_cons (pv 0) (pa_cons (pe_tup (pa_cons (pe_bltn (v := .ty "list") (by rfl) T.list PyProof.Rows.boot_list rfl) (pa_cons (pe_bltn (v := .ty "tuple") (by rfl) T.tuple PyProof.Rows.boot_tuple rfl) pa_nil))) pa_nil)))), ?_⟩
  refine ⟨v, rfl, by show 2 ≤ sizeLine; decide, fun p np => ⟨v, p, [.ty "list", .ty "tuple"], _, _, isRow d, rfl, upd_same, .cons (.ty _) (.cons (.ty _) .nil), (Rp.ex (Ex.new np) d v hR).ty, kit_rows d, q _ (same_upd np)⟩⟩
theorem ok_pat {f : Addr} {fd : FuncData} (F : Fun K "is_patience" "is_patience" sPat f fd) (T : Nm mg) (CW : Cal P w K mg base 1 "is_whole" ["thing"] (spOne isWhole)) : FnOk P w K mg base CX0 2 f fd ["thing"] (spOne isPatience) := by
  refine F.ok scPat spOne_len (fun cdv A outer s H vs Q E hr h => ?_)
  obtain ⟨v, d, rfl, hR, q⟩ := h
  obtain ⟨tg, hgr⟩ := T.great
  refine ⟨_, pss_one (ps_ret (pe_or (pe_cmp (pc_isN (pv 0)) rfl) (pe_one (pe_and (pe_cal CW hr (by rfl) (pa_cons (pv 0) pa_nil))
    (pe_one (pe_chain op_le op_le pe_int (pv 0) (pe_glob (v := .int GREAT) (by rfl) hgr ⟨_, rfl⟩))))))), ?_⟩
  refine ⟨v, rfl, decide (v = .non), rfl, ite2 (fun e => ?_) (fun e => ?_)⟩
  · have ev : v = .non := of_decide_eq_true e
    subst ev
    cases hR
    exact q H (Same.refl H)
  · have nv : v ≠ .non := fun z => e (decide_eq_true z)
    refine ⟨v, rfl, v, d, rfl, hR, fun H1 s1 => ⟨isWhole d, rfl, ite2 (fun e2 => ?_) (fun e2 => ?_)⟩⟩
    · cases hR with
      | int i =>
        refine ⟨.int i, rfl, 0, i, rfl, rfl, decide (0 ≤ i), rfl, ite2 (fun e3 => ?_) (fun e3 => ?_)⟩
        · refine ⟨i, GREAT, rfl, rfl, ?_⟩
          have q' := q H1 s1
          have z : isPatience (.int i) = decide (i ≤ GREAT) := by
            show (decide (0 ≤ i) && decide (i ≤ GREAT)) = _
            rw [e3, Bool.true_and]
          rw [z] at q'
          exact q'
        · have q' := q H1 s1
          have z : isPatience (.int i) = false := by
            show (decide (0 ≤ i) && decide (i ≤ GREAT)) = _
            rw [Bool.eq_false_iff.mpr e3, Bool.false_and]
          rw [z] at q'
          exact q'
      | _ => exact absurd e2 Bool.false_ne_true
    · have q' := q H1 s1
      have z : isPatience d = false := by
        cases hR with
        | non => exact absurd rfl nv
        | int i => exact absurd rfl e2
        | _ => rfl
      rw [z] at q'
      exact q'
end
end CL
set_option Elab.async false
set_option linter.all false
set_option maxRecDepth 100000
set_option maxHeartbeats 1000000
namespace CL
open PySem PySem.Spec PyProof.Rows L2 GE
theorem all_take {p : PyData → Bool} {ds : List PyData} {i : Nat} {d : PyData} (h : ds[i]? = some d) : (ds.take (i + 1)).all p = ((ds.take i).all p && p d) := by
  rw [List.take_add_one, h, List.all_append]
  simp
theorem any_take {p : PyData → Bool} {ds : List PyData} {i : Nat} {d : PyData} (h : ds[i]? = some d) : (ds.take (i + 1)).any p = ((ds.take i).any p || p d) := by
  rw [List.take_add_one, h, List.any_append]
  simp
theorem all_false {p : PyData → Bool} {ds : List PyData} {i : Nat} {d : PyData} (h : ds[i]? = some d) (e : p d = false) : ds.all p = false := by
  rw [List.all_eq_false]
  exact ⟨d, List.mem_of_getElem? h, by rw [e]; exact Bool.false_ne_true⟩
theorem any_true {p : PyData → Bool} {ds : List PyData} {i : Nat} {d : PyData} (h : ds[i]? = some d) (e : p d = true) : ds.any p = true := by
  rw [List.any_eq_true]
  exact ⟨d, List.mem_of_getElem? h, e⟩
theorem rix_of {K : PySem.W.Frag} {H : Hp} {a : Addr} {xs : List V} {i : Nat} {v : V} {Q : VK} (s : StSeq H a xs) (e : xs[i]? = some v) (q : Q v H) : rIx K (.ref a) (.int (i : Int)) H Q := by
  rcases s.or with h | h
  · exact .inl ⟨a, xs, (i : Int), v, rfl, rfl, SqL.of h, atI_nat e, q⟩
  · exact .inr (.inl ⟨a, xs, (i : Int), v, rfl, rfl, SqT.of h, atI_nat e, q⟩)
theorem name_yes {i : Nat} {x : V} {σ : L2.St} {H : Hp} {A B : L2.St → Hp → Prop} (h : A (σ.set i (some x)) H) : gName i x σ H (fun σ2 H2 => tYes σ2 H2 fun b H3 => if b = true then A σ2 H3 else B σ2 H3) := by
  show if true = true then A (σ.set i (some x)) H else B (σ.set i (some x)) H
  exact iteT h
theorem nd1 {x : Str} : [x].Nodup := by simp
section
variable {P : Program} {w : World} {K : PySem.W.Frag} {mg : Str → Option Value} {base : Heap}
theorem ok_turns {f c P1 P2 : Addr} {fd : FuncData} (F : FunC K "is_turns" "is_turns" sTurns f fd c) (T : Nm mg) (TB : GxR.TabB base mg c P1) (CR : Cal P w K mg base 1 "is_row" ["thing"] (spOne isRow)) (CP : Cal P w K mg base 2 "is_patience" ["thing"] (spOne isPatience)) :
    FnOk P w K mg base CX0 4 f fd ["thing"] (spTab P1 P2 isTurns) := by
  refine F.ok scTurns spTab_len (fun A outer s H vs Q E hr h => ?_)
  obtain ⟨v, d, rfl, hR, hT, q⟩ := h
  obtain ⟨tl, hlo⟩ := T.longest
  refine ⟨_, pss_one (ps_ret (pe_and (pe_cal (CR.mono (by decide)) hr (by rfl) (pa_cons (pv 0) pa_nil))
    (pe_and (pe_chain op_le op_le pe_int (pe_callB call_len_seq (by rfl) T.len PySem.boot_len (pa_cons (pv 0) pa_nil)) (pe_glob (v := .int 8) (by rfl) hlo ⟨_, rfl⟩))
      (pe_one (pe_allG (N := ["patience"]) hr (by rfl) T.all TB rfl (by exact ⟨rfl, rfl, by decide +kernel, rfl⟩) (pi_seq (pv 0))
        (fun A s H C code fp pn rY => pg_name (i := 0) nd1 rfl (.inl rfl) (.inr rfl)) (fun A s H C code fp pn rY => pts_nil)
        (fun A s H C code fp pn rY => pe_cal CP rY (by rfl) (pa_cons (pv 0) pa_nil))))))), ?_⟩
  refine ⟨v, rfl, v, d, rfl, hR, fun H1 s1 => ⟨isRow d, rfl, ite2 (fun e => ?_) (fun e => ?_)⟩⟩
  · obtain ⟨ds, hds⟩ : ∃ ds, rowsD d = some ds := Option.isSome_iff_exists.mp e
    obtain ⟨a, xs, rfl, hA, hso⟩ := (Rp.ex (Ex.of s1) d v hR).rows hds
    have hst : StSeq H1 a xs := ⟨hso⟩
    have hlen := hA.length
    have val : isTurns d = (decide (1 ≤ ds.length) && decide (ds.length ≤ 8) && ds.all isPatience) := by
      unfold isTurns
      rw [hds]
    have hT1 := hT.same s1
    have no : ∀ {H2 : Hp}, Ex H1 H2 → Tb P1 P2 H2 → isTurns d = false → Q (.bl false) H2 := fun {H2} e2 t2 z => by
      have q' := q H2 ((Ex.of s1).trans e2) t2
      rw [z] at q'
      exact q'
    refine ⟨.ref a, rfl, a, xs, rfl, hst.sq, 1, xs.length, rfl, rfl, decide ((1 : Int) ≤ xs.length), rfl, ite2 (fun e1 => ?_) (fun e1 => ?_)⟩
    · refine ⟨xs.length, 8, rfl, rfl, decide ((xs.length : Int) ≤ 8), rfl, ite2 (fun e2 => ?_) (fun e2 => ?_)⟩
      · have l1 : 1 ≤ ds.length := by have := of_decide_eq_true e1; omega
        have l2 : ds.length ≤ 8 := by have := of_decide_eq_true e2; omega
        refine ⟨.ref a, rfl, a, xs, rfl, hst, fun J hJ => ⟨hT1.1, fun H2 tb => ⟨_, ⟨xs.length, rfl, Nat.zero_le _, ex_tabbed hT1.1 tb, hT1.tab1 tb, rfl⟩, turn_by (xs := xs) (fun _ i H => Ex H1 H ∧ Tb P1 P2 H ∧ (ds.take i).all isPatience = true)
          (fun _ i H ⟨eH, _, _⟩ => hJ H eH) (fun _ i x H hx ⟨eH, tH, aH⟩ => ?_) (fun _ H ⟨eH, tH, aH⟩ => ?_)⟩⟩⟩
        · obtain ⟨dx, hdx, hRx⟩ := hA.get hx
          refine name_yes ?_
          refine ⟨x, rfl, x, dx, rfl, Rp.ex eH dx x hRx, fun H4 s4 => ⟨isPatience dx, rfl, ite2 (fun e4 => ?_) (fun e4 => ?_)⟩⟩
          · exact ⟨eH.trans (Ex.of s4), tH.same s4, by rw [all_take hdx, aH, e4]; rfl⟩
          · refine no (eH.trans (Ex.of s4)) (tH.same s4) ?_
            rw [val, all_false hdx (Bool.eq_false_iff.mpr e4), Bool.and_false]
        · have q' := q H ((Ex.of s1).trans eH) tH
          rw [hlen, List.take_length] at aH
          rw [val, aH, decide_eq_true l1, decide_eq_true l2] at q'
          exact q'
      · refine no (Ex.refl H1) hT1 ?_
        have l2 : ¬ ds.length ≤ 8 := fun z => e2 (decide_eq_true (by omega))
        rw [val, decide_eq_false l2, Bool.and_false, Bool.false_and]
    · refine ⟨false, rfl, iteF (no (Ex.refl H1) hT1 ?_)⟩
      have l1 : ¬ 1 ≤ ds.length := fun z => e1 (decide_eq_true (by omega))
      rw [val, decide_eq_false l1, Bool.false_and, Bool.false_and]
  · have z : isTurns d = false := by
      unfold isTurns
      cases hds : rowsD d with
      | none => rfl
      | some ds => exact absurd (by unfold isRow; rw [hds]; rfl) e
    have q' := q H1 (Ex.of s1) (hT.same s1)
    rw [z] at q'
    exact q'
theorem two_of {α : Type} {xs : List α} (h : xs.length = 2) : ∃ x y, xs = [x, y] := match xs, h with
  | [x, y], _ => ⟨x, y, rfl⟩
theorem isPiece_two {d t m : PyData} (h : rowsD d = some [t, m]) : isPiece d = (isTurns t && isMany m) := by
  unfold isPiece
  rw [h]
theorem isPiece_not {d : PyData} {ds : List PyData} (h : rowsD d = some ds) (n : ds.length ≠ 2) : isPiece d = false := by
  unfold isPiece
  rw [h]
  match ds, n with
  | [], _ => rfl
  | [_], _ => rfl
  | [_, _], n => exact absurd rfl n
  | _ :: _ :: _ :: _, _ => rfl
theorem ok_piece {f P1 P2 : Addr} {fd : FuncData} (F : Fun K "is_piece" "is_piece" sPiece f fd) (T : Nm mg) (CW : Cal P w K mg base 1 "is_whole" ["thing"] (spOne isWhole)) (CR : Cal P w K mg base 1 "is_row" ["thing"] (spOne isRow)) (CT : Cal P w K mg base 4 "is_turns" ["thing"] (spTab P1 P2 isTurns)) :
    FnOk P w K mg base CX0 5 f fd ["thing"] (spTab P1 P2 isPiece) := by
  refine F.ok scPiece spTab_len (fun cdv A outer s H vs Q E hr h => ?_)
  obtain ⟨v, d, rfl, hR, hT, q⟩ := h
  refine ⟨_, pss_cons (ps_if (PW.pt (pw_or (pt_not (pt_val (pe_cal (CR.mono (by decide)) hr (by rfl) (pa_cons (pv 0) pa_nil))))
      (pw_or (pt_cmpR op_ne (pe_callB call_len_seq (by rfl) T.len PySem.boot_len (pa_cons (pv 0) pa_nil)) pe_int (nomark _))
        (pw_or1 (pt_not (pt_val (pe_cal CT hr (by rfl) (pa_cons (pe_ix ix_seq (pv 0) pe_int (fun _ _ => rfl)) pa_nil)))))))) (pss_one (ps_ret pe_bl)) pss_nil)
    (pss_one (ps_ret (pe_or (pe_cmp (pc_isN (pe_ix ix_seq (pv 0) pe_int (fun _ _ => rfl))) rfl)
      (pe_one (pe_and (pe_cal (CW.mono (by decide)) hr (by rfl) (pa_cons (pe_ix ix_seq (pv 0) pe_int (fun _ _ => rfl)) pa_nil)) (pe_one (pe_cmpR op_ge (pe_ix ix_seq (pv 0) pe_int (fun _ _ => rfl)) pe_int (nomark _)))))))), ?_⟩
  refine ⟨v, rfl, v, d, rfl, hR, fun H1 s1 => ⟨isRow d, rfl, ?_⟩⟩
  have hT1 := hT.same s1
  have at_ : ∀ {H2 : Hp} {b : Bool}, Ex H1 H2 → Tb P1 P2 H2 → isPiece d = b → Q (.bl b) H2 := fun {H2 b} e2 t2 z => by
    have q' := q H2 ((Ex.of s1).trans e2) t2
    rw [z] at q'
    exact q'
  cases hds : rowsD d with
  | none =>
    have e0 : isRow d = false := by unfold isRow; rw [hds]; rfl
    rw [e0]
    exact iteT (iteT (at_ (Ex.refl H1) hT1 (by unfold isPiece; rw [hds])))
  | some ds =>
    have e0 : isRow d = true := by unfold isRow; rw [hds]; rfl
    rw [e0]
    obtain ⟨a, xs, rfl, hA, hso⟩ := (Rp.ex (Ex.of s1) d v hR).rows hds
    have hst : StSeq H1 a xs := ⟨hso⟩
    have hlen := hA.length
    refine iteF ⟨.ref a, rfl, a, xs, rfl, hst.sq, rfl, _, rfl, ?_⟩
    by_cases h2 : ds.length = 2
    · have e1 : decide (V.int (xs.length : Int) = V.int 2) = true := decide_eq_true (by rw [hlen, h2]; rfl)
      refine ite2 (fun z => absurd z (by rw [e1]; exact Bool.false_ne_true)) (fun _ => ?_)
      obtain ⟨t, m, rfl⟩ := two_of h2
      obtain ⟨vt, vm, rfl⟩ := two_of (hlen.trans h2)
      cases hA with
      | cons ht hA2 =>
        cases hA2 with
        | cons hm _ =>
          refine ⟨.ref a, rfl, rix_of (i := 0) hst rfl ⟨vt, t, rfl, ht, hT1, fun H2 e2 t2 => ⟨isTurns t, rfl, ?_⟩⟩⟩
          have val := isPiece_two hds
          cases ht2 : isTurns t with
          | false => exact iteT (at_ e2 t2 (by rw [val, ht2]; rfl))
          | true =>
            refine iteF ⟨.ref a, rfl, rix_of (i := 1) (hst.ex e2) rfl ⟨decide (vm = .non), rfl, ite2 (fun e3 => ?_) (fun e3 => ?_)⟩⟩
            · have ev : vm = .non := of_decide_eq_true e3
              subst ev
              cases hm
              exact at_ e2 t2 (by rw [val, ht2]; rfl)
            · have nv : vm ≠ .non := fun z => e3 (decide_eq_true z)
              refine ⟨.ref a, rfl, rix_of (i := 1) (hst.ex e2) rfl ⟨vm, m, rfl, Rp.ex e2 m vm hm, fun H3 s3 => ⟨isWhole m, rfl, ite2 (fun e4 => ?_) (fun e4 => ?_)⟩⟩⟩
              · cases hm with
                | int i =>
                  refine ⟨.ref a, rfl, rix_of (i := 1) ((hst.ex e2).ex (Ex.of s3)) rfl ⟨i, 0, rfl, rfl, at_ (e2.trans (Ex.of s3)) (t2.same s3) ?_⟩⟩
                  rw [val, ht2]
                  rfl
                | _ => exact absurd e4 Bool.false_ne_true
              · refine at_ (e2.trans (Ex.of s3)) (t2.same s3) ?_
                rw [val, ht2]
                cases hm with
                | non => exact absurd rfl nv
                | int i => exact absurd rfl e4
                | _ => rfl
    · have e1 : decide (V.int (xs.length : Int) = V.int 2) = false := decide_eq_false fun z => h2 (by have := V.int.inj z; omega)
      refine ite2 (fun _ => iteT (at_ (Ex.refl H1) hT1 (isPiece_not hds h2))) (fun z => absurd (by rw [e1]; rfl) z)
end
end CL
set_option Elab.async false
set_option linter.all false
set_option maxRecDepth 100000
set_option maxHeartbeats 2000000
namespace CL
open PySem PySem.Spec PyProof.Rows L2 GE
theorem piece_parts {d : PyData} (h : isPiece d = true) : ∃ t m, rowsD d = some [t, m] ∧ isTurns t = true ∧ isMany m = true := by
  unfold isPiece at h
  split at h
  · rename_i t m e
    rw [Bool.and_eq_true] at h
    exact ⟨t, m, e, h.1, h.2⟩
  · cases h
theorem sndD_two {d t m : PyData} (h : rowsD d = some [t, m]) : sndD d = m := by
  unfold sndD
  rw [h]
theorem rp_none {H : Hp} {v : V} {m : PyData} (h : Rp H v m) : decide (v = .non) = isNone m := by
  cases h <;> first | rfl | exact decide_eq_false nofun
theorem all_get {p : PyData → Bool} {ds : List PyData} {i : Nat} {d : PyData} (h : ds.all p = true) (e : ds[i]? = some d) : p d = true := List.all_eq_true.mp h d (List.mem_of_getElem? e)
theorem sum_step {ds : List PyData} {i : Nat} {d : PyData} (h : ds[i]? = some d) : sumSnd (ds.take (i + 1)) = sumSnd (ds.take i) + worth (sndD d) := by
  unfold sumSnd
  rw [List.take_add_one, h, List.map_append, List.sum_append]
  simp
theorem cut_last (xs : List V) : cutV xs none (some (-1)) = xs.take (xs.length - 1) := by
  unfold cutV
  have e0 : HT.sIx xs.length 0 none = 0 := rfl
  have e1 : HT.sIx xs.length xs.length (some (-1)) = xs.length - 1 := by
    show (if (-1 : Int) < 0 then ((-1 : Int) + (xs.length : Int)).toNat else min (-1 : Int).toNat xs.length) = _
    rw [if_pos (by decide)]
    omega
  rw [e0, e1, List.drop_zero, Nat.sub_zero]
theorem ix_gx {X : Cx} {A : Around} {N : List Str} {s : Shared} {H : Hp} {cenv : Env} {fp : List Addr} {pn : List (Addr × Obj)} : IxR (gx X A N s H cenv fp pn) (rIx X.K) := ix_seq
/-- the second of a piece that stands -/
theorem piece_at {H : Hp} {x : V} {d : PyData} (hp : isPiece d = true) (hR : Rp H x d) : ∃ b vt vm m, x = .ref b ∧ StSeq H b [vt, vm] ∧ Rp H vm m ∧ sndD d = m ∧ isMany m = true := by
  obtain ⟨t, m, e, _, hm⟩ := piece_parts hp
  obtain ⟨b, ys, rfl, hA, hso⟩ := hR.rows e
  obtain ⟨vt, vm, rfl⟩ := two_of hA.length
  cases hA with
  | cons h1 h2 =>
    cases h2 with
    | cons h3 _ => exact ⟨b, vt, vm, m, rfl, ⟨hso⟩, h3, sndD_two e, hm⟩
section
variable {P : Program} {w : World} {K : PySem.W.Frag} {mg : Str → Option Value} {base : Heap}
theorem ok_plan {f c P1 P2 : Addr} {fd : FuncData} (F : FunC K "is_plan" "is_plan" sPlan f fd c) (T : Nm mg) (TB : GxR.TabB base mg c P2) (CR : Cal P w K mg base 1 "is_row" ["thing"] (spOne isRow)) (CP : Cal P w K mg base 5 "is_piece" ["thing"] (spTab P1 P2 isPiece)) :
    FnOk P w K mg base CX0 7 f fd ["thing"] (spTab P1 P2 isPlan) := by
  refine F.ok scPlan spTab_len (fun A outer s H vs Q E hr h => ?_)
  obtain ⟨v, d, rfl, hR, hT, q⟩ := h
  obtain ⟨tl, hlo⟩ := T.longest
  obtain ⟨tg, hgr⟩ := T.great
  refine ⟨_, pss_cons (ps_if (PW.pt (pw_or (pt_not (pt_val (pe_cal (CR.mono (by decide)) hr (by rfl) (pa_cons (pv 0) pa_nil))))
      (pw_or1 (pt_not (pt_chain op_le op_le pe_int (pe_callB call_len_seq (by rfl) T.len PySem.boot_len (pa_cons (pv 0) pa_nil)) (pe_glob (v := .int 8) (by rfl) hlo ⟨_, rfl⟩)))))) (pss_one (ps_ret pe_bl)) pss_nil)
    (pss_cons (ps_if (pt_not (pt_val (pe_allG (N := ["piece"]) hr (by rfl) T.all TB rfl (by exact ⟨rfl, rfl, by decide +kernel, rfl⟩) (pi_seq (pv 0))
        (fun A s H C code fp pn rY => pg_name (i := 0) nd1 rfl (.inl rfl) (.inr rfl)) (fun A s H C code fp pn rY => pts_nil)
        (fun A s H C code fp pn rY => pe_cal CP rY (by rfl) (pa_cons (pv 0) pa_nil))))) (pss_one (ps_ret pe_bl)) pss_nil)
    (pss_cons (ps_if (pt_val (pe_anyG (N := ["piece"]) hr (by rfl) T.any TB rfl (by exact ⟨rfl, rfl, by decide +kernel, rfl⟩) (pi_seq (pe_slice (SlR.or sl_list sl_tup) (pv 0) po_none (po_some (pe_un un_neg pe_int))))
        (fun A s H C code fp pn rY => pg_name (i := 0) nd1 rfl (.inl rfl) (.inr rfl)) (fun A s H C code fp pn rY => pts_nil)
        (fun A s H C code fp pn rY => pe_cmp (pc_isN (pe_ix ix_gx (pv 0) pe_int (fun _ _ => rfl))) rfl))) (pss_one (ps_ret pe_bl)) pss_nil)
    (pss_one (ps_ret (pe_cmpR op_le (pe_sumG (N := ["piece"]) hr (by rfl) T.sum TB rfl (by exact ⟨rfl, rfl, by decide +kernel, rfl⟩) (pi_seq (pv 0))
        (fun A s H C code fp pn rY => pg_name (i := 0) nd1 rfl (.inl rfl) (.inr rfl)) (fun A s H C code fp pn rY => pts_one (pt_cmp (pc_notN (pe_ix ix_gx (pv 0) pe_int (fun _ _ => rfl)))))
        (fun A s H C code fp pn rY => pe_ix ix_gx (pv 0) pe_int (fun _ _ => rfl))) (pe_glob (v := .int GREAT) (by rfl) hgr ⟨_, rfl⟩) (nomark _)))))), ?_⟩
  refine ⟨v, rfl, v, d, rfl, hR, fun H1 s1 => ⟨isRow d, rfl, ?_⟩⟩
  have hT1 := hT.same s1
  have at_ : ∀ {H2 : Hp} {b : Bool}, Ex H1 H2 → Tb P1 P2 H2 → isPlan d = b → Q (.bl b) H2 := fun {H2 b} e2 t2 z => by
    have q' := q H2 ((Ex.of s1).trans e2) t2
    rw [z] at q'
    exact q'
  cases hds : rowsD d with
  | none =>
    have e0 : isRow d = false := by unfold isRow; rw [hds]; rfl
    rw [e0]
    exact iteT (iteT (at_ (Ex.refl H1) hT1 (by unfold isPlan; rw [hds])))
  | some ds =>
    have e0 : isRow d = true := by unfold isRow; rw [hds]; rfl
    rw [e0]
    obtain ⟨a, xs, rfl, hA, hso⟩ := (Rp.ex (Ex.of s1) d v hR).rows hds
    have hst : StSeq H1 a xs := ⟨hso⟩
    have hlen := hA.length
    have val : isPlan d = (decide (1 ≤ ds.length) && decide (ds.length ≤ 8) && ds.all isPiece && !((ds.take (ds.length - 1)).any fun d => isNone (sndD d)) && decide (sumSnd ds ≤ GREAT)) := by
      unfold isPlan
      rw [hds]
      rfl
    refine iteF ⟨.ref a, rfl, a, xs, rfl, hst.sq, 1, xs.length, rfl, rfl, decide ((1 : Int) ≤ xs.length), rfl, ite2 (fun e1 => ?_) (fun e1 => ?_)⟩
    · have l1 : 1 ≤ ds.length := by have := of_decide_eq_true e1; omega
      refine ⟨xs.length, 8, rfl, rfl, decide ((xs.length : Int) ≤ 8), rfl, ?_⟩
      by_cases l2 : ds.length ≤ 8
      · have e2 : decide ((xs.length : Int) ≤ 8) = true := decide_eq_true (by omega)
        rw [e2]
        refine iteF ?_
        -- all
        refine ⟨.ref a, rfl, a, xs, rfl, hst, fun J hJ => ⟨hT1.2, fun H2 tb => ⟨_, ⟨xs.length, rfl, Nat.zero_le _, ex_tabbed hT1.2 tb, hT1.tab2 tb, rfl⟩, turn_by (xs := xs) (fun _ i H => Ex H1 H ∧ Tb P1 P2 H ∧ (ds.take i).all isPiece = true)
          (fun _ i H ⟨eH, _, _⟩ => hJ H eH) (fun _ i x H hx ⟨eH, tH, aH⟩ => ?_) (fun _ H ⟨eH, tH, pH⟩ => ?_)⟩⟩⟩
        · obtain ⟨dx, hdx, hRx⟩ := hA.get hx
          refine name_yes ?_
          refine ⟨x, rfl, x, dx, rfl, Rp.ex eH dx x hRx, tH, fun H4 e4 t4 => ⟨isPiece dx, rfl, ite2 (fun e5 => ?_) (fun e5 => ?_)⟩⟩
          · exact ⟨eH.trans e4, t4, by rw [all_take hdx, aH, e5]; rfl⟩
          · refine ⟨false, rfl, iteT (at_ (eH.trans e4) t4 ?_)⟩
            rw [val, all_false hdx (Bool.eq_false_iff.mpr e5), Bool.and_false, Bool.false_and, Bool.false_and]
        · rw [hlen, List.take_length] at pH
          refine ⟨true, rfl, iteF ?_⟩
          have hA' : RpAll H1 (xs.take (xs.length - 1)) (ds.take (ds.length - 1)) := by
            have z := hA.take (xs.length - 1)
            rw [show ds.take (xs.length - 1) = ds.take (ds.length - 1) by rw [hlen]] at z
            exact z
          have hp' : (ds.take (ds.length - 1)).all isPiece = true := by
            rw [List.all_eq_true]
            intro y hy
            exact List.all_eq_true.mp pH y (List.mem_of_mem_take hy)
          have hl' : (xs.take (xs.length - 1)).length = (ds.take (ds.length - 1)).length := hA'.length
          -- the walk, wherever the cut stands
          have walk : ∀ (p : Addr) (H3 : Hp), StSeq H3 p (xs.take (xs.length - 1)) → Ex H1 H3 → Tb P1 P2 H3 → ∀ QB : Bool → Hp → Prop,
              (∀ H', Ex H1 H' → Tb P1 P2 H' → QB ((ds.take (ds.length - 1)).any fun d => isNone (sndD d)) H') →
              ∀ J, (∀ H2, Ex H3 H2 → StandsAs K p (xs.take (xs.length - 1)) J H2) → GxR.TabG H3 P2 ∧ ∀ H2, GxR.Tabbed P2 H3 H2 →
                ∃ W : Unit → Nat → Nat → Hp → Prop, (∃ m, W () 0 m H2) ∧ TurnOf J 1 (gName 0) tYes (tIsN (tOp (rIx K) (tVar 0) (tC (.int 1)))) (outAny QB) (fun _ H => QB false H) W := by
            intro p H3 st3 e3 t3 QB hQB J hJ
            refine ⟨t3.2, fun H2 tb => ⟨_, ⟨(xs.take (xs.length - 1)).length, rfl, Nat.zero_le _, ex_tabbed t3.2 tb, t3.tab2 tb, rfl⟩, turn_by (xs := xs.take (xs.length - 1)) (fun _ i H => Ex H3 H ∧ Tb P1 P2 H ∧ ((ds.take (ds.length - 1)).take i).any (fun d => isNone (sndD d)) = false)
              (fun _ i H ⟨eH, _, _⟩ => hJ H eH) (fun _ i x H hx ⟨eH, tH, aH⟩ => ?_) (fun _ H ⟨eH, tH, aH⟩ => ?_)⟩⟩
            · obtain ⟨dx, hdx, hRx⟩ := hA'.get hx
              obtain ⟨b, vt, vm, m, rfl, stb, hRm, hsn, _⟩ := piece_at (all_get hp' hdx) (Rp.ex (e3.trans eH) dx x hRx)
              refine name_yes ?_
              refine ⟨.ref b, rfl, rix_of (i := 1) stb rfl ⟨decide (vm = .non), rfl, ite2 (fun e5 => ?_) (fun e5 => ?_)⟩⟩
              · have z := hQB H (e3.trans eH) tH
                rw [any_true (p := fun d => isNone (sndD d)) hdx (by rw [hsn, ← rp_none hRm]; exact e5)] at z
                exact z
              · refine ⟨eH, tH, ?_⟩
                rw [any_take hdx, aH, hsn, ← rp_none hRm, Bool.eq_false_iff.mpr e5]
                rfl
            · rw [hl', List.take_length] at aH
              have z := hQB H (e3.trans eH) tH
              rw [aH] at z
              exact z
          -- the sum
          have sums : ∀ (H3 : Hp), Ex H1 H3 → Tb P1 P2 H3 → ∀ QI : Int → Hp → Prop, (∀ H', Ex H1 H' → Tb P1 P2 H' → QI (sumSnd ds) H') →
              ∀ J, (∀ H2, Ex H3 H2 → StandsAs K a xs J H2) → GxR.TabG H3 P2 ∧ ∀ H2, GxR.Tabbed P2 H3 H2 →
                ∃ W : Int → Nat → Nat → Hp → Prop, (∃ m, W 0 0 m H2) ∧ TurnOf J 1 (gName 0) (tB (tNotN (tOp (rIx K) (tVar 0) (tC (.int 1))))) (tOp (rIx K) (tVar 0) (tC (.int 1))) outSum (fun a H => QI a H) W := by
            intro H3 e3 t3 QI hQI J hJ
            refine ⟨t3.2, fun H2 tb => ⟨_, ⟨xs.length, rfl, Nat.zero_le _, ex_tabbed t3.2 tb, t3.tab2 tb, rfl⟩, turn_by (xs := xs) (fun z i H => Ex H3 H ∧ Tb P1 P2 H ∧ z = sumSnd (ds.take i))
              (fun _ i H ⟨eH, _, _⟩ => hJ H eH) (fun z i x H hx ⟨eH, tH, aH⟩ => ?_) (fun z H ⟨eH, tH, zH⟩ => ?_)⟩⟩
            · obtain ⟨dx, hdx, hRx⟩ := hA.get hx
              obtain ⟨b, vt, vm, m, rfl, stb, hRm, hsn, hmm⟩ := piece_at (all_get pH hdx) (Rp.ex (e3.trans eH) dx x hRx)
              refine ⟨.ref b, rfl, rix_of (i := 1) stb rfl ⟨!decide (vm = .non), rfl, ite2 (fun e5 => ?_) (fun e5 => ?_)⟩⟩
              · refine ⟨.ref b, rfl, rix_of (i := 1) stb rfl ?_⟩
                cases hRm with
                | int j => exact ⟨j, rfl, eH, tH, by rw [sum_step hdx, hsn, aH]; rfl⟩
                | non => exact absurd e5 (by decide)
                | _ => cases hmm
              · refine ⟨eH, tH, ?_⟩
                rw [sum_step hdx, hsn, aH]
                cases hRm with
                | non => exact (Int.add_zero _).symm
                | _ => exact absurd rfl e5
            · rw [hlen, List.take_length] at zH
              subst zH
              exact hQI H (e3.trans eH) tH
          have hst2 := hst.ex eH
          have fin : ∀ (H' : Hp), Ex H1 H' → Tb P1 P2 H' → ((ds.take (ds.length - 1)).any fun d => isNone (sndD d)) = false → isPlan d = decide (sumSnd ds ≤ GREAT) := fun H' _ _ z => by
            rw [val, decide_eq_true l1, decide_eq_true l2, pH, z]
            rfl
          have bad : ∀ (H' : Hp), Ex H1 H' → Tb P1 P2 H' → ((ds.take (ds.length - 1)).any fun d => isNone (sndD d)) = true → Q (.bl false) H' := fun H' e' t' z => at_ e' t' (by
            rw [val, z]
            simp)
          refine ⟨.ref a, rfl, 1, rfl, -1, rfl, ?_⟩
          rcases hst2.or with hq | hq
          · refine .inl ⟨a, xs, rfl, SqL.of hq, fun p np => ?_⟩
            have st3 : StSeq (upd H p (.lst (cutV xs none (some (-1))))) p (xs.take (xs.length - 1)) := ⟨.inl (by rw [upd_same, cut_last])⟩
            refine ⟨p, _, rfl, st3, walk p _ st3 (eH.trans (Ex.new np)) (tH.same (same_upd np)) _ fun H' e' t' => ?_⟩
            refine ⟨_, rfl, ite2 (fun e5 => bad H' e' t' e5) (fun e5 => ?_)⟩
            refine ⟨.ref a, rfl, a, xs, rfl, hst.ex e', sums H' e' t' _ fun H'' e'' t'' => ⟨sumSnd ds, GREAT, rfl, rfl, at_ e'' t'' (fin H'' e'' t'' (Bool.eq_false_iff.mpr e5))⟩⟩
          · refine .inr ⟨a, xs, rfl, SqT.of hq, ?_, fun p np => ?_⟩
            · intro z
              have z2 : HT.sIx xs.length xs.length (some (-1)) = xs.length - 1 := by
                show (if (-1 : Int) < 0 then ((-1 : Int) + (xs.length : Int)).toNat else min (-1 : Int).toNat xs.length) = _
                rw [if_pos (by decide)]
                omega
              have z3 := z.2
              rw [z2] at z3
              omega
            have st3 : StSeq (upd H p (.tup (cutV xs none (some (-1))))) p (xs.take (xs.length - 1)) := ⟨.inr (by rw [upd_same, cut_last])⟩
            refine ⟨p, _, rfl, st3, walk p _ st3 (eH.trans (Ex.new np)) (tH.same (same_upd np)) _ fun H' e' t' => ?_⟩
            refine ⟨_, rfl, ite2 (fun e5 => bad H' e' t' e5) (fun e5 => ?_)⟩
            refine ⟨.ref a, rfl, a, xs, rfl, hst.ex e', sums H' e' t' _ fun H'' e'' t'' => ⟨sumSnd ds, GREAT, rfl, rfl, at_ e'' t'' (fin H'' e'' t'' (Bool.eq_false_iff.mpr e5))⟩⟩
      · have e2 : decide ((xs.length : Int) ≤ 8) = false := decide_eq_false (by omega)
        rw [e2]
        refine iteT (at_ (Ex.refl H1) hT1 ?_)
        rw [val, decide_eq_false l2, Bool.and_false, Bool.false_and, Bool.false_and, Bool.false_and]
    · have l1 : ¬ 1 ≤ ds.length := fun z => e1 (decide_eq_true (by omega))
      refine ⟨false, rfl, iteT (at_ (Ex.refl H1) hT1 ?_)⟩
      rw [val, decide_eq_false l1, Bool.false_and, Bool.false_and, Bool.false_and, Bool.false_and]
end
end CL
set_option Elab.async false
set_option linter.all false
set_option maxRecDepth 100000
set_option maxHeartbeats 2000000
namespace CL
open PySem PySem.Spec PyProof.Rows L2 GE
abbrev sReel : Stmt := topS 29
abbrev sDraw : Stmt := topS 30
theorem scReel : FnScope ["script", "stir", "cell", "great"] ["script"] (defScope sReel) := ⟨rfl, rfl, rfl, by decide +kernel, rfl, by decide +kernel, by decide +kernel⟩
theorem scDraw : FnScope ["reel", "many", "rest", "told", "stir"] ["reel", "many"] (defScope sDraw) := ⟨rfl, rfl, rfl, by decide +kernel, rfl, by decide +kernel, by decide +kernel⟩
abbrev MOD : Int := 170141183460469231731687303715884105727
abbrev SIXTY : Int := 42391158275216203514294433201
theorem mod_eq : (2 : Int) ^ (64 : Int).toNat * 2 ^ (63 : Int).toNat - 1 = MOD := by decide +kernel
theorem p40 : (2 : Int) ^ (40 : Int).toNat = 1099511627776 := by decide +kernel
theorem p63 : (2 : Int) ^ (63 : Int).toNat = 9223372036854775808 := by decide +kernel
theorem p18 : (10 : Int) ^ (18 : Int).toNat = 1000000000000000000 := by decide +kernel
theorem p30 : (10 : Int) ^ (30 : Int).toNat = GREAT := by decide +kernel
theorem three60 : (3 : Int) ^ (60 : Int).toNat = SIXTY := by decide +kernel
/-- the reel: great cells' rest, cells, how many were drawn, a number stirred -/
structure ReelAt (H : Hp) (r : Addr) : Prop where
  ex : ∃ (g t : Addr) (gs ts : List Int) (n st : Int), H r = some (.lst [.ref g, .ref t, .int n, .int st]) ∧ H g = some (.lst (gs.map V.int)) ∧ H t = some (.lst (ts.map V.int)) ∧ g ≠ r ∧ t ≠ r ∧ gs.length ≤ 63 ∧ (∀ x ∈ gs, 0 ≤ x) ∧
    0 < ts.length ∧ ts.length ≤ 64 ∧ (∀ x ∈ ts, 0 ≤ x ∧ x < 1000003) ∧ 0 ≤ st ∧ st < MOD
/-- neither the reel nor one of its lists -/
structure Free (H : Hp) (r b : Addr) : Prop where
  ne : b ≠ r
  out : ∀ xs, H r = some (.lst xs) → V.ref b ∉ xs
/-- all but the reel stays; what is none of its lists gets none of them -/
structure Mv (r : Addr) (H H' : Hp) : Prop where
  keep : ∀ b o, b ≠ r → H b = some o → H' b = some o
  free : ∀ b, H b ≠ none → Free H r b → Free H' r b
theorem Mv.refl (r : Addr) (H : Hp) : Mv r H H := ⟨fun _ _ _ h => h, fun _ _ h => h⟩
theorem Mv.of {r : Addr} {H H' : Hp} (s : Same H H') (hr : ReelAt H r) : Mv r H H' := ⟨fun b o _ h => s b o h, fun b _ f => ⟨f.ne, fun xs e => by
  obtain ⟨_, _, _, _, _, _, er, _⟩ := hr
  rw [s _ _ er] at e
  exact f.out xs (er.trans e)⟩⟩
theorem Mv.trans {r : Addr} {H H1 H2 : Hp} (a : Mv r H H1) (b : Mv r H1 H2) : Mv r H H2 := ⟨fun c o n h => b.keep c o n (a.keep c o n h), fun c h f => b.free c (fun z => by
  cases q : H c with
  | none => exact h q
  | some o =>
    rw [a.keep c o f.ne q] at z
    cases z) (a.free c h f)⟩
theorem ReelAt.same {r : Addr} {H H' : Hp} (s : Same H H') (hr : ReelAt H r) : ReelAt H' r := by
  obtain ⟨g, t, gs, ts, n, st, er, eg, et, h⟩ := hr
  exact ⟨g, t, gs, ts, n, st, s _ _ er, s _ _ eg, s _ _ et, h⟩
theorem ReelAt.new {r p : Addr} {H : Hp} (hr : ReelAt H r) (np : H p = none) : Free H r p := by
  obtain ⟨g, t, gs, ts, n, st, er, eg, et, _⟩ := hr
  refine ⟨(fun z => by rw [z, er] at np; cases np), fun xs e m => ?_⟩
  rw [er] at e
  cases e
  simp only [List.mem_cons, V.ref.injEq, List.not_mem_nil, or_false, reduceCtorEq] at m
  rcases m with m | m
  · rw [m, eg] at np; cases np
  · rw [m, et] at np; cases np
theorem ReelAt.store {r p : Addr} {H : Hp} {o : HO} (hr : ReelAt H r) (f : Free H r p) : ReelAt (upd H p o) r := by
  obtain ⟨g, t, gs, ts, n, st, er, eg, et, h⟩ := hr
  have n1 : r ≠ p := fun z => f.ne z.symm
  have n2 : g ≠ p := fun z => f.out _ er (by rw [z]; exact List.mem_cons_self)
  have n3 : t ≠ p := fun z => f.out _ er (by rw [z]; exact List.mem_cons_of_mem _ List.mem_cons_self)
  exact ⟨g, t, gs, ts, n, st, by rw [upd_ne n1]; exact er, by rw [upd_ne n2]; exact eg, by rw [upd_ne n3]; exact et, h⟩
/-- the heap without the reel -/
def Hd (r : Addr) (H : Hp) : Hp := fun b => if b = r then none else H b
theorem Hd.sub (r : Addr) (H : Hp) : Same (Hd r H) H := fun b o e => by
  unfold Hd at e
  split at e
  · cases e
  · exact e
theorem Hd.ne {r : Addr} {H : Hp} {b : Addr} {o : HO} (e : Hd r H b = some o) : b ≠ r := fun z => by
  unfold Hd at e
  rw [if_pos z] at e
  cases e
theorem Hd.at {r : Addr} {H : Hp} {b : Addr} (n : b ≠ r) : Hd r H b = H b := if_neg n
theorem Mv.hd {r : Addr} {H H' : Hp} (m : Mv r H H') : Same (Hd r H) (Hd r H') := fun b o e => by
  rw [Hd.at (Hd.ne e)]
  exact m.keep b o (Hd.ne e) (Hd.sub r H b o e)
theorem Mv.rp {r : Addr} {H H' : Hp} {v : V} {d : PyData} (m : Mv r H H') (h : Rp (Hd r H) v d) : Rp (Hd r H') v d := Rp.ex (Ex.of m.hd) d v h
theorem Mv.rpAll {r : Addr} {H H' : Hp} {vs : List V} {ds : List PyData} (m : Mv r H H') (h : RpAll (Hd r H) vs ds) : RpAll (Hd r H') vs ds := RpAll.ex (Ex.of m.hd) ds vs h
theorem rp_of_hd {r : Addr} {H : Hp} {v : V} {d : PyData} (h : Rp (Hd r H) v d) : Rp H v d := Rp.ex (Ex.of (Hd.sub r H)) d v h
/-- a new thing's list or tuple is tracked outside of the reel -/
theorem same_ne {H H' : Hp} (s : Same H H') {p b : Addr} (np : H' p = none) (hb : H b ≠ none) : b ≠ p := fun z => by
  rw [z] at hb
  cases q : H p with
  | none => exact hb q
  | some o =>
    rw [s p o q] at np
    cases np
theorem ints_dp {K : PySem.W.Frag} {H : Hp} : ∀ gs : List Int, DpAll K H (gs.map V.int) (gs.map PyData.int)
  | [] => .nil
  | x :: gs => .cons (.int x) (ints_dp gs)
theorem ints_lay : ∀ gs : List Int, PyData.canLayAll0 (gs.map PyData.int) = true
  | [] => by simp [PyData.canLayAll0]
  | x :: gs => by
    have := ints_lay gs
    simp [PyData.canLayAll0, PyData.canLay0, this]
theorem ints_depth : ∀ gs : List Int, PyData.depthAll (gs.map PyData.int) = 0
  | [] => rfl
  | x :: gs => by
    have := ints_depth gs
    show max 0 (PyData.depthAll (gs.map PyData.int)) = 0
    rw [this]
    rfl
theorem ints_shaped (gs : List Int) : SeqAt.shaped (.list (gs.map PyData.int)) = true := by
  unfold SeqAt.shaped
  have h1 : PyData.canLay0 (.list (gs.map PyData.int)) = true := by
    have := ints_lay gs
    simp [PyData.canLay0, this]
  have h2 : PyData.depth (.list (gs.map PyData.int)) = 1 := by
    show PyData.depthAll (gs.map PyData.int) + 1 = 1
    rw [ints_depth]
  rw [h1, h2]
  rfl
theorem ints_take (gs : List Int) (k : Nat) : (gs.map V.int).take k = (gs.take k).map V.int := List.map_take.symm
theorem cut_to (xs : List V) (k : Nat) : cutV xs none (some (k : Int)) = xs.take k := by
  unfold cutV
  have e0 : HT.sIx xs.length 0 none = 0 := rfl
  have e1 : HT.sIx xs.length xs.length (some (k : Int)) = min k xs.length := HT.sIx_nat _ _ _
  rw [e0, e1, List.drop_zero, Nat.sub_zero]
  rcases Nat.le_total k xs.length with h | h
  · rw [Nat.min_eq_left h]
  · rw [Nat.min_eq_right h, List.take_of_length_le h, List.take_of_length_le (Nat.le_refl _)]
theorem cut_from (xs : List V) (k : Nat) : cutV xs (some (k : Int)) none = xs.drop k := by
  unfold cutV
  have e0 : HT.sIx xs.length 0 (some (k : Int)) = min k xs.length := HT.sIx_nat _ _ _
  have e1 : HT.sIx xs.length xs.length none = xs.length := rfl
  rw [e0, e1]
  rcases Nat.le_total k xs.length with h | h
  · rw [Nat.min_eq_left h]
    exact List.take_of_length_le (by rw [List.length_drop]; exact Nat.le_refl _)
  · rw [Nat.min_eq_right h, List.drop_of_length_le (Nat.le_refl _), List.drop_of_length_le h]
    simp
def spDraw (r : Addr) : Sp := fun vs H Q _ => ∃ m : Int, vs = [.ref r, .int m] ∧ ReelAt H r ∧ 1 ≤ m ∧ m < 2 ^ 140 ∧ ∀ x H', ReelAt H' r → Mv r H H' → 0 ≤ x → x < m → Q (.int x) H'
theorem small_add {a b : Nat} (ha : a ≤ 1000) (hb : b ≤ 1000) : a + b ≤ sizeLine := by
  have : 2000 ≤ sizeLine := by decide
  omega
theorem small_le {a : Nat} (ha : a ≤ 1000) : a ≤ sizeLine := by
  have : 1000 ≤ sizeLine := by decide
  omega
section
variable {P : Program} {w : World} {K : PySem.W.Frag} {mg : Str → Option Value} {base : Heap}
theorem ok_draw {f r : Addr} {fd : FuncData} (F : Fun K "_law_draw" "_law_draw" sDraw f fd) (T : Nm mg) : FnOk P w K mg base CX0 1 f fd ["reel", "many"] (spDraw r) := by
  refine F.ok scDraw (fun vs H Q E ⟨m, e, _⟩ => by rw [e]; rfl) (fun cdv A outer s H vs Q E hr h => ?_)
  obtain ⟨m, rfl, ⟨g, t, gs, ts, n, st, er, eg, et, ngr, ntr, lg, hgs, lt0, lt, hts, st0, st1⟩, m1, m2, q⟩ := h
  refine ⟨_, pss_cons (ps_if (pt_cmpR (op_neD hr.units) (pe_ix ix_list (pv 0) pe_int (fun _ _ => rfl)) (pe_lst pa_nil) (nomark _))
      (pss_cons (ps_set (i := 2) scDraw.nd rfl (.inl rfl) (pe_ix ix_list (pe_ix ix_list (pv 0) pe_int (fun _ _ => rfl)) pe_int (fun _ _ => rfl)))
      (pss_cons (ps_asg (pe_op op_cat (pe_op op_rep (pe_lst (pa_cons (pe_op op_fdivW (pv 2) (pv 1)) pa_nil)) (pe_callTy call_int1 (by rfl) T.int PyProof.Rows.boot_int (pa_cons (pe_cmpR op_ge (pv 2) (pv 1) (nomark _)) pa_nil)))
          (pe_slice sl_list (pe_ix ix_list (pv 0) pe_int (fun _ _ => rfl)) (po_some pe_int) po_none)) (pg_sub (pv 0) pe_int set_list))
      (pss_one (ps_ret (pe_op op_mod (pv 2) (pv 1)))))) pss_nil)
    (pss_cons (ps_asg (pe_op op_add (pe_ix ix_list (pv 0) pe_int (fun _ _ => rfl)) pe_int) (pg_sub (pv 0) pe_int set_list))
    (pss_cons (ps_set (i := 3) scDraw.nd rfl (.inl rfl) (pe_ix ix_list (pe_ix ix_list (pv 0) pe_int (fun _ _ => rfl)) (pe_op op_mod (pe_ix ix_list (pv 0) pe_int (fun _ _ => rfl)) (pe_callB call_len_seq (by rfl) T.len PySem.boot_len (pa_cons (pe_ix ix_list (pv 0) pe_int (fun _ _ => rfl)) pa_nil))) (fun _ _ => rfl)))
    (pss_cons (ps_set (i := 4) scDraw.nd rfl (.inl rfl) (pe_op op_add (pe_op op_add (pe_op op_mulW (pe_ix ix_list (pv 0) pe_int (fun _ _ => rfl)) (pe_ix ix_list (pv 0) pe_int (fun _ _ => rfl))) (pe_op op_mul (pe_op op_add (pv 3) pe_int) pe_int)) (pe_op op_mul (pe_ix ix_list (pv 0) pe_int (fun _ _ => rfl)) pe_int)))
    (pss_cons (ps_asg (pe_op op_mod (pv 4) (pe_op op_sub (pe_op op_mul (pe_op op_pow pe_int pe_int) (pe_op op_pow pe_int pe_int)) pe_int)) (pg_sub (pv 0) pe_int set_list))
    (pss_one (ps_ret (pe_op op_mod (pe_op op_fdivW (pe_ix ix_list (pv 0) pe_int (fun _ _ => rfl)) (pe_op op_pow pe_int pe_int)) (pv 1)))))))), ?_⟩
  have mdiv : CDivW 0 m := wide_div (b := 140) (by omega) (by omega) (by decide) (by decide)
  refine ⟨.ref r, rfl, r, _, 0, .ref g, rfl, rfl, SqL.of er, atI_nat (j := 0) rfl, Nat.zero_le _, fun p np => ?_⟩
  have s1 : Same H (upd H p (.lst [])) := same_upd np
  refine ⟨.list (gs.map PyData.int), .list [], .lst (SqL.of (s1 _ _ eg)) (ints_dp gs), .lst (SqL.of upd_same) .nil, ints_shaped gs, ints_shaped [], _, rfl, ?_⟩
  generalize hH1 : upd H p (.lst []) = H1 at s1
  cases gs with
  | cons x gs' =>
    refine iteT ?_
    have hx0 : 0 ≤ x := hgs x List.mem_cons_self
    -- rest = reel[0][0]
    refine ⟨.ref r, rfl, r, _, 0, .ref g, rfl, rfl, SqL.of (s1 _ _ er), atI_nat (j := 0) rfl, g, _, 0, .int x, rfl, rfl, SqL.of (s1 _ _ eg), atI_nat (j := 0) rfl, ?_⟩
    -- reel[0] = [rest // many] * int(rest >= many) + reel[0][1:]
    refine ⟨.int x, rfl, .int m, rfl, x, m, rfl, rfl, mdiv, small_le (by show 1 ≤ 1000; decide), fun p1 np1 => ?_⟩
    refine ⟨.int x, rfl, .int m, rfl, x, m, rfl, rfl, .inr ⟨_, rfl, ?_⟩⟩
    refine ⟨p1, _, _, rfl, rfl, upd_same, by split <;> decide, by split <;> decide, by split <;> exact small_le (by simp), fun p2 np2 => ?_⟩
    have s2 : Same H (upd H1 p1 (.lst [.int (x / m)])) := s1.trans (same_upd np1)
    generalize hH2 : upd H1 p1 (.lst [.int (x / m)]) = H2 at s2
    rw [hH2] at np2
    have s3 : Same H (upd H2 p2 (.lst (List.replicate (if decide (m ≤ x) = true then (1 : Int) else 0).toNat [V.int (x / m)]).flatten)) := s2.trans (same_upd np2)
    have e2 : (upd H2 p2 (.lst (List.replicate (if decide (m ≤ x) = true then (1 : Int) else 0).toNat [V.int (x / m)]).flatten)) p2 = some (.lst ((if m ≤ x then [x / m] else []).map V.int)) := by
      rw [upd_same]
      by_cases hmx : m ≤ x
      · rw [if_pos (decide_eq_true hmx), if_pos hmx]
        rfl
      · rw [if_neg (by simpa using hmx), if_neg hmx]
        rfl
    generalize hH3 : upd H2 p2 (.lst (List.replicate (if decide (m ≤ x) = true then (1 : Int) else 0).toNat [V.int (x / m)]).flatten) = H3 at s3 e2
    refine ⟨.ref r, rfl, r, _, 0, .ref g, rfl, rfl, SqL.of (s3 _ _ er), atI_nat (j := 0) rfl, 1, rfl, g, _, rfl, SqL.of (s3 _ _ eg), fun p3 np3 => ?_⟩
    have s4 : Same H (upd H3 p3 (.lst (cutV ((x :: gs').map V.int) (some 1) none))) := s3.trans (same_upd np3)
    have e3 : (upd H3 p3 (.lst (cutV ((x :: gs').map V.int) (some 1) none))) p3 = some (.lst (gs'.map V.int)) := by
      rw [upd_same]
      exact congrArg (fun z => some (HO.lst z)) (cut_from _ 1)
    have e2' := (same_upd np3 : Same H3 (upd H3 p3 (.lst (cutV ((x :: gs').map V.int) (some 1) none)))) _ _ e2
    generalize hH4 : upd H3 p3 (.lst (cutV ((x :: gs').map V.int) (some 1) none)) = H4 at s4 e3 e2'
    have lg' : gs'.length ≤ 62 := by
      rw [List.length_cons] at lg
      omega
    refine ⟨p2, p3, _, _, rfl, rfl, e2', e3, ?_, fun p4 np4 => ?_⟩
    · rw [List.length_map, List.length_map]
      refine small_add ?_ (by omega)
      split <;> simp
    have s5 : Same H (upd H4 p4 (.lst ((if m ≤ x then [x / m] else []).map V.int ++ gs'.map V.int))) := s4.trans (same_upd np4)
    have n4r : p4 ≠ r := fun z => by
      rw [z, s4 _ _ er] at np4
      cases np4
    have e4 : (upd H4 p4 (.lst ((if m ≤ x then [x / m] else []).map V.int ++ gs'.map V.int))) p4 = some (.lst (((if m ≤ x then [x / m] else []) ++ gs').map V.int)) := by rw [upd_same, List.map_append]
    generalize hH5 : upd H4 p4 (.lst ((if m ≤ x then [x / m] else []).map V.int ++ gs'.map V.int)) = H5 at s5 e4
    refine ⟨.ref r, rfl, r, _, 0, 0, rfl, rfl, s5 _ _ er, rfl, ?_⟩
    -- return rest % many
    refine ⟨.int x, rfl, .int m, rfl, x, m, rfl, rfl, (by show (0 : Int) < m; omega), ?_⟩
    refine q _ _ ⟨p4, t, (if m ≤ x then [x / m] else []) ++ gs', ts, n, st, upd_same, by rw [upd_ne n4r]; exact e4, by rw [upd_ne ntr]; exact s5 _ _ et, n4r, ntr, ?_, ?_, lt0, lt, hts, st0, st1⟩ ⟨fun b o nb e => by rw [upd_ne nb]; exact s5 _ _ e, fun b hb f => ⟨f.ne, fun xs e => ?_⟩⟩ (Int.emod_nonneg _ (by omega)) (Int.emod_lt_of_pos _ (by omega))
    · rw [List.length_append]
      split
      · rw [List.length_singleton]; omega
      · rw [List.length_nil]; omega
    · intro y hy
      rcases List.mem_append.mp hy with hy | hy
      · split at hy
        · rw [List.mem_singleton.mp hy]
          exact Int.ediv_nonneg hx0 (by omega)
        · cases hy
      · exact hgs y (List.mem_cons_of_mem _ hy)
    · rw [upd_same] at e
      cases e
      intro z
      simp only [List.set_cons_zero, List.mem_cons, V.ref.injEq, List.not_mem_nil, or_false, reduceCtorEq] at z
      rcases z with z | z
      · exact same_ne s4 np4 hb z
      · exact f.out _ er (by rw [z]; exact List.mem_cons_of_mem _ List.mem_cons_self)
  | nil =>
    refine iteF ?_
    -- reel[2] = reel[2] + 1
    refine ⟨.ref r, rfl, r, _, 2, .int n, rfl, rfl, SqL.of (s1 _ _ er), atI_nat (j := 2) rfl, n, 1, rfl, rfl, .ref r, rfl, r, _, 2, 2, rfl, rfl, s1 _ _ er, rfl, ?_⟩
    have m2' : ∀ b o, b ≠ r → H b = some o → upd H1 r (.lst [.ref g, .ref t, .int (n + 1), .int st]) b = some o := fun b o nb e => by rw [upd_ne nb]; exact s1 _ _ e
    have er2 : (upd H1 r (.lst [.ref g, .ref t, .int (n + 1), .int st])) r = some (.lst [.ref g, .ref t, .int (n + 1), .int st]) := upd_same
    show tSeq _ _ _ _ (upd H1 r (.lst [.ref g, .ref t, .int (n + 1), .int st]))
    generalize hH2 : upd H1 r (.lst [.ref g, .ref t, .int (n + 1), .int st]) = H2 at m2' er2
    -- told = reel[1][reel[2] % len(reel[1])]
    have et2 := m2' _ _ ntr et
    have hlen : 0 < ((ts.map V.int).length : Int) := by rw [List.length_map]; omega
    have j0 := Int.emod_nonneg (n + 1) (show ((ts.map V.int).length : Int) ≠ 0 by omega)
    have j1 := Int.emod_lt_of_pos (n + 1) hlen
    obtain ⟨j, hj⟩ : ∃ j : Nat, (n + 1) % ((ts.map V.int).length : Int) = (j : Int) := ⟨_, (Int.toNat_of_nonneg j0).symm⟩
    have hjl : j < ts.length := by
      rw [hj] at j1
      rw [List.length_map] at j1
      omega
    have hat : (ts.map V.int)[j]? = some (.int ts[j]) := by rw [List.getElem?_map, List.getElem?_eq_getElem hjl]; rfl
    have hb := hts ts[j] (List.getElem_mem hjl)
    refine ⟨.ref r, rfl, r, _, 1, .ref t, rfl, rfl, SqL.of er2, atI_nat (j := 1) rfl, .ref r, rfl, r, _, 2, .int (n + 1), rfl, rfl, SqL.of er2, atI_nat (j := 2) rfl,
      .ref r, rfl, r, _, 1, .ref t, rfl, rfl, SqL.of er2, atI_nat (j := 1) rfl, t, _, rfl, .inl (SqL.of et2), n + 1, _, rfl, rfl, hlen, t, _, _, .int ts[j], rfl, rfl, SqL.of et2, (by rw [hj]; exact atI_nat hat), ?_⟩
    -- stir
    have st1' : st < 170141183460469231731687303715884105727 := st1
    have w1 : CMulW st st := wide_mul (a := 127) (b := 127) (by omega) (by omega) (by decide) (by decide) (by decide)
    refine ⟨.ref r, rfl, r, _, 3, .int st, rfl, rfl, SqL.of er2, atI_nat (j := 3) rfl, .ref r, rfl, r, _, 3, .int st, rfl, rfl, SqL.of er2, atI_nat (j := 3) rfl, st, st, rfl, rfl, w1,
      .int ts[j], rfl, ts[j], 7, rfl, rfl, ts[j] + 7, 69621, rfl, rfl, .inr ⟨by decide, by decide⟩, _, _, rfl, rfl,
      .ref r, rfl, r, _, 2, .int (n + 1), rfl, rfl, SqL.of er2, atI_nat (j := 2) rfl, n + 1, 1000003, rfl, rfl, .inr ⟨by decide, by decide⟩, _, _, rfl, rfl, ?_⟩
    -- reel[3] = stir % ..
    refine ⟨_, rfl, 2, 64, rfl, rfl, ⟨by decide, by decide, by decide⟩, 2, 63, rfl, rfl, ⟨by decide, by decide, by decide⟩, _, _, rfl, rfl, .inr ⟨by rw [p63]; decide, by rw [p63]; decide⟩, _, 1, rfl, rfl, _, _, rfl, rfl, (by show (0 : Int) < _; rw [mod_eq]; decide),
      .ref r, rfl, r, _, 3, 3, rfl, rfl, er2, rfl, ?_⟩
    generalize hst : st * st + (ts[j] + 7) * 69621 + (n + 1) * 1000003 = st2
    rw [mod_eq]
    have z0 := Int.emod_nonneg st2 (show MOD ≠ 0 by decide)
    have z1 := Int.emod_lt_of_pos st2 (show 0 < MOD by decide)
    generalize hH3 : upd H2 r (HO.lst ([V.ref g, V.ref t, V.int (n + 1), V.int st].set 3 ((fun i j => V.int (i % j)) st2 MOD))) = H3
    have er3 : H3 r = some (.lst [.ref g, .ref t, .int (n + 1), .int (st2 % MOD)]) := by
      rw [← hH3, upd_same]
      rfl
    have m3 : ∀ b o, b ≠ r → H b = some o → H3 b = some o := fun b o nb e => by
      rw [← hH3, upd_ne nb]
      exact m2' b o nb e
    generalize hz : st2 % MOD = z at z0 z1 er3
    -- return reel[3] // 2 ** 40 % many
    refine ⟨.ref r, rfl, r, _, 3, .int z, rfl, rfl, SqL.of er3, atI_nat (j := 3) rfl, 2, 40, rfl, rfl, ⟨by decide, by decide, by decide⟩, z, _, rfl, rfl, (by rw [p40]; exact wide_div (b := 41) (by decide) (by decide) (by decide) (by decide)), .int m, rfl, _, m, rfl, rfl, (by show (0 : Int) < m; omega), ?_⟩
    exact q _ H3 ⟨g, t, [], ts, n + 1, z, er3, m3 _ _ ngr eg, m3 _ _ ntr et, ngr, ntr, by decide, (fun x h => by cases h), lt0, lt, hts, z0, z1⟩ ⟨m3, fun b hb f => ⟨f.ne, fun xs e => by
      rw [er3] at e
      cases e
      intro z
      simp only [List.mem_cons, V.ref.injEq, List.not_mem_nil, or_false, reduceCtorEq] at z
      rcases z with z | z
      · exact f.out _ er (by rw [z]; exact List.mem_cons_self)
      · exact f.out _ er (by rw [z]; exact List.mem_cons_of_mem _ List.mem_cons_self)⟩⟩ (Int.emod_nonneg _ (by omega)) (Int.emod_lt_of_pos _ (by omega))
end
end CL
set_option Elab.async false
set_option linter.all false
set_option maxRecDepth 100000
set_option maxHeartbeats 2000000
namespace CL
open PySem PySem.Spec PyProof.Rows L2 GE
abbrev sDress : Stmt := topS 36
theorem scDress : FnScope ["reel", "thing", "found", "one"] ["reel", "thing"] (defScope sDress) := ⟨rfl, rfl, rfl, by decide +kernel, rfl, by decide +kernel, by decide +kernel⟩
theorem yesT {σ : L2.St} {H : Hp} {A B : Hp → Prop} (h : A H) : tYes σ H (fun b H3 => if b = true then A H3 else B H3) := by
  show if true = true then A H else B H
  exact iteT h
def gsOf (ns : List Int) : List Int := (ns.filter fun x => decide (1000000000000000000 ≤ x)).map fun x => x - 1000000000000000000
theorem gsOf_len (ns : List Int) : (gsOf ns).length ≤ ns.length := by
  unfold gsOf
  rw [List.length_map]
  exact List.length_filter_le _ _
theorem gsOf_nn (ns : List Int) : ∀ x ∈ gsOf ns, 0 ≤ x := fun x hx => by
  unfold gsOf at hx
  obtain ⟨y, hy, rfl⟩ := List.mem_map.mp hx
  have := of_decide_eq_true (List.mem_filter.mp hy).2
  omega
theorem gsOf_step {ns : List Int} {i : Nat} {x : Int} (h : ns[i]? = some x) : gsOf (ns.take (i + 1)) = gsOf (ns.take i) ++ (if 1000000000000000000 ≤ x then [x - 1000000000000000000] else []) := by
  unfold gsOf
  rw [List.take_add_one, h]
  simp only [Option.toList_some, List.filter_append, List.map_append]
  by_cases hx : 1000000000000000000 ≤ x
  · rw [if_pos hx, List.filter_cons_of_pos (by simpa using hx)]
    rfl
  · rw [if_neg hx, List.filter_cons_of_neg (by simpa using hx)]
    rfl
def spReel (K : PySem.W.Frag) : Sp := fun vs H Q _ => ∃ (a : Addr) (ns : List Int), vs = [.ref a] ∧ SqL K H a (ns.map V.int) ∧ ns.length ≤ 63 ∧ ∀ r H', Same H H' → H r = none → ReelAt H' r → Q (.ref r) H'
section
variable {P : Program} {w : World} {K : PySem.W.Frag} {mg : Str → Option Value} {base : Heap}
theorem ok_reel {f : Addr} {fd : FuncData} (F : Fun K "_law_reel" "_law_reel" sReel f fd) : FnOk P w K mg base CX0 1 f fd ["script"] (spReel K) := by
  refine F.ok scReel (fun vs H Q E ⟨a, ns, e, _⟩ => by rw [e]; rfl) (fun cdv A outer s H vs Q E hr h => ?_)
  obtain ⟨a, ns, rfl, hS, hlen, q⟩ := h
  refine ⟨_, pss_cons (ps_set (i := 1) scReel.nd rfl (.inl rfl) (pe_op op_pow pe_int pe_int))
    (pss_cons (ps_for PassesOwn.never rfl (pi_list (pe_slice sl_list (pv 0) po_none (po_some pe_int))) (pg_name (i := 2) scReel.nd rfl (.inl rfl))
      (pss_one (ps_set (i := 1) scReel.nd rfl (.inl rfl) (pe_op op_mod (pe_op op_add (pe_op op_add (pe_op op_mulW (pv 1) (pv 1)) (pe_op op_mod (pv 2) pe_int)) pe_int) (pe_op op_sub (pe_op op_mul (pe_op op_pow pe_int pe_int) (pe_op op_pow pe_int pe_int)) pe_int)))))
    (pss_cons (ps_setLc (i := 3) (own := [("cell", 2)]) (g := gName 2) rfl scReel.nd rfl rfl (sw_true rfl rfl rfl (by decide +kernel)) (pi_list (pe_slice sl_list (pv 0) po_none (po_some pe_int))) (blkOk_by (N := ["script", "stir", "cell", "great"]) (sc := defScope sReel) (by decide +kernel))
        (fun _ _ _ _ _ => pg_name (i := 2) scReel.nd rfl (Or.inl rfl)) (fun _ _ _ _ _ => pts_one (pt_cmpR op_ge (pv 2) (pe_op op_pow pe_int pe_int) (nomark _))) (fun _ _ _ _ _ => pe_op op_sub (pv 2) (pe_op op_pow pe_int pe_int)))
    (pss_one (ps_ret (pe_lst (pa_cons (pv 3) (pa_cons (pe_op op_cat (pe_lc (own := [("cell", 2)]) (g := gName 2) (tt := tYes) rfl scReel.nd (pi_list (pe_slice sl_list (pv 0) po_none (po_some pe_int))) (blkOk_by (N := ["script", "stir", "cell", "great"]) (sc := defScope sReel) (by decide +kernel))
        (fun _ _ _ _ _ => pg_name (i := 2) scReel.nd rfl (Or.inl rfl)) (fun _ _ _ _ _ => pts_nil) (fun _ _ _ _ _ => pe_op op_mod (pv 2) pe_int)) (pe_lst (pa_cons pe_int pa_nil))) (pa_cons pe_int (pa_cons (pv 1) pa_nil))))))))), ?_⟩
  have cut : cutV (ns.map V.int) none (some 63) = ns.map V.int := (cut_to _ 63).trans (List.take_of_length_le (by rw [List.length_map]; exact hlen))
  -- stir = 3 ** 60; the loop
  refine ⟨3, 60, rfl, rfl, ⟨by decide, by decide, by decide⟩, .ref a, rfl, 63, rfl, a, _, rfl, hS, fun p np => ?_⟩
  rw [cut]
  have s1 : Same H (upd H p (.lst (ns.map V.int))) := same_upd np
  have ep : (upd H p (.lst (ns.map V.int))) p = some (.lst (ns.map V.int)) := upd_same
  generalize hH1 : upd H p (.lst (ns.map V.int)) = H1 at s1 ep
  refine ⟨p, rfl, ⟨_, SqL.of ep⟩, for_list (xs := ns.map V.int) (fun _ σ H2 => H2 = H1 ∧ ∃ st y2, σ = [some (.ref a), some (.int st), y2, none] ∧ 0 ≤ st ∧ st < MOD) ⟨rfl, SIXTY, none, by show [some (V.ref a), some (V.int ((3 : Int) ^ (60 : Int).toNat)), none, none] = _; rw [three60], by decide, by decide⟩
    (fun i σ H2 _ ⟨e, _⟩ => by rw [e]; exact SqL.of ep) (fun i x σ H2 hx ⟨e, st, y2, es, h0, h1⟩ => ?_) (fun σ H2 ⟨e, st, y2, es, h0, h1⟩ => ?_)⟩
  · subst e es
    obtain ⟨c, rfl⟩ : ∃ c, x = .int c := by
      rw [List.getElem?_map] at hx
      cases q : ns[i]? with
      | none => rw [q] at hx; cases hx
      | some c => rw [q] at hx; cases hx; exact ⟨c, rfl⟩
    have h1' : st < 170141183460469231731687303715884105727 := h1
    have w1 : CMulW st st := wide_mul (a := 127) (b := 127) (by omega) (by omega) (by decide) (by decide) (by decide)
    refine ⟨.int st, rfl, .int st, rfl, st, st, rfl, rfl, w1, .int c, rfl, c, _, rfl, rfl, (by show (0 : Int) < 1000000000000000003; decide), _, _, rfl, rfl, _, 11, rfl, rfl, 2, 64, rfl, rfl, ⟨by decide, by decide, by decide⟩, 2, 63, rfl, rfl, ⟨by decide, by decide, by decide⟩, _, _, rfl, rfl, .inr ⟨by rw [p63]; decide, by rw [p63]; decide⟩, _, 1, rfl, rfl, _, _, rfl, rfl, (by show (0 : Int) < _; rw [mod_eq]; decide), ?_⟩
    refine ⟨rfl, (st * st + c % 1000000000000000003 + 11) % MOD, some (.int c), ?_, Int.emod_nonneg _ (by decide), Int.emod_lt_of_pos _ (by decide)⟩
    rw [mod_eq]
    rfl
  · subst e es
    -- great
    have hS1 : SqL K H2 a (ns.map V.int) := s1.seq hS
    refine ⟨.ref a, rfl, 63, rfl, a, _, rfl, hS1, fun p2 np2 => ?_⟩
    rw [cut]
    have s2 : Same H (upd H2 p2 (.lst (ns.map V.int))) := s1.trans (same_upd np2)
    have ep2 : (upd H2 p2 (.lst (ns.map V.int))) p2 = some (.lst (ns.map V.int)) := upd_same
    generalize hH3 : upd H2 p2 (.lst (ns.map V.int)) = H3 at s2 ep2
    refine ⟨p2, rfl, ⟨_, SqL.of ep2⟩, fun D hD => ?_⟩
    refine lc_list (xs := ns.map V.int) (fun i H' => H' = upd H3 D (.lst ((gsOf (ns.take i)).map V.int))) rfl (fun i H' _ e => by rw [e, ]; exact SqL.of ((same_upd hD : Same H3 _) _ _ ep2)) (fun i x H' hx e => ?_) (fun H' e => ?_)
    · subst e
      obtain ⟨c, hc, rfl⟩ : ∃ c, ns[i]? = some c ∧ x = .int c := by
        rw [List.getElem?_map] at hx
        cases q : ns[i]? with
        | none => rw [q] at hx; cases hx
        | some c => rw [q] at hx; cases hx; exact ⟨c, rfl, rfl⟩
      refine ⟨rfl, .int c, rfl, 10, 18, rfl, rfl, ⟨by decide, by decide, by decide⟩, c, _, rfl, rfl, _, rfl, ite2 (fun e => ?_) (fun e => ?_)⟩
      · rw [p18] at e
        have e' : (1000000000000000000 : Int) ≤ c := of_decide_eq_true e
        refine ⟨.int c, rfl, 10, 18, rfl, rfl, ⟨by decide, by decide, by decide⟩, c, _, rfl, rfl, (gsOf (ns.take i)).map V.int, upd_same, ?_, ?_⟩
        · rw [List.length_map]
          have h1 := gsOf_len (ns.take i)
          have h2 : (ns.take i).length ≤ 63 := (by rw [List.length_take]; omega)
          exact small1000 (by omega)
        · rw [upd_upd, gsOf_step hc, if_pos e', p18, List.map_append]
          rfl
      · rw [p18] at e
        have e' : ¬ (1000000000000000000 : Int) ≤ c := fun z => e (decide_eq_true z)
        rw [gsOf_step hc, if_neg e', List.append_nil]
    · have lx : (ns.map V.int).length = ns.length := List.length_map ..
      rw [lx, List.take_length] at e
      subst e
      have s4 : Same H (upd H3 D (.lst ((gsOf ns).map V.int))) := s2.trans (same_upd hD)
      have eD : (upd H3 D (.lst ((gsOf ns).map V.int))) D = some (.lst ((gsOf ns).map V.int)) := upd_same
      generalize hH4 : upd H3 D (.lst ((gsOf ns).map V.int)) = H4 at s4 eD
      -- the reel
      refine ⟨.ref D, rfl, .ref a, rfl, 63, rfl, a, _, rfl, s4.seq hS, fun p3 np3 => ?_⟩
      rw [cut]
      have s5 : Same H4 (upd H4 p3 (.lst (ns.map V.int))) := same_upd np3
      have ep3 : (upd H4 p3 (.lst (ns.map V.int))) p3 = some (.lst (ns.map V.int)) := upd_same
      generalize hH5 : upd H4 p3 (.lst (ns.map V.int)) = H5 at s5 ep3
      refine ⟨p3, rfl, ⟨_, SqL.of ep3⟩, fun D2 hD2 => ?_⟩
      refine lc_list (xs := ns.map V.int) (fun i H' => H' = upd H5 D2 (.lst (((ns.take i).map fun c => c % 1000003).map V.int))) rfl (fun i H' _ e => by rw [e]; exact SqL.of ((same_upd hD2 : Same H5 _) _ _ ep3)) (fun i x H' hx e => ?_) (fun H' e => ?_)
      · subst e
        obtain ⟨c, hc, rfl⟩ : ∃ c, ns[i]? = some c ∧ x = .int c := by
          rw [List.getElem?_map] at hx
          cases q : ns[i]? with
          | none => rw [q] at hx; cases hx
          | some c => rw [q] at hx; cases hx; exact ⟨c, rfl, rfl⟩
        refine ⟨rfl, yesT ?_⟩
        refine ⟨.int c, rfl, c, 1000003, rfl, rfl, (by show (0 : Int) < 1000003; decide), ((ns.take i).map fun c => c % 1000003).map V.int, upd_same, ?_, ?_⟩
        · rw [List.length_map, List.length_map]
          have h2 : (ns.take i).length ≤ 63 := (by rw [List.length_take]; omega)
          exact small1000 (by omega)
        · rw [upd_upd, List.take_add_one, hc]
          simp
      · rw [lx, List.take_length] at e
        subst e
        have s6 : Same H4 (upd H5 D2 (.lst ((ns.map fun c => c % 1000003).map V.int))) := s5.trans (same_upd hD2)
        have eD2 : (upd H5 D2 (.lst ((ns.map fun c => c % 1000003).map V.int))) D2 = some (.lst ((ns.map fun c => c % 1000003).map V.int)) := upd_same
        generalize hH6 : upd H5 D2 (.lst ((ns.map fun c => c % 1000003).map V.int)) = H6 at s6 eD2
        refine ⟨small_le (by decide), fun p4 np4 => ?_⟩
        have s7 : Same H6 (upd H6 p4 (.lst [.int 41])) := same_upd np4
        have ep4 : (upd H6 p4 (.lst [.int 41])) p4 = some (.lst [.int 41]) := upd_same
        generalize hH7 : upd H6 p4 (.lst [.int 41]) = H7 at s7 ep4
        refine ⟨D2, p4, _, _, rfl, rfl, s7 _ _ eD2, ep4, ?_, fun t nt => ?_⟩
        · rw [List.length_map, List.length_map]
          exact small_add (by omega) (by decide)
        have s8 : Same H6 (upd H7 t (.lst ((ns.map fun c => c % 1000003).map V.int ++ [.int 41]))) := s7.trans (same_upd nt)
        have et : (upd H7 t (.lst ((ns.map fun c => c % 1000003).map V.int ++ [.int 41]))) t = some (.lst (((ns.map fun c => c % 1000003) ++ [41]).map V.int)) := by
          rw [upd_same, List.map_append]
          rfl
        generalize hH8 : upd H7 t (.lst ((ns.map fun c => c % 1000003).map V.int ++ [.int 41])) = H8 at s8 et
        refine ⟨.int st, rfl, small_le (by show 4 ≤ 1000; decide), fun r nr => ?_⟩
        have sAll : Same H H8 := s4.trans (s6.trans s8)
        have eD8 := s8 _ _ (s6 _ _ eD)
        refine q r _ (sAll.trans (same_upd nr)) (sAll.free nr) ⟨D, t, gsOf ns, (ns.map fun c => c % 1000003) ++ [41], 0, st, upd_same, by rw [upd_ne (ne_of_none eD8 nr)]; exact eD8, by rw [upd_ne (ne_of_none et nr)]; exact et, ne_of_none eD8 nr, ne_of_none et nr, Nat.le_trans (gsOf_len ns) hlen, gsOf_nn ns, ?_, ?_, ?_, h0, h1⟩
        · rw [List.length_append, List.length_singleton]; omega
        · rw [List.length_append, List.length_singleton, List.length_map]; omega
        · intro x hx
          rcases List.mem_append.mp hx with hx | hx
          · obtain ⟨y, _, rfl⟩ := List.mem_map.mp hx
            exact ⟨Int.emod_nonneg _ (by decide), Int.emod_lt_of_pos _ (by decide)⟩
          · rw [List.mem_singleton.mp hx]
            exact ⟨by decide, by decide⟩
end
end CL
set_option Elab.async false
set_option linter.all false
set_option maxRecDepth 100000
set_option maxHeartbeats 2000000
namespace CL
open PySem PySem.Spec PyProof.Rows L2 GE
mutual
inductive Drs : PyData → PyData → Prop
  | same (d : PyData) : Drs d d
  | lst {ds es : List PyData} : DrsAll ds es → Drs (.tuple ds) (.list es)
  | tup {ds es : List PyData} : DrsAll ds es → Drs (.tuple ds) (.tuple es)
inductive DrsAll : List PyData → List PyData → Prop
  | nil : DrsAll [] []
  | cons {d e : PyData} {ds es : List PyData} : Drs d e → DrsAll ds es → DrsAll (d :: ds) (e :: es)
end
theorem DrsAll.snoc : ∀ {ds es : List PyData} {d e : PyData}, DrsAll ds es → Drs d e → DrsAll (ds ++ [d]) (es ++ [e])
  | _, _, _, _, .nil, h => .cons h .nil
  | _, _, _, _, .cons a b, h => .cons a (DrsAll.snoc b h)
theorem DrsAll.length : ∀ {ds es : List PyData}, DrsAll ds es → ds.length = es.length
  | _, _, .nil => rfl
  | _, _, .cons _ t => congrArg (· + 1) (DrsAll.length t)
def Okd : Nat → PyData → Prop
  | 0, d => ∀ ds, d ≠ .tuple ds
  | n + 1, d => ∀ ds, d = .tuple ds → ds.length ≤ 1000 ∧ ∀ x ∈ ds, Okd n x
def isTup : PyData → Bool
  | .tuple _ => true
  | _ => false
theorem kit_tup {K : PySem.W.Frag} (d : PyData) : PySem.W.kitOne K (.type (tyName d)) (.type "tuple") = some (isTup d) := kit_tuple d
theorem Free.upd {H : Hp} {r b p : Addr} {o : HO} (f : Free H r b) (n : p ≠ r) : Free (upd H p o) r b := ⟨f.ne, fun xs e => f.out xs (by rw [upd_ne n.symm] at e; exact e)⟩
open Classical in
/-- the heap without W -/
noncomputable def Hw (W : Addr → Prop) (H : Hp) : Hp := fun b => if W b then none else H b
theorem Hw.at {W : Addr → Prop} {H : Hp} {b : Addr} (n : ¬ W b) : Hw W H b = H b := by
  unfold Hw
  rw [if_neg n]
theorem Hw.ne {W : Addr → Prop} {H : Hp} {b : Addr} {o : HO} (e : Hw W H b = some o) : ¬ W b := fun z => by
  unfold Hw at e
  rw [if_pos z] at e
  cases e
theorem Hw.sub (W : Addr → Prop) (H : Hp) : Same (Hw W H) H := fun b o e => by rw [Hw.at (Hw.ne e)] at e; exact e
theorem Hw.less {W W' : Addr → Prop} {H : Hp} (h : ∀ b, W b → W' b) : Same (Hw W' H) (Hw W H) := fun b o e => by
  rw [Hw.at fun z => Hw.ne e (h b z)]
  exact Hw.sub W' H b o e
theorem Hw.more {W W' : Addr → Prop} {H : Hp} (h : ∀ b, W' b → W b ∨ H b = none) : Same (Hw W H) (Hw W' H) := fun b o e => by
  have e1 := Hw.sub W H b o e
  rw [Hw.at fun z => (h b z).elim (Hw.ne e) fun q => by rw [q] at e1; cases e1]
  exact e1
theorem hw_upd {W : Addr → Prop} {a : Addr} {H : Hp} {o : HO} (h : W a) : Hw W (upd H a o) = Hw W H := by
  funext b
  by_cases hb : W b
  · unfold Hw
    rw [if_pos hb, if_pos hb]
  · rw [Hw.at hb, Hw.at hb, upd_ne fun z => hb (by rw [z]; exact h)]
theorem Mv.hw {r : Addr} {W : Addr → Prop} {H H' : Hp} (m : Mv r H H') (h : W r) : Same (Hw W H) (Hw W H') := fun b o e => by
  have hb := Hw.ne e
  rw [Hw.at hb]
  exact m.keep b o (fun z => hb (by rw [z]; exact h)) (Hw.sub W H b o e)
theorem Same.hw {W : Addr → Prop} {H H' : Hp} (m : Same H H') : Same (Hw W H) (Hw W H') := fun b o e => by
  rw [Hw.at (Hw.ne e)]
  exact m b o (Hw.sub W H b o e)
theorem Rp.sm {H H' : Hp} (s : Same H H') {v : V} {d : PyData} (h : Rp H v d) : Rp H' v d := Rp.ex (Ex.of s) d v h
theorem RpAll.sm {H H' : Hp} (s : Same H H') {vs : List V} {ds : List PyData} (h : RpAll H vs ds) : RpAll H' vs ds := RpAll.ex (Ex.of s) ds vs h
/-- W is tracked, the reel in it -/
structure Wk (W : Addr → Prop) (H : Hp) (r : Addr) : Prop where
  reel : W r
  trk : ∀ b, W b → H b ≠ none
theorem Wk.mv {W : Addr → Prop} {H H' : Hp} {r : Addr} (k : Wk W H r) (re : ReelAt H' r) (m : Mv r H H') : Wk W H' r := ⟨k.reel, fun b hb z => by
  by_cases hr : b = r
  · obtain ⟨_, _, _, _, _, _, er, _⟩ := re
    rw [hr, er] at z
    cases z
  · cases q : H b with
    | none => exact k.trk b hb q
    | some o =>
      rw [m.keep b o hr q] at z
      cases z⟩
theorem Wk.out {W : Addr → Prop} {H : Hp} {r p : Addr} (k : Wk W H r) (n : H p = none) : ¬ W p := fun z => k.trk p z n
theorem Wk.add {W : Addr → Prop} {H : Hp} {r p : Addr} (k : Wk W H r) (n : H p ≠ none) : Wk (fun b => W b ∨ b = p) H r := ⟨.inl k.reel, fun b hb => hb.elim (k.trk b) fun z => by rw [z]; exact n⟩
theorem Mv.upd {r p : Addr} {H H' : Hp} {o : HO} (m : Mv r H H') (hn : H p = none) (hp : p ≠ r) : Mv r H (upd H' p o) := ⟨fun b x nb e => by
  rw [upd_ne (ne_of_none e hn)]
  exact m.keep b x nb e, fun b hb f => (m.free b hb f).upd hp⟩
theorem RpAll.snoc {H : Hp} : ∀ {vs : List V} {ds : List PyData} {v : V} {d : PyData}, RpAll H vs ds → Rp H v d → RpAll H (vs ++ [v]) (ds ++ [d])
  | _, _, _, _, .nil, h => .cons h .nil
  | _, _, _, _, .cons a b, h => .cons a (RpAll.snoc b h)
def spDress (r : Addr) (n : Nat) : Sp := fun vs H Q _ => ∃ v d W, vs = [.ref r, v] ∧ ReelAt H r ∧ Wk W H r ∧ Rp (Hw W H) v d ∧ Okd n d ∧ ∀ v' d' H', ReelAt H' r → Mv r H H' → Rp (Hw W H') v' d' → Drs d d' → Q v' H'
theorem spDress_len {r : Addr} {n : Nat} : ∀ vs H Q E, spDress r n vs H Q E → vs.length = 2 := fun vs H Q E ⟨v, d, W, e, _⟩ => by rw [e]; rfl
section
variable {P : Program} {w : World} {K : PySem.W.Frag} {mg : Str → Option Value} {base : Heap}
theorem ok_dress0 {f r : Addr} {fd : FuncData} (F : Fun K "_law_dressed" "_law_dressed" sDress f fd) (T : Nm mg) : FnOk P w K mg base CX0 2 f fd ["reel", "thing"] (spDress r 0) := by
  refine F.ok scDress spDress_len (fun cdv A outer s H vs Q E hr h => ?_)
  obtain ⟨v, d, W, rfl, hre, hW, hR, hok, q⟩ := h
  refine ⟨_, pss_cons (ps_if (pt_val (pe_callB call_isi (by rfl) T.isi (by decide +kernel) (pa_cons (pv 1) (pa_cons (pe_bltn (v := .ty "tuple") (by rfl) T.tuple PyProof.Rows.boot_tuple rfl) pa_nil)))) pss_never pss_nil) (pss_one (ps_ret (pv 1))), ?_⟩
  have e0 : isTup d = false := by
    cases d <;> first | rfl | exact absurd rfl (hok _)
  refine ⟨v, rfl, v, .ty "tuple", _, _, isTup d, rfl, .ty _, (Rp.sm (Hw.sub W H) hR).ty, kit_tup d, isTup d, rfl, ?_⟩
  rw [e0]
  exact iteF ⟨v, rfl, q v d H hre (Mv.refl r H) hR (.same d)⟩
theorem ok_dressS {f r : Addr} {fd : FuncData} {n : Nat} (F : Fun K "_law_dressed" "_law_dressed" sDress f fd) (T : Nm mg) (CD : Cal P w K mg base 1 "_law_draw" ["reel", "many"] (spDraw r)) (CS : Cal P w K mg base (2 + n) "_law_dressed" ["reel", "thing"] (spDress r n)) :
    FnOk P w K mg base CX0 (2 + n + 1) f fd ["reel", "thing"] (spDress r (n + 1)) := by
  refine F.ok scDress spDress_len (fun cdv A outer s H vs Q E hr h => ?_)
  obtain ⟨v, d, W, rfl, hre, hW, hR, hok, q⟩ := h
  refine ⟨_, pss_cons (ps_if (pt_val (pe_callB call_isi (by rfl) T.isi (by decide +kernel) (pa_cons (pv 1) (pa_cons (pe_bltn (v := .ty "tuple") (by rfl) T.tuple PyProof.Rows.boot_tuple rfl) pa_nil))))
    (pss_cons (ps_setLc (i := 2) (own := [("one", 3)]) (g := gName 3) (tt := tYes) rfl scDress.nd rfl rfl (sw_true rfl rfl rfl (by decide +kernel)) (pi_tup (pv 1)) (blkOk_by (N := ["reel", "thing", "found", "one"]) (sc := defScope sDress) (by decide +kernel))
        (fun _ _ _ _ _ => pg_name (i := 3) scDress.nd rfl (Or.inl rfl)) (fun _ _ _ _ _ => pts_nil) (fun _ _ _ _ _ => pe_cal CS hr (by rfl) (pa_cons (pv 0) (pa_cons (pv 3) pa_nil))))
    (pss_one (ps_ret (pe_ifExp (pt_cmpR op_eq (pe_cal (CD.mono (by omega)) hr (by rfl) (pa_cons (pv 0) (pa_cons pe_int pa_nil))) pe_int (nomark _)) (pv 2) (pe_callTy call_tuple_of (by rfl) T.tuple PyProof.Rows.boot_tuple (pa_cons (pv 2) pa_nil)))))) pss_nil)
    (pss_one (ps_ret (pv 1))), ?_⟩
  refine ⟨v, rfl, v, .ty "tuple", _, _, isTup d, rfl, .ty _, (Rp.sm (Hw.sub W H) hR).ty, kit_tup d, isTup d, rfl, ?_⟩
  cases hR with
  | @tup a xs ds ha hA =>
    have ha' : H a = some (.tup xs) := Hw.sub W H _ _ ha
    have har : a ≠ r := fun z => Hw.ne ha (by rw [z]; exact hW.reel)
    obtain ⟨hl, hds⟩ := hok ds rfl
    have hlen := hA.length
    refine iteT ⟨.ref a, rfl, a, rfl, ⟨xs, SqT.of ha'⟩, fun D hD => ?_⟩
    have frD := hre.new hD
    refine lc_tup (xs := xs) (fun i H2 => ReelAt H2 r ∧ Mv r H H2 ∧ Free H2 r D ∧ ∃ vs' ds', H2 D = some (.lst vs') ∧ vs'.length = i ∧ RpAll (Hw (fun b => W b ∨ b = D) H2) vs' ds' ∧ DrsAll (ds.take i) ds')
      ⟨hre.store frD, (Mv.refl r H).upd hD frD.ne, frD.upd frD.ne, [], [], upd_same, rfl, .nil, .nil⟩ (fun i H2 _ ⟨_, m, _⟩ => SqT.of (m.keep _ _ har ha')) (fun i x H2 hx ⟨re, m, fr, vs', ds', eD, lv, hv, hd⟩ => ?_) (fun H2 ⟨re, m, fr, vs', ds', eD, lv, hv, hd⟩ => ?_)
    · obtain ⟨dx, hdx, hRx⟩ := hA.get hx
      have li : i < xs.length := by
        obtain ⟨z, _⟩ := List.getElem?_eq_some_iff.mp hx
        exact z
      refine ⟨rfl, yesT ?_⟩
      have eDn : H2 D ≠ none := by rw [eD]; exact nofun
      have rpx : Rp (Hw (fun b => W b ∨ b = D) H2) x dx := Rp.sm (m.hw (W := fun b => W b ∨ b = D) (.inl hW.reel)) (Rp.sm (Hw.more fun b hb => hb.imp_right fun z => by rw [z]; exact hD) hRx)
      refine ⟨.ref r, rfl, x, rfl, x, dx, _, rfl, re, (hW.mv re m).add eDn, rpx, hds dx (List.mem_of_getElem? hdx), fun v' d' H4 re4 m4 rp4 dr4 => ?_⟩
      have eD4 := m4.keep D _ fr.ne eD
      have fr4 := m4.free D eDn fr
      refine ⟨vs', eD4, by rw [lv]; exact small1000 (by omega), re4.store fr4, (m.trans m4).upd hD fr.ne, fr4.upd fr.ne, vs' ++ [v'], ds' ++ [d'], upd_same, by rw [List.length_append, lv]; rfl, ?_, ?_⟩
      · rw [hw_upd (.inr rfl)]
        exact (RpAll.sm (m4.hw (W := fun b => W b ∨ b = D) (.inl hW.reel)) hv).snoc rp4
      · rw [List.take_add_one, hdx]
        exact hd.snoc dr4
    · rw [hlen, List.take_length] at hd
      refine ⟨.ref r, rfl, 2, rfl, re, by decide, by decide, fun x H5 re5 m5 x0 x1 => ⟨rfl, _, rfl, ?_⟩⟩
      have eD5 := m5.keep D _ fr.ne eD
      have hv5 : RpAll (Hw W H5) vs' ds' := RpAll.sm (Hw.less fun b hb => .inl hb) (RpAll.sm (m5.hw (W := fun b => W b ∨ b = D) (.inl hW.reel)) hv)
      have nWD : ¬ W D := hW.out hD
      refine ite2 (fun _ => ?_) (fun _ => ?_)
      · exact ⟨.ref D, rfl, q _ (.list ds') H5 re5 (m.trans m5) (.lst (by rw [Hw.at nWD]; exact eD5) hv5) (.lst hd)⟩
      · refine ⟨.ref D, rfl, D, vs', rfl, .inl ⟨SqL.of eD5, fun l nl => ?_⟩⟩
        have k5 := hW.mv re5 (m.trans m5)
        refine q _ (.tuple ds') _ (re5.same (same_upd nl)) ((m.trans m5).trans (Mv.of (same_upd nl) re5)) (.tup (by rw [Hw.at (k5.out nl)]; exact upd_same) (RpAll.sm (Same.hw (same_upd nl)) hv5)) (.tup hd)
  | _ => exact iteF ⟨_, rfl, q _ _ H hre (Mv.refl r H) (by first | exact .non | exact .bl _ | exact .int _ | exact .str _ | exact .lst ‹_› ‹_› | exact .dct ‹_›) (.same _)⟩
end
end CL
set_option Elab.async false
set_option linter.all false
set_option maxRecDepth 100000
set_option maxHeartbeats 4000000
namespace CL
open PySem PySem.Spec PyProof.Rows L2 GE
/-! ### a, b = a list or a tuple -/
def gSeq (K : PySem.W.Frag) (n : Nat) (t : TGs) : TG := fun v σ H Q => ∃ a xs, v = .ref a ∧ StSeq H a xs ∧ xs.length = n ∧ t xs σ H Q
theorem pg_seq {X : Cx} {pos : Pos} {es : List Expr} {k : Nat} {t : TGs} {n : Nat} (hc : X.calm = true) (h : PGs X es t) (hn : (assignEach es X.env).length = n := by rfl) (hst : (assignEach es X.env).findIdx? (·.1) = none := by rfl) :
    PG X (.Tuple es k pos) (gSeq X.K n t) := by
  refine ⟨fun pins s σ H v u Q I r hw => ?_⟩
  obtain ⟨a, xs, e, hs, hl, q⟩ := hw
  rcases hs.or with hq | hq
  · exact (pg_lst hc h hn hst).run pins s σ H v u Q I r ⟨a, xs, e, SqL.of hq, hl, q⟩
  · exact (pg_tup hc h hn hst).run pins s σ H v u Q I r ⟨a, xs, e, SqT.of hq, hl, q⟩
/-! ### for x in a list or a tuple -/
def iSeqW (K : PySem.W.Frag) (tl : TE) : TI := fun σ H R => tl σ H fun x H1 => ∃ a xs, x = .ref a ∧ StSeq H1 a xs ∧ ∀ J, (∀ H2, (∀ o, H1 a = some o → H2 a = some o) → StandsAs K a xs J H2) → R J H1
theorem pi_seqW {X : Cx} {tg l : Expr} {tl : TE} (hl : PE X l tl) : PI X tg l (iSeqW X.K tl) := by
  refine ⟨fun pins s σ H R I h => thn (hl.run pins s σ H _ I h) fun v s1 ⟨x, H1, I1, r1, a, xs, e, st, q⟩ => ?_⟩
  subst e
  cases r1
  have new : ∀ b ∈ [s1.heap.objs.size], FpOk X pins H1 b := fun b hb => by
    rw [List.mem_singleton.mp hb]
    exact I1.fpOk (Nat.le_refl _) (I1.hok.fresh (Nat.le_refl _))
  have kept := fun {o : Obj} => I1.kept (h' := s1.heap.push o) (t' := s1.toks) fun b o' e => Heap.get?_push_of_some _ e
  rcases st.or with hq | hq
  · obtain ⟨its, rv, p, hz⟩ := I1.list (SqL.of hq)
    exact wpAny_pyIter_list p.isList ⟨s1.heap.objs.size, [s1.heap.objs.size], _, _, H1, rfl, kept, turn_list a _, ⟨_, Heap.get?_push_size _ rfl, rfl, rfl⟩, new, q _ fun H2 e => .inl ⟨rfl, SqL.of (e _ hq)⟩⟩
  · obtain ⟨its, rv, p, hz⟩ := I1.tuple (SqT.of hq)
    exact wpAny_pyIter_tuple (show s1.heap.IsTuple a its.toArray from p) ⟨s1.heap.objs.size, [s1.heap.objs.size], _, _, H1, rfl, kept, turn_tuple a _, ⟨_, Heap.get?_push_size _ rfl, rfl, rfl⟩, new, q _ fun H2 e => .inr ⟨rfl, SqT.of (e _ hq)⟩⟩
theorem for_seq {K : PySem.W.Frag} {a : Addr} {xs : List V} {J : It} {g : TG} {tb : TS} {D : Ends} {σ : L2.St} {H : Hp} (Pv : Nat → L2.St → Hp → Prop) (h0 : Pv 0 σ H) (hl : ∀ i σ H, Pv i σ H → StandsAs K a xs J H)
    (hs : ∀ i x σ H, xs[i]? = some x → Pv i σ H → g x σ H fun σ2 H2 => tb { D with nx := Pv (i + 1), ct := Pv (i + 1), bk := D.nx } σ2 H2) (hd : ∀ σ H, Pv xs.length σ H → D.nx σ H) :
    ∃ W : Nat → Nat → L2.St → Hp → Prop, (∃ m, W 0 m σ H) ∧ ∀ i m σ H, W i m σ H →
      (J.stop i H ∧ D.nx σ H) ∨ (J.go i H ∧ ∃ N : L2.St → Hp → Prop, (∀ σ' H', N σ' H' → ∃ m', m' < m ∧ W (i + 1) m' σ' H') ∧ ∀ x H', J.yld i H x H' → g x σ H' fun σ2 H2 => tb { D with nx := N, ct := N, bk := D.nx } σ2 H2) := by
  refine ⟨fun i m σ H => m + i = xs.length ∧ Pv i σ H, ⟨xs.length, rfl, h0⟩, ?_⟩
  rintro i m σ H ⟨hm, p⟩
  have s := hl i σ H p
  cases m with
  | zero =>
    obtain rfl : i = xs.length := by omega
    exact .inl ⟨s.stop (Nat.le_refl _), hd σ H p⟩
  | succ m =>
    have lt : i < xs.length := by omega
    refine .inr ⟨s.go (List.getElem?_eq_getElem lt), Pv (i + 1), fun σ' H' p' => ⟨m, Nat.lt_succ_self m, by omega, p'⟩, fun x H' y => ?_⟩
    obtain ⟨rfl, hx⟩ := s.yld y
    exact hs i x σ _ hx p
/-! ### a class of refusals -/
structure ExcC (K : PySem.W.Frag) (mg : Str → Option Value) (x : Str) (C : Addr) : Prop where
  g : mg x = some (.ref C)
  x : PySem.W.excIn K C [.type "ValueError", .type "Exception", .type "BaseException", .type "object"] "ValueError.__new__" = true
  k : PySem.W.keepIn K (.ref C) = true
  b : PySem.W.subIn K (.ref C) (.type "BaseException") = some true
  t : PySem.W.typeIn K (.ref C) = some (.type "type")
/-! ### pieces_of -/
abbrev sPieces : Stmt := topS 17
abbrev nPieces : List Str := ["plan", "pieces", "first", "turns", "many", "past"]
theorem scPieces : FnScope nPieces ["plan"] (defScope sPieces) := ⟨rfl, rfl, rfl, by decide +kernel, rfl, by decide +kernel, by decide +kernel⟩
abbrev PieceT := Int × Option Int × List PyData
def optD : Option Int → PyData
  | some i => .int i
  | none => .none
def pieceD (x : PieceT) : PyData := .tuple [.int x.1, optD x.2.1, .tuple x.2.2]
def turnsD (d : PyData) : List PyData := match rowsD d with
  | some (t :: _) => (rowsD t).getD []
  | _ => []
def pastO (f : Int) : PyData → Option Int
  | .int m => some (f + m)
  | _ => none
def pcs : Int → List PyData → List PieceT
  | _, [] => []
  | f, d :: ds => (f, pastO f (sndD d), turnsD d) :: pcs (f + worth (sndD d)) ds
theorem pcs_snoc : ∀ (f : Int) (ds : List PyData) (d : PyData), pcs f (ds ++ [d]) = pcs f ds ++ [(f + sumSnd ds, pastO (f + sumSnd ds) (sndD d), turnsD d)]
  | f, [], d => by
    have e : f + sumSnd [] = f := Int.add_zero f
    rw [e]
    rfl
  | f, c :: ds, d => by
    have e : f + sumSnd (c :: ds) = f + worth (sndD c) + sumSnd ds := by
      show f + (worth (sndD c) + sumSnd ds) = _
      omega
    rw [e]
    show _ :: pcs _ (ds ++ [d]) = _ :: (pcs _ ds ++ _)
    rw [pcs_snoc]
def piecesOf (d : PyData) : List PieceT := pcs 0 ((rowsD d).getD [])
def spPieces (P1 P2 C : Addr) : Sp := fun vs H Q E => ∃ v d, vs = [v] ∧ Rp H v d ∧ Tb P1 P2 H ∧ (isPlan d = false → ∀ H', Ex H H' → Tb P1 P2 H' → E (.ref C) none H') ∧
  (isPlan d = true → ∀ p H', Ex H H' → Tb P1 P2 H' → H p = none → Rp H' (.ref p) (.list ((piecesOf d).map pieceD)) → Q (.ref p) H')
theorem piece_at2 {H : Hp} {x : V} {d : PyData} (hp : isPiece d = true) (hR : Rp H x d) : ∃ b vt vm t m, x = .ref b ∧ StSeq H b [vt, vm] ∧ Rp H vt t ∧ Rp H vm m ∧ rowsD d = some [t, m] ∧ isTurns t = true ∧ isMany m = true := by
  obtain ⟨t, m, e, ht, hm⟩ := piece_parts hp
  obtain ⟨b, xs, rfl, hA, ho⟩ := hR.rows e
  cases hA with
  | cons h1 h2 =>
    cases h2 with
    | cons h3 h4 =>
      cases h4
      exact ⟨b, _, _, t, m, rfl, ⟨ho⟩, h1, h3, e, ht, hm⟩
theorem pieces_put {D : Addr} {ys : List V} {H2 H3 : Hp} {vs : List V} (eD : H2 D = some (.lst vs)) (s3 : Same H2 H3) {p : Addr} (np : H3 p = none) : upd H3 p (.tup ys) D = some (.lst vs) ∧
    Same (Hw (fun b => b = D) H3) (Hw (fun b => b = D) (upd (upd H3 p (.tup ys)) D (.lst (vs ++ [.ref p])))) ∧ Hw (fun b => b = D) (upd (upd H3 p (.tup ys)) D (.lst (vs ++ [.ref p]))) p = some (.tup ys) := by
  have e3 := s3 D _ eD
  have npD : p ≠ D := fun z => by rw [z, e3] at np; cases np
  have e4 : upd H3 p (.tup ys) D = some (.lst vs) := by rw [upd_ne (Ne.symm npD)]; exact e3
  rw [hw_upd (W := fun b => b = D) (a := D) rfl]
  refine ⟨e4, Same.hw (same_upd np), ?_⟩
  rw [Hw.at (W := fun b => b = D) npD]
  exact upd_same
/-- a def that may raise, called by its name -/
structure CalX (P : Program) (w : World) (K : PySem.W.Frag) (mg : Str → Option Value) (base : Heap) (k : Nat) (x : Str) (ps : List Str) (sp : Sp) : Prop where
  ex : ∃ f fd, mg x = some (.ref f) ∧ PySem.W.keepIn K (.ref f) = true ∧ Binds K fd ps [] ∧ FnOk P w K mg base (L2.CX P w) k f fd ps sp
theorem pe_calX {X : Cx} {k : Nat} {x : Str} {ps : List Str} {sp : Sp} {E : XK} {p pos : Pos} {e : Expr} {es : List Expr} {t : TA} (C : CalX X.prog X.w X.K X.mg X.base k x ps sp) (hr : Room k X.A) (hg : Gl X x) (hx : Passes (L2.CX X.prog X.w) X E) (ha : PA X (e :: es) t)
    (hdb : (x == ("__debug__" : Str)) = false := by decide) (he : starEach (e :: es) X.env = (false, eval e X.env) :: starEach es X.env := by rfl) (hpl : (backTo pos (starEach es X.env)).any (·.1) = false := by rfl) : PE X (.Call (.Name x p) (e :: es) [] pos) (tCall sp [] E t) := by
  obtain ⟨f, fd, a1, a2, a3, a4⟩ := C.ex
  exact pe_call a4 hr hg a1 a2 a3 .nil hx ha hdb he hpl
theorem CalX.mono {P : Program} {w : World} {K : PySem.W.Frag} {mg : Str → Option Value} {base : Heap} {j k : Nat} {x : Str} {ps : List Str} {sp : Sp} (C : CalX P w K mg base j x ps sp) (h : j ≤ k) : CalX P w K mg base k x ps sp := by
  obtain ⟨f, fd, a1, a2, a3, a4⟩ := C.ex
  exact ⟨f, fd, a1, a2, a3, a4.mono h⟩
abbrev sCheck : Stmt := topS 16
theorem scCheck : FnScope ["thing"] ["thing"] (defScope sCheck) := ⟨rfl, rfl, rfl, by decide +kernel, rfl, by decide +kernel, by decide +kernel⟩
def spCheck (P1 P2 C : Addr) : Sp := fun vs H Q E => ∃ v d, vs = [v] ∧ Rp H v d ∧ Tb P1 P2 H ∧ (isPlan d = false → ∀ H', Ex H H' → Tb P1 P2 H' → E (.ref C) none H') ∧ (isPlan d = true → ∀ H', Ex H H' → Tb P1 P2 H' → Q .non H')
section
variable {P : Program} {w : World} {K : PySem.W.Frag} {mg : Str → Option Value} {base : Heap}
theorem ok_check {f P1 P2 C : Addr} {fd : FuncData} (F : Fun K "check_plan" "check_plan" sCheck f fd) (XP : ExcC K mg "NoPlan" C) (CP : Cal P w K mg base 7 "is_plan" ["thing"] (spTab P1 P2 isPlan)) :
    FnOk P w K mg base (L2.CX P w) 8 f fd ["thing"] (spCheck P1 P2 C) := by
  refine F.okX scCheck (fun vs H Q E ⟨v, d, e, _⟩ => by rw [e]; rfl) (fun cdv A outer s H vs Q E hr h => ?_)
  obtain ⟨v, d, rfl, hR, hT, qE, q⟩ := h
  refine ⟨_, (pss_one (ps_if (pt_not (pt_val (pe_cal CP hr (by rfl) (pa_cons (pv 0) pa_nil)))) (pss_one (ps_raise rfl (takes_of rfl rfl rfl rfl) (pmk_own PySem.F.excBase_ValueError XP.x XP.g XP.k (raises_own XP.b XP.t) rfl))) pss_nil)), ?_⟩
  refine ⟨v, rfl, v, d, rfl, hR, hT, fun H1 e1 tb1 => ⟨isPlan d, rfl, ?_⟩⟩
  cases hp : isPlan d with
  | false => exact iteT (qE hp H1 e1 tb1)
  | true => exact iteF (q hp H1 e1 tb1)
theorem ok_pieces {f P1 P2 C : Addr} {fd : FuncData} (F : Fun K "pieces_of" "pieces_of" sPieces f fd) (T : Nm mg) (CK : CalX P w K mg base 8 "check_plan" ["thing"] (spCheck P1 P2 C)) :
    FnOk P w K mg base (L2.CX P w) 9 f fd ["plan"] (spPieces P1 P2 C) := by
  refine F.okX scPieces (fun vs H Q E ⟨v, d, e, _⟩ => by rw [e]; rfl) (fun cdv A outer s H vs Q E hr h => ?_)
  obtain ⟨v, d, rfl, hR, hT, qE, q⟩ := h
  have nd := scPieces.nd
  refine ⟨_, (pss_cons (ps_expr (pe_calX CK hr (by rfl) (passes_call (takes_of rfl rfl rfl rfl) fun _ _ _ _ h => h) (pa_cons (pv 0) pa_nil))) (PSs.nox (pss_cons (ps_set (i := 1) nd rfl (.inl rfl) (pe_lst pa_nil))
    (pss_cons (ps_set (i := 2) nd rfl (.inl rfl) pe_int)
    (pss_cons (ps_for PassesOwn.never rfl (pi_seqW (pv 0)) (pg_seq rfl (pgs_cons (pg_name (i := 3) nd rfl (.inl rfl)) (pgs_cons (pg_name (i := 4) nd rfl (.inl rfl)) pgs_nil))) (pss_cons (ps_set (i := 5) nd rfl (.inl rfl) (pe_ifExp (pt_cmp (pc_isN (pv 4))) pe_non (pe_op op_add (pv 2) (pv 4))))
    (pss_cons (ps_expr (pe_bm PySem.F.plainAttrs_list PySem.F.slot_list_append PySem.F.type_list_append mt_append (pv 1) (pa_cons (pe_tup (pa_cons (pv 2) (pa_cons (pv 5) (pa_cons (pe_callTy call_tuple_of (by rfl) T.tuple PyProof.Rows.boot_tuple (pa_cons (pv 3) pa_nil)) pa_nil)))) pa_nil)))
    (pss_one (ps_set (i := 2) nd rfl (.inl rfl) (pv 5))))))
    (pss_one (ps_ret (pv 1)))))))), ?_⟩
  refine ⟨v, rfl, v, d, rfl, hR, hT, qE, fun hp H1 e1 tb1 => ?_⟩
  · skip
    have hR1 := Rp.ex e1 d v hR
    obtain ⟨ds, hds⟩ : ∃ ds, rowsD d = some ds := by
      cases z : rowsD d with
      | none => unfold isPlan at hp; rw [z] at hp; cases hp
      | some ds => exact ⟨ds, rfl⟩
    have val : isPlan d = isPlanL ds := by unfold isPlan; rw [hds]
    have hp' := hp
    rw [val] at hp'
    unfold isPlanL at hp'
    simp only [Bool.and_eq_true, decide_eq_true_eq, Bool.not_eq_true'] at hp'
    obtain ⟨⟨⟨⟨l1, l8⟩, hpc⟩, hno⟩, hsum⟩ := hp'
    obtain ⟨a, xs, rfl, hA, hso⟩ := hR1.rows hds
    have hst : StSeq H1 a xs := ⟨hso⟩
    have hlen := hA.length
    refine ⟨Nat.zero_le _, fun D hD => ?_⟩
    have eD0 : (upd H1 D (.lst [])) D = some (.lst []) := upd_same
    have s0 : Same H1 (Hw (fun b => b = D) (upd H1 D (.lst []))) := fun b o e => by
      rw [Hw.at fun z => by rw [z, hD] at e; cases e]
      exact same_upd hD b o e
    generalize hH0 : upd H1 D (.lst []) = H0 at eD0 s0
    have ex0 : ∀ {H2 : Hp}, Same H1 (Hw (fun b => b = D) H2) → Ex H1 H2 := fun {H2} s => Ex.of fun b o e => Hw.sub _ _ _ _ (s b o e)
    have naD : a ≠ D := fun z => by
      rcases hso with z2 | z2 <;> (rw [z, hD] at z2; cases z2)
    have stay : ∀ {H2 : Hp} {o : HO}, Same H1 (Hw (fun b => b = D) H2) → H0 a = some o → H2 a = some o := fun {H2 o} s ho => by
      rw [← hH0, upd_ne naD] at ho
      exact Hw.sub _ _ _ _ (s _ _ ho)
    show tSeq _ _ _ [some (.ref a), some (.ref D), none, none, none, none] H0
    refine ⟨.ref a, rfl, a, xs, rfl, hst.ex (ex0 s0), fun J hJ => for_seq (K := K) (a := a) (xs := xs) (fun i σ H2 => ∃ fv y3 y4 y5 vs, σ = [some (.ref a), some (.ref D), some fv, y3, y4, y5] ∧ (i < ds.length → fv = .int (sumSnd (ds.take i))) ∧ Same H1 (Hw (fun b => b = D) H2) ∧
        H2 D = some (.lst vs) ∧ vs.length = i ∧ RpAll (Hw (fun b => b = D) H2) vs ((pcs 0 (ds.take i)).map pieceD))
      ⟨.int 0, none, none, none, [], rfl, fun _ => rfl, s0, eD0, rfl, .nil⟩ (fun i σ H2 ⟨_, _, _, _, _, _, _, e, _⟩ => hJ H2 fun o ho => stay e ho) (fun i x σ H2 hx ⟨fv, y3, y4, y5, vs, es, hfv, s2, eD, lv, hv⟩ => ?_) (fun σ H2 ⟨fv, y3, y4, y5, vs, es, _, s2, eD, lv, hv⟩ => ?_)⟩
    · subst es
      obtain ⟨dx, hdx, hRx⟩ := hA.get hx
      have li : i < ds.length := by
        obtain ⟨z, _⟩ := List.getElem?_eq_some_iff.mp hdx
        exact z
      obtain rfl := hfv li
      obtain ⟨b, vt, vm, t, m, rfl, hsb, hvt, hvm, hrx, htu, hma⟩ := piece_at2 (all_get hpc hdx) (Rp.sm s2 hRx)
      have hsnd : sndD dx = m := sndD_two hrx
      obtain ⟨ts, hts⟩ : ∃ ts, rowsD t = some ts := by
        cases z : rowsD t with
        | none => unfold isTurns at htu; rw [z] at htu; cases htu
        | some ts => exact ⟨ts, rfl⟩
      have htd : turnsD dx = ts := by unfold turnsD; rw [hrx]; show (rowsD t).getD [] = ts; rw [hts]; rfl
      obtain ⟨t0, zs, rfl, hzs, hto⟩ := hvt.rows hts
      refine ⟨b, [.ref t0, vm], rfl, hsb.ex (Ex.of (Hw.sub _ _)), rfl, .ref t0, [vm], rfl, vm, [], rfl, rfl, ?_⟩
      have hS := sum_step hdx
      have epc : (pcs 0 (ds.take (i + 1))).map pieceD = (pcs 0 (ds.take i)).map pieceD ++ [pieceD (sumSnd (ds.take i), pastO (sumSnd (ds.take i)) m, ts)] := by
        rw [List.take_add_one, hdx]
        show (pcs 0 (ds.take i ++ [dx])).map pieceD = _
        rw [pcs_snoc, List.map_append, Int.zero_add, hsnd, htd]
        rfl
      generalize hSS : sumSnd (ds.take i) = S at hS epc ⊢
      obtain ⟨pv, hp1, hp2, hc⟩ : ∃ pv, (∀ H3, Rp H3 pv (optD (pastO S m))) ∧ (i + 1 < ds.length → pv = .int (sumSnd (ds.take (i + 1)))) ∧ ((vm = .non ∧ pv = .non) ∨ ∃ k, vm = .int k ∧ pv = .int (S + k)) := by
        rw [hsnd] at hS
        cases hvm with
        | non =>
          refine ⟨.non, fun _ => .non, fun lt => ?_, .inl ⟨rfl, rfl⟩⟩
          have z := List.any_eq_false.mp hno dx (List.mem_of_getElem? (i := i) (by rw [List.getElem?_take_of_lt (by omega : i < ds.length - 1)]; exact hdx))
          rw [hsnd] at z
          exact absurd rfl z
        | int k => exact ⟨.int (S + k), fun _ => .int _, fun _ => by rw [hS]; rfl, .inr ⟨k, rfl, rfl⟩⟩
        | _ => cases hma
      have fin : ∀ (l : Addr) (H3 : Hp), Same H2 H3 → Hw (fun b => b = D) H3 l = some (.tup zs) → ∀ p, H3 p = none → upd H3 p (.tup [.int S, pv, .ref l]) D = some (.lst vs) ∧ Same H1 (Hw (fun b => b = D) (upd (upd H3 p (.tup [.int S, pv, .ref l])) D (.lst (vs ++ [.ref p])))) ∧
          RpAll (Hw (fun b => b = D) (upd (upd H3 p (.tup [.int S, pv, .ref l])) D (.lst (vs ++ [.ref p])))) (vs ++ [.ref p]) ((pcs 0 (ds.take (i + 1))).map pieceD) := fun l H3 s3 el p np => by
        obtain ⟨e4, s5, eb⟩ := pieces_put (ys := [.int S, pv, .ref l]) eD s3 np
        have s25 := Same.trans (Same.hw (W := fun b => b = D) s3) s5
        refine ⟨e4, Same.trans s2 s25, ?_⟩
        rw [epc]
        exact (RpAll.sm s25 hv).snoc (.tup eb (.cons (.int S) (.cons (hp1 _) (.cons (.tup (s5 _ _ el) (RpAll.sm s25 hzs)) .nil))))
      have l3 : ∀ l : Addr, [V.int S, pv, .ref l].length ≤ sizeLine := fun l => small_le (by show 3 ≤ 1000; decide)
      have lvs : vs.length < sizeLine := small1000 (by omega)
      have lv1 : ∀ p : Addr, (vs ++ [V.ref p]).length = i + 1 := fun p => by rw [List.length_append, lv]; rfl
      have nlD : ∀ {l : Addr}, H2 l = none → Hw (fun b => b = D) (upd H2 l (.tup zs)) l = some (.tup zs) := fun {l} nl => by
        rw [Hw.at (W := fun b => b = D) fun z => by rw [z, eD] at nl; cases nl]
        exact upd_same
      rcases hc with ⟨rfl, rfl⟩ | ⟨k, rfl, rfl⟩
      · refine ⟨.non, rfl, _, rfl, iteT ⟨.ref D, rfl, .inl ⟨rfl, _, SqL.of eD⟩, .int S, rfl, .non, rfl, .ref t0, rfl, t0, zs, rfl, ?_⟩⟩
        rcases hto with ht | ht
        · refine .inl ⟨SqL.of (Hw.sub _ _ _ _ ht), fun l nl => ⟨l3 l, fun p np => ?_⟩⟩
          obtain ⟨e4, a1, a2⟩ := fin l _ (same_upd nl) (nlD nl) p np
          exact ⟨D, vs, .ref p, rfl, rfl, e4, lvs, .non, rfl, .non, _, _, _, _, rfl, hp2, a1, upd_same, lv1 p, a2⟩
        · refine .inr ⟨SqT.of (Hw.sub _ _ _ _ ht), l3 t0, fun p np => ?_⟩
          obtain ⟨e4, a1, a2⟩ := fin t0 H2 (Same.refl H2) ht p np
          exact ⟨D, vs, .ref p, rfl, rfl, e4, lvs, .non, rfl, .non, _, _, _, _, rfl, hp2, a1, upd_same, lv1 p, a2⟩
      · refine ⟨.int k, rfl, _, rfl, iteF ⟨.int S, rfl, .int k, rfl, S, k, rfl, rfl, .ref D, rfl, .inl ⟨rfl, _, SqL.of eD⟩, .int S, rfl, .int (S + k), rfl, .ref t0, rfl, t0, zs, rfl, ?_⟩⟩
        rcases hto with ht | ht
        · refine .inl ⟨SqL.of (Hw.sub _ _ _ _ ht), fun l nl => ⟨l3 l, fun p np => ?_⟩⟩
          obtain ⟨e4, a1, a2⟩ := fin l _ (same_upd nl) (nlD nl) p np
          exact ⟨D, vs, .ref p, rfl, rfl, e4, lvs, .int (S + k), rfl, .int (S + k), _, _, _, _, rfl, hp2, a1, upd_same, lv1 p, a2⟩
        · refine .inr ⟨SqT.of (Hw.sub _ _ _ _ ht), l3 t0, fun p np => ?_⟩
          obtain ⟨e4, a1, a2⟩ := fin t0 H2 (Same.refl H2) ht p np
          exact ⟨D, vs, .ref p, rfl, rfl, e4, lvs, .int (S + k), rfl, .int (S + k), _, _, _, _, rfl, hp2, a1, upd_same, lv1 p, a2⟩
    · subst es
      rw [hlen, List.take_length] at hv
      have hpo : piecesOf d = pcs 0 ds := by unfold piecesOf; rw [hds]; rfl
      exact ⟨.ref D, rfl, q hp D H2 (e1.trans (ex0 s2)) (tb1.same fun b o e => Hw.sub _ _ _ _ (s2 b o e)) (e1.free hD) (by rw [hpo]; exact .lst eD (RpAll.sm (Hw.sub _ _) hv))⟩
end
end CL
set_option Elab.async false
set_option linter.all false
set_option maxRecDepth 100000
set_option maxHeartbeats 4000000
namespace CL
open PySem PySem.Spec PyProof.Rows L2 GE
abbrev sMany : Stmt := topS 18
theorem scMany : FnScope ["pieces"] ["pieces"] (defScope sMany) := ⟨rfl, rfl, rfl, by decide +kernel, rfl, by decide +kernel, by decide +kernel⟩
abbrev sPieceNo : Stmt := topS 19
theorem scPieceNo : FnScope ["pieces", "person", "at"] ["pieces", "person"] (defScope sPieceNo) := ⟨rfl, rfl, rfl, by decide +kernel, rfl, by decide +kernel, by decide +kernel⟩
abbrev sTurnAt : Stmt := topS 20
theorem scTurnAt : FnScope ["pieces", "person", "at", "first", "past", "turns"] ["pieces", "person"] (defScope sTurnAt) := ⟨rfl, rfl, rfl, by decide +kernel, rfl, by decide +kernel, by decide +kernel⟩
abbrev sPatAt : Stmt := topS 21
theorem scPatAt : FnScope ["pieces", "person", "at", "turn"] ["pieces", "person"] (defScope sPatAt) := ⟨rfl, rfl, rfl, by decide +kernel, rfl, by decide +kernel, by decide +kernel⟩
/-- the pieces stand as a list at a -/
structure PcsAt (H : Hp) (a : Addr) (ps : List PieceT) : Prop where
  ex : ∃ xs, H a = some (.lst xs) ∧ RpAll H xs (ps.map pieceD)
theorem PcsAt.of {H : Hp} {v : V} {ps : List PieceT} (h : Rp H v (.list (ps.map pieceD))) : ∃ a, v = .ref a ∧ PcsAt H a ps := by
  cases h with
  | lst h1 h2 => exact ⟨_, rfl, _, h1, h2⟩
def optV : Option Int → V
  | some i => .int i
  | none => .non
/-- a piece that stands -/
theorem pc_at {H : Hp} {a : Addr} {ps : List PieceT} {i : Nat} {pc : PieceT} (h : PcsAt H a ps) (e : ps[i]? = some pc) : ∃ xs b t zs, StSeq H a xs ∧ xs.length = ps.length ∧ xs[i]? = some (.ref b) ∧ H b = some (.tup [.int pc.1, optV pc.2.1, .ref t]) ∧ H t = some (.tup zs) ∧ RpAll H zs pc.2.2 := by
  obtain ⟨xs, h1, h2⟩ := h.ex
  have hl : xs.length = ps.length := by rw [h2.length, List.length_map]
  have hi : i < xs.length := by
    obtain ⟨z, _⟩ := List.getElem?_eq_some_iff.mp e
    omega
  obtain ⟨d, hd, hr⟩ := h2.get (List.getElem?_eq_getElem hi)
  obtain rfl : d = pieceD pc := by
    rw [List.getElem?_map, e] at hd
    exact (Option.some.inj hd).symm
  obtain ⟨f, po, ts⟩ := pc
  generalize hv : xs[i] = v at hr
  cases hr with
  | tup hb hys =>
    cases hys with
    | cons k1 k2 =>
      cases k2 with
      | cons k3 k4 =>
        cases k4 with
        | cons k5 k6 =>
          cases k6
          cases k1
          cases k5 with
          | tup ht hz =>
            have z : ∀ v, Rp H v (optD po) → v = optV po := fun v h => by cases po <;> cases h <;> rfl
            rw [z _ k3] at hb
            exact ⟨xs, _, _, _, ⟨.inl h1⟩, hl, by rw [List.getElem?_eq_getElem hi, hv], hb, ht, hz⟩
def spMany : Sp := fun vs H Q _ => ∃ a ps pc, vs = [.ref a] ∧ PcsAt H a (ps ++ [pc]) ∧ Q (optV pc.2.1) H
section
variable {P : Program} {w : World} {K : PySem.W.Frag} {mg : Str → Option Value} {base : Heap}
theorem ok_many {f : Addr} {fd : FuncData} (F : Fun K "many_in" "many_in" sMany f fd) : FnOk P w K mg base CX0 1 f fd ["pieces"] spMany := by
  refine F.ok scMany (fun vs H Q E ⟨a, ps, pc, e, _⟩ => by rw [e]; rfl) (fun cdv A outer s H vs Q E hr h => ?_)
  obtain ⟨a, ps, pc, rfl, hp, q⟩ := h
  refine ⟨_, pss_one (ps_ret (pe_ix ix_seq (pe_ix ix_seq (pv 0) (pe_un un_neg pe_int) (fun _ _ => rfl)) pe_int (fun _ _ => rfl))), ?_⟩
  obtain ⟨xs, b, t, zs, st, hl, hx, hb, _⟩ := pc_at (i := ps.length) (pc := pc) hp (by simp)
  obtain ⟨ys, z, rfl⟩ : ∃ ys z, xs = ys ++ [z] := ⟨xs.dropLast, xs.getLast (by intro z; rw [z] at hl; simp at hl), (List.dropLast_concat_getLast _).symm⟩
  have ey : ys.length = ps.length := by simpa using hl
  obtain rfl : z = .ref b := by
    rw [← ey] at hx
    simpa using hx
  have e1 : atI (ys ++ [V.ref b]) (-1) = some (.ref b) := atI_last _ _
  refine ⟨.ref a, rfl, 1, rfl, ?_⟩
  have fin : rIx K (.ref b) (.int 1) H Q := rix_of (i := 1) ⟨.inr hb⟩ rfl q
  rcases st.or with h | h
  · exact .inl ⟨a, _, -1, .ref b, rfl, rfl, SqL.of h, e1, fin⟩
  · exact .inr (.inl ⟨a, _, -1, .ref b, rfl, rfl, SqT.of h, e1, fin⟩)
/-- whether one of that number comes by the piece, or by one ahead of it -/
def comes (n : Int) (x : PieceT) : Bool := match x.2.1 with
  | none => true
  | some m => decide (n < m)
def spPieceNo : Sp := fun vs H Q _ => ∃ a n ps pc, vs = [.ref a, .int n] ∧ PcsAt H a ps ∧ ps.find? (comes n) = some pc ∧ ∀ i : Nat, ps[i]? = some pc → Q (.int (i : Int)) H
theorem ok_pieceNo {f : Addr} {fd : FuncData} (F : Fun K "piece_number" "piece_number" sPieceNo f fd) : FnOk P w K mg base CX0 1 f fd ["pieces", "person"] spPieceNo := by
  refine F.ok scPieceNo (fun vs H Q E ⟨a, n, ps, pc, e, _⟩ => by rw [e]; rfl) (fun cdv A outer s H vs Q E hr h => ?_)
  obtain ⟨a, n, ps, pc, rfl, hp, hf, q⟩ := h
  have nd := scPieceNo.nd
  refine ⟨_, (pss_cons (ps_set (i := 2) nd rfl (.inl rfl) pe_int) (pss_cons (ps_while PassesOwn.never (PW.pt (pw_and (pt_cmp (pc_notN (pe_ix ix_seq (pe_ix ix_seq (pv 0) (pv 2) (fun _ _ => rfl)) pe_int (fun _ _ => rfl)))) (pw_and1 (pt_cmpR op_le (pe_ix ix_seq (pe_ix ix_seq (pv 0) (pv 2) (fun _ _ => rfl)) pe_int (fun _ _ => rfl)) (pv 1) (nomark _))))) (pss_one (ps_aug (i := 2) nd rfl (.inl rfl) pe_int ip_add)))
    (pss_one (ps_ret (pv 2))))), ?_⟩
  refine ⟨fun m σ H' => ∃ i : Nat, m + i = ps.length ∧ σ = [some (.ref a), some (.int n), some (.int (i : Int))] ∧ H' = H ∧ (ps.drop i).find? (comes n) = some pc, ⟨ps.length, 0, rfl, rfl, rfl, hf⟩, fun m σ H' hW => ?_⟩
  obtain ⟨i, hm, rfl, rfl, hfi⟩ := hW
  have li : i < ps.length := by
    by_cases z : i < ps.length
    · exact z
    · rw [List.drop_eq_nil_of_le (by omega)] at hfi
      cases hfi
  obtain ⟨x, hx⟩ : ∃ x, ps[i]? = some x := ⟨_, List.getElem?_eq_getElem li⟩
  have ed : ps.drop i = x :: ps.drop (i + 1) := by
    rw [List.drop_eq_getElem_cons li]
    rw [List.getElem?_eq_getElem li] at hx
    rw [Option.some.inj hx]
  obtain ⟨xs, b, t, zs, st, hl, hxi, hb, ht, hz⟩ := pc_at hp hx
  have go : ∀ {R : VK}, R (optV x.2.1) H' → rIx K (.ref a) (.int (i : Int)) H' fun y H1 => rIx K y (.int 1) H1 R := fun {R} h => rix_of st hxi (rix_of (i := 1) ⟨.inr hb⟩ rfl h)
  rw [ed, List.find?_cons] at hfi
  refine ⟨.ref a, rfl, .int (i : Int), rfl, go ?_⟩
  cases hpo : x.2.1 with
  | none =>
    have hc : comes n x = true := by unfold comes; rw [hpo]
    rw [hc] at hfi
    obtain rfl : x = pc := Option.some.inj hfi
    exact ⟨_, rfl, iteF ⟨.int (i : Int), rfl, q i hx⟩⟩
  | some k =>
    refine ⟨_, rfl, iteT ⟨.ref a, rfl, .int (i : Int), rfl, go ?_⟩⟩
    rw [hpo]
    refine ⟨.int n, rfl, k, n, rfl, rfl, decide (k ≤ n), rfl, ?_⟩
    have hc : comes n x = decide (n < k) := by unfold comes; rw [hpo]
    rw [hc] at hfi
    refine ite2 (fun e => ?_) (fun e => ?_)
    · have e1 : decide (n < k) = false := decide_eq_false (by have := of_decide_eq_true e; omega)
      rw [e1] at hfi
      refine ⟨fun σ' H'' => σ' = [some (.ref a), some (.int n), some (.int ((i : Int) + 1))] ∧ H'' = H', fun σ' H'' z => ⟨m - 1, by omega, i + 1, by omega, z.1, z.2, hfi⟩, ?_⟩
      exact ⟨.int (i : Int), rfl, i, 1, rfl, rfl, rfl, rfl⟩
    · have e1 : decide (n < k) = true := decide_eq_true (by
        have : ¬ k ≤ n := fun z => e (decide_eq_true z)
        omega)
      rw [e1] at hfi
      obtain rfl : x = pc := Option.some.inj hfi
      exact ⟨.int (i : Int), rfl, q i hx⟩
/-- the number of its piece, its place in the round -/
def spTurnAt : Sp := fun vs H Q _ => ∃ a n ps pc, vs = [.ref a, .int n] ∧ PcsAt H a ps ∧ ps.find? (comes n) = some pc ∧ 0 < pc.2.2.length ∧ ∀ (i : Nat) p H', ps[i]? = some pc → Same H H' → H' p = some (.tup [.int (i : Int), .int ((n - pc.1) % (pc.2.2.length : Int))]) → Q (.ref p) H'
theorem ok_turnAt {f : Addr} {fd : FuncData} (F : Fun K "turn_at" "turn_at" sTurnAt f fd) (T : Nm mg) (CA : Cal P w K mg base 1 "piece_number" ["pieces", "person"] spPieceNo) : FnOk P w K mg base CX0 2 f fd ["pieces", "person"] spTurnAt := by
  refine F.ok scTurnAt (fun vs H Q E ⟨a, n, ps, pc, e, _⟩ => by rw [e]; rfl) (fun cdv A outer s H vs Q E hr h => ?_)
  obtain ⟨a, n, ps, pc, rfl, hp, hf, hl, q⟩ := h
  have nd := scTurnAt.nd
  refine ⟨_, (pss_cons (ps_set (i := 2) nd rfl (.inl rfl) (pe_cal CA hr (by rfl) (pa_cons (pv 0) (pa_cons (pv 1) pa_nil))))
    (pss_cons (ps_asg (pe_ix ix_seq (pv 0) (pv 2) (fun _ _ => rfl)) (pg_tup rfl (pgs_cons (pg_name (i := 3) nd rfl (.inl rfl)) (pgs_cons (pg_name (i := 4) nd rfl (.inl rfl)) (pgs_cons (pg_name (i := 5) nd rfl (.inl rfl)) pgs_nil)))))
    (pss_one (ps_ret (pe_tup (pa_cons (pv 2) (pa_cons (pe_op op_mod (pe_op op_sub (pv 1) (pv 3)) (pe_callB call_len_seq (by rfl) T.len PySem.boot_len (pa_cons (pv 5) pa_nil))) pa_nil))))))), ?_⟩
  refine ⟨.ref a, rfl, .int n, rfl, a, n, ps, pc, rfl, hp, hf, fun i hi => ?_⟩
  obtain ⟨xs, b, t, zs, st, _, hx, hb, ht, hz⟩ := pc_at hp hi
  have hzl := hz.length
  have st2 : StSeq H t zs := ⟨.inr ht⟩
  refine ⟨.ref a, rfl, .int (i : Int), rfl, rix_of st hx ?_⟩
  refine ⟨b, _, rfl, SqT.of hb, rfl, .int pc.1, _, rfl, optV pc.2.1, _, rfl, .ref t, _, rfl, rfl, ?_⟩
  refine ⟨.int (i : Int), rfl, .int n, rfl, .int pc.1, rfl, n, pc.1, rfl, rfl, .ref t, rfl, t, zs, rfl, st2.sq, n - pc.1, (zs.length : Int), rfl, rfl, by show (0 : Int) < (zs.length : Int); omega, small_le (by show 2 ≤ 1000; decide), fun p np => ?_⟩
  exact q i p _ hi (same_upd np) (by rw [upd_same, hzl])
def spPatAt : Sp := fun vs H Q _ => ∃ a n ps pc d, vs = [.ref a, .int n] ∧ PcsAt H a ps ∧ ps.find? (comes n) = some pc ∧ 0 < pc.2.2.length ∧ pc.2.2[((n - pc.1) % (pc.2.2.length : Int)).toNat]? = some d ∧ ∀ v H', Same H H' → Rp H' v d → Q v H'
theorem ok_patAt {f : Addr} {fd : FuncData} (F : Fun K "patience_at" "patience_at" sPatAt f fd) (CA : Cal P w K mg base 2 "turn_at" ["pieces", "person"] spTurnAt) : FnOk P w K mg base CX0 3 f fd ["pieces", "person"] spPatAt := by
  refine F.ok scPatAt (fun vs H Q E ⟨a, n, ps, pc, d, e, _⟩ => by rw [e]; rfl) (fun cdv A outer s H vs Q E hr h => ?_)
  obtain ⟨a, n, ps, pc, d, rfl, hp, hf, hl, hd, q⟩ := h
  have nd := scPatAt.nd
  refine ⟨_, (pss_cons (ps_asg (pe_cal CA hr (by rfl) (pa_cons (pv 0) (pa_cons (pv 1) pa_nil))) (pg_tup rfl (pgs_cons (pg_name (i := 2) nd rfl (.inl rfl)) (pgs_cons (pg_name (i := 3) nd rfl (.inl rfl)) pgs_nil))))
    (pss_one (ps_ret (pe_ix ix_seq (pe_ix ix_seq (pe_ix ix_seq (pv 0) (pv 2) (fun _ _ => rfl)) pe_int (fun _ _ => rfl)) (pv 3) (fun _ _ => rfl))))), ?_⟩
  refine ⟨.ref a, rfl, .int n, rfl, a, n, ps, pc, rfl, hp, hf, hl, fun i p H' hi s ep => ?_⟩
  obtain ⟨xs, b, t, zs, st, _, hx, hb, ht, hz⟩ := pc_at hp hi
  have hzl := hz.length
  obtain ⟨v, hv⟩ : ∃ v, zs[((n - pc.1) % (pc.2.2.length : Int)).toNat]? = some v := by
    obtain ⟨z, _⟩ := List.getElem?_eq_some_iff.mp hd
    exact ⟨_, List.getElem?_eq_getElem (by rw [hzl]; exact z)⟩
  obtain ⟨d', hd', hR⟩ := hz.get hv
  rw [hd] at hd'
  cases hd'
  have e0 : 0 ≤ (n - pc.1) % (pc.2.2.length : Int) := Int.emod_nonneg _ (by omega)
  have e1 : ((n - pc.1) % (pc.2.2.length : Int)) = ((((n - pc.1) % (pc.2.2.length : Int)).toNat : Nat) : Int) := by rw [Int.toNat_of_nonneg e0]
  refine ⟨p, _, rfl, SqT.of ep, rfl, .int (i : Int), _, rfl, .int ((n - pc.1) % (pc.2.2.length : Int)), _, rfl, rfl, ?_⟩
  refine ⟨.ref a, rfl, .int (i : Int), rfl, rix_of (st.ex (Ex.of s)) hx (rix_of (i := 2) ⟨.inr (s _ _ hb)⟩ rfl ⟨.int ((n - pc.1) % (pc.2.2.length : Int)), rfl, ?_⟩)⟩
  rw [e1]
  exact rix_of ⟨.inr (s _ _ ht)⟩ hv (q v H' s (Rp.sm s hR))
end
end CL
set_option Elab.async false
set_option linter.all false
set_option maxRecDepth 100000
set_option maxHeartbeats 4000000
namespace CL
open PySem PySem.Spec PyProof.Rows L2 GE
abbrev sCkM : Stmt := topS 22
theorem scCkM : FnScope ["pieces", "moment", "many"] ["pieces", "moment"] (defScope sCkM) := ⟨rfl, rfl, rfl, by decide +kernel, rfl, by decide +kernel, by decide +kernel⟩
/-- whether anything is the number of one that comes before past, or ever -/
def under : Option Int → Int → Bool
  | none, _ => true
  | some m, n => decide (n < m)
def personOk (past : Option Int) : PyData → Bool
  | .int n => decide (0 ≤ n) && under past n
  | _ => false
theorem personOk_int (past : Option Int) (n : Int) : personOk past (.int n) = (decide (0 ≤ n) && under past n) := rfl
def spCkP (C : Addr) : Sp := fun vs H Q E => ∃ a v ps pc d, vs = [.ref a, v] ∧ PcsAt H a (ps ++ [pc]) ∧ Rp H v d ∧ (personOk pc.2.1 d = false → ∀ H', Same H H' → E (.ref C) none H') ∧ (personOk pc.2.1 d = true → ∀ H', Same H H' → Q .non H')
/-- whether anything is a moment by which no more come than come -/
def upto : Option Int → Int → Bool
  | none, _ => true
  | some m, n => decide (n ≤ m)
def momentOk (past : Option Int) : PyData → Bool
  | .int n => decide (0 ≤ n) && decide (n ≤ GREAT) && upto past n
  | _ => false
theorem momentOk_int (past : Option Int) (n : Int) : momentOk past (.int n) = (decide (0 ≤ n) && decide (n ≤ GREAT) && upto past n) := rfl
def spCkM (C : Addr) : Sp := fun vs H Q E => ∃ a v ps pc d, vs = [.ref a, v] ∧ PcsAt H a (ps ++ [pc]) ∧ Rp H v d ∧ (momentOk pc.2.1 d = false → ∀ H', Same H H' → E (.ref C) none H') ∧ (momentOk pc.2.1 d = true → ∀ H', Same H H' → Q .non H')
section
variable {P : Program} {w : World} {K : PySem.W.Frag} {mg : Str → Option Value} {base : Heap}
theorem ok_ckm {f C : Addr} {fd : FuncData} (F : Fun K "check_moment" "check_moment" sCkM f fd) (T : Nm mg) (XN : ExcC K mg "NoMoment" C) (CM : Cal P w K mg base 1 "many_in" ["pieces"] spMany) (CW : Cal P w K mg base 1 "is_whole" ["thing"] (spOne isWhole)) :
    FnOk P w K mg base (L2.CX P w) 2 f fd ["pieces", "moment"] (spCkM C) := by
  refine F.okX scCkM (fun vs H Q E ⟨a, v, ps, pc, d, e, _⟩ => by rw [e]; rfl) (fun cdv A outer s H vs Q E hr h => ?_)
  obtain ⟨a, v, ps, pc, d, rfl, hp, hR, qE, q⟩ := h
  obtain ⟨tg, hgr⟩ := T.great
  have nd := scCkM.nd
  refine ⟨_, (pss_cons (ps_set (i := 2) nd rfl (.inl rfl) (pe_cal CM hr (by rfl) (pa_cons (pv 0) pa_nil)))
    (pss_one (ps_if (PW.pt (pw_or (pt_not (pt_val (pe_cal CW hr (by rfl) (pa_cons (pv 1) pa_nil)))) (pw_or (pt_not (pt_chain op_le op_le pe_int (pv 1) (pe_glob (v := .int GREAT) (by rfl) hgr ⟨_, rfl⟩))) (pw_or1 (PW.pt (pw_and (pt_cmp (pc_notN (pv 2))) (pw_and1 (pt_cmpR op_gt (pv 1) (pv 2) (nomark _))))))))) (pss_one (ps_raise rfl (takes_of rfl rfl rfl rfl) (pmk_own PySem.F.excBase_ValueError XN.x XN.g XN.k (raises_own XN.b XN.t) rfl))) pss_nil))), ?_⟩
  refine ⟨.ref a, rfl, a, ps, pc, rfl, hp, v, rfl, v, d, rfl, hR, fun H1 s1 => ⟨isWhole d, rfl, ?_⟩⟩
  cases hR with
  | int n =>
    refine iteF ⟨.int n, rfl, 0, n, rfl, rfl, decide (0 ≤ n), rfl, ite2 (fun e1 => ?_) (fun e1 => ?_)⟩
    · refine ⟨n, GREAT, rfl, rfl, decide (n ≤ GREAT), rfl, ?_⟩
      cases e2 : decide (n ≤ GREAT) with
      | true =>
        refine iteF ?_
        cases hpo : pc.2.1 with
        | none =>
          refine ⟨_, rfl, _, rfl, iteF (iteF ?_)⟩
          exact q (by rw [hpo, momentOk_int, e1, e2]; rfl) H1 s1
        | some m =>
          refine ⟨_, rfl, _, rfl, iteT ⟨.int n, rfl, .int m, rfl, n, m, rfl, rfl, decide (m < n), rfl, ?_⟩⟩
          refine ite2 (fun e3 => ?_) (fun e3 => ?_)
          · exact qE (by rw [hpo, momentOk_int, e1, e2]; exact decide_eq_false (by have := of_decide_eq_true e3; omega)) H1 s1
          · exact q (by rw [hpo, momentOk_int, e1, e2]; exact decide_eq_true (by have : ¬ m < n := fun z => e3 (decide_eq_true z); omega)) H1 s1
      | false => exact iteT (iteT (qE (by rw [momentOk_int, e1, e2]; rfl) H1 s1))
    · exact ⟨false, rfl, iteT (iteT (qE (by rw [momentOk_int, Bool.eq_false_iff.mpr e1]; rfl) H1 s1))⟩
  | _ => exact iteT (iteT (qE rfl H1 s1))
/-- the patience of a person, as the pieces have it -/
def patD (ps : List PieceT) (n : Int) : Option PyData := (ps.find? (comes n)).bind fun pc => pc.2.2[((n - pc.1) % (pc.2.2.length : Int)).toNat]?
/-- each that comes has its piece, with a patience -/
def HasP (ps : List PieceT) (n : Int) (e : PyData) : Prop := ∃ pp, ps.find? (comes n) = some pp ∧ 0 < pp.2.2.length ∧ pp.2.2[((n - pp.1) % (pp.2.2.length : Int)).toNat]? = some e
end
end CL
set_option Elab.async false
set_option linter.all false
set_option maxRecDepth 100000
set_option maxHeartbeats 4000000
namespace CL
open PySem PySem.Spec PyProof.Rows L2 GE
abbrev sLine : Stmt := topS 24
abbrev nLine : List Str := ["pieces", "moment", "people", "left", "person", "place"]
theorem scLine : FnScope nLine ["pieces", "moment"] (defScope sLine) := ⟨rfl, rfl, rfl, by decide +kernel, rfl, by decide +kernel, by decide +kernel⟩
abbrev sLet : Stmt := topS 23
theorem scLet : FnScope ["left", "place"] ["left"] (defScope sLet) := ⟨rfl, rfl, rfl, by decide +kernel, rfl, by decide +kernel, by decide +kernel⟩
/-! ### xs[i] -= e -/
theorem get_list {X : Cx} : PGet X (fun x y H Q => ∃ p xs, ∃ i : Nat, ∃ v, x = .ref p ∧ y = .int (i : Int) ∧ SqL X.K H p xs ∧ xs[i]? = some v ∧ Q v H) := by
  intro pins s σ H o k ov iv Q I ro ri h
  obtain ⟨p, xs, i, v, rfl, rfl, hs, hv, q⟩ := h
  cases ro
  obtain ⟨t, rfl⟩ := ri
  obtain ⟨its, r, pl, hz⟩ := I.list hs
  obtain ⟨w, ew, rw'⟩ := r.get hv
  have hn := line63
  have hl : i < xs.length := (List.getElem?_eq_some_iff.mp hv).1
  exact wpAny_getItem_list pl.isList (by omega) (by omega) (by simpa using ew) ⟨v, H, I, rw', q⟩
/-! ### who comes goes past all that let it -/
def goes : Nat → List (Option Int) → Nat × List (Option Int)
  | 0, l => (0, l)
  | p + 1, l => match l[p]? with
    | some (some k) => if k = 0 then (p + 1, l) else goes p (l.set p (some (k - 1)))
    | some none => goes p l
    | none => (p + 1, l)
theorem goes_le : ∀ (p : Nat) (l : List (Option Int)), (goes p l).1 ≤ p ∧ (goes p l).2.length = l.length
  | 0, l => ⟨Nat.le_refl 0, rfl⟩
  | p + 1, l => by
    unfold goes
    split
    · split
      · exact ⟨Nat.le_refl _, rfl⟩
      · have h := goes_le p (l.set p (some (‹Int› - 1)))
        exact ⟨Nat.le_succ_of_le h.1, by rw [h.2, List.length_set]⟩
    · have h := goes_le p l
      exact ⟨Nat.le_succ_of_le h.1, h.2⟩
    · exact ⟨Nat.le_refl _, rfl⟩
def stand (st : List Int × List (Option Int)) (who : Int) (e : Option Int) : List Int × List (Option Int) :=
  (st.1.take (goes st.1.length st.2).1 ++ [who] ++ st.1.drop (goes st.1.length st.2).1, (goes st.1.length st.2).2.take (goes st.1.length st.2).1 ++ [e] ++ (goes st.1.length st.2).2.drop (goes st.1.length st.2).1)
def lined (pat : Nat → Option Int) : Nat → List Int × List (Option Int)
  | 0 => ([], [])
  | n + 1 => stand (lined pat n) (n : Int) (pat n)
theorem lined_len (pat : Nat → Option Int) : ∀ n, (lined pat n).1.length = n ∧ (lined pat n).2.length = n
  | 0 => ⟨rfl, rfl⟩
  | n + 1 => by
    obtain ⟨h1, h2⟩ := lined_len pat n
    obtain ⟨g1, g2⟩ := goes_le (lined pat n).1.length (lined pat n).2
    rw [h1] at g1
    rw [h2] at g2
    unfold lined stand
    simp only [List.length_append, List.length_take, List.length_drop, List.length_singleton, h1]
    rw [h1] at g2
    constructor <;> omega
theorem rp_opt2 {H : Hp} : ∀ o : Option Int, Rp H (optV o) (optD o)
  | none => .non
  | some i => .int i
def spLet : Sp := fun vs H Q _ => ∃ (L : Addr) (l : List (Option Int)), vs = [.ref L] ∧ H L = some (.lst (l.map optV)) ∧ l.length ≤ 2000 ∧ ∀ H', (∀ b, b ≠ L → H' b = H b) → H' L = some (.lst ((goes l.length l).2.map optV)) → Q (.int ((goes l.length l).1 : Int)) H'
def spLine : Sp := fun vs H Q _ => ∃ a ps, ∃ m : Nat, ∃ pat : Nat → Option Int, vs = [.ref a, .int (m : Int)] ∧ PcsAt H a ps ∧ m ≤ 2000 ∧ (∀ n : Nat, n < m → HasP ps (n : Int) (optD (pat n))) ∧
  ∀ p L1 L2 H', Same H H' → H L1 = none → H L2 = none → L1 ≠ L2 → H' p = some (.tup [.ref L1, .ref L2]) → H' L1 = some (.lst ((lined pat m).1.map V.int)) → H' L2 = some (.lst ((lined pat m).2.map optV)) → Q (.ref p) H'
theorem optV_dp {K : PySem.W.Frag} {H : Hp} : ∀ o : Option Int, Dp K H (optV o) (optD o)
  | none => .non
  | some i => .int i
theorem optD_shaped : ∀ o : Option Int, SeqAt.shaped (optD o) = true
  | none => by decide
  | some i => by unfold SeqAt.shaped; simp [optD, PyData.canLay0, PyData.depth]
theorem optV_ne0 : ∀ o : Option Int, (!PyData.eqv (optD o) (.int 0)) = !decide (o = some 0)
  | none => by simp [optD, PyData.eqv]
  | some i => by
    by_cases h : i = 0
    · subst h; simp [optD, PyData.eqv]
    · simp [optD, PyData.eqv, h]
theorem rp_optV {H : Hp} {v : V} : ∀ {o : Option Int}, Rp H v (optD o) → v = optV o
  | none, h => by cases h; rfl
  | some i, h => by cases h; rfl
theorem stand_fin {st : List Int × List (Option Int)} {i k : Nat} {l : List (Option Int)} {e : Option Int} (l1 : st.1.length = i) (h : (k, l) = goes i st.2) :
    (st.1.map V.int).take k ++ [V.int (0 + (i : Int))] ++ (st.1.map V.int).drop k = (stand st (i : Int) e).1.map V.int ∧ (l.map optV).take k ++ [optV e] ++ (l.map optV).drop k = (stand st (i : Int) e).2.map optV := by
  unfold stand
  rw [l1, ← h]
  simp only [List.map_append, List.map_take, List.map_drop, List.map_cons, List.map_nil, Int.zero_add, and_self]
theorem ixN_nat {n j : Nat} (h : j < n) : ixN n (j : Int) = some j := by
  unfold ixN
  rw [if_pos (by omega)]
  simp [h]
section
variable {P : Program} {w : World} {K : PySem.W.Frag} {mg : Str → Option Value} {base : Heap}
theorem ok_let {f : Addr} {fd : FuncData} (F : Fun K "let_past" "let_past" sLet f fd) (T : Nm mg) : FnOk P w K mg base CX0 1 f fd ["left"] spLet := by
  refine F.ok scLet (fun vs H Q E ⟨L, l, e, _⟩ => by rw [e]; rfl) (fun cdv A outer s H vs Q E hr h => ?_)
  obtain ⟨L2, l0, rfl, eL, hl0, q⟩ := h
  have nd := scLet.nd
  refine ⟨_, (pss_cons (ps_set (i := 1) nd rfl (.inl rfl) (pe_callB call_len_seq (by rfl) T.len PySem.boot_len (pa_cons (pv 0) pa_nil)))
      (pss_cons (ps_while PassesOwn.never (PW.pt (pw_and (pt_cmpR op_gt (pv 1) pe_int (nomark _)) (pw_and1 (pt_cmpR (op_neD hr.units) (pe_ix ix_list (pv 0) (pe_op op_sub (pv 1) pe_int) (fun _ _ => rfl)) pe_int (nomark _)))))
        (pss_cons (ps_aug (i := 1) nd rfl (.inl rfl) pe_int ip_sub)
        (pss_one (ps_if (pt_cmp (pc_notN (pe_ix ix_list (pv 0) (pv 1) (fun _ _ => rfl)))) (pss_one (ps_augS (pv 0) (pv 1) get_list pe_int ip_sub set_list)) pss_nil))))
      (pss_one (ps_ret (pv 1))))), ?_⟩
  refine ⟨.ref L2, rfl, L2, _, rfl, .inl (SqL.of eL), ?_⟩
  rw [List.length_map]
  refine ⟨fun k σ H3 => ∃ l : List (Option Int), σ = [some (.ref L2), some (.int (k : Int))] ∧ (∀ b, b ≠ L2 → H3 b = H b) ∧ H3 L2 = some (.lst (l.map optV)) ∧ l.length = l0.length ∧ k ≤ l0.length ∧ goes k l = goes l0.length l0,
      ⟨l0.length, l0, rfl, fun b _ => rfl, eL, rfl, Nat.le_refl _, rfl⟩, fun k σ H3 hW => ?_⟩
  obtain ⟨l, rfl, s3, f2, hl, hk, hg⟩ := hW
  have ix : ∀ {b : Nat} {o : Option Int}, l[b]? = some o → (l.map optV)[b]? = some (optV o) := fun {b o} e => by rw [List.getElem?_map, e]; rfl
  have fin : ∀ {k : Nat}, (k, l) = goes l0.length l0 → Q (.int (k : Int)) H3 := fun {k} e => by
    have q' := q H3 s3
    rw [← e] at q'
    exact q' f2
  cases k with
  | zero =>
    refine ⟨.int ((0 : Nat) : Int), rfl, ((0 : Nat) : Int), 0, rfl, rfl, decide ((0 : Int) < ((0 : Nat) : Int)), rfl, iteF ?_⟩
    exact ⟨.int ((0 : Nat) : Int), rfl, fin hg⟩
  | succ k' =>
    have hk' : k' < l.length := by omega
    obtain ⟨o, ho⟩ : ∃ o, l[k']? = some o := ⟨_, List.getElem?_eq_getElem hk'⟩
    have hi1 : ((k' + 1 : Nat) : Int) - 1 = (k' : Int) := by omega
    refine ⟨.int ((k' + 1 : Nat) : Int), rfl, ((k' + 1 : Nat) : Int), 0, rfl, rfl, decide ((0 : Int) < ((k' + 1 : Nat) : Int)), rfl, ?_⟩
    rw [decide_eq_true (by omega : (0 : Int) < ((k' + 1 : Nat) : Int))]
    refine iteT ⟨.ref L2, rfl, .int ((k' + 1 : Nat) : Int), rfl, ((k' + 1 : Nat) : Int), 1, rfl, rfl, L2, _, ((k' + 1 : Nat) : Int) - 1, optV o, rfl, rfl, SqL.of f2, by rw [hi1]; exact atI_nat (ix ho), optD o, .int 0, optV_dp o, .int 0, optD_shaped o, optD_shaped (some 0), _, rfl, ?_⟩
    rw [optV_ne0]
    by_cases hz : o = some 0
    · rw [decide_eq_true hz]
      have hg2 : (k' + 1, l) = goes l0.length l0 := by
        rw [← hg]
        unfold goes
        rw [ho, hz]
        rfl
      exact iteF ⟨.int ((k' + 1 : Nat) : Int), rfl, fin hg2⟩
    · rw [decide_eq_false hz]
      cases o with
      | none =>
        have hg2 : goes k' l = goes l0.length l0 := by
          rw [← hg]
          conv => rhs; unfold goes
          rw [ho]
        refine iteT ⟨fun σ' H'' => σ' = [some (.ref L2), some (.int (((k' + 1 : Nat) : Int) - 1))] ∧ H'' = H3, fun σ' H'' z => ⟨k', Nat.lt_succ_self k', l, by rw [z.1, hi1], by rw [z.2]; exact s3, by rw [z.2]; exact f2, hl, by omega, hg2⟩, ?_⟩
        refine ⟨.int ((k' + 1 : Nat) : Int), rfl, ((k' + 1 : Nat) : Int), 1, rfl, rfl, .ref L2, rfl, .int (((k' + 1 : Nat) : Int) - 1), rfl, L2, _, ((k' + 1 : Nat) : Int) - 1, optV none, rfl, rfl, SqL.of f2, by rw [hi1]; exact atI_nat (ix ho), _, rfl, iteF ⟨rfl, rfl⟩⟩
      | some j =>
        have hj0 : j ≠ 0 := fun z => hz (by rw [z])
        have hg2 : goes k' (l.set k' (some (j - 1))) = goes l0.length l0 := by
          rw [← hg]
          conv => rhs; unfold goes
          rw [ho]
          exact (if_neg hj0).symm
        refine iteT ⟨fun σ' H'' => σ' = [some (.ref L2), some (.int (((k' + 1 : Nat) : Int) - 1))] ∧ H'' = upd H3 L2 (.lst ((l.set k' (some (j - 1))).map optV)), fun σ' H'' z => ⟨k', Nat.lt_succ_self k', l.set k' (some (j - 1)), by rw [z.1, hi1], by rw [z.2]; exact fun b hb => by rw [upd_ne hb]; exact s3 b hb, by rw [z.2]; exact upd_same, by rw [List.length_set]; exact hl, by omega, hg2⟩, ?_⟩
        refine ⟨.int ((k' + 1 : Nat) : Int), rfl, ((k' + 1 : Nat) : Int), 1, rfl, rfl, .ref L2, rfl, .int (((k' + 1 : Nat) : Int) - 1), rfl, L2, _, ((k' + 1 : Nat) : Int) - 1, optV (some j), rfl, rfl, SqL.of f2, by rw [hi1]; exact atI_nat (ix ho), _, rfl, iteT ?_⟩
        refine ⟨.ref L2, rfl, .int (((k' + 1 : Nat) : Int) - 1), rfl, L2, _, k', optV (some j), rfl, by rw [hi1], SqL.of f2, ix ho, j, 1, rfl, rfl, L2, _, (k' : Int), k', rfl, by rw [hi1], f2, ixN_nat (by rw [List.length_map]; exact hk'), rfl, ?_⟩
        rw [List.map_set]
        first | rfl | exact ⟨rfl, rfl⟩
theorem ok_line {f : Addr} {fd : FuncData} (F : Fun K "line_up" "line_up" sLine f fd) (T : Nm mg) (hrange : mg "range" = none) (CA : Cal P w K mg base 3 "patience_at" ["pieces", "person"] spPatAt) (CT : Cal P w K mg base 3 "let_past" ["left"] spLet) : FnOk P w K mg base CX0 4 f fd ["pieces", "moment"] spLine := by
  refine F.ok scLine (fun vs H Q E ⟨a, ps, m, pat, e, _⟩ => by rw [e]; rfl) (fun cdv A outer s H vs Q E hr h => ?_)
  obtain ⟨a, ps, m, pat, rfl, hp, hm, hh, q⟩ := h
  have nd := scLine.nd
  have sz : 2001 ≤ sizeLine := by decide
  refine ⟨_, (pss_cons (ps_set (i := 2) nd rfl (.inl rfl) (pe_lst pa_nil)) (pss_cons (ps_set (i := 3) nd rfl (.inl rfl) (pe_lst pa_nil))
    (pss_cons (ps_for PassesOwn.never rfl (pi_range1 (by rfl) hrange (pa_cons (pv 1) pa_nil)) (pg_name (i := 4) nd rfl (.inl rfl))
      (pss_cons (ps_set (i := 5) nd rfl (.inl rfl) (pe_cal CT hr (by rfl) (pa_cons (pv 3) pa_nil)))
      (pss_cons (ps_expr (pe_bm PySem.F.plainAttrs_list PySem.F.slot_list_insert PySem.F.type_list_insert mt_insert (pv 2) (pa_cons (pv 5) (pa_cons (pv 4) pa_nil))))
      (pss_one (ps_expr (pe_bm PySem.F.plainAttrs_list PySem.F.slot_list_insert PySem.F.type_list_insert mt_insert (pv 3) (pa_cons (pv 5) (pa_cons (pe_cal CA hr (by rfl) (pa_cons (pv 0) (pa_cons (pv 4) pa_nil))) pa_nil))))))))
    (pss_one (ps_ret (pe_tup (pa_cons (pv 2) (pa_cons (pv 3) pa_nil)))))))), ?_⟩
  refine ⟨Nat.zero_le _, fun L1 n1 => ⟨Nat.zero_le _, fun L2 n2 => ?_⟩⟩
  have s1 : Same H (upd H L1 (.lst [])) := same_upd n1
  have n2' : H L2 = none := by
    cases z : H L2 with
    | none => rfl
    | some o => rw [s1 _ _ z] at n2; cases n2
  have ne12 : L1 ≠ L2 := fun z => by rw [← z, upd_same] at n2; cases n2
  show tSeq _ _ _ [some (.ref a), some (.int (m : Int)), some (.ref L1), some (.ref L2), none, none] (upd (upd H L1 (.lst [])) L2 (.lst []))
  have s0 : Same H (upd (upd H L1 (.lst [])) L2 (.lst [])) := s1.trans (same_upd n2)
  have e1 : (upd (upd H L1 (.lst [])) L2 (.lst [])) L1 = some (.lst []) := by rw [upd_ne ne12]; exact upd_same
  have e2 : (upd (upd H L1 (.lst [])) L2 (.lst [])) L2 = some (.lst []) := upd_same
  generalize hG : upd (upd H L1 (.lst [])) L2 (.lst []) = G at s0 e1 e2
  have keep : ∀ {G1 : Hp} {o1 o2 : HO}, Same H G1 → Same H (upd (upd G1 L1 o1) L2 o2) := fun {G1 o1 o2} s b o e => by
    rw [upd_ne (fun z => by rw [z, n2'] at e; cases e), upd_ne (fun z => by rw [z, n1] at e; cases e)]
    exact s b o e
  have keep2 : ∀ {G1 : Hp} {o2 : HO}, Same H G1 → Same H (upd G1 L2 o2) := fun {G1 o2} s b o e => by
    rw [upd_ne (fun z => by rw [z, n2'] at e; cases e)]
    exact s b o e
  have keep1 : ∀ {G1 : Hp} {o2 : HO}, Same H G1 → Same H (upd G1 L1 o2) := fun {G1 o2} s b o e => by
    rw [upd_ne (fun z => by rw [z, n1] at e; cases e)]
    exact s b o e
  refine ⟨.int (m : Int), rfl, (m : Int), rfl, by omega, by omega, ?_⟩
  refine for_range (lo := 0) (n := ((m : Int)).toNat) (fun i σ H2 => ∃ y4 y5, σ = [some (.ref a), some (.int (m : Int)), some (.ref L1), some (.ref L2), y4, y5] ∧ Same H H2 ∧ H2 L1 = some (.lst ((lined pat i).1.map V.int)) ∧ H2 L2 = some (.lst ((lined pat i).2.map optV)))
    ⟨none, none, rfl, s0, e1, e2⟩ (fun i σ H2 hi hP => ?_) (fun σ H2 hP => ?_)
  · obtain ⟨y4, y5, rfl, s2, eL1, eL2⟩ := hP
    have hi' : i < m := by
      have : ((m : Int)).toNat = m := rfl
      omega
    obtain ⟨l1, l2⟩ := lined_len pat i
    generalize hst : lined pat i = st at eL1 eL2 l1 l2
    refine ⟨.ref L2, rfl, L2, st.2, rfl, eL2, by rw [l2]; omega, fun H3 k3 f2 => ?_⟩
    rw [l2] at f2 ⊢
    obtain ⟨hk, glen⟩ := goes_le i st.2
    have hl := glen.trans l2
    generalize hg : goes i st.2 = g at f2 hk hl ⊢
    obtain ⟨k, l⟩ := g
    have hg := hg.symm
    have hl : l.length = i := hl
    have hk : k ≤ i := hk
    have f2 : H3 L2 = some (.lst (l.map optV)) := f2
    have f1 : H3 L1 = some (.lst (st.1.map V.int)) := (k3 L1 ne12).trans eL1
    have s3 : Same H H3 := fun b o e => by
      rw [k3 b (fun z => by rw [z, n2'] at e; cases e)]
      exact s2 b o e
    obtain ⟨pp, hf, hpl, he⟩ := hh i hi'
    have hpA : ∀ (H3 : Hp) {o : HO}, Same H H3 → PcsAt (upd H3 L1 o) a ps := fun H3 {o} s => by
      obtain ⟨xs, h1, h2⟩ := hp.ex
      exact ⟨xs, keep1 s _ _ h1, RpAll.sm (keep1 s) h2⟩
    show tSeq _ _ _ [some (.ref a), some (.int (m : Int)), some (.ref L1), some (.ref L2), some (.int (0 + (i : Int))), some (.int (k : Int))] H3
    refine ⟨.ref L1, rfl, .inl ⟨rfl, _, SqL.of f1⟩, .int (k : Int), rfl, .int (0 + (i : Int)), rfl, L1, _, (k : Int), _, rfl, rfl, f1, by rw [List.length_map, l1]; omega, by omega, by omega,
      .ref L2, rfl, .inl ⟨rfl, _, SqL.of (show upd H3 L1 _ L2 = _ by rw [upd_ne (Ne.symm ne12)]; exact f2)⟩, .int (k : Int), rfl, .ref a, rfl, .int (0 + (i : Int)), rfl, a, 0 + (i : Int), ps, pp, optD (pat i), rfl, hpA H3 s3, by rw [Int.zero_add]; exact hf, hpl, by rw [Int.zero_add]; exact he, fun x H4 s4 rx => ?_⟩
    obtain rfl := rp_optV rx
    have g2 := s4 L2 _ (show upd H3 L1 _ L2 = _ by rw [upd_ne (Ne.symm ne12)]; exact f2)
    have g1 := s4 L1 _ upd_same
    obtain ⟨z1, z2⟩ := stand_fin (e := pat i) l1 (hg : (k, l) = goes i st.2)
    refine ⟨L2, _, (k : Int), _, rfl, rfl, g2, by rw [List.length_map, hl]; omega, by omega, by omega, some (.int (0 + (i : Int))), some (.int (k : Int)), rfl, ?_, ?_, ?_⟩
    · exact keep2 (fun b o e => s4 _ _ (keep1 s3 b o e))
    · rw [upd_ne ne12, g1]
      show _ = some (HO.lst ((stand (lined pat i) (i : Int) (pat i)).1.map V.int))
      rw [hst, ← z1]
      rfl
    · rw [upd_same]
      show _ = some (HO.lst ((stand (lined pat i) (i : Int) (pat i)).2.map optV))
      rw [hst, ← z2]
      rfl
  · obtain ⟨y4, y5, rfl, s2, eL1, eL2⟩ := hP
    refine ⟨.ref L1, rfl, .ref L2, rfl, small_le (by show 2 ≤ 1000; decide), fun p np => ?_⟩
    exact q p L1 L2 _ (s2.trans (same_upd np)) n1 n2' ne12 upd_same (same_upd np _ _ eL1) (same_upd np _ _ eL2)
end
end CL
set_option Elab.async false
set_option linter.all false
set_option maxRecDepth 100000
set_option maxHeartbeats 4000000
namespace CL
open PySem PySem.Spec PyProof.Rows L2 GE
abbrev sListed : Stmt := topS 25
theorem scListed : FnScope ["plan", "moment", "pieces"] ["plan", "moment"] (defScope sListed) := ⟨rfl, rfl, rfl, by decide +kernel, rfl, by decide +kernel, by decide +kernel⟩
abbrev sQueue : Stmt := topS 26
theorem scQueue : FnScope ["plan", "moment", "people", "left"] ["plan", "moment"] (defScope sQueue) := ⟨rfl, rfl, rfl, by decide +kernel, rfl, by decide +kernel, by decide +kernel⟩
abbrev sLeft : Stmt := topS 27
theorem scLeft : FnScope ["plan", "moment", "people", "left"] ["plan", "moment"] (defScope sLeft) := ⟨rfl, rfl, rfl, by decide +kernel, rfl, by decide +kernel, by decide +kernel⟩
/-- raise C(), C a class of one's own over a built-in one -/
theorem pmk_own0 {X : Cx} {x : Str} {p pos : Pos} {B newId initId : String} {bmB : List Value} {C : Addr} (F : ExcBaseFacts B newId initId bmB) (q : PySem.W.excIn X.K C bmB newId = true) (gC : X.mg x = some (.ref C)) (kC : PySem.W.keepIn X.K (.ref C) = true) (r : Raises X (.ref C)) (hg : Gl X x)
    (hdb : (x == ("__debug__" : Str)) = false := by decide) : PMk X (.Call (.Name x p) [] [] pos) (fun _ H Q => Q (.ref C) none H) := by
  intro pins s σ H Q I h
  refine wpAny_Call_Name_kw (ld_glob I hg gC ?_ hdb)
  refine PySem.W.callWith_K0 I.kIn kC ?_
  show wpAny _ _ (call (.ref C) []) _ _ _
  obtain ⟨bm, N, nm, qn, bs, hdct, sn, sub, ab, col, dd, k0, k1, k2, k3, k5, mN, hC, hN, hni, T⟩ := exc_obj I.kIn q
  refine wpAny_call_exc_subT F T hC hN hni (fun h' e hm => ?_) (Nat.zero_le _)
  exact mk_of I hm r h (I.hok.gone hm.new)
/-! ### whoever comes by a plan has a patience -/
theorem turns_ok {d : PyData} (h : isPiece d = true) : 1 ≤ (turnsD d).length ∧ ∀ x ∈ turnsD d, isPatience x = true := by
  obtain ⟨t, m, e, ht, _⟩ := piece_parts h
  unfold turnsD
  rw [e]
  show 1 ≤ ((rowsD t).getD []).length ∧ ∀ x ∈ (rowsD t).getD [], isPatience x = true
  unfold isTurns at ht
  cases z : rowsD t with
  | none => rw [z] at ht; cases ht
  | some ts =>
    rw [z] at ht
    simp only [Bool.and_eq_true, decide_eq_true_eq, List.all_eq_true] at ht
    exact ⟨ht.1.1, ht.2⟩
theorem find_pcs (n : Int) : ∀ (ds : List PyData) (f : Int), ds.all isPiece = true → (ds.take (ds.length - 1)).any (fun d => isNone (sndD d)) = false → ∀ ps pc, pcs f ds = ps ++ [pc] → under pc.2.1 n = true → ∃ pp, (pcs f ds).find? (comes n) = some pp ∧ ∃ d ∈ ds, pp.2.2 = turnsD d
  | [], f, _, _, ps, pc, e, _ => by
    have := congrArg List.length e
    simp [pcs] at this
  | d :: ds, f, ha, hn, ps, pc, e, hu => by
    have hd : isPiece d = true := by
      simp only [List.all_cons, Bool.and_eq_true] at ha
      exact ha.1
    have hds : ds.all isPiece = true := by
      simp only [List.all_cons, Bool.and_eq_true] at ha
      exact ha.2
    have ec : pcs f (d :: ds) = (f, pastO f (sndD d), turnsD d) :: pcs (f + worth (sndD d)) ds := rfl
    rw [ec, List.find?_cons]
    cases hc : comes n (f, pastO f (sndD d), turnsD d) with
    | true => exact ⟨_, rfl, d, List.mem_cons_self, rfl⟩
    | false =>
      cases ds with
      | nil =>
        have e2 : [(f, pastO f (sndD d), turnsD d)] = ps ++ [pc] := e
        have e3 : pc = (f, pastO f (sndD d), turnsD d) := by
          cases ps with
          | nil => exact (List.cons.inj e2).1.symm
          | cons x xs =>
            have := congrArg List.length e2
            simp at this
        rw [e3] at hu
        exfalso
        unfold comes at hc
        cases hp : pastO f (sndD d) with
        | none => simp [hp] at hc
        | some m =>
          simp only [hp] at hc
          rw [hp] at hu
          have h1 : decide (n < m) = true := hu
          rw [h1] at hc
          cases hc
      | cons d2 ds2 =>
        obtain ⟨ps', e4⟩ : ∃ ps', pcs (f + worth (sndD d)) (d2 :: ds2) = ps' ++ [pc] := by
          cases ps with
          | nil =>
            have := congrArg List.length e
            simp [pcs] at this
          | cons x xs => exact ⟨xs, (List.cons.inj e).2⟩
        have hn2 : ((d2 :: ds2).take ((d2 :: ds2).length - 1)).any (fun d => isNone (sndD d)) = false := by
          have : (d :: d2 :: ds2).take ((d :: d2 :: ds2).length - 1) = d :: (d2 :: ds2).take ((d2 :: ds2).length - 1) := rfl
          rw [this, List.any_cons, Bool.or_eq_false_iff] at hn
          exact hn.2
        obtain ⟨pp, h1, d', h2, h3⟩ := find_pcs n (d2 :: ds2) _ hds hn2 ps' pc e4 hu
        exact ⟨pp, h1, d', List.mem_cons_of_mem _ h2, h3⟩
theorem plan_parts {d : PyData} (h : isPlan d = true) : ∃ ds, rowsD d = some ds ∧ piecesOf d = pcs 0 ds ∧ 1 ≤ ds.length ∧ ds.length ≤ 8 ∧ ds.all isPiece = true ∧ (ds.take (ds.length - 1)).any (fun d => isNone (sndD d)) = false ∧ sumSnd ds ≤ GREAT := by
  cases z : rowsD d with
  | none => unfold isPlan at h; rw [z] at h; cases h
  | some ds =>
    have e : isPlan d = isPlanL ds := by unfold isPlan; rw [z]
    rw [e] at h
    unfold isPlanL at h
    simp only [Bool.and_eq_true, decide_eq_true_eq, Bool.not_eq_true'] at h
    obtain ⟨⟨⟨⟨l1, l8⟩, hpc⟩, hno⟩, hsum⟩ := h
    exact ⟨ds, rfl, by unfold piecesOf; rw [z]; rfl, l1, l8, hpc, hno, hsum⟩
theorem pcs_len : ∀ (f : Int) (ds : List PyData), (pcs f ds).length = ds.length
  | _, [] => rfl
  | f, d :: ds => congrArg (· + 1) (pcs_len _ ds)
theorem plan_last {d : PyData} (h : isPlan d = true) : ∃ ps pc, piecesOf d = ps ++ [pc] := by
  obtain ⟨ds, _, e, l1, _⟩ := plan_parts h
  have hl : (piecesOf d).length = ds.length := by rw [e, pcs_len]
  have ne : piecesOf d ≠ [] := fun z => by rw [z] at hl; simp at hl; omega
  exact ⟨_, _, (List.dropLast_concat_getLast ne).symm⟩
/-- a patience as a value that may be none -/
def patO : PyData → Option Int
  | .int i => some i
  | _ => none
theorem pat_optD {d : PyData} (h : isPatience d = true) : d = optD (patO d) := by
  cases d <;> first | rfl | cases h
theorem plan_has {d : PyData} (h : isPlan d = true) {ps : List PieceT} {pc : PieceT} (e : piecesOf d = ps ++ [pc]) {n : Int} (hu : under pc.2.1 n = true) : ∃ o : Option Int, HasP (piecesOf d) n (optD o) := by
  obtain ⟨ds, _, e2, _, _, hpc, hno, _⟩ := plan_parts h
  rw [e2] at e ⊢
  obtain ⟨pp, h1, d', h2, h3⟩ := find_pcs n ds 0 hpc hno ps pc e hu
  obtain ⟨t1, t2⟩ := turns_ok (List.all_eq_true.mp hpc d' h2)
  have hl : 0 < pp.2.2.length := by rw [h3]; omega
  have m1 : 0 ≤ (n - pp.1) % (pp.2.2.length : Int) := Int.emod_nonneg _ (by omega)
  have m2 : (n - pp.1) % (pp.2.2.length : Int) < (pp.2.2.length : Int) := Int.emod_lt_of_pos _ (by omega)
  have m3 : ((n - pp.1) % (pp.2.2.length : Int)).toNat < pp.2.2.length := by omega
  have m4 : isPatience (pp.2.2[((n - pp.1) % (pp.2.2.length : Int)).toNat]) = true := t2 _ (by rw [← h3]; exact List.getElem_mem m3)
  exact ⟨patO (pp.2.2[((n - pp.1) % (pp.2.2.length : Int)).toNat]), pp, h1, hl, by rw [List.getElem?_eq_getElem m3, ← pat_optD m4]⟩
/-- what is told at a moment, or which refusal -/
def MomP (P1 P2 C C3 C4 : Addr) (d c : PyData) (H : Hp) (E : XK) (R : (Nat → Option Int) → Nat → Prop) : Prop :=
  (isPlan d = false → ∀ H', Ex H H' → Tb P1 P2 H' → E (.ref C) none H') ∧ (isPlan d = true → ∃ ps pc, piecesOf d = ps ++ [pc] ∧ (momentOk pc.2.1 c = false → ∀ H', Ex H H' → Tb P1 P2 H' → E (.ref C3) none H') ∧
    (momentOk pc.2.1 c = true → ∃ n : Nat, c = .int (n : Int) ∧ (2000 < n → ∀ H', Ex H H' → Tb P1 P2 H' → E (.ref C4) none H') ∧ (n ≤ 2000 → ∀ pat : Nat → Option Int, (∀ k : Nat, k < n → HasP (piecesOf d) (k : Int) (optD (pat k))) → R pat n)))
def spListed (P1 P2 C C3 C4 : Addr) : Sp := fun vs H Q E => ∃ v u d c, vs = [v, u] ∧ Rp H v d ∧ Rp H u c ∧ Tb P1 P2 H ∧ MomP P1 P2 C C3 C4 d c H E fun pat n => ∀ p L1 L2 H', Ex H H' → Tb P1 P2 H' → H L1 = none → H L2 = none → L1 ≠ L2 → H' p = some (.tup [.ref L1, .ref L2]) →
  H' L1 = some (.lst ((lined pat n).1.map V.int)) → H' L2 = some (.lst ((lined pat n).2.map optV)) → Q (.ref p) H'
def spQueue (P1 P2 C C3 C4 : Addr) : Sp := fun vs H Q E => ∃ v u d c, vs = [v, u] ∧ Rp H v d ∧ Rp H u c ∧ Tb P1 P2 H ∧ MomP P1 P2 C C3 C4 d c H E fun pat n => ∀ L H', Ex H H' → Tb P1 P2 H' → H L = none → H' L = some (.lst ((lined pat n).1.map V.int)) → Q (.ref L) H'
def spLeft (P1 P2 C C3 C4 : Addr) : Sp := fun vs H Q E => ∃ v u d c, vs = [v, u] ∧ Rp H v d ∧ Rp H u c ∧ Tb P1 P2 H ∧ MomP P1 P2 C C3 C4 d c H E fun pat n => ∀ L H', Ex H H' → Tb P1 P2 H' → H L = none → H' L = some (.lst ((lined pat n).2.map optV)) → Q (.ref L) H'
theorem momentOk_nat {past : Option Int} {c : PyData} (h : momentOk past c = true) : ∃ n : Nat, c = .int (n : Int) := by
  cases c with
  | int i =>
    rw [momentOk_int] at h
    simp only [Bool.and_eq_true, decide_eq_true_eq] at h
    exact ⟨i.toNat, by rw [Int.toNat_of_nonneg h.1.1]⟩
  | _ => cases h
section
variable {P : Program} {w : World} {K : PySem.W.Frag} {mg : Str → Option Value} {base : Heap}
theorem ok_listed {f P1 P2 C C3 C4 : Addr} {fd : FuncData} (F : Fun K "listed_at" "listed_at" sListed f fd) (hmost : ∃ t, mg "MOST_LISTED" = some (.int 2000 t)) (X4 : ExcC K mg "TooMany" C4) (CP : CalX P w K mg base 9 "pieces_of" ["plan"] (spPieces P1 P2 C)) (CK : CalX P w K mg base 9 "check_moment" ["pieces", "moment"] (spCkM C3))
    (CL : Cal P w K mg base 9 "line_up" ["pieces", "moment"] spLine) : FnOk P w K mg base (L2.CX P w) 10 f fd ["plan", "moment"] (spListed P1 P2 C C3 C4) := by
  refine F.okX scListed (fun vs H Q E ⟨v, u, d, c, e, _⟩ => by rw [e]; rfl) (fun cdv A outer s H vs Q E hr h => ?_)
  obtain ⟨v, u, d, c, rfl, hR, hU, hT, qE0, q⟩ := h
  obtain ⟨tm, hmo⟩ := hmost
  have nd := scListed.nd
  refine ⟨_, (pss_cons (ps_set (i := 2) nd rfl (.inl rfl) (pe_calX CP hr (by rfl) (passes_call (takes_of rfl rfl rfl rfl) fun _ _ _ _ h => h) (pa_cons (pv 0) pa_nil)))
    (pss_cons (ps_expr (pe_calX CK hr (by rfl) (passes_call (takes_of rfl rfl rfl rfl) fun _ _ _ _ h => h) (pa_cons (pv 2) (pa_cons (pv 1) pa_nil))))
    (pss_cons (ps_if (pt_cmpR op_gt (pv 1) (pe_glob (v := .int 2000) (by rfl) hmo ⟨_, rfl⟩) (nomark _)) (pss_one (ps_raise rfl (takes_of rfl rfl rfl rfl) (pmk_own0 PySem.F.excBase_ValueError X4.x X4.g X4.k (raises_own X4.b X4.t) rfl))) pss_nil)
    (pss_one (ps_ret (pe_cal CL hr (by rfl) (pa_cons (pv 2) (pa_cons (pv 1) pa_nil)))))))), ?_⟩
  refine ⟨v, rfl, v, d, rfl, hR, hT, qE0, fun z0 p H1 e1 t1 np rp => ?_⟩
  obtain ⟨ps, pc, hps, qE, q⟩ := q z0
  have hU1 := Rp.ex e1 c u hU
  have rp' := rp
  rw [hps] at rp'
  obtain ⟨a, ea, h⟩ := PcsAt.of rp'
  obtain rfl : p = a := V.ref.inj ea
  refine ⟨.ref p, rfl, u, rfl, p, u, ps, pc, c, rfl, h, hU1, fun z H2 s2 => qE z H2 (e1.trans (Ex.of s2)) (t1.same s2), fun z H2 s2 => ?_⟩
  obtain ⟨n, rfl, qB, q⟩ := q z
  cases hU1
  have rp2 : Rp H2 (.ref p) (.list ((piecesOf d).map pieceD)) := Rp.sm s2 rp
  obtain ⟨a, ea, h2⟩ := PcsAt.of rp2
  obtain rfl : p = a := V.ref.inj ea
  refine ⟨.int (n : Int), rfl, (n : Int), 2000, rfl, rfl, decide ((2000 : Int) < (n : Int)), rfl, ite2 (fun e2 => ?_) (fun e2 => ?_)⟩
  · exact qB (by have := of_decide_eq_true e2; omega) H2 (e1.trans (Ex.of s2)) (t1.same s2)
  · have hn : n ≤ 2000 := by
      have : ¬ (2000 : Int) < (n : Int) := fun z => e2 (decide_eq_true z)
      omega
    have hall : ∀ k : Nat, ∃ o : Option Int, k < n → HasP (piecesOf d) (k : Int) (optD o) := fun k => by
      by_cases hk : k < n
      · have hu : under pc.2.1 (k : Int) = true := by
          rw [momentOk_int] at z
          simp only [Bool.and_eq_true, decide_eq_true_eq] at z
          have z2 := z.2
          cases hp : pc.2.1 with
          | none => rfl
          | some m =>
            rw [hp] at z2
            have z3 : (n : Int) ≤ m := of_decide_eq_true z2
            exact decide_eq_true (by omega)
        obtain ⟨o, ho⟩ := plan_has z0 hps hu
        exact ⟨o, fun _ => ho⟩
      · exact ⟨none, fun z => absurd z hk⟩
    obtain ⟨pat, hpat⟩ : ∃ pat : Nat → Option Int, ∀ k : Nat, k < n → HasP (piecesOf d) (k : Int) (optD (pat k)) := ⟨fun k => Classical.choose (hall k), fun k => Classical.choose_spec (hall k)⟩
    refine ⟨.ref p, rfl, .int (n : Int), rfl, p, piecesOf d, n, pat, rfl, h2, hn, hpat, fun p2 L1 L2 H3 s3 m1 m2 ne a1 a2 a3 => ?_⟩
    have e3 := e1.trans (Ex.of s2)
    exact q hn pat hpat p2 L1 L2 H3 (e3.trans (Ex.of s3)) ((t1.same s2).same s3) (e3.free m1) (e3.free m2) ne a1 a2 a3
theorem MomP.imp {P1 P2 C C3 C4 : Addr} {d c : PyData} {H : Hp} {E : XK} {R R' : (Nat → Option Int) → Nat → Prop} (m : MomP P1 P2 C C3 C4 d c H E R) (h : ∀ pat n, R pat n → R' pat n) : MomP P1 P2 C C3 C4 d c H E R' :=
  ⟨m.1, fun z => let ⟨ps, pc, e, a, b⟩ := m.2 z; ⟨ps, pc, e, a, fun y => let ⟨n, e2, a2, b2⟩ := b y; ⟨n, e2, a2, fun l pat hp => h _ _ (b2 l pat hp)⟩⟩⟩
theorem ok_queue {f P1 P2 C C3 C4 : Addr} {fd : FuncData} (F : Fun K "queue_at" "queue_at" sQueue f fd) (CL : CalX P w K mg base 10 "listed_at" ["plan", "moment"] (spListed P1 P2 C C3 C4)) : FnOk P w K mg base (L2.CX P w) 11 f fd ["plan", "moment"] (spQueue P1 P2 C C3 C4) := by
  refine F.okX scQueue (fun vs H Q E ⟨v, u, d, c, e, _⟩ => by rw [e]; rfl) (fun cdv A outer s H vs Q E hr h => ?_)
  obtain ⟨v, u, d, c, rfl, hR, hU, hT, hm⟩ := h
  have nd := scQueue.nd
  refine ⟨_, (pss_cons (ps_asg (pe_calX CL hr (by rfl) (passes_call (takes_of rfl rfl rfl rfl) fun _ _ _ _ h => h) (pa_cons (pv 0) (pa_cons (pv 1) pa_nil))) (pg_tup rfl (pgs_cons (pg_name (i := 2) nd rfl (.inl rfl)) (pgs_cons (pg_name (i := 3) nd rfl (.inl rfl)) pgs_nil))))
    (pss_one (ps_ret (pv 2)))), ?_⟩
  refine ⟨v, rfl, u, rfl, v, u, d, c, rfl, hR, hU, hT, hm.imp fun pat n q p L1 L2 H' e1 t1 m1 m2 ne a1 a2 a3 => ?_⟩
  exact ⟨p, _, rfl, SqT.of a1, rfl, .ref L1, _, rfl, .ref L2, _, rfl, rfl, .ref L1, rfl, q L1 H' e1 t1 m1 a2⟩
theorem ok_left {f P1 P2 C C3 C4 : Addr} {fd : FuncData} (F : Fun K "left_at" "left_at" sLeft f fd) (CL : CalX P w K mg base 10 "listed_at" ["plan", "moment"] (spListed P1 P2 C C3 C4)) : FnOk P w K mg base (L2.CX P w) 11 f fd ["plan", "moment"] (spLeft P1 P2 C C3 C4) := by
  refine F.okX scLeft (fun vs H Q E ⟨v, u, d, c, e, _⟩ => by rw [e]; rfl) (fun cdv A outer s H vs Q E hr h => ?_)
  obtain ⟨v, u, d, c, rfl, hR, hU, hT, hm⟩ := h
  have nd := scLeft.nd
  refine ⟨_, (pss_cons (ps_asg (pe_calX CL hr (by rfl) (passes_call (takes_of rfl rfl rfl rfl) fun _ _ _ _ h => h) (pa_cons (pv 0) (pa_cons (pv 1) pa_nil))) (pg_tup rfl (pgs_cons (pg_name (i := 2) nd rfl (.inl rfl)) (pgs_cons (pg_name (i := 3) nd rfl (.inl rfl)) pgs_nil))))
    (pss_one (ps_ret (pv 3)))), ?_⟩
  refine ⟨v, rfl, u, rfl, v, u, d, c, rfl, hR, hU, hT, hm.imp fun pat n q p L1 L2 H' e1 t1 m1 m2 ne a1 a2 a3 => ?_⟩
  exact ⟨p, _, rfl, SqT.of a1, rfl, .ref L1, _, rfl, .ref L2, _, rfl, rfl, .ref L2, rfl, q L2 H' e1 t1 m2 a3⟩
end
end CL
set_option Elab.async false
set_option linter.all false
set_option maxRecDepth 100000
set_option maxHeartbeats 4000000
namespace CL
open PySem PySem.Spec PyProof.Rows L2 GE
structure Nm2 (mg : Str → Option Value) : Prop where
  range : mg "range" = none
  min : mg "min" = none
  repr : mg "repr" = none
  enum : mg "enumerate" = none
abbrev RowT := List (Option Int) × PyData
def pvO : Option Int → V
  | none => .non
  | some i => .int i
def pdO : Option Int → PyData
  | none => .none
  | some i => .int i
def goodO : Option Int → Prop
  | none => True
  | some i => 0 ≤ i ∧ i ≤ GREAT
theorem rp_O {H : Hp} : ∀ o : Option Int, Rp H (pvO o) (pdO o)
  | none => .non
  | some i => .int i
theorem rp_Os {H : Hp} : ∀ os : List (Option Int), RpAll H (os.map pvO) (os.map pdO)
  | [] => .nil
  | o :: os => .cons (rp_O o) (rp_Os os)
def rowD (x : RowT) : PyData := .tuple [.list (x.1.map pdO), x.2]
def sumW (rs : List RowT) : Int := (rs.map fun x => worth x.2).sum
structure GoodRow (x : RowT) : Prop where
  lo : 1 ≤ x.1.length
  hi : x.1.length ≤ 8
  pat : ∀ o ∈ x.1, goodO o
  many : isMany x.2 = true
structure Fine (rs : List RowT) : Prop where
  lo : 1 ≤ rs.length
  hi : rs.length ≤ 8
  row : ∀ x ∈ rs, GoodRow x
  last : ∀ x ∈ rs.take (rs.length - 1), isNone x.2 = false
  sum : sumW rs ≤ GREAT
def spRows (r : Addr) : Sp := fun vs H Q _ => ∃ W, vs = [.ref r] ∧ ReelAt H r ∧ Wk W H r ∧ ∀ p rs H', ReelAt H' r → Mv r H H' → Rp (Hw W H') (.ref p) (.list (rs.map rowD)) → Fine rs → Q (.ref p) H'
theorem RpAll.unsnoc {H : Hp} : ∀ {ds : List PyData} {vs : List V} {d : PyData}, RpAll H vs (ds ++ [d]) → ∃ vs' v, vs = vs' ++ [v] ∧ RpAll H vs' ds ∧ Rp H v d
  | [], _, _, .cons h .nil => ⟨[], _, rfl, .nil, h⟩
  | _ :: _, _, _, .cons h t => by
    obtain ⟨vs', v, e, h1, h2⟩ := RpAll.unsnoc t
    exact ⟨_ :: vs', v, by rw [e]; rfl, .cons h h1, h2⟩
theorem ix_last (n : Nat) : ixN (n + 1) (-1) = some n := by
  unfold ixN
  rw [if_neg (by decide), if_pos (by omega)]
  congr 1
  omega
/-! ### rows that were drawn are a plan -/
theorem pat_good {o : Option Int} (h : goodO o) : isPatience (pdO o) = true := by
  cases o with
  | none => rfl
  | some i =>
    have h1 : 0 ≤ i := h.1
    have h2 : i ≤ GREAT := h.2
    show (decide (0 ≤ i) && decide (i ≤ GREAT)) = true
    rw [decide_eq_true h1, decide_eq_true h2]
    rfl
theorem piece_good {x : RowT} (g : GoodRow x) : isPiece (rowD x) = true := by
  have e : isPiece (rowD x) = (isTurns (.list (x.1.map pdO)) && isMany x.2) := isPiece_two rfl
  rw [e, g.many, Bool.and_true]
  show (decide (1 ≤ (x.1.map pdO).length) && decide ((x.1.map pdO).length ≤ 8) && (x.1.map pdO).all isPatience) = true
  rw [List.length_map, decide_eq_true g.lo, decide_eq_true g.hi]
  simp only [Bool.true_and, List.all_map, List.all_eq_true]
  exact fun o ho => pat_good (g.pat o ho)
theorem sum_rows : ∀ rs : List RowT, sumSnd (rs.map rowD) = sumW rs
  | [] => rfl
  | x :: rs => by
    have h := sum_rows rs
    unfold sumSnd sumW at *
    simp only [List.map_cons, List.sum_cons]
    rw [h]
    rfl
theorem fine_plan {rs : List RowT} (f : Fine rs) : isPlan (.list (rs.map rowD)) = true := by
  have e : isPlan (.list (rs.map rowD)) = isPlanL (rs.map rowD) := rfl
  rw [e]
  unfold isPlanL
  rw [sum_rows, List.length_map, decide_eq_true f.lo, decide_eq_true f.hi, decide_eq_true f.sum, Bool.and_true, Bool.true_and, Bool.true_and]
  have h1 : (rs.map rowD).all isPiece = true := by
    simp only [List.all_map, List.all_eq_true]
    exact fun x hx => piece_good (f.row x hx)
  have h2 : ((rs.map rowD).take (rs.length - 1)).any (fun d => isNone (sndD d)) = false := by
    rw [← List.map_take, List.any_eq_false]
    intro d hd
    obtain ⟨x, hx, rfl⟩ := List.mem_map.mp hd
    have h3 := f.last x hx
    have h4 : sndD (rowD x) = x.2 := rfl
    rw [h4, h3]
    exact Bool.false_ne_true
  rw [h1, h2]
  rfl
/-! ### what a call that fills tables leaves -/
theorem ReelAt.kx {r : Addr} {H H' : Hp} (h : ReelAt H r) (e : Ex H H') : ReelAt H' r := by
  obtain ⟨g, t, gs, ts, n, st, er, eg, et, h⟩ := h
  exact ⟨g, t, gs, ts, n, st, e.lst er, e.lst eg, e.lst et, h⟩
theorem Ex.some {H H' : Hp} (e : Ex H H') {b : Addr} (n : H b ≠ none) : H' b ≠ none := fun z => n (e.free z)
theorem Wk.ex {W : Addr → Prop} {H H' : Hp} {r : Addr} (k : Wk W H r) (e : Ex H H') : Wk W H' r := ⟨k.reel, fun b hb => e.some (k.trk b hb)⟩
theorem Ex.hw {W : Addr → Prop} {H H' : Hp} (e : Ex H H') : Ex (Hw W H) (Hw W H') := fun b o h => by
  rw [Hw.at (Hw.ne h)]
  exact e b o (Hw.sub W H b o h)
theorem tabG_ne {P r : Addr} {H : Hp} (h : GxR.TabG H P) (hr : ReelAt H r) : P ≠ r := fun z => by
  obtain ⟨ps, e, _⟩ := h
  obtain ⟨g, t, gs, ts, n, st, er, _⟩ := hr
  rw [z, er] at e
  cases e
theorem tabG_mv {P r : Addr} {H H' : Hp} (h : GxR.TabG H P) (hr : ReelAt H r) (m : Mv r H H') : GxR.TabG H' P := by
  have n := tabG_ne h hr
  obtain ⟨ps, e, t⟩ := h
  exact ⟨ps, m.keep P _ n e, t⟩
theorem Tb.mv {P1 P2 r : Addr} {H H' : Hp} (h : Tb P1 P2 H) (hr : ReelAt H r) (m : Mv r H H') : Tb P1 P2 H' := ⟨tabG_mv h.1 hr m, tabG_mv h.2 hr m⟩
theorem tabG_upd {P p : Addr} {H : Hp} {o : HO} (h : GxR.TabG H P) (n : ∀ ps, H p ≠ some (.tbl ps)) : GxR.TabG (upd H p o) P := by
  obtain ⟨ps, e, t⟩ := h
  exact ⟨ps, by rw [upd_ne fun z => n ps (by rw [← z]; exact e)]; exact e, t⟩
theorem Tb.upd {P1 P2 p : Addr} {H : Hp} {o : HO} (h : Tb P1 P2 H) (n : ∀ ps, H p ≠ some (.tbl ps)) : Tb P1 P2 (upd H p o) := ⟨tabG_upd h.1 n, tabG_upd h.2 n⟩
theorem RpAll.exh {H H' : Hp} (e : Ex H H') {vs : List V} {ds : List PyData} (h : RpAll H vs ds) : RpAll H' vs ds := RpAll.ex e ds vs h
end CL
set_option Elab.async false
set_option linter.all false
set_option maxRecDepth 100000
set_option maxHeartbeats 4000000
namespace CL
open PySem PySem.Spec PyProof.Rows L2 GE
abbrev sPatL : Stmt := topS 31
theorem scPatL : FnScope ["reel", "most", "kind"] ["reel", "most"] (defScope sPatL) := ⟨rfl, rfl, rfl, by decide +kernel, rfl, by decide +kernel, by decide +kernel⟩
abbrev sTurn : Stmt := topS 32
abbrev nTurn : List Str := ["reel", "most", "k"]
theorem scTurn : FnScope nTurn ["reel", "most"] (defScope sTurn) := ⟨rfl, rfl, rfl, by decide +kernel, rfl, by decide +kernel, by decide +kernel⟩
abbrev sNear : Stmt := topS 33
theorem scNear : FnScope ["reel", "most", "ends", "found", "k"] ["reel", "most", "ends"] (defScope sNear) := ⟨rfl, rfl, rfl, by decide +kernel, rfl, by decide +kernel, by decide +kernel⟩
theorem sumW_snoc2 (rs : List RowT) (x : RowT) : sumW (rs ++ [x]) = sumW rs + worth x.2 := by
  unfold sumW
  rw [List.map_append, List.sum_append]
  simp
def spPatL (r : Addr) : Sp := fun vs H Q _ => ∃ most : Int, vs = [.ref r, .int most] ∧ ReelAt H r ∧ 0 ≤ most ∧ most ≤ GREAT ∧ ∀ o H', ReelAt H' r → Mv r H H' → goodO o → Q (pvO o) H'
def spTurn (r : Addr) : Sp := fun vs H Q _ => ∃ most : Int, ∃ W, vs = [.ref r, .int most] ∧ ReelAt H r ∧ Wk W H r ∧ 0 ≤ most ∧ most ≤ GREAT ∧ ∀ p (os : List (Option Int)) H', ReelAt H' r → Mv r H H' → Hw W H' p = some (.lst (os.map pvO)) → 1 ≤ os.length → os.length ≤ 8 → (∀ o ∈ os, goodO o) → Q (.ref p) H'
def spNear (r : Addr) : Sp := fun vs H Q _ => ∃ most : Int, ∃ b : Bool, ∃ W, vs = [.ref r, .int most, .bl b] ∧ ReelAt H r ∧ Wk W H r ∧ 0 ≤ most ∧ most ≤ GREAT ∧ ∀ p rs H', ReelAt H' r → Mv r H H' → Rp (Hw W H') (.ref p) (.list (rs.map rowD)) → Fine rs → sumW rs ≤ 320 → Q (.ref p) H'
section
variable {P : Program} {w : World} {K : PySem.W.Frag} {mg : Str → Option Value} {base : Heap}
theorem ok_patL {f r : Addr} {fd : FuncData} (F : Fun K "_law_patience" "_law_patience" sPatL f fd) (CD : Cal P w K mg base 1 "_law_draw" ["reel", "many"] (spDraw r)) : FnOk P w K mg base CX0 2 f fd ["reel", "most"] (spPatL r) := by
  refine F.ok scPatL (fun vs H Q E ⟨m, e, _⟩ => by rw [e]; rfl) (fun cdv A outer s H vs Q E hr h => ?_)
  obtain ⟨most, rfl, hre, h0, hG, q⟩ := h
  have hG' : most ≤ 1000000000000000000000000000000 := hG
  have nd := scPatL.nd
  refine ⟨_, (pss_cons (ps_set (i := 2) nd rfl (.inl rfl) (pe_cal CD hr (by rfl) (pa_cons (pv 0) (pa_cons pe_int pa_nil))))
    (pss_cons (ps_if (pt_cmpR op_eq (pv 2) pe_int (nomark _)) (pss_one (ps_ret pe_non)) pss_nil)
    (pss_one (ps_ret (pe_cal CD hr (by rfl) (pa_cons (pv 0) (pa_cons (pe_ix ix_list (pe_lst (pa_cons pe_int (pa_cons pe_int (pa_cons pe_int (pa_cons (pe_op op_add (pv 1) pe_int) pa_nil))))) (pe_op op_mod (pv 2) pe_int) (fun _ _ => rfl)) pa_nil))))))), ?_⟩
  refine ⟨.ref r, rfl, 9, rfl, hre, by decide, by decide, fun x H1 re1 m1 x0 x1 => ?_⟩
  refine ⟨.int x, rfl, rfl, _, rfl, ite2 (fun _ => ?_) (fun _ => ?_)⟩
  · exact q none H1 re1 m1 trivial
  · refine ⟨.ref r, rfl, .int most, rfl, most, 1, rfl, rfl, small_le (by show 4 ≤ 1000; decide), fun p np => ?_⟩
    have s1 : Same H1 (upd H1 p (.lst [.int 2, .int 4, .int 9, .int (most + 1)])) := same_upd np
    obtain ⟨z, hz, z0, z1⟩ : ∃ z, atI [V.int 2, .int 4, .int 9, .int (most + 1)] (x % 4) = some (.int z) ∧ 1 ≤ z ∧ z ≤ 1000000000000000000000000000001 := by
      have hh : x % 4 = 0 ∨ x % 4 = 1 ∨ x % 4 = 2 ∨ x % 4 = 3 := by omega
      rcases hh with z | z | z | z <;> rw [z]
      · exact ⟨2, atI_nat (j := 0) rfl, by decide, by decide⟩
      · exact ⟨4, atI_nat (j := 1) rfl, by decide, by decide⟩
      · exact ⟨9, atI_nat (j := 2) rfl, by decide, by decide⟩
      · exact ⟨_, atI_nat (j := 3) rfl, by omega, by omega⟩
    refine ⟨.int x, rfl, x, 4, rfl, rfl, (by show (0 : Int) < 4; decide), p, _, x % 4, .int z, rfl, rfl, SqL.of upd_same, hz, z, rfl, re1.same s1, z0, by omega, fun y H2 re2 m2 y0 y1 => ?_⟩
    exact q (some y) H2 re2 ((m1.trans (Mv.of s1 re1)).trans m2) ⟨y0, by show y ≤ 1000000000000000000000000000000; omega⟩
theorem ok_turn {f r : Addr} {fd : FuncData} (F : Fun K "_law_turn" "_law_turn" sTurn f fd) (hrange : mg "range" = none) (CD : Cal P w K mg base 2 "_law_draw" ["reel", "many"] (spDraw r)) (CP : Cal P w K mg base 2 "_law_patience" ["reel", "most"] (spPatL r)) : FnOk P w K mg base CX0 3 f fd ["reel", "most"] (spTurn r) := by
  refine F.ok scTurn (fun vs H Q E ⟨m, W, e, _⟩ => by rw [e]; rfl) (fun cdv A outer s H vs Q E hr h => ?_)
  obtain ⟨most, W, rfl, hre, hW, h0, hG, q⟩ := h
  have nd := scTurn.nd
  refine ⟨_, pss_one (ps_ret (pe_lc (own := [("k", 2)]) (g := gName 2) (tt := tYes) rfl nd (pi_range1 (by rfl) hrange (pa_cons (pe_op op_add pe_int (pe_cal CD hr (by rfl) (pa_cons (pv 0) (pa_cons (pe_ix ix_list (pe_lst (pa_cons pe_int (pa_cons pe_int (pa_cons pe_int pa_nil)))) (pe_cal CD hr (by rfl) (pa_cons (pv 0) (pa_cons pe_int pa_nil))) (fun _ _ => rfl)) pa_nil)))) pa_nil)) (blkOk_by (N := nTurn) (sc := defScope sTurn) (by decide +kernel))
    (fun _ _ _ _ _ => pg_name (i := 2) nd rfl (Or.inl rfl)) (fun _ _ _ _ _ => pts_nil) (fun _ _ _ _ _ => pe_cal CP hr (by rfl) (pa_cons (pv 0) (pa_cons (pv 1) pa_nil))))), ?_⟩
  refine ⟨.ref r, rfl, small_le (by show 3 ≤ 1000; decide), fun p np => ?_⟩
  have s1 : Same H (upd H p (.lst [.int 2, .int 4, .int 8])) := same_upd np
  have ep : (upd H p (.lst [.int 2, .int 4, .int 8])) p = some (.lst [.int 2, .int 4, .int 8]) := upd_same
  have npr := (hre.new np).ne
  generalize hH1 : upd H p (.lst [.int 2, .int 4, .int 8]) = H1 at s1 ep
  have re1 := hre.same s1
  refine ⟨.ref r, rfl, 3, rfl, re1, by decide, by decide, fun x H2 re2 m2 x0 x1 => ?_⟩
  obtain ⟨z, hz, z0, z1⟩ : ∃ z, atI [V.int 2, .int 4, .int 8] x = some (.int z) ∧ 1 ≤ z ∧ z ≤ 8 := by
    have hh : x = 0 ∨ x = 1 ∨ x = 2 := by omega
    rcases hh with z | z | z <;> rw [z]
    · exact ⟨2, atI_nat (j := 0) rfl, by decide, by decide⟩
    · exact ⟨4, atI_nat (j := 1) rfl, by decide, by decide⟩
    · exact ⟨8, atI_nat (j := 2) rfl, by decide, by decide⟩
  refine ⟨p, _, x, .int z, rfl, rfl, SqL.of (m2.keep p _ npr ep), hz, z, rfl, re2, z0, by omega, fun y H4 re4 m4 y0 y1 => ⟨1, y, rfl, rfl, 1 + y, rfl, by omega, by omega, fun t nt => ?_⟩⟩
  have frt := re4.new nt
  have m04 := ((Mv.of s1 hre).trans m2).trans m4
  refine lc_range (lo := 0) (n := (1 + y).toNat) (fun j H5 => ∃ (os : List (Option Int)), ReelAt H5 r ∧ Mv r H4 H5 ∧ Free H5 r t ∧ H5 t = some (.lst (os.map pvO)) ∧ os.length = j ∧ ∀ o ∈ os, goodO o)
    ⟨[], re4.store frt, (Mv.refl r H4).upd nt frt.ne, frt.upd frt.ne, upd_same, rfl, fun o ho => by cases ho⟩ (fun j H5 hj ⟨os, re5, m5, frt5, et5, los, hos⟩ => ?_) (fun H5 ⟨os, re5, m45, frt5, et5, los, hos⟩ => ?_)
  · have hj8 : j < 8 := by omega
    refine ⟨rfl, yesT ?_⟩
    refine ⟨.ref r, rfl, .int most, rfl, most, rfl, re5, h0, hG, fun o H6 re6 m6 go => ?_⟩
    have et6 := m6.keep t _ frt.ne et5
    have frt6 := m6.free t (by rw [et5]; exact nofun) frt5
    exact ⟨os.map pvO, et6, by rw [List.length_map]; exact small1000 (by omega), os ++ [o], re6.store frt6, (m5.trans m6).upd nt frt.ne, frt6.upd frt.ne, by rw [upd_same, List.map_append]; rfl, by rw [List.length_append, los]; rfl, fun x hx => by
      rcases List.mem_append.mp hx with hx | hx
      · exact hos x hx
      · rw [List.mem_singleton.mp hx]; exact go⟩
  · exact q t os H5 re5 (m04.trans m45) (by rw [Hw.at ((hW.mv re4 m04).out nt)]; exact et5) (by omega) (by omega) hos
theorem ok_near {f r : Addr} {fd : FuncData} (F : Fun K "_law_near_rows" "_law_near_rows" sNear f fd) (hrange : mg "range" = none) (CD : Cal P w K mg base 3 "_law_draw" ["reel", "many"] (spDraw r)) (CT : Cal P w K mg base 3 "_law_turn" ["reel", "most"] (spTurn r)) : FnOk P w K mg base CX0 4 f fd ["reel", "most", "ends"] (spNear r) := by
  refine F.ok scNear (fun vs H Q E ⟨m, b, W, e, _⟩ => by rw [e]; rfl) (fun cdv A outer s H vs Q E hr h => ?_)
  obtain ⟨most, b, W, rfl, hre, hW, h0, hG, q⟩ := h
  have nd := scNear.nd
  refine ⟨_, (pss_cons (ps_set (i := 3) nd rfl (.inl rfl) (pe_lst pa_nil))
    (pss_cons (ps_for PassesOwn.never rfl (pi_range1 (by rfl) hrange (pa_cons (pe_op op_add pe_int (pe_cal CD hr (by rfl) (pa_cons (pv 0) (pa_cons (pe_ix ix_list (pe_lst (pa_cons pe_int (pa_cons pe_int pa_nil))) (pe_cal CD hr (by rfl) (pa_cons (pv 0) (pa_cons pe_int pa_nil))) (fun _ _ => rfl)) pa_nil)))) pa_nil)) (pg_name (i := 4) nd rfl (.inl rfl))
      (pss_one (ps_expr (pe_bm PySem.F.plainAttrs_list PySem.F.slot_list_append PySem.F.type_list_append mt_append (pv 3) (pa_cons (pe_tup (pa_cons (pe_cal CT hr (by rfl) (pa_cons (pv 0) (pa_cons (pv 1) pa_nil))) (pa_cons (pe_cal CD hr (by rfl) (pa_cons (pv 0) (pa_cons (pe_ix ix_list (pe_lst (pa_cons pe_int (pa_cons pe_int (pa_cons pe_int pa_nil)))) (pe_cal CD hr (by rfl) (pa_cons (pv 0) (pa_cons pe_int pa_nil))) (fun _ _ => rfl)) pa_nil))) pa_nil))) pa_nil)))))
    (pss_cons (ps_if (PW.pt (pw_and (pt_not (pt_val (pv 2))) (pw_and1 (pt_cmpR op_eq (pe_cal CD hr (by rfl) (pa_cons (pv 0) (pa_cons pe_int pa_nil))) pe_int (nomark _))))) (pss_one (ps_asg (pe_tup (pa_cons (pe_ix ix_tup (pe_ix ix_list (pv 3) (pe_un un_neg pe_int) (fun _ _ => rfl)) pe_int (fun _ _ => rfl)) (pa_cons pe_non pa_nil))) (pg_sub (pv 3) (pe_un un_neg pe_int) set_list))) pss_nil)
    (pss_one (ps_ret (pv 3)))))), ?_⟩
  refine ⟨Nat.zero_le _, fun fp nfp => ?_⟩
  have frf := hre.new nfp
  have nWf : ¬ W fp := hW.out nfp
  have re0 := hre.store (o := .lst []) frf
  have m0 := (Mv.refl r H).upd (o := .lst []) nfp frf.ne
  have fr0 := frf.upd (o := .lst []) frf.ne
  have e0 : (upd H fp (.lst [])) fp = some (.lst []) := upd_same
  generalize hH0 : upd H fp (.lst []) = H0 at re0 m0 fr0 e0
  refine ⟨.ref r, rfl, small_le (by show 2 ≤ 1000; decide), fun p np => ?_⟩
  have s1 : Same H0 (upd H0 p (.lst [.int 2, .int 8])) := same_upd np
  have ep : (upd H0 p (.lst [.int 2, .int 8])) p = some (.lst [.int 2, .int 8]) := upd_same
  have npr := (re0.new np).ne
  have mv1 := Mv.of s1 re0
  have re01 := re0.same s1
  generalize hH1 : upd H0 p (.lst [.int 2, .int 8]) = H1 at s1 ep mv1 re01
  refine ⟨.ref r, rfl, 2, rfl, re01, by decide, by decide, fun x H2 re2 m2 x0 x1 => ?_⟩
  obtain ⟨z, hz, z0, z1⟩ : ∃ z, atI [V.int 2, .int 8] x = some (.int z) ∧ 1 ≤ z ∧ z ≤ 8 := by
    have hh : x = 0 ∨ x = 1 := by omega
    rcases hh with z | z <;> rw [z]
    · exact ⟨2, atI_nat (j := 0) rfl, by decide, by decide⟩
    · exact ⟨8, atI_nat (j := 1) rfl, by decide, by decide⟩
  refine ⟨p, _, x, .int z, rfl, rfl, SqL.of (m2.keep p _ npr ep), hz, z, rfl, re2, z0, by omega, fun y H3 re3 m3 y0 y1 => ⟨1, y, rfl, rfl, 1 + y, rfl, by omega, by omega, ?_⟩⟩
  have m13 := (mv1.trans m2).trans m3
  have fr3 := m13.free fp (by rw [e0]; exact nofun) fr0
  have e3 := m13.keep fp _ frf.ne e0
  refine for_range (lo := 0) (n := (1 + y).toNat) (fun i σ H2 => ∃ (fvs : List V) (rs : List RowT) (y4 : Option V), σ = [some (.ref r), some (.int most), some (.bl b), some (.ref fp), y4] ∧ ReelAt H2 r ∧ Mv r H H2 ∧ Free H2 r fp ∧ H2 fp = some (.lst fvs) ∧ rs.length = i ∧
      RpAll (Hw (fun b => W b ∨ b = fp) H2) fvs (rs.map rowD) ∧ (∀ x ∈ rs, GoodRow x ∧ isNone x.2 = false) ∧ 0 ≤ sumW rs ∧ sumW rs ≤ 40 * (i : Int))
    ⟨[], [], none, rfl, re3, m0.trans m13, fr3, e3, rfl, .nil, (fun x hx => by cases hx), by decide, by decide⟩
    (fun i σ H2 hi hP => ?_) (fun σ H2 hP => ?_)
  · obtain ⟨fvs, rs, y4, rfl, re2, m2, fr2, e2, lrs, hA, hgood, hs0, hs1⟩ := hP
    have hi8 : i < 8 := by omega
    have e2n : H2 fp ≠ none := by rw [e2]; exact nofun
    refine ⟨.ref fp, rfl, .inl ⟨rfl, _, SqL.of e2⟩, .ref r, rfl, .int most, rfl, most, fun b => W b ∨ b = fp, rfl, re2, (hW.mv re2 m2).add e2n, h0, hG, fun t os H4 re4 m4 et l1 l8 hos => ?_⟩
    have ef4 := m4.keep fp _ fr2.ne e2
    have fr4 := m4.free fp e2n fr2
    refine ⟨.ref r, rfl, small_le (by show 3 ≤ 1000; decide), fun p np => ?_⟩
    have s5 : Same H4 (upd H4 p (.lst [.int 3, .int 12, .int 40])) := same_upd np
    have ep : (upd H4 p (.lst [.int 3, .int 12, .int 40])) p = some (.lst [.int 3, .int 12, .int 40]) := upd_same
    have npr := (re4.new np).ne
    have mv5 := Mv.of s5 re4
    have re5 := re4.same s5
    generalize hH5 : upd H4 p (.lst [.int 3, .int 12, .int 40]) = H5 at s5 ep mv5 re5
    refine ⟨.ref r, rfl, 3, rfl, re5, by decide, by decide, fun x H6 re6 m6 x0 x1 => ?_⟩
    obtain ⟨z, hz, z0, z1⟩ : ∃ z, atI [V.int 3, .int 12, .int 40] x = some (.int z) ∧ 1 ≤ z ∧ z ≤ 40 := by
      have hh : x = 0 ∨ x = 1 ∨ x = 2 := by omega
      rcases hh with z | z | z <;> rw [z]
      · exact ⟨3, atI_nat (j := 0) rfl, by decide, by decide⟩
      · exact ⟨12, atI_nat (j := 1) rfl, by decide, by decide⟩
      · exact ⟨40, atI_nat (j := 2) rfl, by decide, by decide⟩
    refine ⟨p, _, x, .int z, rfl, rfl, SqL.of (m6.keep p _ npr ep), hz, z, rfl, re6, z0, by omega, fun u H8 re8 m8 u0 u1 => ⟨small_le (by show 2 ≤ 1000; decide), fun p2 np2 => ?_⟩⟩
    have m48 := (mv5.trans m6).trans m8
    have ef8 := m48.keep fp _ fr2.ne ef4
    have fr8 := m48.free fp (by rw [ef4]; exact nofun) fr4
    have m28 := m2.trans (m4.trans m48)
    have et8 : Hw (fun b => W b ∨ b = fp) H8 t = some (.lst (os.map pvO)) := m48.hw (W := fun b => W b ∨ b = fp) (.inl hW.reel) _ _ et
    have s9 : Same H8 (upd H8 p2 (.tup [.ref t, .int u])) := same_upd np2
    have ep2 : (upd H8 p2 (.tup [.ref t, .int u])) p2 = some (.tup [.ref t, .int u]) := upd_same
    have np2f : p2 ≠ fp := fun z => by rw [z, ef8] at np2; cases np2
    have nWp : ¬ (W p2 ∨ p2 = fp) := fun z => z.elim ((hW.mv re8 m28).out np2) np2f
    have mv9 := Mv.of s9 re8
    generalize hH9 : upd H8 p2 (.tup [.ref t, .int u]) = H9 at s9 ep2 mv9
    have fr9 := mv9.free fp (by rw [ef8]; exact nofun) fr8
    have lf : fvs.length = rs.length := by have := hA.length; rw [List.length_map] at this; exact this
    refine ⟨fp, _, _, rfl, rfl, s9 _ _ ef8, by exact small1000 (by omega), ?_⟩
    refine ⟨fvs ++ [.ref p2], rs ++ [(os, .int u)], _, rfl, (re8.same s9).store fr9, (m28.trans mv9).upd nfp frf.ne, fr9.upd fr2.ne, upd_same, by rw [List.length_append, lrs]; rfl, ?_, fun x hx => ?_, ?_, ?_⟩
    · rw [hw_upd (.inr rfl), List.map_append]
      have m29 := (m4.trans m48).trans mv9
      refine (RpAll.sm (m29.hw (W := fun b => W b ∨ b = fp) (.inl hW.reel)) hA).snoc (.tup (by rw [Hw.at nWp]; exact ep2) (.cons (.lst (Same.hw s9 _ _ et8) (rp_Os os)) (.cons (.int u) .nil)))
    · rcases List.mem_append.mp hx with hx | hx
      · exact hgood x hx
      · rw [List.mem_singleton.mp hx]
        exact ⟨⟨l1, l8, hos, decide_eq_true u0⟩, rfl⟩
    · rw [sumW_snoc2]
      show 0 ≤ sumW rs + u
      omega
    · rw [sumW_snoc2]
      show sumW rs + u ≤ _
      omega
  · obtain ⟨fvs, rs, y4, rfl, re2, m2, fr2, e2, lrs, hA, hgood, hs0, hs1⟩ := hP
    have n1 : 1 ≤ rs.length := by omega
    have n8 : rs.length ≤ 8 := by omega
    have sum_le : sumW rs ≤ GREAT := by show _ ≤ (1000000000000000000000000000000 : Int); omega
    have sum_lo := hs0
    have ret : ∀ {H3 : Hp}, ReelAt H3 r → Mv r H2 H3 → Q (.ref fp) H3 := fun {H3} re3 m3 => q fp rs H3 re3 (m2.trans m3) (.lst (by rw [Hw.at nWf]; exact m3.keep fp _ fr2.ne e2) (RpAll.sm (Hw.less (W := W) (W' := fun b => W b ∨ b = fp) fun b hb => .inl hb) (RpAll.sm (m3.hw (W := fun b => W b ∨ b = fp) (.inl hW.reel)) hA))) ⟨n1, n8, fun x hx => (hgood x hx).1, fun x hx => (hgood x (List.mem_of_mem_take hx)).2, sum_le⟩ (by omega)
    refine ⟨.bl b, rfl, b, rfl, ?_⟩
    cases b with
    | true => exact iteF (iteF ⟨.ref fp, rfl, ret re2 (Mv.refl r H2)⟩)
    | false =>
    refine iteT ⟨.ref r, rfl, 2, rfl, re2, by decide, by decide, fun x3 H3 re3 m3 _ _ => ⟨rfl, _, rfl, ?_⟩⟩
    have e3 := m3.keep fp _ fr2.ne e2
    have fr3 := m3.free fp (by rw [e2]; exact nofun) fr2
    have hA3 := RpAll.sm (m3.hw (W := fun b => W b ∨ b = fp) (.inl hW.reel)) hA
    refine ite2 (fun _ => ?_) (fun _ => ?_)
    · obtain ⟨rs', row, rfl⟩ : ∃ rs' row, rs = rs' ++ [row] := ⟨rs.dropLast, rs.getLast (by intro z; rw [z] at n1; exact absurd n1 (by decide)), (List.dropLast_concat_getLast _).symm⟩
      rw [List.map_append] at hA3
      obtain ⟨fvs', v, rfl, hA', hv⟩ := RpAll.unsnoc hA3
      obtain ⟨pats, m⟩ := row
      cases hv with
      | @tup b xs _ hb hxs =>
        cases hxs with
        | @cons vt _ _ _ ht hxs2 =>
          cases hxs2 with
          | @cons vm _ _ _ hm hxs3 =>
            cases hxs3
            have hb' := Hw.sub _ _ _ _ hb
            refine ⟨.ref fp, rfl, 1, rfl, fp, _, -1, .ref b, rfl, rfl, SqL.of e3, atI_last _ _, b, _, 0, vt, rfl, rfl, SqT.of hb', atI_nat (j := 0) rfl, small_le (by show 2 ≤ 1000; decide), fun p np => ?_⟩
            have s4 : Same H3 (upd H3 p (.tup [vt, .non])) := same_upd np
            have ep : (upd H3 p (.tup [vt, .non])) p = some (.tup [vt, .non]) := upd_same
            have npf : p ≠ fp := fun z => by rw [z, e3] at np; cases np
            have npr : p ≠ r := (re3.new np).ne
            have nWp : ¬ (W p ∨ p = fp) := fun z => z.elim ((hW.mv re3 (m2.trans m3)).out np) npf
            generalize hH4 : upd H3 p (.tup [vt, .non]) = H4 at s4 ep
            have re4 := re3.same s4
            have fr4 : Free H4 r fp := (Mv.of s4 re3).free fp (by rw [e3]; exact nofun) fr3
            have m4 := (m2.trans m3).trans (Mv.of s4 re3)
            refine ⟨.ref fp, rfl, 1, rfl, fp, _, -1, fvs'.length, rfl, rfl, s4 _ _ e3, by rw [List.length_append]; exact ix_last _, ?_⟩
            refine ⟨.ref fp, rfl, q fp (rs' ++ [(pats, PyData.none)]) _ (re4.store fr4) (m4.upd nfp frf.ne) (.lst (by rw [Hw.at nWf]; exact upd_same) ?_) ?_ ?_⟩
            · have hX : RpAll (Hw (fun b => W b ∨ b = fp) H4) (fvs' ++ [.ref p]) ((rs' ++ [(pats, PyData.none)]).map rowD) := by
                rw [List.map_append]
                exact (RpAll.sm (Same.hw s4) hA').snoc (.tup (by rw [Hw.at nWp]; exact ep) (.cons (Rp.sm (Same.hw s4) ht) (.cons .non .nil)))
              have hs : (fvs' ++ [V.ref b]).set fvs'.length (.ref p) = fvs' ++ [.ref p] := by simp
              rw [hs]
              refine RpAll.sm (Hw.less (W := W) (W' := fun b => W b ∨ b = fp) fun b hb => .inl hb) ?_
              rw [hw_upd (.inr rfl)]
              exact hX
            · rw [List.length_append, List.length_singleton] at n8
              have hrow := hgood (pats, m) (List.mem_append_right _ (List.mem_singleton.mpr rfl))
              refine ⟨by rw [List.length_append, List.length_singleton]; omega, by rw [List.length_append, List.length_singleton]; exact n8, fun x hx => ?_, fun x hx => ?_, ?_⟩
              · rcases List.mem_append.mp hx with hx | hx
                · exact (hgood x (List.mem_append_left _ hx)).1
                · rw [List.mem_singleton.mp hx]
                  exact ⟨hrow.1.lo, hrow.1.hi, hrow.1.pat, rfl⟩
              · have : x ∈ rs' := by
                  rw [List.length_append, List.length_singleton, Nat.add_sub_cancel, List.take_left'  rfl] at hx
                  exact hx
                exact (hgood x (List.mem_append_left _ this)).2
              · rw [sumW_snoc2] at sum_le ⊢
                have hm0 : 0 ≤ worth m := by
                  have := hrow.1.many
                  cases m with
                  | int i => exact of_decide_eq_true this
                  | _ => exact Int.le_refl 0
                show sumW rs' + 0 ≤ GREAT
                have sl : sumW rs' + worth m ≤ GREAT := sum_le
                omega
            · have hrow := hgood (pats, m) (List.mem_append_right _ (List.mem_singleton.mpr rfl))
              have hm0 : 0 ≤ worth m := by
                have := hrow.1.many
                cases m with
                | int i => exact of_decide_eq_true this
                | _ => exact Int.le_refl 0
              rw [sumW_snoc2] at hs1 ⊢
              have h1 : sumW rs' + worth m ≤ 40 * _ := hs1
              show sumW rs' + 0 ≤ 320
              omega
    · exact ⟨.ref fp, rfl, ret re3 m3⟩
end
end CL
set_option Elab.async false
set_option linter.all false
set_option maxRecDepth 100000
set_option maxHeartbeats 2000000
namespace CL
open PySem PySem.Spec PyProof.Rows L2 GE
/-! ### how much a thing weighs -/
mutual
def wt : PyData → Nat
  | .none => 4
  | .bool _ => 5
  | .int i => i.natAbs.log2 + 4
  | .str x => (reprText x).length
  | .list xs => wtAll xs + 4
  | .tuple xs => wtAll xs + 4
  | .dict kvs => kvs.length * 100000000 + 2
def wtAll : List PyData → Nat
  | [] => 0
  | x :: xs => wt x + 2 + wtAll xs
end
structure B (k u : Nat) (d : PyData) : Prop where
  dp : d.depth ≤ k
  wt : wt d ≤ u
  sh : d.showable = true
theorem B.mono {k u k' u' : Nat} {d : PyData} (b : B k u d) (hk : k ≤ k') (hu : u ≤ u') : B k' u' d := ⟨Nat.le_trans b.dp hk, Nat.le_trans b.wt hu, b.sh⟩
theorem all_bnd {k u : Nat} : ∀ {ds : List PyData}, (∀ x ∈ ds, B k u x) → PyData.depthAll ds ≤ k ∧ wtAll ds ≤ ds.length * (u + 2) ∧ PyData.showableAll ds = true
  | [], _ => ⟨Nat.zero_le _, by simp [wtAll], by simp [PyData.showableAll]⟩
  | x :: ds, h => by
    obtain ⟨h1, h2, h3⟩ := all_bnd (ds := ds) fun y hy => h y (List.mem_cons_of_mem _ hy)
    have hx := h x List.mem_cons_self
    refine ⟨?_, ?_, ?_⟩
    · show max _ _ ≤ k
      exact Nat.max_le.mpr ⟨hx.dp, h1⟩
    · show wt x + 2 + wtAll ds ≤ _
      rw [List.length_cons, Nat.add_mul]
      have := hx.wt
      omega
    · simp [PyData.showableAll, hx.sh, h3]
theorem B.list {k u n : Nat} {ds : List PyData} (h : ∀ x ∈ ds, B k u x) (hn : ds.length ≤ n) : B (k + 1) (n * (u + 2) + 4) (.list ds) := by
  obtain ⟨h1, h2, h3⟩ := all_bnd h
  have := Nat.mul_le_mul_right (u + 2) hn
  refine ⟨?_, ?_, ?_⟩
  · show PyData.depthAll ds + 1 ≤ k + 1
    omega
  · show wtAll ds + 4 ≤ _
    omega
  · simp [PyData.showable, h3]
theorem B.tuple {k u n : Nat} {ds : List PyData} (h : ∀ x ∈ ds, B k u x) (hn : ds.length ≤ n) : B (k + 1) (n * (u + 2) + 4) (.tuple ds) := by
  obtain ⟨h1, h2, h3⟩ := all_bnd h
  have := Nat.mul_le_mul_right (u + 2) hn
  refine ⟨?_, ?_, ?_⟩
  · show PyData.depthAll ds + 1 ≤ k + 1
    omega
  · show wtAll ds + 4 ≤ _
    omega
  · simp [PyData.showable, h3]
theorem b_none {k : Nat} : B k 200 .none := ⟨Nat.zero_le _, by decide, rfl⟩
theorem b_bool {k : Nat} {b : Bool} : B k 200 (.bool b) := ⟨Nat.zero_le _, by show 5 ≤ 200; decide, rfl⟩
theorem b_int {k : Nat} {i : Int} (h : i.natAbs < 2 ^ 140) : B k 200 (.int i) := by
  have h1 : i.natAbs.log2 < 140 := PySem.Flt.log2_lt_of (by decide) h
  exact ⟨Nat.zero_le _, by show i.natAbs.log2 + 4 ≤ 200; omega, by simp [PyData.showable]; omega⟩
/-- a list of lo to hi things, each P -/
def Ls (lo hi : Nat) (P : PyData → Prop) (d : PyData) : Prop := ∃ ds, d = .list ds ∧ lo ≤ ds.length ∧ ds.length ≤ hi ∧ ∀ x ∈ ds, P x
def Tp (n : Nat) (P : PyData → Prop) (d : PyData) : Prop := ∃ ds, d = .tuple ds ∧ ds.length ≤ n ∧ ∀ x ∈ ds, P x
/-! ### evaluation where nothing but the reel changes -/
abbrev Gam := List (V × PyData)
def GOk (W : Addr → Prop) (H : Hp) (G : Gam) : Prop := ∀ p ∈ G, Rp (Hw W H) p.1 p.2
theorem GOk.mv {r : Addr} {W : Addr → Prop} {H H' : Hp} {G : Gam} (g : GOk W H G) (m : Mv r H H') (h : W r) : GOk W H' G := fun p hp => Rp.sm (m.hw h) (g p hp)
theorem GOk.cons {W : Addr → Prop} {H : Hp} {G : Gam} {v : V} {d : PyData} (g : GOk W H G) (h : Rp (Hw W H) v d) : GOk W H ((v, d) :: G) := fun p hp => by
  rcases List.mem_cons.mp hp with e | hp
  · rw [e]; exact h
  · exact g p hp
structure Se (r : Addr) (W : Addr → Prop) (G : Gam) (H : Hp) : Prop where
  re : ReelAt H r
  wk : Wk W H r
  ok : GOk W H G
theorem Se.mv {r : Addr} {W : Addr → Prop} {G : Gam} {H H' : Hp} (s : Se r W G H) (re : ReelAt H' r) (m : Mv r H H') : Se r W G H' := ⟨re, s.wk.mv re m, s.ok.mv m s.wk.reel⟩
theorem Se.same {r : Addr} {W : Addr → Prop} {G : Gam} {H H' : Hp} (s : Se r W G H) (m : Same H H') : Se r W G H' := s.mv (s.re.same m) (Mv.of m s.re)
section
variable {r : Addr} {W : Addr → Prop} {G : Gam} {σ : L2.St}
def Ev (r : Addr) (W : Addr → Prop) (G : Gam) (σ : L2.St) (te : TE) (P : PyData → Prop) : Prop := ∀ H Q, Se r W G H → (∀ v d H', ReelAt H' r → Mv r H H' → Rp (Hw W H') v d → P d → Q v H') → te σ H Q
def EvI (r : Addr) (W : Addr → Prop) (G : Gam) (σ : L2.St) (te : TE) (P : Int → Prop) : Prop := ∀ H Q, Se r W G H → (∀ i H', ReelAt H' r → Mv r H H' → P i → Q (.int i) H') → te σ H Q
def EvA (r : Addr) (W : Addr → Prop) (G : Gam) (σ : L2.St) (ta : TA) (n : Nat) (P : PyData → Prop) : Prop := ∀ H Q, Se r W G H → (∀ vs ds H', ReelAt H' r → Mv r H H' → RpAll (Hw W H') vs ds → ds.length = n → (∀ x ∈ ds, P x) → Q vs H') → ta σ H Q
theorem Ev.imp {te : TE} {P P' : PyData → Prop} (e : Ev r W G σ te P) (h : ∀ d, P d → P' d) : Ev r W G σ te P' := fun H Q s q => e H Q s fun v d H' re m rp p => q v d H' re m rp (h d p)
theorem EvI.imp {te : TE} {P P' : Int → Prop} (e : EvI r W G σ te P) (h : ∀ d, P d → P' d) : EvI r W G σ te P' := fun H Q s q => e H Q s fun i H' re m p => q i H' re m (h i p)
theorem EvI.ev {te : TE} {P : Int → Prop} {P' : PyData → Prop} (e : EvI r W G σ te P) (h : ∀ i, P i → P' (.int i)) : Ev r W G σ te P' := fun H Q s q => e H Q s fun i H' re m p => q _ _ H' re m (.int i) (h i p)
theorem ev_int {i : Int} : EvI r W G σ (tC (.int i)) (· = i) := fun H Q s q => q i H s.re (Mv.refl r H) rfl
theorem ev_non {P : PyData → Prop} (h : P .none) : Ev r W G σ (tC .non) P := fun H Q s q => q _ _ H s.re (Mv.refl r H) .non h
theorem ev_bl {b : Bool} {P : PyData → Prop} (h : P (.bool b)) : Ev r W G σ (tC (.bl b)) P := fun H Q s q => q _ _ H s.re (Mv.refl r H) (.bl b) h
theorem ev_str {x : Str} {P : PyData → Prop} (h : P (.str x)) : Ev r W G σ (tC (.str x)) P := fun H Q s q => q _ _ H s.re (Mv.refl r H) (.str x) h
theorem ev_var {i : Nat} {v : V} {d : PyData} {P : PyData → Prop} (h1 : σ[i]? = some (some v)) (h2 : (v, d) ∈ G) (h : P d) : Ev r W G σ (tVar i) P := fun H Q s q => ⟨v, h1, q v d H s.re (Mv.refl r H) (s.ok _ h2) h⟩
theorem ev_varI {i : Nat} {x : Int} (h1 : σ[i]? = some (some (.int x))) : EvI r W G σ (tVar i) (· = x) := fun H Q s q => ⟨.int x, h1, q x H s.re (Mv.refl r H) rfl⟩
theorem eva_nil {P : PyData → Prop} : EvA r W G σ tNil 0 P := fun H Q s q => q [] [] H s.re (Mv.refl r H) .nil rfl (fun _ h => nomatch h)
theorem eva_cons {te : TE} {ta : TA} {n : Nat} {P : PyData → Prop} (e : Ev r W G σ te P) (a : EvA r W G σ ta n P) : EvA r W G σ (tCons te ta) (n + 1) P := fun H Q s q =>
  e H _ s fun v d H1 re1 m1 rp1 p1 => a H1 _ (s.mv re1 m1) fun vs ds H2 re2 m2 rp2 l2 p2 => q (v :: vs) (d :: ds) H2 re2 (m1.trans m2) (.cons (Rp.sm (m2.hw s.wk.reel) rp1) rp2) (by rw [List.length_cons, l2]) fun x hx => by
    rcases List.mem_cons.mp hx with z | z
    · rw [z]; exact p1
    · exact p2 x z
theorem ev_lst {ta : TA} {n : Nat} {P : PyData → Prop} (a : EvA r W G σ ta n P) (hn : n ≤ 1000 := by decide) : Ev r W G σ (tLst ta) (Ls n n P) := fun H Q s q =>
  a H _ s fun vs ds H1 re1 m1 rp1 l1 p1 => ⟨small_le (by rw [rp1.length]; omega), fun p np => q (.ref p) (.list ds) _ (re1.same (same_upd np)) (m1.trans (Mv.of (same_upd np) re1))
    (.lst (by rw [Hw.at ((s.wk.mv re1 m1).out np)]; exact upd_same) (RpAll.sm (Same.hw (same_upd np)) rp1)) ⟨ds, rfl, Nat.le_of_eq l1.symm, Nat.le_of_eq l1, p1⟩⟩
theorem ev_tup {ta : TA} {n : Nat} {P : PyData → Prop} (a : EvA r W G σ ta n P) (hn : n ≤ 1000 := by decide) : Ev r W G σ (tTup ta) (Tp n P) := fun H Q s q =>
  a H _ s fun vs ds H1 re1 m1 rp1 l1 p1 => ⟨small_le (by rw [rp1.length]; omega), fun p np => q (.ref p) (.tuple ds) _ (re1.same (same_upd np)) (m1.trans (Mv.of (same_upd np) re1))
    (.tup (by rw [Hw.at ((s.wk.mv re1 m1).out np)]; exact upd_same) (RpAll.sm (Same.hw (same_upd np)) rp1)) ⟨ds, rfl, Nat.le_of_eq l1, p1⟩⟩
theorem rp_list {H : Hp} {v : V} {ds : List PyData} (h : Rp H v (.list ds)) : ∃ p xs, v = .ref p ∧ H p = some (.lst xs) ∧ RpAll H xs ds := by
  cases h with
  | lst h1 h2 => exact ⟨_, _, rfl, h1, h2⟩
theorem ev_cat {ta tb : TE} {l1 h1 l2 h2 : Nat} {P : PyData → Prop} (a : Ev r W G σ ta (Ls l1 h1 P)) (b : Ev r W G σ tb (Ls l2 h2 P)) (hn : h1 ≤ 1000 := by decide) (hm : h2 ≤ 1000 := by decide) : Ev r W G σ (tOp rCat ta tb) (Ls (l1 + l2) (h1 + h2) P) := fun H Q s q =>
  a H _ s fun v d H1 re1 m1 rp1 ⟨ds, e1, a1, b1, p1⟩ => b H1 _ (s.mv re1 m1) fun v2 d2 H2 re2 m2 rp2 ⟨es, e2, a2, b2, p2⟩ => by
    subst e1 e2
    obtain ⟨p, xs, rfl, hp, hx⟩ := rp_list (Rp.sm (m2.hw s.wk.reel) rp1)
    obtain ⟨p', ys, rfl, hp', hy⟩ := rp_list rp2
    refine ⟨p, p', xs, ys, rfl, rfl, Hw.sub W H2 _ _ hp, Hw.sub W H2 _ _ hp', small_add (by rw [hx.length]; omega) (by rw [hy.length]; omega), fun t nt => q (.ref t) (.list (ds ++ es)) _ (re2.same (same_upd nt)) ((m1.trans m2).trans (Mv.of (same_upd nt) re2))
      (.lst (by rw [Hw.at ((s.wk.mv re2 (m1.trans m2)).out nt)]; exact upd_same) (RpAll.sm (Same.hw (same_upd nt)) (hx.append hy))) ⟨ds ++ es, rfl, by rw [List.length_append]; omega, by rw [List.length_append]; omega, fun x hx => (List.mem_append.mp hx).elim (p1 x) (p2 x)⟩⟩
theorem RpAll.drop {H : Hp} : ∀ {vs : List V} {ds : List PyData} (n : Nat), RpAll H vs ds → RpAll H (vs.drop n) (ds.drop n)
  | _, _, 0, h => h
  | _, _, _ + 1, .nil => .nil
  | _, _, n + 1, .cons _ t => RpAll.drop n t
theorem ev_sl {K : PySem.W.Frag} {te : TE} {tl th : TO} {lo hi : Nat} {P : PyData → Prop} (a : Ev r W G σ te (Ls lo hi P)) (hl : ∀ H Q, Se r W G H → (∀ l H', ReelAt H' r → Mv r H H' → Q l H') → tl σ H Q) (hh : ∀ H Q, Se r W G H → (∀ l H', ReelAt H' r → Mv r H H' → Q l H') → th σ H Q) :
    Ev r W G σ (tSl (rSlL K) te tl th) (Ls 0 hi P) := fun H Q s q =>
  a H _ s fun v d H1 re1 m1 rp1 ⟨ds, e1, a1, b1, p1⟩ => hl H1 _ (s.mv re1 m1) fun l H2 re2 m2 => hh H2 _ (s.mv re2 (m1.trans m2)) fun u H3 re3 m3 => by
    subst e1
    obtain ⟨p, xs, rfl, hp, hx⟩ := rp_list (Rp.sm ((m2.trans m3).hw s.wk.reel) rp1)
    have m13 := m1.trans (m2.trans m3)
    refine ⟨p, xs, rfl, SqL.of (Hw.sub W H3 _ _ hp), fun t nt => q (.ref t) (.list ((ds.drop (HT.sIx xs.length 0 l)).take (HT.sIx xs.length xs.length u - HT.sIx xs.length 0 l))) _ (re3.same (same_upd nt)) (m13.trans (Mv.of (same_upd nt) re3))
      (.lst (by rw [Hw.at ((s.wk.mv re3 m13).out nt)]; exact upd_same) (RpAll.sm (Same.hw (same_upd nt)) ((hx.drop _).take _))) ⟨_, rfl, Nat.zero_le _, ?_, fun x hx => p1 x (List.mem_of_mem_drop (List.mem_of_mem_take hx))⟩⟩
    rw [List.length_take, List.length_drop]
    omega
theorem part_none : ∀ H (Q : Option Int → Hp → Prop), Se r W G H → (∀ l H', ReelAt H' r → Mv r H H' → Q l H') → tNoPart σ H Q := fun H Q s q => q none H s.re (Mv.refl r H)
theorem part_some {te : TE} {P : Int → Prop} (e : EvI r W G σ te P) : ∀ H (Q : Option Int → Hp → Prop), Se r W G H → (∀ l H', ReelAt H' r → Mv r H H' → Q l H') → tPart te σ H Q := fun H Q s q => e H _ s fun i H' re m _ => ⟨i, rfl, q (some i) H' re m⟩
theorem ev_draw {tm : TE} {m : Int} (e : EvI r W G σ tm (· = m)) (h0 : σ[0]? = some (some (.ref r))) (h1 : 1 ≤ m) (h2 : m < 2 ^ 140) : EvI r W G σ (tCall (spDraw r) [] E0 (tCons (tVar 0) (tCons tm tNil))) (fun x => 0 ≤ x ∧ x < m) := fun H Q s q =>
  ⟨.ref r, h0, e H _ s fun i H1 re1 m1 e1 => ⟨m, by rw [e1]; rfl, re1, h1, h2, fun x H' re' m' x0 x1 => q x H' re' (m1.trans m') ⟨x0, x1⟩⟩⟩
theorem ev_ix {K : PySem.W.Frag} {ta ti : TE} {lo hi : Nat} {P : PyData → Prop} (a : Ev r W G σ ta (Ls lo hi P)) (b : EvI r W G σ ti (fun x => 0 ≤ x ∧ x < (lo : Int))) : Ev r W G σ (tOp (rIxL K) ta ti) P := fun H Q s q =>
  a H _ s fun v d H1 re1 m1 rp1 ⟨ds, e1, a1, b1, p1⟩ => b H1 _ (s.mv re1 m1) fun i H2 re2 m2 hi => by
    subst e1
    obtain ⟨p, xs, rfl, hp, hx⟩ := rp_list (Rp.sm (m2.hw s.wk.reel) rp1)
    obtain ⟨j, rfl⟩ : ∃ j : Nat, i = (j : Int) := ⟨i.toNat, (Int.toNat_of_nonneg hi.1).symm⟩
    have hj : j < xs.length := by have := hx.length; omega
    obtain ⟨d, hd, hr⟩ := hx.get (List.getElem?_eq_getElem hj)
    exact ⟨p, xs, j, xs[j], rfl, rfl, SqL.of (Hw.sub W H2 _ _ hp), atI_nat (List.getElem?_eq_getElem hj), q _ d H2 re2 (m1.trans m2) hr (p1 d (List.mem_of_getElem? hd))⟩
theorem ev_rep {ta ti : TE} {lo hi : Nat} {k : Nat} {P : PyData → Prop} (a : Ev r W G σ ta (Ls lo hi P)) (b : EvI r W G σ ti (fun x => x ≤ (k : Int) ∧ -1000 ≤ x)) (h1 : hi ≤ 1000 := by decide) (hk : hi * k ≤ 1000 := by decide) (hk2 : k ≤ 1000 := by decide) : Ev r W G σ (tOp rRep ta ti) (Ls 0 (hi * k) P) := fun H Q s q =>
  a H _ s fun v d H1 re1 m1 rp1 ⟨ds, e1, a1, b1, p1⟩ => b H1 _ (s.mv re1 m1) fun i H2 re2 m2 hi' => by
    subst e1
    obtain ⟨p, xs, rfl, hp, hx⟩ := rp_list (Rp.sm (m2.hw s.wk.reel) rp1)
    have hl := hx.length
    have kk : i.toNat ≤ k := by omega
    have hmul : xs.length * i.toNat ≤ hi * k := Nat.mul_le_mul (by omega) kk
    have rep : ∀ n : Nat, RpAll (Hw W H2) (List.replicate n xs).flatten (List.replicate n ds).flatten := fun n => by
      induction n with
      | zero => exact .nil
      | succ n ih =>
        rw [List.replicate_succ, List.replicate_succ, List.flatten_cons, List.flatten_cons]
        exact hx.append ih
    refine ⟨p, i, xs, rfl, rfl, Hw.sub W H2 _ _ hp, by omega, by omega, small_le (by omega), fun t nt => q (.ref t) (.list (List.replicate i.toNat ds).flatten) _ (re2.same (same_upd nt)) ((m1.trans m2).trans (Mv.of (same_upd nt) re2))
      (.lst (by rw [Hw.at ((s.wk.mv re2 (m1.trans m2)).out nt)]; exact upd_same) (RpAll.sm (Same.hw (same_upd nt)) (rep _))) ⟨_, rfl, Nat.zero_le _, ?_, fun x hx => ?_⟩⟩
    · have := (rep i.toNat).length
      rw [← this]
      rw [List.length_flatten, List.map_replicate, List.sum_replicate_nat]
      rw [Nat.mul_comm]
      exact hmul
    · obtain ⟨l, hl, hxl⟩ := List.mem_flatten.mp hx
      rw [(List.mem_replicate.mp hl).2] at hxl
      exact p1 x hxl
theorem ev_len {K : PySem.W.Frag} {i : Nat} {v : V} {ds : List PyData} (h1 : σ[i]? = some (some v)) (h2 : (v, PyData.list ds) ∈ G) :
    EvI r W G σ (tCB (fun xs H Q => ∃ p ys, xs = [.ref p] ∧ (SqL K H p ys ∨ SqT K H p ys) ∧ Q (.int ys.length) H) (tCons (tVar i) tNil)) (· = (ds.length : Int)) := fun H Q s q => by
  obtain ⟨p, xs, rfl, hp, hx⟩ := rp_list (s.ok _ h2)
  exact ⟨.ref p, h1, p, xs, rfl, .inl (SqL.of (Hw.sub W H _ _ hp)), q _ H s.re (Mv.refl r H) (by rw [hx.length])⟩
theorem evi_add {ta tb : TE} {x y : Int} (a : EvI r W G σ ta (· = x)) (b : EvI r W G σ tb (· = y)) : EvI r W G σ (tOp (rI0 fun i j => .int (i + j)) ta tb) (· = x + y) := fun H Q s q =>
  a H _ s fun i H1 re1 m1 e1 => b H1 _ (s.mv re1 m1) fun j H2 re2 m2 e2 => ⟨i, j, rfl, rfl, q _ H2 re2 (m1.trans m2) (by rw [e1, e2])⟩
theorem evi_sub {ta tb : TE} {x y : Int} (a : EvI r W G σ ta (· = x)) (b : EvI r W G σ tb (· = y)) : EvI r W G σ (tOp (rI0 fun i j => .int (i - j)) ta tb) (· = x - y) := fun H Q s q =>
  a H _ s fun i H1 re1 m1 e1 => b H1 _ (s.mv re1 m1) fun j H2 re2 m2 e2 => ⟨i, j, rfl, rfl, q _ H2 re2 (m1.trans m2) (by rw [e1, e2])⟩
theorem evi_pow {x y : Int} (h : CPow x y) : EvI r W G σ (tOp (rI CPow fun i j => .int (i ^ j.toNat)) (tC (.int x)) (tC (.int y))) (· = x ^ y.toNat) := fun H Q s q =>
  ⟨x, y, rfl, rfl, h, q _ H s.re (Mv.refl r H) rfl⟩
theorem evi_neg {x : Int} : EvI r W G σ (tUn (rU fun i => .int (-i)) (tC (.int x))) (· = -x) := fun H Q s q => ⟨x, rfl, q _ H s.re (Mv.refl r H) rfl⟩
theorem ev_set {te : TE} {i : Nat} {P : PyData → Prop} {D : Ends} {H : Hp} (e : Ev r W G σ te P) (s : Se r W G H) (h : ∀ v d H', Se r W ((v, d) :: G) H' → Mv r H H' → P d → D.nx (σ.set i (some v)) H') : tAsg te (gName i) D σ H :=
  e H _ s fun v d H' re m rp p => h v d H' ⟨re, s.wk.mv re m, (s.ok.mv m s.wk.reel).cons rp⟩ m p
theorem evi_set {te : TE} {i : Nat} {P : Int → Prop} {D : Ends} {H : Hp} (e : EvI r W G σ te P) (s : Se r W G H) (h : ∀ x H', Se r W G H' → Mv r H H' → P x → D.nx (σ.set i (some (.int x))) H') : tAsg te (gName i) D σ H :=
  e H _ s fun x H' re m p => h x H' (s.mv re m) m p
end
end CL
set_option Elab.async false
set_option linter.all false
set_option maxRecDepth 100000
set_option maxHeartbeats 4000000
namespace CL
open PySem PySem.Spec PyProof.Rows L2 GE
/-! ### a def that is called where no repr is under way -/
structure FnG (P : Program) (w : World) (K : PySem.W.Frag) (mg : Str → Option Value) (base : Heap) (k : Nat) (f : Addr) (fd : FuncData) (ps : List Str) (sp : Sp) : Prop where
  run : ∀ (A : Around) (outer : List Env) (s : Shared) (H : Hp) (args : Args) (us : List Value) (vs : List V) (Q : VK) (E : XK), A.guards = some [] → Room k A → Env0 P w K mg base A outer s H → BindsTo s fd args (ps.zip us) → Vals vs us → sp vs H Q E →
    codeAny (model P w) A (.call (.ref f) args) (CR CX0 outer P w H s Q E) s
theorem fng_of {P : Program} {w : World} {K : PySem.W.Frag} {mg : Str → Option Value} {base : Heap} {x qual : Str} {st : Stmt} {f : Addr} {fd : FuncData} {N ps : List Str} {k : Nat} {sp : Sp} (F : Fun K x qual st f fd) (S : FnScope N ps (defScope st)) (len : ∀ vs H Q E, sp vs H Q E → vs.length = ps.length)
    (hbody : ∀ (cdv : Value) (A : Around) (outer : List Env) (s : Shared) (H : Hp) (vs : List V) (Q : VK) (E : XK), A.guards = some [] → Room k (A.deeper (envOfC qual (defScope st) s.heap.objs.size f cdv)) → sp vs H Q E →
      ∃ t, PSs (cxOf CX0 P w K mg base N qual (defScope st) f cdv A outer s H E).nox (defBody st) t ∧ t { nx := fun _ H' => Q .non H', rt := Q } (start N vs) H) : FnG P w K mg base (k + 1) f fd ps sp := by
  obtain ⟨oc, od, kV, doc, pm, an, cdv, ct, osl, rfl, lk, hcd⟩ := F.ex
  constructor
  intro A outer s H args us vs Q E hgd hr e0 hb r hsp
  have hl : vs.length = ps.length := len _ _ _ _ hsp
  have up : ∀ b o, base.get? b = some o → s.heap.get? b = some o := fun b o e => (e0.bs b o e).1
  have KX : K.In s.heap := e0.mod.kin.keeps up
  have pk : ∀ y ∈ ps.zip us, (defScope st).names.lookup y.1 = some .local ∨ ((defScope st).names.lookup y.1 = some .cell ∧ ((cellsFrom (s.heap.objs.size + 1) (defScope st).names []).lookup y.1).isSome = true) := by
    rintro ⟨n, v⟩ hy
    exact (S.par n (List.of_mem_zip hy).1).imp id fun q => ⟨q, PySem.W.cellsFrom_some _ _ _ (.inl q)⟩
  refine codeAny_call_function hr.depth (KX _ _ lk) rfl S.co S.gen rfl (PySem.W.codeRec_of KX hcd) (hb _ _ _ _ (wpAny_newFunctionEnv_cells S.kind pk fun env he s1 x => ?_))
  subst he
  obtain ⟨t, ht, hq⟩ := hbody cdv A outer s H vs Q E hgd (hr.deeper _) hsp
  refine ⟨(e0.mod.nolimit.keeps up).keeps x.toInCall.keep, codeAny_func (wpAny_mono (ht.nox.run [] s1 (start N vs) H _ (inv_start S hr.hd e0 hl r x) hq) (fun fl s' hs => ?_) fun _ _ z => z)⟩
  cases fl with
  | ret u =>
    obtain ⟨v, _, H', J, rv, z⟩ := hs
    exact ⟨v, H', J.os, J.bare, J.base, J.hok, rv, z⟩
  | next =>
    obtain ⟨_, H', J, z⟩ := hs
    exact ⟨.non, H', J.os, J.bare, J.base, J.hok, rfl, z⟩
  | brk => exact (let ⟨_, _, _, z⟩ := hs; z : False).elim
  | cont => exact (let ⟨_, _, _, z⟩ := hs; z : False).elim
/-! ### repr of data -/
section
variable {X : Cx} {pins : List (Addr × Obj)} {σ : L2.St} {H : Hp} {s : Shared}
mutual
theorem Rp.reads (hsys : ∃ o, X.base.get? sysModules = some o) (I : Inv X pins σ H s) : ∀ (d : PyData) (v : V) (u : Value), Rp H v d → RelV v u → ∃ as, Reads s.heap u d as ∧ sysModules ∉ as
  | .none, _, _, h, r => by cases h; cases r; exact ⟨_, Reads.none, by simp⟩
  | .bool b, _, _, h, r => by cases h; cases r; exact ⟨_, Reads.bool b, by simp⟩
  | .int i, _, _, h, r => by cases h; obtain ⟨t, rfl⟩ := r; exact ⟨_, Reads.int i t, by simp⟩
  | .str x, _, _, h, r => by cases h; obtain ⟨t, rfl⟩ := r; exact ⟨_, Reads.str x t, by simp⟩
  | .list ds, _, _, h, r => by
    cases h with
    | @lst a xs _ hs ha =>
      cases r
      obtain ⟨its, rv, ⟨o, n, ho, hc, _, hd⟩, _⟩ := I.list (SqL.of hs)
      obtain ⟨as, hr, hn⟩ := RpAll.reads hsys I ds _ its ha rv
      refine ⟨_, Reads.list ho hc hd hr, fun z => (List.mem_cons.mp z).elim (fun e => ?_) hn⟩
      obtain ⟨o1, ho1⟩ := hsys
      have z := (I.bs _ _ ho1).2
      rw [e, hs] at z
      cases z
  | .tuple ds, _, _, h, r => by
    cases h with
    | tup hs ha =>
      cases r
      obtain ⟨its, rv, ⟨o, ho, hc, n, hd⟩, _⟩ := I.tuple (SqT.of hs)
      obtain ⟨as, hr, hn⟩ := RpAll.reads hsys I ds _ its ha rv
      exact ⟨_, Reads.tuple ho hc hd hr, hn⟩
  | .dict kvs, _, _, h, r => by
    cases h with
    | @dct a hs =>
      cases r
      obtain ⟨_, hne, vs, kv, o, es, ep, ho, hx, hd, _, hp, _⟩ := (show ObjOk X.prog X.w H s.heap a (.dK []) from I.hok a _ hs)
      cases kv
      have e0 : es.toList = [] := List.eq_nil_of_length_eq_zero hp.length
      refine ⟨_, Reads.dict ho hx.1 hd (by rw [e0]; exact .nil) (by rw [e0]; exact .nil), fun z => ?_⟩
      have z' : sysModules = a := by simpa using z
      rw [z'] at hne
      simp at hne
theorem RpAll.reads (hsys : ∃ o, X.base.get? sysModules = some o) (I : Inv X pins σ H s) : ∀ (ds : List PyData) (vs : List V) (us : List Value), RpAll H vs ds → Vals vs us → ∃ as, ReadsAll s.heap us ds as ∧ sysModules ∉ as
  | [], _, _, h, r => by cases h; cases r; exact ⟨_, ReadsAll.nil, by simp⟩
  | d :: ds, _, _, h, r => by
    cases h with
    | cons h1 h2 =>
      cases r with
      | cons r1 r2 =>
        obtain ⟨as, q1, n1⟩ := Rp.reads hsys I d _ _ h1 r1
        obtain ⟨bs, q2, n2⟩ := RpAll.reads hsys I ds _ _ h2 r2
        exact ⟨_, ReadsAll.cons q1 q2, fun z => (List.mem_append.mp z).elim n1 n2⟩
end
end
/-! ### how long a thing is, shown -/
theorem piled_le {ts : List Str} : ∀ {ds : List PyData}, ts = PyData.shownAll ds → (∀ d ∈ ds, d.shown.length ≤ wt d) → piled ts ≤ wtAll ds
  | [], e, _ => by rw [e]; exact Nat.le_refl 0
  | d :: ds, e, h => by
    have ih := piled_le (ts := PyData.shownAll ds) rfl fun x hx => h x (List.mem_cons_of_mem _ hx)
    have h1 := h d List.mem_cons_self
    rw [e]
    show d.shown.length + 2 + piled (PyData.shownAll ds) ≤ wt d + 2 + wtAll ds
    omega
theorem list_len (ts : List Str) : (listText ts).length ≤ piled ts + 2 := by
  cases ts with
  | nil => decide +kernel
  | cons t r =>
    have h := textFrom_length_pos r 1 (("[" : Str) ++ (if (0 : Nat) > 0 then ", " else "" : String) ++ t) (Nat.succ_pos 0)
    have hX : (listText (t :: r)).length = (textFrom 1 (("[" : Str) ++ (if (0 : Nat) > 0 then ", " else "" : String) ++ t) r).length + 1 := by
      show (textFrom 1 _ r ++ "]").length = _
      rw [Str.length_append]
      rfl
    have e1 : ((("[" : Str) ++ (if (0 : Nat) > 0 then ", " else "" : String) ++ t) : Str).length = 1 + t.length := by
      rw [Str.length_append, Str.length_append]
      rfl
    have e2 : piled (t :: r) = t.length + 2 + piled r := rfl
    omega
theorem tuple_len (ts : List Str) : (tupleText ts).length ≤ piled ts + 3 := by
  have h : (Str.join ", " ts).length ≤ piled ts := by
    by_cases e : ts = []
    · rw [e]; decide +kernel
    · have := join_length_add ts e
      omega
  unfold tupleText
  rw [Str.length_append, Str.length_append]
  have h1 : (("(" : Str)).length = 1 := by decide +kernel
  have h2 : ((if ts.length == 1 then ",)" else ")" : String) : Str).length ≤ 2 := by
    split <;> decide +kernel
  omega
mutual
theorem shown_le : ∀ d : PyData, wt d ≤ 10000000 → d.showable = true → d.shown.length ≤ wt d
  | .none, _, _ => by decide +kernel
  | .bool b, _, _ => by cases b <;> decide +kernel
  | .int i, _, _ => by
    have h := int_text_length_le (a := i) (k := i.natAbs.log2 + 1) (Nat.succ_pos _) (Nat.lt_succ_self _)
    show (Str.ofString (toString i)).length ≤ i.natAbs.log2 + 4
    rw [PySem.ofString_length]
    omega
  | .str x, _, _ => Nat.le_refl _
  | .list ds, h, s => by
    have h1 := shown_all ds (by have : wt (.list ds) = wtAll ds + 4 := rfl; omega) (by simpa [PyData.showable] using s)
    have h2 := piled_le rfl h1
    have h3 := list_len (PyData.shownAll ds)
    show (listText (PyData.shownAll ds)).length ≤ wtAll ds + 4
    omega
  | .tuple ds, h, s => by
    have h1 := shown_all ds (by have : wt (.tuple ds) = wtAll ds + 4 := rfl; omega) (by simpa [PyData.showable] using s)
    have h2 := piled_le rfl h1
    have h3 := tuple_len (PyData.shownAll ds)
    show (tupleText (PyData.shownAll ds)).length ≤ wtAll ds + 4
    omega
  | .dict [], _, _ => by decide +kernel
  | .dict (x :: kvs), h, _ => by
    have : wt (.dict (x :: kvs)) = (kvs.length + 1) * 100000000 + 2 := rfl
    omega
theorem shown_all : ∀ ds : List PyData, wtAll ds ≤ 10000000 → PyData.showableAll ds = true → ∀ d ∈ ds, d.shown.length ≤ wt d
  | [], _, _, d, hd => nomatch hd
  | x :: ds, h, s, d, hd => by
    have e : wtAll (x :: ds) = wt x + 2 + wtAll ds := rfl
    have s' : x.showable = true ∧ PyData.showableAll ds = true := by simpa [PyData.showableAll] using s
    rcases List.mem_cons.mp hd with z | z
    · rw [z]
      exact shown_le x (by omega) s'.1
    · exact shown_all ds (by omega) s'.2 d z
end
/-! ### repr(x) of a list or a tuple -/
theorem call_reprD {X : Cx} {k : Nat} (hg : X.A.guards = some []) (hr : Room k X.A) (hsys : ∃ o, X.base.get? sysModules = some o) :
    CallR X (.builtin "repr") (fun xs H Q => ∃ v d a, xs = [v] ∧ v = .ref a ∧ Rp H v d ∧ B 100 10000000 d ∧ Q (.str d.shown) H) := by
  intro pins s σ H xs us Q I r h
  obtain ⟨v, d, a, rfl, rfl, hR, hB, q⟩ := h
  obtain ⟨u, rfl, rx⟩ := vals1 r
  obtain ⟨as, hrd, hno⟩ := Rp.reads hsys I d _ _ hR rx
  cases rx
  refine repr_of_reads' hrd hB.sh (fun _ => hno) hg (by have := hr.un; have := hB.dp; omega) (fun _ _ e => e) (fun h' u tk hk => ⟨.str _, H, I.kept hk, ⟨_, rfl⟩, q⟩) ?_
  have h1 := shown_le d hB.wt hB.sh
  have h2 := hB.wt
  rw [sizeLine_eq]
  omega
end CL
set_option Elab.async false
set_option linter.all false
set_option maxRecDepth 100000
set_option maxHeartbeats 4000000
namespace CL
open PySem PySem.Spec PyProof.Rows L2 GE
/-! ### enumerate of a tuple -/
theorem meets_enumT (l : Addr) (items : Array Value) (n : Nat) (dct : Option Addr) (sl : Array (Option Value)) :
    Meets (Builtin.«enumerate.__new__» ⟨[.type "enumerate", .ref l], []⟩) (fun _ R s => s.heap.get? l = some { cls := .type "tuple", dict := dct, data := .seq items n, slots := sl } ∧
      R (.ok (.ret (.ref (s.heap.push { cls := .type "tuple_iterator", data := .fields #[.ref l, .int 0 0] }).objs.size)))
        { s with heap := (s.heap.push { cls := .type "tuple_iterator", data := .fields #[.ref l, .int 0 0] }).push { cls := .type "enumerate", data := .fields #[.none, .bool false, .ref s.heap.objs.size, rawInt 0, .none, .none] } }) :=
  .of_wp fun prog w A R s h => by
    obtain ⟨hp, g, d, tk, os⟩ := s; obtain ⟨hl, h⟩ := h
    have hsub := sub_enumerate
    have hL : Heap.IsTuple (Shared.heap ⟨hp, g, d, tk, os⟩) l items := ⟨_, hl, rfl, n, rfl⟩
    wp_walk using AutoSeq1.wpAny_loadPart' hl
    refine wpAny_stack_any fun st => wpAny_pure ?_
    split
    · rename_i c _ _ _ _ _
      cases (c == Value.type "enumerate")
      · wp_walk using AutoSeq1.wpAny_loadPart' hl, wpAny_pyIter_tuple hL
        exact ⟨_, rfl, h⟩
      · wp_walk using AutoSeq1.wpAny_loadPart' hl, wpAny_pyIter_tuple hL
        exact ⟨_, rfl, h⟩
    · wp_walk using AutoSeq1.wpAny_loadPart' hl, wpAny_pyIter_tuple hL
      exact ⟨_, rfl, h⟩
theorem call_enumT {prog : Program} {w : World} {A : Around} {E : Value → Shared → Prop} {s : Shared} {l : Addr} {items : Array Value} {Q : Value → Shared → Prop} (hL : s.heap.IsTuple l items)
    (h : ∀ h', IsEnum h' (s.heap.objs.size + 1) s.heap.objs.size 0 .none → h'.IsTupleIter s.heap.objs.size l 0 → h'.objs.size = s.heap.objs.size + 2 →
      (∀ b o, s.heap.get? b = some o → h'.get? b = some o) → Q (.ref (s.heap.objs.size + 1)) { s with heap := h' }) :
    wpAny (model prog w) A (call (.type "enumerate") [.ref l]) Q E s := by
  obtain ⟨⟨c, dct, dt, sl⟩, hl, hc, n, hd⟩ := hL
  replace hc : c = .type "tuple" := hc
  replace hd : dt = .seq items n := hd
  subst hc hd
  refine callType_new F.called_enumerate (by decide) (F.typeCall_enumerate_1 _) (F.newCall_enumerate_1 _) (fun obj => F.args_object_init_2 obj _) F.entry_enumerate_new
    (meets_enumT l items n dct sl) ⟨hl, ?_⟩
  have hz : (s.heap.push { cls := .type "tuple_iterator", data := .fields #[.ref l, .int 0 0] }).objs.size = s.heap.objs.size + 1 := Heap.size_push ..
  show _ ∧ _
  rw [hz]
  have he : IsEnum ((s.heap.push { cls := .type "tuple_iterator", data := .fields #[.ref l, .int 0 0] }).push
      { cls := .type "enumerate", data := .fields #[.none, .bool false, .ref s.heap.objs.size, rawInt 0, .none, .none] }) (s.heap.objs.size + 1) s.heap.objs.size 0 .none := by
    have := Heap.get?_push_size (s.heap.push { cls := .type "tuple_iterator", data := .fields #[.ref l, .int 0 0] })
      (o := { cls := .type "enumerate", data := .fields #[.none, .bool false, .ref s.heap.objs.size, rawInt 0, .none, .none] }) rfl
    rw [hz] at this; exact this
  exact ⟨⟨_, he, rfl⟩, h _ he ⟨_, Heap.get?_push_of_some _ (Heap.get?_push_size _ rfl), rfl, rfl⟩ (by rw [Heap.size_push, hz]) fun b o x => Heap.get?_push_of_some _ (Heap.get?_push_of_some _ x)⟩
def IteT (K : PySem.W.Frag) (a : Addr) : It :=
  ⟨fun i H => ∃ (xs : List V) (x : V), SqT K H a xs ∧ xs[i]? = some x, fun i H v H' => ∃ T x, v = .ref T ∧ H T = none ∧ H' = upd H T (.tup [.int (i : Nat), x]) ∧ ∀ xs, SqT K H a xs → xs[i]? = some x, fun i H => ∃ xs : List V, SqT K H a xs ∧ xs.length = i⟩
theorem turn_enumT {P : Program} {w : World} {K : PySem.W.Frag} {elts : List Expr} {kk : Nat} {tpos : Pos} (a e it : Addr) :
    Turn P w K (.Tuple elts kk tpos) (IteT K a) [e, it] e (fun i h => (∃ old, IsEnum h e it ((i : Nat) : Int) old) ∧ h.IsTupleIter it a i ∧ e ≠ it) where
  mem := by simp
  obj := fun i h st b hb => by
    obtain ⟨⟨old, he⟩, ⟨o, ho, hc, hd⟩, _⟩ := st
    have e' : b = e ∨ b = it := by simpa using hb
    rcases e' with z | z
    · rw [z]; exact ⟨_, he, fun v q => nomatch q⟩
    · rw [z]; exact ⟨o, ho, fun v q => by rw [hd] at q; cases q⟩
  keep := fun i h h' st k => let ⟨⟨old, he⟩, hi, hne⟩ := st; ⟨⟨old, k e (by simp) _ he⟩, hi.at fun o q => k it (by simp) o q, hne⟩
  item := by
    intro X hP hw hK hc i pins s σ H E I hf st hg
    subst hP hw hK
    obtain ⟨⟨old, he⟩, hit, hne⟩ := st
    obtain ⟨xs, x, hq, hx⟩ := hg
    obtain ⟨its, rv, p, hz⟩ := I.tuple hq
    have p : s.heap.IsTuple a its.toArray := p
    obtain ⟨u, hu, ru⟩ := rv.get hx
    have hel : e < s.heap.objs.size := Heap.lt_size he
    have hil : it < s.heap.objs.size := by obtain ⟨_, q, _⟩ := hit; exact Heap.lt_size q
    have nai : a ≠ it := fun z => by
      obtain ⟨o, ho, hc1, _⟩ := id p
      obtain ⟨o', ho', hc2, _⟩ := id hit
      rw [z, ho'] at ho
      cases ho
      rw [hc2] at hc1
      exact absurd hc1 (by decide)
    have nea : e ≠ a := fun z => by
      obtain ⟨o, ho, hc1, _⟩ := id p
      have he' := he
      unfold IsEnum at he'
      rw [z, ho] at he'
      rw [Option.some.inj he'] at hc1
      exact absurd (show Value.type "enumerate" = Value.type "tuple" from hc1) (by decide)
    have hlt : i < its.toArray.size := by
      have := List.getElem?_eq_some_iff.mp hu
      simpa using this.1
    refine wpAny_pyNext_enum_itemD (Draws.tuple (show X.A.in1.handled = none from I.ok.hd hc) it a nai its.toArray) he ⟨hit, p⟩ hlt hne (by simp [hne, nea]) fun x' h' tk hP' ho hst hT hsz hk => ?_
    obtain rfl : u = x' := by
      have : its.toArray[i]? = some u := by simpa using hu
      rw [this] at hP'
      exact Option.some.inj hP'
    refine ⟨_, rfl, wpAny_letOwnedTupleGo_enum (s := { s with heap := h', toks := tk + 1 }) ho fun h'' he' sb => ?_⟩
    have hT2 : h''.get? s.heap.objs.size = some { cls := .type "tuple", data := .seq #[.int i tk, u] } := (sb.2 _ (Nat.ne_of_gt hel)).trans hT
    have new : ObjOk X.prog X.w (upd H s.heap.objs.size (.tup [.int (i : Nat), x])) h'' s.heap.objs.size (.tup [.int (i : Nat), x]) :=
      ⟨by show 2 ≤ sizeLine; decide, [.int i tk, u], .cons ⟨_, rfl⟩ (.cons ru .nil), ⟨_, hT2, rfl, _, rfl⟩⟩
    have I1 : Inv X pins σ (upd H s.heap.objs.size (.tup [.int (i : Nat), x])) { s with heap := h'', toks := tk + 1 } :=
      I.turnedNew (ch := [e, it]) (fun b ob hb q => (sb.2 b (fun z => hb (by simp [z]))).trans (hk b ob (fun z => hb (by simp [z])) (fun z => hb (by simp [z])) q)) hf (Nat.le_refl _) new
    refine ⟨.ref s.heap.objs.size, _, I1, rfl, ⟨_, x, rfl, I.hok.fresh (Nat.le_refl _), rfl, fun ys hy => by rw [I.tuple_inj hy hq]; exact hx⟩, ⟨⟨u, ?_⟩, hst.1.at fun o q => (sb.2 it (Ne.symm hne)).trans q, hne⟩, fun b hb => ?_⟩
    · have e1 : ((i + 1 : Nat) : Int) = (i : Int) + 1 := by omega
      rw [e1]; exact he'
    · have hb' : b < s.heap.objs.size := by
        have e' : b = e ∨ b = it := by simpa using hb
        rcases e' with z | z
        · rw [z]; exact hel
        · rw [z]; exact hil
      rw [upd_ne (Nat.ne_of_lt hb')]
      exact (hf b hb).1
  done := by
    intro X hP hw hK hc i pins s σ H E I hf st hg
    subst hP hw hK
    obtain ⟨⟨old, he⟩, hit, hne⟩ := st
    obtain ⟨xs, hq, hx⟩ := hg
    obtain ⟨its, rv, p, hz⟩ := I.tuple hq
    have p : s.heap.IsTuple a its.toArray := p
    have nai : a ≠ it := fun z => by
      obtain ⟨o, ho, hc1, _⟩ := id p
      obtain ⟨o', ho', hc2, _⟩ := id hit
      rw [z, ho'] at ho
      cases ho
      rw [hc2] at hc1
      exact absurd hc1 (by decide)
    obtain ⟨f0, f1, f2, f3, f4, f5⟩ := hf it (by simp)
    have hl := rv.length
    have ei : i = its.toArray.size := by simp; omega
    subst ei
    exact wpAny_pyNext_enum_endD (Draws.tuple (show X.A.in1.handled = none from I.ok.hd hc) it a nai its.toArray) he ⟨hit, p⟩ fun h' eb => ⟨rfl, I.turned (t' := s.toks) (fun b o hb q => eb b o hb q) f0 f1 f3 f4 f5⟩
  self := fun A i s Q E st h => let ⟨⟨_, he⟩, _⟩ := st; wpAny_pyIter_enum he h
structure EnumAs (xs : List V) (J : It) (S : Hp → Prop) : Prop where
  go : ∀ i H x, S H → xs[i]? = some x → J.go i H
  stop : ∀ H, S H → J.stop xs.length H
  yld : ∀ i H v H', S H → J.yld i H v H' → ∃ T x, v = .ref T ∧ H T = none ∧ H' = upd H T (.tup [.int (i : Nat), x]) ∧ xs[i]? = some x
def iEnumS (ta : TA) : TI := fun σ H R => ta σ H fun vs H1 => ∃ a xs, vs = [.ref a] ∧ StSeq H1 a xs ∧ ∀ J S, EnumAs xs J S → (∀ H', Ex H1 H' → S H') → R J H1
theorem pi_enumS {X : Cx} {e : Expr} {ta : TA} {p pos tpos : Pos} {elts : List Expr} {kk : Nat} (hg : Gl X "enumerate") (hm : X.mg "enumerate" = none) (ha : PA X [e] ta) (hs : starEach [e] X.env = [(false, eval e X.env)] := by rfl) :
    PI X (.Tuple elts kk tpos) (.Call (.Name "enumerate" p) [e] [] pos) (iEnumS ta) := by
  refine ⟨fun pins s σ H R I h => ?_⟩
  refine Call_ (ld_blt I hg hm boot_enumerate (PyProof.Rows.callWith_type1 (thn (ha.run pos pins s σ H _ I h) fun us s1 ⟨vs, H1, I1, r1, q1⟩ => ?_) hs rfl))
  obtain ⟨a, xs, ex, hst, q⟩ := q1
  subst ex
  cases r1 with
  | cons r rr =>
    cases rr
    cases r
    have new : ∀ b ∈ [s1.heap.objs.size + 1, s1.heap.objs.size], FpOk X pins H1 b := fun b hb => by
      have e' : b = s1.heap.objs.size + 1 ∨ b = s1.heap.objs.size := by simpa using hb
      have hle : s1.heap.objs.size ≤ b := by
        rcases e' with z | z
        · rw [z]; exact Nat.le_add_right _ _
        · rw [z]; exact Nat.le_refl _
      exact I1.fpOk hle (I1.hok.fresh hle)
    rcases hst.or with hq | hq
    · obtain ⟨its, rv, p', hz⟩ := I1.list (SqL.of hq)
      refine call_enumerate_list p'.isList fun h' he hit hsz hk => wpAny_pyIter_enum he ?_
      refine ⟨s1.heap.objs.size + 1, [s1.heap.objs.size + 1, s1.heap.objs.size], _, _, H1, rfl, I1.kept (t' := s1.toks) hk, turn_enum a (s1.heap.objs.size + 1) s1.heap.objs.size, ⟨⟨.none, he⟩, hit, Nat.succ_ne_self _⟩, new,
        q _ (fun H => H a = some (.lst xs)) ⟨fun i H x s e => ⟨xs, x, SqL.of s, e⟩, fun H s => ⟨xs, SqL.of s, Nat.le_refl _⟩, fun i H v H' s y => let ⟨T, x, e1, e2, e3, e4⟩ := y; ⟨T, x, e1, e2, e3, e4 xs (SqL.of s)⟩⟩ fun H' e => e.lst hq⟩
    · obtain ⟨its, rv, p', hz⟩ := I1.tuple (SqT.of hq)
      refine call_enumT (show s1.heap.IsTuple a its.toArray from p') fun h' he hit hsz hk => wpAny_pyIter_enum he ?_
      refine ⟨s1.heap.objs.size + 1, [s1.heap.objs.size + 1, s1.heap.objs.size], _, _, H1, rfl, I1.kept (t' := s1.toks) hk, turn_enumT a (s1.heap.objs.size + 1) s1.heap.objs.size, ⟨⟨.none, he⟩, hit, Nat.succ_ne_self _⟩, new,
        q _ (fun H => H a = some (.tup xs)) ⟨fun i H x s e => ⟨xs, x, SqT.of s, e⟩, fun H s => ⟨xs, SqT.of s, rfl⟩, fun i H v H' s y => let ⟨T, x, e1, e2, e3, e4⟩ := y; ⟨T, x, e1, e2, e3, e4 xs (SqT.of s)⟩⟩ fun H' e => e.tup hq⟩
theorem for_enum {xs : List V} {J : It} {S : Hp → Prop} {g : TG} {tb : TS} {D : Ends} {σ : L2.St} {H : Hp} (E : EnumAs xs J S) (Pv : Nat → L2.St → Hp → Prop) (h0 : Pv 0 σ H) (hl : ∀ i σ H, Pv i σ H → S H)
    (hs : ∀ i x σ H T, xs[i]? = some x → Pv i σ H → H T = none → g (.ref T) σ (upd H T (.tup [.int (i : Nat), x])) fun σ2 H2 => tb { D with nx := Pv (i + 1), ct := Pv (i + 1), bk := D.nx } σ2 H2) (hd : ∀ σ H, Pv xs.length σ H → D.nx σ H) :
    ∃ W : Nat → Nat → L2.St → Hp → Prop, (∃ m, W 0 m σ H) ∧ ∀ i m σ H, W i m σ H →
      (J.stop i H ∧ D.nx σ H) ∨ (J.go i H ∧ ∃ N : L2.St → Hp → Prop, (∀ σ' H', N σ' H' → ∃ m', m' < m ∧ W (i + 1) m' σ' H') ∧ ∀ x H', J.yld i H x H' → g x σ H' fun σ2 H2 => tb { D with nx := N, ct := N, bk := D.nx } σ2 H2) := by
  refine ⟨fun i m σ H => m = xs.length - i ∧ i ≤ xs.length ∧ Pv i σ H, ⟨xs.length, by simp, Nat.zero_le _, h0⟩, ?_⟩
  rintro i m σ H ⟨rfl, hi, p⟩
  have q := hl i σ H p
  by_cases hlt : i < xs.length
  · refine .inr ⟨E.go i H _ q (List.getElem?_eq_getElem hlt), Pv (i + 1), fun σ' H' p' => ⟨xs.length - (i + 1), by omega, rfl, hlt, p'⟩, fun v H' y => ?_⟩
    obtain ⟨T, x, rfl, nT, rfl, hx⟩ := E.yld i H v H' q y
    exact hs i x σ H T hx p nT
  · have e : i = xs.length := by omega
    subst e
    exact .inl ⟨E.stop H q, hd σ H p⟩
end CL
set_option Elab.async false
set_option linter.all false
set_option maxRecDepth 100000
set_option maxHeartbeats 4000000
namespace CL
open PySem PySem.Spec PyProof.Rows L2 GE
def rowT (x : RowT) : PyData := .tuple [.tuple (x.1.map pdO), x.2]
theorem drs_leaf {d e : PyData} (h : Drs d e) (n : ∀ ds, d ≠ .tuple ds) : e = d := by
  cases h with
  | same => rfl
  | lst _ => exact absurd rfl (n _)
  | tup _ => exact absurd rfl (n _)
theorem drs_leaves : ∀ {ds es : List PyData}, DrsAll ds es → (∀ d ∈ ds, ∀ xs, d ≠ .tuple xs) → es = ds
  | _, _, .nil, _ => rfl
  | _, _, .cons h t, n => by rw [drs_leaf h (n _ List.mem_cons_self), drs_leaves t fun d hd => n d (List.mem_cons_of_mem _ hd)]
theorem pdO_leaf (os : List (Option Int)) : ∀ d ∈ os.map pdO, ∀ xs, d ≠ .tuple xs := fun d hd xs e => by
  obtain ⟨o, _, rfl⟩ := List.mem_map.mp hd
  cases o <;> cases e
theorem drs_rows {ds : List PyData} {e : PyData} (h : Drs (.tuple ds) e) : ∃ es, rowsD e = some es ∧ DrsAll ds es := by
  cases h with
  | same =>
    have z : ∀ ds : List PyData, DrsAll ds ds := fun ds => by
      induction ds with
      | nil => exact .nil
      | cons d ds ih => exact .cons (.same d) ih
    exact ⟨ds, rfl, z ds⟩
  | lst h => exact ⟨_, rfl, h⟩
  | tup h => exact ⟨_, rfl, h⟩
theorem many_leaf {m : PyData} (h : isMany m = true) : ∀ ds, m ≠ .tuple ds := fun ds e => by rw [e] at h; cases h
theorem drs_row {x : RowT} {e : PyData} (h : Drs (rowT x) e) (g : GoodRow x) : ∃ t, rowsD e = some [t, x.2] ∧ rowsD t = some (x.1.map pdO) := by
  obtain ⟨es, he, ha⟩ := drs_rows h
  cases ha with
  | cons h1 h2 =>
    cases h2 with
    | cons h3 h4 =>
      cases h4
      rw [drs_leaf h3 (many_leaf g.many)] at he
      obtain ⟨os, ho, hb⟩ := drs_rows h1
      rw [drs_leaves hb (pdO_leaf _)] at ho
      exact ⟨_, he, ho⟩
theorem row_piece {x : RowT} {e : PyData} (h : Drs (rowT x) e) (g : GoodRow x) : isPiece e = true ∧ sndD e = x.2 ∧ turnsD e = x.1.map pdO := by
  obtain ⟨t, he, ht⟩ := drs_row h g
  refine ⟨?_, sndD_two he, ?_⟩
  · rw [isPiece_two he, g.many, Bool.and_true]
    unfold isTurns
    rw [ht]
    show (decide (1 ≤ (x.1.map pdO).length) && decide ((x.1.map pdO).length ≤ 8) && (x.1.map pdO).all isPatience) = true
    rw [List.length_map, decide_eq_true g.lo, decide_eq_true g.hi]
    simp only [Bool.true_and, List.all_map, List.all_eq_true]
    exact fun o ho => pat_good (g.pat o ho)
  · unfold turnsD
    rw [he]
    show (rowsD t).getD [] = _
    rw [ht]
    rfl
def pcsR : Int → List RowT → List PieceT
  | _, [] => []
  | f, x :: rs => (f, pastO f x.2, x.1.map pdO) :: pcsR (f + worth x.2) rs
theorem pcs_drs : ∀ (f : Int) (rs : List RowT) {es : List PyData}, DrsAll (rs.map rowT) es → (∀ x ∈ rs, GoodRow x) → pcs f es = pcsR f rs ∧ es.all isPiece = true ∧ sumSnd es = sumW rs ∧ es.map sndD = rs.map (·.2)
  | _, [], _, .nil, _ => ⟨rfl, rfl, rfl, rfl⟩
  | f, x :: rs, _, .cons h t, g => by
    obtain ⟨a1, a2, a3⟩ := row_piece h (g x List.mem_cons_self)
    obtain ⟨b1, b2, b3, b4⟩ := pcs_drs (f + worth x.2) rs t fun y hy => g y (List.mem_cons_of_mem _ hy)
    refine ⟨?_, ?_, ?_, ?_⟩
    · show (f, pastO f (sndD _), turnsD _) :: pcs (f + worth (sndD _)) _ = _
      rw [a2, a3, b1]
      rfl
    · show (isPiece _ && List.all _ isPiece) = true
      rw [a1, b2]
      rfl
    · show worth (sndD _) + sumSnd _ = worth x.2 + sumW rs
      rw [a2, b3]
    · show sndD _ :: List.map sndD _ = _
      rw [a2, b4]
      rfl
theorem dressed_plan {rs : List RowT} {d : PyData} (h : Drs (.tuple (rs.map rowT)) d) (f : Fine rs) : isPlan d = true ∧ piecesOf d = pcsR 0 rs := by
  obtain ⟨es, he, ha⟩ := drs_rows h
  obtain ⟨b1, b2, b3, b4⟩ := pcs_drs 0 rs ha f.row
  have hl : es.length = rs.length := by
    have := congrArg List.length b4
    simpa using this
  refine ⟨?_, ?_⟩
  · have e : isPlan d = isPlanL es := by unfold isPlan; rw [he]
    rw [e]
    unfold isPlanL
    have h2 : (es.take (es.length - 1)).any (fun d => isNone (sndD d)) = false := by
      rw [List.any_eq_false]
      intro y hy
      have z : sndD y ∈ (es.take (es.length - 1)).map sndD := List.mem_map_of_mem hy
      rw [List.map_take, b4, hl, ← List.map_take] at z
      obtain ⟨x, hx, ex⟩ := List.mem_map.mp z
      rw [← ex, f.last x hx]
      exact Bool.false_ne_true
    rw [b2, b3, h2, hl, decide_eq_true f.lo, decide_eq_true f.hi, decide_eq_true f.sum]
    rfl
  · unfold piecesOf
    rw [he]
    exact b1
theorem pcs_rows : ∀ (f : Int) (rs : List RowT), pcs f (rs.map rowD) = pcsR f rs
  | _, [] => rfl
  | f, x :: rs => by
    show (f, pastO f x.2, x.1.map pdO) :: pcs (f + worth x.2) (rs.map rowD) = _
    rw [pcs_rows]
    rfl
/-! ### the first people's patiences -/
def sizeO (most len : Nat) : PyData → Nat
  | .int m => min m.toNat (most - len)
  | _ => most - len
def seg (x : RowT) (n : Nat) : List (Option Int) := (List.range n).map fun k => (x.1[k % x.1.length]?).getD none
def said (most : Nat) : List (Option Int) → List RowT → List (Option Int)
  | acc, [] => acc
  | acc, x :: rs => said most (acc ++ seg x (sizeO most acc.length x.2)) rs
theorem seg_len (x : RowT) (n : Nat) : (seg x n).length = n := by
  unfold seg
  rw [List.length_map, List.length_range]
theorem sizeO_le (most len : Nat) (d : PyData) : sizeO most len d ≤ most - len := by
  cases d <;> first | exact Nat.min_le_right _ _ | exact Nat.le_refl _
theorem said_le (most : Nat) : ∀ (rs : List RowT) (acc : List (Option Int)), acc.length ≤ most → (said most acc rs).length ≤ most
  | [], acc, h => h
  | x :: rs, acc, h => by
    refine said_le most rs _ ?_
    rw [List.length_append, seg_len]
    have := sizeO_le most acc.length x.2
    omega
theorem said_pre (most : Nat) : ∀ (rs : List RowT) (acc : List (Option Int)) (n : Nat), n < acc.length → (said most acc rs)[n]? = acc[n]?
  | [], acc, n, h => rfl
  | x :: rs, acc, n, h => by
    show (said most (acc ++ seg x (sizeO most acc.length x.2)) rs)[n]? = _
    rw [said_pre most rs _ n (by rw [List.length_append]; omega), List.getElem?_append_left h]
theorem pdO_optD : ∀ o : Option Int, pdO o = optD o
  | none => rfl
  | some _ => rfl
theorem seg_has {x : RowT} (g : GoodRow x) (f : Int) (past : Option Int) {n k : Nat} (hk : k < n) : ∃ o, (seg x n)[k]? = some o ∧ ∀ i : Int, i - f = (k : Int) → (x.1.map pdO)[((i - f) % ((x.1.map pdO).length : Int)).toNat]? = some (optD o) := by
  have l1 := g.lo
  have hm : k % x.1.length < x.1.length := Nat.mod_lt _ (by omega)
  refine ⟨x.1[k % x.1.length], ?_, fun i e => ?_⟩
  · unfold seg
    rw [List.getElem?_map, List.getElem?_range hk]
    show some ((x.1[k % x.1.length]?).getD none) = _
    rw [List.getElem?_eq_getElem hm]
    rfl
  · rw [e, List.length_map]
    have e2 : ((k : Int) % (x.1.length : Int)).toNat = k % x.1.length := rfl
    rw [e2, List.getElem?_map, List.getElem?_eq_getElem hm, Option.map_some, pdO_optD]
theorem said_has (most : Nat) : ∀ (rs : List RowT) (acc : List (Option Int)) (f : Nat), (∀ x ∈ rs, GoodRow x) → acc.length = f → f ≤ most → ∀ n : Nat, f ≤ n → n < (said most acc rs).length → ∃ o, (said most acc rs)[n]? = some o ∧ HasP (pcsR (f : Int) rs) (n : Int) (optD o)
  | [], acc, f, _, hl, _, n, h1, h2 => by
    have : n < acc.length := h2
    omega
  | x :: rs, acc, f, hg, hl, hm, n, h1, h2 => by
    subst hl
    have g := hg x List.mem_cons_self
    have l1 := g.lo
    have hs := sizeO_le most acc.length x.2
    have h2' : n < (said most (acc ++ seg x (sizeO most acc.length x.2)) rs).length := h2
    by_cases hn : n < acc.length + sizeO most acc.length x.2
    · obtain ⟨o, ho, hp⟩ := seg_has g (acc.length : Int) (pastO (acc.length : Int) x.2) (n := sizeO most acc.length x.2) (k := n - acc.length) (by omega)
      refine ⟨o, ?_, (((acc.length : Int), pastO (acc.length : Int) x.2, x.1.map pdO) : PieceT), ?_, by show 0 < (x.1.map pdO).length; rw [List.length_map]; omega, hp (n : Int) (by omega)⟩
      · show (said most (acc ++ seg x (sizeO most acc.length x.2)) rs)[n]? = _
        rw [said_pre most rs _ n (by rw [List.length_append, seg_len]; omega), List.getElem?_append_right (by omega)]
        exact ho
      · show List.find? (comes (n : Int)) (((acc.length : Int), pastO (acc.length : Int) x.2, x.1.map pdO) :: pcsR ((acc.length : Int) + worth x.2) rs) = _
        have hc : comes (n : Int) ((acc.length : Int), pastO (acc.length : Int) x.2, x.1.map pdO) = true := by
          unfold comes
          have hmany := g.many
          cases e : x.2 with
          | int m =>
            rw [e] at hn hmany
            have hm0 : 0 ≤ m := of_decide_eq_true hmany
            have : sizeO most acc.length (.int m) ≤ m.toNat := Nat.min_le_left _ _
            show decide ((n : Int) < (acc.length : Int) + m) = true
            exact decide_eq_true (by omega)
          | _ => rfl
        rw [List.find?_cons, hc]
    · have hle := said_le most rs (acc ++ seg x (sizeO most acc.length x.2)) (by rw [List.length_append, seg_len]; omega)
      have hmany := g.many
      obtain ⟨m, e⟩ : ∃ m, x.2 = .int m := by
        cases e : x.2 with
        | int m => exact ⟨m, rfl⟩
        | none =>
          exfalso
          have : sizeO most acc.length .none = most - acc.length := rfl
          rw [e] at hn h2' hle
          omega
        | _ => rw [e] at hmany; cases hmany
      rw [e] at hn h2' hle hmany hs
      have hm0 : 0 ≤ m := of_decide_eq_true hmany
      have hsm : sizeO most acc.length (.int m) = m.toNat := by
        have : sizeO most acc.length (.int m) = min m.toNat (most - acc.length) := rfl
        omega
      obtain ⟨o, ho, pp, hf, hpl, hpe⟩ := said_has most rs (acc ++ seg x (sizeO most acc.length (.int m))) (acc.length + m.toNat) (fun y hy => hg y (List.mem_cons_of_mem _ hy)) (by rw [List.length_append, seg_len]; omega) (by omega) n (by omega) h2'
      refine ⟨o, ?_, pp, ?_, hpl, hpe⟩
      · show (said most (acc ++ seg x (sizeO most acc.length x.2)) rs)[n]? = _
        rw [e]
        exact ho
      · show List.find? (comes (n : Int)) (((acc.length : Int), pastO (acc.length : Int) x.2, x.1.map pdO) :: pcsR ((acc.length : Int) + worth x.2) rs) = _
        have hc : comes (n : Int) ((acc.length : Int), pastO (acc.length : Int) x.2, x.1.map pdO) = false := by
          unfold comes
          rw [e]
          show decide ((n : Int) < (acc.length : Int) + m) = false
          exact decide_eq_false (by omega)
        have e3 : (acc.length : Int) + worth x.2 = ((acc.length + m.toNat : Nat) : Int) := by
          rw [e]
          show (acc.length : Int) + m = _
          omega
        rw [List.find?_cons, hc, e3]
        exact hf
/-- who has come by then, of whom it is told whose patience -/
theorem lined_congr {p q : Nat → Option Int} : ∀ m : Nat, (∀ n, n < m → p n = q n) → lined p m = lined q m
  | 0, _ => rfl
  | m + 1, h => by
    show stand (lined p m) (m : Int) (p m) = stand (lined q m) (m : Int) (q m)
    rw [lined_congr m fun n hn => h n (by omega), h m (by omega)]
def patL (os : List (Option Int)) : Nat → Option Int := fun n => (os[n]?).getD none
end CL
set_option Elab.async false
set_option linter.all false
set_option maxRecDepth 100000
set_option maxHeartbeats 4000000
namespace CL
open PySem PySem.Spec PyProof.Rows L2 GE
abbrev sSaid : Stmt := topS 35
abbrev nSaid : List Str := ["rows", "most", "found", "turn", "many", "size", "k"]
theorem scSaid : FnScope nSaid ["rows", "most"] (defScope sSaid) := ⟨rfl, rfl, rfl, by decide +kernel, rfl, by decide +kernel, by decide +kernel⟩
theorem said_snoc (most : Nat) : ∀ (rs : List RowT) (acc : List (Option Int)) (x : RowT), said most acc (rs ++ [x]) = said most acc rs ++ seg x (sizeO most (said most acc rs).length x.2)
  | [], acc, x => rfl
  | y :: rs, acc, x => said_snoc most rs (acc ++ seg y (sizeO most acc.length y.2)) x
theorem seg_succ (x : RowT) (n : Nat) : seg x (n + 1) = seg x n ++ [(x.1[n % x.1.length]?).getD none] := by
  unfold seg
  rw [List.range_succ, List.map_append]
  rfl
theorem ix_blk {X : Cx} {s : Shared} {H : Hp} {scope : Scope} {cenv : Env} {fp : List Addr} : IxR (X.blk s H scope cenv fp) (rIxL X.K) := ix_list
theorem len_blk {X : Cx} {s : Shared} {H : Hp} {scope : Scope} {cenv : Env} {fp : List Addr} : CallR (X.blk s H scope cenv fp) (.builtin "len") (fun xs H Q => ∃ p ys, xs = [.ref p] ∧ (SqL X.K H p ys ∨ SqT X.K H p ys) ∧ Q (.int ys.length) H) := call_len_seq
theorem rp_pdO {H : Hp} {v : V} {o : Option Int} (h : Rp H v (pdO o)) : v = optV o := by
  rw [pdO_optD] at h
  exact rp_optV h
/-- a row that stands -/
theorem row_at {H : Hp} {x : V} {row : RowT} (h : Rp H x (rowD row)) (g : GoodRow row) : ∃ b t zs vm, x = .ref b ∧ H b = some (.tup [.ref t, vm]) ∧ H t = some (.lst zs) ∧ zs.length = row.1.length ∧ (∀ j : Nat, j < row.1.length → zs[j]? = some (optV ((row.1[j]?).getD none))) ∧ ((row.2 = .none ∧ vm = .non) ∨ ∃ m, row.2 = .int m ∧ vm = .int m ∧ 0 ≤ m) := by
  cases h with
  | @tup b xs _ hb hxs =>
  cases hxs with
  | cons a1 h2 =>
  cases h2 with
  | cons a2 h3 =>
  cases h3
  obtain ⟨t, zs, rfl, ht, hz⟩ := rp_list a1
  have hl := hz.length
  rw [List.length_map] at hl
  refine ⟨b, t, zs, _, rfl, hb, ht, hl, fun j hj => ?_, ?_⟩
  · obtain ⟨d, hd, hR⟩ := hz.get (List.getElem?_eq_getElem (by omega : j < zs.length))
    rw [List.getElem?_map, List.getElem?_eq_getElem hj] at hd
    obtain rfl := (Option.some.inj hd).symm
    rw [List.getElem?_eq_getElem (by omega : j < zs.length), rp_pdO hR, List.getElem?_eq_getElem hj]
    rfl
  · have gm := g.many
    generalize row.2 = m2 at a2 gm
    cases a2 with
    | non => exact .inl ⟨rfl, rfl⟩
    | int m => exact .inr ⟨m, rfl, rfl, of_decide_eq_true gm⟩
    | _ => cases gm
def spSaid : Sp := fun vs H Q _ => ∃ v rs, ∃ n : Int, ∃ most : Nat, vs = [v, .int n] ∧ n = (most : Int) ∧ Rp H v (.list (rs.map rowD)) ∧ (∀ x ∈ rs, GoodRow x) ∧ most ≤ 2000 ∧ ∀ p H', Same H H' → H p = none → H' p = some (.lst ((said most [] rs).map optV)) → Q (.ref p) H'
section
variable {P : Program} {w : World} {K : PySem.W.Frag} {mg : Str → Option Value} {base : Heap}
theorem ok_said {f : Addr} {fd : FuncData} (F : Fun K "_law_said_over" "_law_said_over" sSaid f fd) (T : Nm mg) (T2 : Nm2 mg) : FnOk P w K mg base CX0 1 f fd ["rows", "most"] spSaid := by
  refine F.ok scSaid (fun vs H Q E ⟨v, rs, n, most, e, _⟩ => by rw [e]; rfl) (fun cdv A outer s H vs Q E hr h => ?_)
  obtain ⟨v, rs, _, most, rfl, rfl, hR, hg, hm, q⟩ := h
  have nd := scSaid.nd
  have sz : 5000 ≤ sizeLine := by decide
  refine ⟨_, (pss_cons (ps_set (i := 2) nd rfl (.inl rfl) (pe_lst pa_nil))
    (pss_cons (ps_for PassesOwn.never rfl (pi_list (pv 0)) (pg_tup rfl (pgs_cons (pg_name (i := 3) nd rfl (.inr rfl)) (pgs_cons (pg_name (i := 4) nd rfl (.inl rfl)) pgs_nil)))
      (pss_cons (ps_set (i := 5) nd rfl (.inl rfl) (pe_ifExp (pt_cmp (pc_isN (pv 4))) (pe_op op_sub (pv 1) (pe_callB call_len_seq (by rfl) T.len PySem.boot_len (pa_cons (pv 2) pa_nil)))
          (pe_callB (call_min2 rfl) (by rfl) T2.min (by decide +kernel) (pa_cons (pv 4) (pa_cons (pe_op op_sub (pv 1) (pe_callB call_len_seq (by rfl) T.len PySem.boot_len (pa_cons (pv 2) pa_nil))) pa_nil)))))
      (pss_one (ps_set (i := 2) nd rfl (.inl rfl) (pe_op op_cat (pv 2) (pe_lc (own := [("k", 6)]) (g := gName 6) (tt := tYes) rfl nd (pi_range1 (by rfl) T2.range (pa_cons (pv 5) pa_nil)) (blkOk_by (N := nSaid) (sc := defScope sSaid) (by decide +kernel))
          (fun _ _ _ _ _ => pg_name (i := 6) nd rfl (.inl rfl) (.inr rfl)) (fun _ _ _ _ _ => pts_nil) (fun _ _ _ _ _ => pe_ix ix_blk (pv 3) (pe_op op_mod (pv 6) (pe_callB len_blk (by rfl) T.len PySem.boot_len (pa_cons (pv 3) pa_nil))) (fun _ _ => rfl))))))))
    (pss_one (ps_ret (pv 2))))), ?_⟩
  refine ⟨Nat.zero_le _, fun F0 n0 => ?_⟩
  have s0 : Same H (upd H F0 (.lst [])) := same_upd n0
  have e0 : (upd H F0 (.lst [])) F0 = some (.lst []) := upd_same
  show tSeq _ _ _ [some v, some (.int (most : Int)), some (.ref F0), none, none, none, none] (upd H F0 (.lst []))
  generalize upd H F0 (.lst []) = G at s0 e0
  obtain ⟨p, xs, rfl, hp, hx⟩ := rp_list hR
  have hlx : xs.length = rs.length := by rw [hx.length, List.length_map]
  refine ⟨.ref p, rfl, p, rfl, ⟨_, SqL.of (s0 _ _ hp)⟩, for_list (xs := xs) (fun i σ H2 => ∃ F1 y3 y4 y5, σ = [some (.ref p), some (.int (most : Int)), some (.ref F1), y3, y4, y5, none] ∧ Same H H2 ∧ H F1 = none ∧ H2 F1 = some (.lst ((said most [] (rs.take i)).map optV)))
    ⟨F0, none, none, none, rfl, s0, n0, e0⟩ (fun i σ H2 _ ⟨_, _, _, _, _, s, _⟩ => SqL.of (s _ _ hp)) (fun i x σ H2 hxi hP => ?_) (fun σ H2 hP => ?_)⟩
  · obtain ⟨F1, y3, y4, y5, rfl, s2, n1, e1⟩ := hP
    obtain ⟨d, hd, hRx⟩ := hx.get hxi
    obtain ⟨row, hrow, rfl⟩ : ∃ row, rs[i]? = some row ∧ d = rowD row := by
      rw [List.getElem?_map] at hd
      cases z : rs[i]? with
      | none => rw [z] at hd; cases hd
      | some y => rw [z] at hd; cases hd; exact ⟨y, rfl, rfl⟩
    have g := hg row (List.mem_of_getElem? hrow)
    obtain ⟨b, t, zs, vm, rfl, hb, ht, hzl, hz, hvm⟩ := row_at (Rp.sm s2 hRx) g
    have la := said_le most (rs.take i) [] (Nat.zero_le _)
    have est : said most [] (rs.take (i + 1)) = said most [] (rs.take i) ++ seg row (sizeO most (said most [] (rs.take i)).length row.2) := by
      rw [List.take_add_one, hrow]
      exact said_snoc most (rs.take i) [] row
    rw [est]
    generalize said most [] (rs.take i) = acc at e1 la
    have hso := sizeO_le most acc.length row.2
    refine ⟨b, [.ref t, vm], rfl, SqT.of hb, rfl, .ref t, [vm], rfl, vm, [], rfl, rfl, ?_⟩
    have size : ∀ {σ : L2.St} {R : VK}, σ[4]? = some (some vm) → σ[1]? = some (some (.int (most : Int))) → σ[2]? = some (some (.ref F1)) → R (.int ((sizeO most acc.length row.2 : Nat) : Int)) H2 → (tIf (tB (tIsN (tVar 4))) (tOp (rI0 fun i j => .int (i - j)) (tVar 1) (tCB (fun xs H Q => ∃ p ys, xs = [.ref p] ∧ (SqL K H p ys ∨ SqT K H p ys) ∧ Q (.int ys.length) H) (tCons (tVar 2) tNil)))
        (tCB (fun xs H Q => ∃ i j, xs = [.int i, .int j] ∧ Q (.int (if j < i then j else i)) H) (tCons (tVar 4) (tCons (tOp (rI0 fun i j => .int (i - j)) (tVar 1) (tCB (fun xs H Q => ∃ p ys, xs = [.ref p] ∧ (SqL K H p ys ∨ SqT K H p ys) ∧ Q (.int ys.length) H) (tCons (tVar 2) tNil))) tNil)))) σ H2 R := fun {σ R} h4 h1 h2 hR => by
      have el : ((acc.map optV).length : Int) = (acc.length : Int) := by rw [List.length_map]
      rcases hvm with ⟨em, rfl⟩ | ⟨m, em, rfl, hm0⟩
      · rw [em] at hR
        refine ⟨.non, h4, _, rfl, iteT ⟨.int (most : Int), h1, .ref F1, h2, F1, _, rfl, .inl (SqL.of e1), (most : Int), _, rfl, rfl, ?_⟩⟩
        have e : (most : Int) - ((acc.map optV).length : Int) = ((sizeO most acc.length .none : Nat) : Int) := by
          show _ = ((most - acc.length : Nat) : Int)
          omega
        show R (.int ((most : Int) - ((acc.map optV).length : Int))) H2
        rw [e]
        exact hR
      · rw [em] at hR
        refine ⟨.int m, h4, _, rfl, iteF ⟨.int m, h4, .int (most : Int), h1, .ref F1, h2, F1, _, rfl, .inl (SqL.of e1), (most : Int), _, rfl, rfl, m, _, rfl, ?_⟩⟩
        have e : (if (most : Int) - ((acc.map optV).length : Int) < m then (most : Int) - ((acc.map optV).length : Int) else m) = ((sizeO most acc.length (.int m) : Nat) : Int) := by
          show _ = ((min m.toNat (most - acc.length) : Nat) : Int)
          split <;> omega
        rw [e]
        exact hR
    refine size rfl rfl rfl ?_
    generalize hsz : sizeO most acc.length row.2 = sn at hso
    refine ⟨.ref F1, rfl, .int (sn : Int), rfl, (sn : Int), rfl, by omega, by omega, fun D hD => ?_⟩
    have ltn : ((sn : Int)).toNat = sn := rfl
    refine lc_range (lo := 0) (n := ((sn : Int)).toNat) (fun j H5 => H5 = upd H2 D (.lst ((seg row j).map optV))) rfl (fun j H5 hj e => ?_) (fun H5 e => ?_)
    · subst e
      have sD : Same H2 (upd H2 D (.lst ((seg row j).map optV))) := same_upd hD
      have l1 := g.lo
      refine ⟨rfl, yesT ?_⟩
      have hjm : j % row.1.length < row.1.length := Nat.mod_lt _ (by omega)
      have em : (0 + (j : Int)) % (zs.length : Int) = ((j % row.1.length : Nat) : Int) := by rw [Int.zero_add, hzl]; rfl
      refine ⟨.ref t, rfl, .int (0 + (j : Int)), rfl, .ref t, rfl, t, zs, rfl, .inl (SqL.of (sD _ _ ht)), 0 + (j : Int), (zs.length : Int), rfl, rfl, by show (0 : Int) < (zs.length : Int); omega, t, zs, (0 + (j : Int)) % (zs.length : Int), _, rfl, rfl, SqL.of (sD _ _ ht), by rw [em]; exact atI_nat (hz _ hjm), (seg row j).map optV, upd_same, by rw [List.length_map, seg_len]; omega, ?_⟩
      rw [upd_upd, seg_succ, List.map_append]
      rfl
    · rw [ltn] at e
      have sD : Same H2 H5 := by rw [e]; exact same_upd hD
      have eD : H5 D = some (.lst ((seg row sn).map optV)) := by rw [e]; exact upd_same
      refine ⟨F1, D, _, _, rfl, rfl, sD _ _ e1, eD, by rw [List.length_map, List.length_map, seg_len]; omega, fun F2 n2 => ?_⟩
      have s5 := s2.trans sD
      exact ⟨F2, _, _, _, rfl, s5.trans (same_upd n2), s5.free n2, by rw [upd_same, List.map_append]⟩
  · obtain ⟨F1, y3, y4, y5, rfl, s2, n1, e1⟩ := hP
    rw [hlx, List.take_length] at e1
    exact ⟨.ref F1, rfl, q F1 H2 s2 n1 e1⟩
end
end CL
set_option Elab.async false
set_option linter.all false
set_option maxRecDepth 100000
set_option maxHeartbeats 4000000
namespace CL
open PySem PySem.Spec PyProof.Rows L2 GE
abbrev sStood : Stmt := topS 34
abbrev nStood : List Str := ["patiences", "stood", "who", "patience", "spot"]
theorem scStood : FnScope nStood ["patiences"] (defScope sStood) := ⟨rfl, rfl, rfl, by decide +kernel, rfl, by decide +kernel, by decide +kernel⟩
/-- one who stands: the number, the patience left -/
abbrev OneT := Int × Option Int
def pD (x : OneT) : PyData := .list [.int x.1, optD x.2]
theorem RpAll.set {H : Hp} : ∀ {vs : List V} {ds : List PyData} {k : Nat} {v : V} {d : PyData}, RpAll H vs ds → Rp H v d → RpAll H (vs.set k v) (ds.set k d)
  | _, _, _, _, _, .nil, _ => .nil
  | _, _, 0, _, _, .cons _ t, h => .cons h t
  | _, _, k + 1, _, _, .cons r t, h => .cons r (RpAll.set t h)
theorem RpAll.drop2 {H : Hp} : ∀ {vs : List V} {ds : List PyData} (n : Nat), RpAll H vs ds → RpAll H (vs.drop n) (ds.drop n)
  | _, _, 0, h => h
  | _, _, _ + 1, .nil => .nil
  | _, _, n + 1, .cons _ t => RpAll.drop2 n t
theorem one_at {H : Hp} {v : V} {x : OneT} (h : Rp H v (pD x)) : ∃ b, v = .ref b ∧ H b = some (.lst [.int x.1, optV x.2]) := by
  cases h with
  | lst h1 h2 =>
    cases h2 with
    | cons a1 h3 =>
      cases h3 with
      | cons a2 h4 =>
        cases h4
        cases a1
        obtain rfl := rp_optV a2
        exact ⟨_, rfl, h1⟩
def spStood : Sp := fun vs H Q _ => ∃ p, ∃ os : List (Option Int), vs = [.ref p] ∧ H p = some (.lst (os.map optV)) ∧ os.length ≤ 2100 ∧ ∀ D (es : List OneT) H', Same H H' → H D = none → Rp H' (.ref D) (.list (es.map pD)) → es.map (·.1) = (lined (patL os) os.length).1 → es.map (·.2) = (lined (patL os) os.length).2 → Q (.ref D) H'
section
variable {P : Program} {w : World} {K : PySem.W.Frag} {mg : Str → Option Value} {base : Heap}
theorem ok_stood {f : Addr} {fd : FuncData} (F : Fun K "_law_stood" "_law_stood" sStood f fd) (T : Nm mg) (T2 : Nm2 mg) : FnOk P w K mg base CX0 1 f fd ["patiences"] spStood := by
  refine F.ok scStood (fun vs H Q E ⟨p, os, e, _⟩ => by rw [e]; rfl) (fun cdv A outer s H vs Q E hr h => ?_)
  obtain ⟨p, os, rfl, hp, hos, q⟩ := h
  have nd := scStood.nd
  have sz : 5000 ≤ sizeLine := by decide
  refine ⟨_, (pss_cons (ps_set (i := 1) nd rfl (.inl rfl) (pe_lst pa_nil))
    (pss_cons (ps_for PassesOwn.never rfl (pi_enumS (by rfl) T2.enum (pa_cons (pv 0) pa_nil)) (pg_tup rfl (pgs_cons (pg_name (i := 2) nd rfl (.inl rfl)) (pgs_cons (pg_name (i := 3) nd rfl (.inl rfl)) pgs_nil)))
      (pss_cons (ps_set (i := 4) nd rfl (.inl rfl) (pe_callB call_len_seq (by rfl) T.len PySem.boot_len (pa_cons (pv 1) pa_nil)))
      (pss_cons (ps_while PassesOwn.never (PW.pt (pw_and (pt_cmpR op_gt (pv 4) pe_int (nomark _)) (pw_and1 (pt_cmpR (op_neD hr.units) (pe_ix ix_list (pe_ix ix_list (pv 1) (pe_op op_sub (pv 4) pe_int) (fun _ _ => rfl)) pe_int (fun _ _ => rfl)) pe_int (nomark _)))))
        (pss_cons (ps_set (i := 4) nd rfl (.inl rfl) (pe_op op_sub (pv 4) pe_int))
        (pss_one (ps_if (pt_cmp (pc_notN (pe_ix ix_list (pe_ix ix_list (pv 1) (pv 4) (fun _ _ => rfl)) pe_int (fun _ _ => rfl))))
          (pss_one (ps_asg (pe_lst (pa_cons (pe_ix ix_list (pe_ix ix_list (pv 1) (pv 4) (fun _ _ => rfl)) pe_int (fun _ _ => rfl)) (pa_cons (pe_op op_sub (pe_ix ix_list (pe_ix ix_list (pv 1) (pv 4) (fun _ _ => rfl)) pe_int (fun _ _ => rfl)) pe_int) pa_nil))) (pg_sub (pv 1) (pv 4) set_list))) pss_nil))))
      (pss_one (ps_set (i := 1) nd rfl (.inl rfl) (pe_op op_cat (pe_op op_cat (pe_slice sl_list (pv 1) po_none (po_some (pv 4))) (pe_lst (pa_cons (pe_lst (pa_cons (pv 2) (pa_cons (pv 3) pa_nil))) pa_nil))) (pe_slice sl_list (pv 1) (po_some (pv 4)) po_none)))))))
    (pss_one (ps_ret (pv 1))))), ?_⟩
  refine ⟨Nat.zero_le _, fun D0 n0 => ?_⟩
  have s0 : Same H (upd H D0 (.lst [])) := same_upd n0
  have e0 : (upd H D0 (.lst [])) D0 = some (.lst []) := upd_same
  show tSeq _ _ _ [some (.ref p), some (.ref D0), none, none, none] (upd H D0 (.lst []))
  have hG : ∀ b o, (upd H D0 (.lst [])) b = some o → (b = D0 ∧ o = .lst []) ∨ H b = some o := fun b o e => by
    by_cases z : b = D0
    · rw [z, upd_same] at e
      exact .inl ⟨z, (Option.some.inj e).symm⟩
    · rw [upd_ne z] at e
      exact .inr e
  generalize upd H D0 (.lst []) = G at s0 e0 hG
  have exG : ∀ {H2 : Hp}, Same H H2 → H2 D0 = some (.lst []) → Ex G H2 := fun {H2} s z => Ex.of fun b o e => by
    rcases hG b o e with ⟨rfl, rfl⟩ | e
    · exact z
    · exact s b o e
  have lx : (os.map optV).length = os.length := List.length_map ..
  refine ⟨.ref p, rfl, p, os.map optV, rfl, ⟨.inl (s0 _ _ hp)⟩, fun J S hE hS => ?_⟩
  refine for_enum hE (fun i σ H2 => ∃ D y2 y3 y4, ∃ vs : List V, ∃ es : List OneT, σ = [some (.ref p), some (.ref D), y2, y3, y4] ∧ Same H H2 ∧ H2 D0 = some (.lst []) ∧ H D = none ∧ H2 D = some (.lst vs) ∧ RpAll (Hw (fun b => b = D) H2) vs (es.map pD) ∧ es.map (·.1) = (lined (patL os) i).1 ∧ es.map (·.2) = (lined (patL os) i).2)
    ⟨D0, none, none, none, [], [], rfl, s0, e0, n0, e0, .nil, rfl, rfl⟩ (fun i σ H2 ⟨_, _, _, _, _, _, _, s2, z0, _⟩ => hS _ (exG s2 z0)) (fun i x σ H2 T0 hx hP nT => ?_) (fun σ H2 hP => ?_)
  · obtain ⟨D, y2, y3, y4, vs, es, rfl, s2, z0, nD, eD, hv, h1, h2⟩ := hP
    obtain ⟨ho, li⟩ : x = optV (patL os i) ∧ i < os.length := by
      rw [List.getElem?_map] at hx
      unfold patL
      cases z : os[i]? with
      | none => rw [z] at hx; cases hx
      | some o =>
        rw [z] at hx
        obtain ⟨z2, _⟩ := List.getElem?_eq_some_iff.mp z
        exact ⟨(Option.some.inj hx).symm, z2⟩
    subst ho
    obtain ⟨l1, l2⟩ := lined_len (patL os) i
    have est : lined (patL os) (i + 1) = stand (lined (patL os) i) (i : Int) (patL os i) := rfl
    rw [est]
    generalize lined (patL os) i = st at h1 h2 l1 l2
    generalize patL os i = oi
    have sT : Same H2 (upd H2 T0 (.tup [.int (i : Nat), optV oi])) := same_upd nT
    have eT : (upd H2 T0 (.tup [.int (i : Nat), optV oi])) T0 = some (.tup [.int (i : Nat), optV oi]) := upd_same
    generalize upd H2 T0 (.tup [.int (i : Nat), optV oi]) = H3 at sT eT
    have les : es.length = i := by rw [← l1, ← h1, List.length_map]
    have hv3 := RpAll.sm (Same.hw (W := fun b => b = D) sT) hv
    have lvs : vs.length = i := by have := hv.length; rw [List.length_map] at this; omega
    refine ⟨T0, _, rfl, SqT.of eT, rfl, .int (i : Nat), _, rfl, optV oi, _, rfl, rfl, ?_⟩
    refine ⟨.ref D, rfl, D, vs, rfl, .inl (SqL.of (sT _ _ eD)), ?_⟩
    rw [lvs]
    refine ⟨fun k σ H3 => ∃ vs : List V, ∃ es : List OneT, σ = [some (.ref p), some (.ref D), some (.int (i : Int)), some (optV oi), some (.int (k : Int))] ∧ Same H H3 ∧ H3 D0 = some (.lst []) ∧ H3 D = some (.lst vs) ∧ RpAll (Hw (fun b => b = D) H3) vs (es.map pD) ∧ es.length = i ∧ k ≤ i ∧ es.map (·.1) = st.1 ∧ goes k (es.map (·.2)) = goes i st.2,
      ⟨i, vs, es, rfl, s2.trans sT, sT _ _ z0, sT _ _ eD, hv3, les, Nat.le_refl i, h1, by rw [h2]⟩, fun k σ H3 hW => ?_⟩
    clear hv3 eT sT hv eD h1 h2 les lvs s2 z0 nT
    obtain ⟨vs, es, rfl, s3, z3, e3, hv, les, hk, h1, hg⟩ := hW
    have lvs : vs.length = i := by have := hv.length; rw [List.length_map] at this; omega
    -- behind the while
    have fin : ∀ {k : Nat}, k ≤ i → (k, es.map (·.2)) = goes i st.2 → ∀ {H4 : Hp} {q : Addr}, Same H3 H4 → H4 q = some (.lst [.int (i : Int), optV oi]) → ∀ {D2 : Addr}, H4 D2 = none →
        Same H (upd H4 D2 (.lst (vs.take k ++ [.ref q] ++ vs.drop k))) ∧ (upd H4 D2 (.lst (vs.take k ++ [.ref q] ++ vs.drop k))) D0 = some (.lst []) ∧ H D2 = none ∧ RpAll (Hw (fun b => b = D2) (upd H4 D2 (.lst (vs.take k ++ [.ref q] ++ vs.drop k)))) (vs.take k ++ [.ref q] ++ vs.drop k) ((es.take k ++ [((i : Int), oi)] ++ es.drop k).map pD) ∧
          (es.take k ++ [((i : Int), oi)] ++ es.drop k).map (·.1) = (stand st (i : Int) oi).1 ∧ (es.take k ++ [((i : Int), oi)] ++ es.drop k).map (·.2) = (stand st (i : Int) oi).2 := fun {k} hki hkg {H4 q} s4 eq {D2} n2 => by
      have sU := same_upd (o := .lst (vs.take k ++ [.ref q] ++ vs.drop k)) n2
      have s34 := s3.trans s4
      have hvD : RpAll (Hw (fun b => b = D2) (upd H4 D2 (.lst (vs.take k ++ [.ref q] ++ vs.drop k)))) vs (es.map pD) := by
        rw [hw_upd (W := fun b => b = D2) (a := D2) rfl]
        refine RpAll.sm (Hw.more (W := fun b => b = D) fun b hb => .inr (by rw [hb]; exact n2)) (RpAll.sm (Same.hw s4) hv)
      refine ⟨s34.trans sU, sU _ _ (s4 _ _ z3), s34.free n2, ?_, ?_, ?_⟩
      · rw [List.map_append, List.map_append, List.map_take, List.map_drop]
        refine RpAll.append (RpAll.append (hvD.take k) (.cons (.lst (xs := [.int (i : Int), optV oi]) ?_ (.cons (.int _) (.cons (rp_opt2 oi) .nil))) .nil)) (hvD.drop2 k)
        rw [Hw.at (fun z => by rw [z, n2] at eq; cases eq)]
        exact sU _ _ eq
      · unfold stand
        rw [l1, ← hkg, List.map_append, List.map_append, List.map_take, List.map_drop, h1]
        rfl
      · unfold stand
        rw [l1, ← hkg, List.map_append, List.map_append, List.map_take, List.map_drop]
        rfl
    cases k with
    | zero =>
      refine ⟨.int ((0 : Nat) : Int), rfl, ((0 : Nat) : Int), 0, rfl, rfl, decide ((0 : Int) < ((0 : Nat) : Int)), rfl, iteF ?_⟩
      refine ⟨.ref D, rfl, .int ((0 : Nat) : Int), rfl, ((0 : Nat) : Int), rfl, D, vs, rfl, SqL.of e3, fun t1 m1 => ?_⟩
      have c1 : cutV vs none (some ((0 : Nat) : Int)) = vs.take (0 : Nat) := cut_to vs (0 : Nat)
      rw [c1]
      have g1 := same_upd (o := .lst (vs.take (0 : Nat))) m1
      have w1 : (upd H3 t1 (.lst (vs.take (0 : Nat)))) t1 = some (.lst (vs.take (0 : Nat))) := upd_same
      generalize upd H3 t1 (.lst (vs.take (0 : Nat))) = G1 at g1 w1
      refine ⟨.int (i : Int), rfl, optV oi, rfl, small_le (by show 2 ≤ 1000; decide), fun q nq => ?_⟩
      have g2 := same_upd (o := .lst [.int (i : Int), optV oi]) nq
      have w2 : (upd G1 q (.lst [.int (i : Int), optV oi])) q = some (.lst [.int (i : Int), optV oi]) := upd_same
      generalize upd G1 q (.lst [.int (i : Int), optV oi]) = G2 at g2 w2
      refine ⟨small_le (by show 1 ≤ 1000; decide), fun u nu => ?_⟩
      have g3 := same_upd (o := .lst [.ref q]) nu
      have w3 : (upd G2 u (.lst [.ref q])) u = some (.lst [.ref q]) := upd_same
      generalize upd G2 u (.lst [.ref q]) = G3 at g3 w3
      refine ⟨t1, u, vs.take (0 : Nat), [.ref q], rfl, rfl, g3 _ _ (g2 _ _ w1), w3, by rw [List.length_take]; show _ + 1 ≤ sizeLine; omega, fun c nc => ?_⟩
      have g4 := same_upd (o := .lst (vs.take (0 : Nat) ++ [.ref q])) nc
      have w4 : (upd G3 c (.lst (vs.take (0 : Nat) ++ [.ref q]))) c = some (.lst (vs.take (0 : Nat) ++ [.ref q])) := upd_same
      generalize upd G3 c (.lst (vs.take (0 : Nat) ++ [.ref q])) = G4 at g4 w4
      have g14 := ((g1.trans g2).trans g3).trans g4
      refine ⟨.ref D, rfl, .int ((0 : Nat) : Int), rfl, ((0 : Nat) : Int), rfl, D, vs, rfl, SqL.of (g14 _ _ e3), fun x nx => ?_⟩
      have c2 : cutV vs (some ((0 : Nat) : Int)) none = vs.drop (0 : Nat) := cut_from vs (0 : Nat)
      rw [c2]
      have g5 := same_upd (o := .lst (vs.drop (0 : Nat))) nx
      have w5 : (upd G4 x (.lst (vs.drop (0 : Nat)))) x = some (.lst (vs.drop (0 : Nat))) := upd_same
      generalize upd G4 x (.lst (vs.drop (0 : Nat))) = G5 at g5 w5
      refine ⟨c, x, _, _, rfl, rfl, g5 _ _ w4, w5, by rw [List.length_append, List.length_take, List.length_drop]; show _ + 1 + _ ≤ sizeLine; omega, fun D2 n2 => ?_⟩
      obtain ⟨r1, r2, r3, r4, r5, r6⟩ := fin (k := (0 : Nat)) (by omega) hg (g14.trans g5) (g5 _ _ (g4 _ _ (g3 _ _ w2))) n2
      exact ⟨D2, _, _, _, _, es.take (0 : Nat) ++ [((i : Int), oi)] ++ es.drop (0 : Nat), rfl, r1, r2, r3, upd_same, r4, r5, r6⟩
    | succ k' =>
      have hk' : k' < es.length := by omega
      obtain ⟨⟨a, o⟩, hao⟩ : ∃ y, es[k']? = some y := ⟨_, List.getElem?_eq_getElem hk'⟩
      obtain ⟨v, hvk⟩ : ∃ v, vs[k']? = some v := ⟨_, List.getElem?_eq_getElem (by omega)⟩
      have hRv : Rp (Hw (fun b => b = D) H3) v (pD (a, o)) := by
        obtain ⟨d, hd, hR⟩ := hv.get hvk
        rw [List.getElem?_map, hao] at hd
        rw [← Option.some.inj hd] at hR
        exact hR
      obtain ⟨b, rfl, hb'⟩ := one_at hRv
      have hb := Hw.sub _ _ _ _ hb'
      have hi1 : ((k' + 1 : Nat) : Int) - 1 = (k' : Int) := by omega
      have hl2 : (es.map (·.2))[k']? = some o := by rw [List.getElem?_map, hao]; rfl
      refine ⟨.int ((k' + 1 : Nat) : Int), rfl, ((k' + 1 : Nat) : Int), 0, rfl, rfl, decide ((0 : Int) < ((k' + 1 : Nat) : Int)), rfl, ?_⟩
      rw [decide_eq_true (by omega : (0 : Int) < ((k' + 1 : Nat) : Int))]
      refine iteT ⟨.ref D, rfl, .int ((k' + 1 : Nat) : Int), rfl, ((k' + 1 : Nat) : Int), 1, rfl, rfl, D, vs, ((k' + 1 : Nat) : Int) - 1, .ref b, rfl, rfl, SqL.of e3, by rw [hi1]; exact atI_nat hvk, b, _, 1, optV o, rfl, rfl, SqL.of hb, atI_nat (j := 1) rfl, optD o, .int 0, optV_dp o, .int 0, optD_shaped o, optD_shaped (some 0), _, rfl, ?_⟩
      rw [optV_ne0]
      by_cases hz : o = some 0
      · rw [decide_eq_true hz]
        have hg2 : (k' + 1, es.map (·.2)) = goes i st.2 := by
          rw [← hg]
          unfold goes
          rw [hl2, hz]
          rfl
        refine iteF ?_
        refine ⟨.ref D, rfl, .int ((k' + 1 : Nat) : Int), rfl, ((k' + 1 : Nat) : Int), rfl, D, vs, rfl, SqL.of e3, fun t1 m1 => ?_⟩
        have c1 : cutV vs none (some ((k' + 1 : Nat) : Int)) = vs.take (k' + 1 : Nat) := cut_to vs (k' + 1 : Nat)
        rw [c1]
        have g1 := same_upd (o := .lst (vs.take (k' + 1 : Nat))) m1
        have w1 : (upd H3 t1 (.lst (vs.take (k' + 1 : Nat)))) t1 = some (.lst (vs.take (k' + 1 : Nat))) := upd_same
        generalize upd H3 t1 (.lst (vs.take (k' + 1 : Nat))) = G1 at g1 w1
        refine ⟨.int (i : Int), rfl, optV oi, rfl, small_le (by show 2 ≤ 1000; decide), fun q nq => ?_⟩
        have g2 := same_upd (o := .lst [.int (i : Int), optV oi]) nq
        have w2 : (upd G1 q (.lst [.int (i : Int), optV oi])) q = some (.lst [.int (i : Int), optV oi]) := upd_same
        generalize upd G1 q (.lst [.int (i : Int), optV oi]) = G2 at g2 w2
        refine ⟨small_le (by show 1 ≤ 1000; decide), fun u nu => ?_⟩
        have g3 := same_upd (o := .lst [.ref q]) nu
        have w3 : (upd G2 u (.lst [.ref q])) u = some (.lst [.ref q]) := upd_same
        generalize upd G2 u (.lst [.ref q]) = G3 at g3 w3
        refine ⟨t1, u, vs.take (k' + 1 : Nat), [.ref q], rfl, rfl, g3 _ _ (g2 _ _ w1), w3, by rw [List.length_take]; show _ + 1 ≤ sizeLine; omega, fun c nc => ?_⟩
        have g4 := same_upd (o := .lst (vs.take (k' + 1 : Nat) ++ [.ref q])) nc
        have w4 : (upd G3 c (.lst (vs.take (k' + 1 : Nat) ++ [.ref q]))) c = some (.lst (vs.take (k' + 1 : Nat) ++ [.ref q])) := upd_same
        generalize upd G3 c (.lst (vs.take (k' + 1 : Nat) ++ [.ref q])) = G4 at g4 w4
        have g14 := ((g1.trans g2).trans g3).trans g4
        refine ⟨.ref D, rfl, .int ((k' + 1 : Nat) : Int), rfl, ((k' + 1 : Nat) : Int), rfl, D, vs, rfl, SqL.of (g14 _ _ e3), fun x nx => ?_⟩
        have c2 : cutV vs (some ((k' + 1 : Nat) : Int)) none = vs.drop (k' + 1 : Nat) := cut_from vs (k' + 1 : Nat)
        rw [c2]
        have g5 := same_upd (o := .lst (vs.drop (k' + 1 : Nat))) nx
        have w5 : (upd G4 x (.lst (vs.drop (k' + 1 : Nat)))) x = some (.lst (vs.drop (k' + 1 : Nat))) := upd_same
        generalize upd G4 x (.lst (vs.drop (k' + 1 : Nat))) = G5 at g5 w5
        refine ⟨c, x, _, _, rfl, rfl, g5 _ _ w4, w5, by rw [List.length_append, List.length_take, List.length_drop]; show _ + 1 + _ ≤ sizeLine; omega, fun D2 n2 => ?_⟩
        obtain ⟨r1, r2, r3, r4, r5, r6⟩ := fin (k := (k' + 1 : Nat)) (by omega) hg2 (g14.trans g5) (g5 _ _ (g4 _ _ (g3 _ _ w2))) n2
        exact ⟨D2, _, _, _, _, es.take (k' + 1 : Nat) ++ [((i : Int), oi)] ++ es.drop (k' + 1 : Nat), rfl, r1, r2, r3, upd_same, r4, r5, r6⟩
      · rw [decide_eq_false hz]
        have rd : ∀ {σ : L2.St} {R : VK} {c : Int} {w : V}, σ[1]? = some (some (.ref D)) → σ[4]? = some (some (.int (((k' + 1 : Nat) : Int) - 1))) → atI [V.int a, optV o] c = some w → R w H3 → (tOp (rIxL K) (tOp (rIxL K) (tVar 1) (tVar 4)) (tC (.int c))) σ H3 R := fun {σ R c w} q1 q2 q3 q4 =>
          ⟨.ref D, q1, .int (((k' + 1 : Nat) : Int) - 1), q2, D, vs, ((k' + 1 : Nat) : Int) - 1, .ref b, rfl, rfl, SqL.of e3, by rw [hi1]; exact atI_nat hvk, b, _, c, w, rfl, rfl, SqL.of hb, q3, q4⟩
        cases o with
        | none =>
          have hg2 : goes k' (es.map (·.2)) = goes i st.2 := by
            rw [← hg]
            conv => rhs; unfold goes
            rw [hl2]
          refine iteT ⟨fun σ' H'' => σ' = [some (.ref p), some (.ref D), some (.int (i : Int)), some (optV oi), some (.int (((k' + 1 : Nat) : Int) - 1))] ∧ H'' = H3, fun σ' H'' z => ⟨k', Nat.lt_succ_self k', vs, es, by rw [z.1, hi1], by rw [z.2]; exact s3, by rw [z.2]; exact z3, by rw [z.2]; exact e3, by rw [z.2]; exact hv, les, by omega, h1, hg2⟩, ?_⟩
          exact ⟨.int ((k' + 1 : Nat) : Int), rfl, ((k' + 1 : Nat) : Int), 1, rfl, rfl, rd rfl rfl (atI_nat (j := 1) rfl) ⟨_, rfl, iteF ⟨rfl, rfl⟩⟩⟩
        | some j =>
          have hj0 : j ≠ 0 := fun z => hz (by rw [z])
          have hg2 : goes k' ((es.set k' (a, some (j - 1))).map (·.2)) = goes i st.2 := by
            rw [← hg, List.map_set]
            conv => rhs; unfold goes
            rw [hl2]
            exact (if_neg hj0).symm
          have h1' : (es.set k' (a, some (j - 1))).map (·.1) = st.1 := by
            rw [List.map_set, ← h1]
            refine List.ext_getElem? fun n => ?_
            by_cases hn : n = k'
            · subst hn
              rw [List.getElem?_set_self (by rw [List.length_map]; exact hk'), List.getElem?_map, hao]
              rfl
            · rw [List.getElem?_set_ne (Ne.symm hn)]
          have nDD : D ≠ D0 := fun z => by
            rw [z, z3] at e3
            have : vs = [] := (HO.lst.inj (Option.some.inj e3)).symm
            rw [this] at lvs
            simp at lvs
            omega
          refine iteT ⟨fun σ' H'' => σ' = [some (.ref p), some (.ref D), some (.int (i : Int)), some (optV oi), some (.int (((k' + 1 : Nat) : Int) - 1))] ∧ ∃ u, H3 u = none ∧ H'' = upd (upd H3 u (.lst [.int a, .int (j - 1)])) D (.lst (vs.set k' (.ref u))), fun σ' H'' z => ?_, ?_⟩
          · obtain ⟨z1, u, nu, z2⟩ := z
            have nuD : u ≠ D := fun y => by rw [y, e3] at nu; cases nu
            have sU := same_upd (o := .lst [.int a, .int (j - 1)]) nu
            refine ⟨k', Nat.lt_succ_self k', vs.set k' (.ref u), es.set k' (a, some (j - 1)), by rw [z1, hi1], ?_, ?_, by rw [z2]; exact upd_same, ?_, by rw [List.length_set]; exact les, by omega, h1', hg2⟩
            · rw [z2]
              intro b o e
              rw [upd_ne (fun y => by rw [y, nD] at e; cases e)]
              exact sU _ _ (s3 _ _ e)
            · rw [z2, upd_ne (Ne.symm nDD)]
              exact sU _ _ z3
            · rw [z2, hw_upd (W := fun b => b = D) (a := D) rfl, List.map_set]
              refine RpAll.set (RpAll.sm (Same.hw sU) hv) (.lst (xs := [.int a, .int (j - 1)]) ?_ (.cons (.int a) (.cons (.int (j - 1)) .nil)))
              rw [Hw.at (W := fun b => b = D) (show ¬ (u = D) from nuD)]
              exact upd_same
          · refine ⟨.int ((k' + 1 : Nat) : Int), rfl, ((k' + 1 : Nat) : Int), 1, rfl, rfl, rd rfl rfl (atI_nat (j := 1) rfl) ⟨_, rfl, iteT ?_⟩⟩
            refine rd rfl rfl (atI_nat (j := 0) rfl) (rd rfl rfl (atI_nat (j := 1) rfl) ⟨j, 1, rfl, rfl, small_le (by show 2 ≤ 1000; decide), fun u nu => ?_⟩)
            exact ⟨.ref D, rfl, .int (((k' + 1 : Nat) : Int) - 1), rfl, D, vs, ((k' + 1 : Nat) : Int) - 1, k', rfl, rfl, same_upd nu _ _ e3, by rw [hi1]; exact ixN_nat (by omega), rfl, u, nu, rfl⟩
  · obtain ⟨D, y2, y3, y4, vs, es, rfl, s2, z0, nD, eD, hv, h1, h2⟩ := hP
    rw [lx] at h1 h2
    exact ⟨.ref D, rfl, q D es H2 s2 nD (.lst eD (RpAll.sm (Hw.sub _ _) hv)) h1 h2⟩
end
end CL
set_option Elab.async false
set_option linter.all false
set_option maxRecDepth 100000
set_option maxHeartbeats 4000000
namespace CL
open PySem PySem.Spec PyProof.Rows L2 GE
/-! ### a list's things don't hold the list -/
mutual
theorem Rp.uniq {H : Hp} : ∀ (d e : PyData) (v : V), Rp H v d → Rp H v e → d = e
  | .none, _, _, h, k => by cases h; cases k; rfl
  | .bool b, _, _, h, k => by cases h; cases k; rfl
  | .int i, _, _, h, k => by cases h; cases k; rfl
  | .str x, _, _, h, k => by cases h; cases k; rfl
  | .list ds, _, _, h, k => by
    cases h with
    | lst h1 h2 =>
      cases k with
      | lst k1 k2 => rw [h1] at k1; cases k1; rw [RpAll.uniq ds _ _ h2 k2]
      | tup k1 k2 => rw [h1] at k1; cases k1
      | dct k1 => rw [h1] at k1; cases k1
  | .tuple ds, _, _, h, k => by
    cases h with
    | tup h1 h2 =>
      cases k with
      | lst k1 k2 => rw [h1] at k1; cases k1
      | tup k1 k2 => rw [h1] at k1; cases k1; rw [RpAll.uniq ds _ _ h2 k2]
      | dct k1 => rw [h1] at k1; cases k1
  | .dict _, _, _, h, k => by
    cases h with
    | dct h1 =>
      cases k with
      | lst k1 k2 => rw [h1] at k1; cases k1
      | tup k1 k2 => rw [h1] at k1; cases k1
      | dct k1 => rfl
theorem RpAll.uniq {H : Hp} : ∀ (ds es : List PyData) (vs : List V), RpAll H vs ds → RpAll H vs es → ds = es
  | [], _, _, h, k => by cases h; cases k; rfl
  | d :: ds, _, _, h, k => by
    cases h with
    | cons h1 h2 =>
      cases k with
      | cons k1 k2 => rw [Rp.uniq d _ _ h1 k1, RpAll.uniq ds _ _ h2 k2]
end
theorem szl (ds : List PyData) : sizeOf ds < sizeOf (PyData.list ds) := by simp
theorem szt (ds : List PyData) : sizeOf ds < sizeOf (PyData.tuple ds) := by simp
mutual
theorem Rp.out {H : Hp} {p : Addr} {e : PyData} (he : Rp H (.ref p) e) : ∀ (d : PyData) (v : V), Rp H v d → sizeOf d < sizeOf e → Rp (Hw (fun b => b = p) H) v d
  | .none, _, h, _ => by cases h; exact .non
  | .bool b, _, h, _ => by cases h; exact .bl b
  | .int i, _, h, _ => by cases h; exact .int i
  | .str x, _, h, _ => by cases h; exact .str x
  | .list ds, _, h, lt => by
    cases h with
    | @lst a xs _ h1 h2 =>
      have n : ¬ (a = p) := fun z => by
        subst z
        rw [Rp.uniq _ _ _ he (.lst h1 h2)] at lt
        exact Nat.lt_irrefl _ lt
      exact .lst (by rw [Hw.at (W := fun b => b = p) n]; exact h1) (RpAll.out he ds _ h2 (Nat.lt_trans (szl ds) lt))
  | .tuple ds, _, h, lt => by
    cases h with
    | @tup a xs _ h1 h2 =>
      have n : ¬ (a = p) := fun z => by
        subst z
        rw [Rp.uniq _ _ _ he (.tup h1 h2)] at lt
        exact Nat.lt_irrefl _ lt
      exact .tup (by rw [Hw.at (W := fun b => b = p) n]; exact h1) (RpAll.out he ds _ h2 (Nat.lt_trans (szt ds) lt))
  | .dict kvs, _, h, lt => by
    cases h with
    | @dct a h1 =>
      have n : ¬ (a = p) := fun z => by
        subst z
        rw [Rp.uniq _ _ _ he (.dct h1)] at lt
        exact Nat.lt_irrefl _ lt
      exact .dct (by rw [Hw.at (W := fun b => b = p) n]; exact h1)
theorem RpAll.out {H : Hp} {p : Addr} {e : PyData} (he : Rp H (.ref p) e) : ∀ (ds : List PyData) (vs : List V), RpAll H vs ds → sizeOf ds < sizeOf e → RpAll (Hw (fun b => b = p) H) vs ds
  | [], _, h, _ => by cases h; exact .nil
  | d :: ds, _, h, lt => by
    cases h with
    | cons h1 h2 =>
      have : sizeOf (d :: ds) = 1 + sizeOf d + sizeOf ds := by simp
      exact .cons (Rp.out he d _ h1 (by omega)) (RpAll.out he ds _ h2 (by omega))
end
theorem rp_parts {H : Hp} {p : Addr} {xs : List V} {ds : List PyData} (h1 : H p = some (.lst xs)) (h2 : RpAll H xs ds) : RpAll (Hw (fun b => b = p) H) xs ds :=
  RpAll.out (.lst h1 h2) ds xs h2 (szl ds)
theorem hw_hw {W : Addr → Prop} {p : Addr} {H : Hp} : Same (Hw (fun b => b = p) (Hw W H)) (Hw (fun b => W b ∨ b = p) H) := fun b o e => by
  have n1 := Hw.ne e
  rw [Hw.at (W := fun b => b = p) n1] at e
  have n2 := Hw.ne e
  rw [Hw.at n2] at e
  rw [Hw.at (W := fun b => W b ∨ b = p) (fun z => z.elim n2 n1)]
  exact e
/-- the list is written to -/
theorem rp_write {W : Addr → Prop} {H : Hp} {p : Addr} {xs ys : List V} {ds es : List PyData} (h1 : Hw W H p = some (.lst xs)) (h2 : RpAll (Hw W H) xs ds) (h : RpAll (Hw (fun b => W b ∨ b = p) H) xs ds → RpAll (Hw (fun b => W b ∨ b = p) H) ys es) : Rp (Hw W (upd H p (.lst ys))) (.ref p) (.list es) := by
  refine .lst (xs := ys) ?_ ?_
  · rw [Hw.at (Hw.ne h1)]
    exact upd_same
  · refine RpAll.sm (Hw.less (W := W) (W' := fun b => W b ∨ b = p) fun b hb => .inl hb) ?_
    rw [hw_upd (W := fun b => W b ∨ b = p) (a := p) (.inr rfl)]
    exact h (RpAll.sm hw_hw (rp_parts h1 h2))
/-! ### pieces and patiences -/
theorem pcsR_snoc : ∀ (f : Int) (rs : List RowT) (x : RowT), pcsR f (rs ++ [x]) = pcsR f rs ++ [(f + sumW rs, pastO (f + sumW rs) x.2, x.1.map pdO)]
  | f, [], x => by
    have e : f + sumW [] = f := Int.add_zero f
    rw [e]
    rfl
  | f, y :: rs, x => by
    have e : f + sumW (y :: rs) = f + worth y.2 + sumW rs := by
      show f + (worth y.2 + sumW rs) = _
      omega
    rw [e]
    show _ :: pcsR _ (rs ++ [x]) = _ :: (pcsR _ rs ++ _)
    rw [pcsR_snoc]
theorem worth_nn {m : PyData} (h : isMany m = true) : 0 ≤ worth m := by
  cases m with
  | int i => exact of_decide_eq_true h
  | _ => exact Int.le_refl 0
theorem sumW_nn : ∀ {rs : List RowT}, (∀ x ∈ rs, isMany x.2 = true) → 0 ≤ sumW rs
  | [], _ => Int.le_refl 0
  | x :: rs, h => by
    have ih := sumW_nn (rs := rs) fun y hy => h y (List.mem_cons_of_mem _ hy)
    have hx := worth_nn (h x List.mem_cons_self)
    show 0 ≤ worth x.2 + sumW rs
    omega
theorem worth_le : ∀ {rs : List RowT}, (∀ x ∈ rs, isMany x.2 = true) → ∀ x ∈ rs, worth x.2 ≤ sumW rs
  | y :: rs, h, x, hx => by
    have ih := worth_le (rs := rs) fun z hz => h z (List.mem_cons_of_mem _ hz)
    have h0 := sumW_nn (rs := rs) fun z hz => h z (List.mem_cons_of_mem _ hz)
    have hy := worth_nn (h y List.mem_cons_self)
    show worth x.2 ≤ worth y.2 + sumW rs
    rcases List.mem_cons.mp hx with rfl | hx
    · omega
    · have := ih x hx
      omega
theorem fine_snoc {rs : List RowT} (f : Fine rs) : ∃ rs' x, rs = rs' ++ [x] ∧ (∀ y ∈ rs', isNone y.2 = false) := by
  have hl := f.lo
  have hne : rs ≠ [] := fun z => by rw [z] at hl; exact absurd hl (by decide)
  refine ⟨rs.dropLast, rs.getLast hne, (List.dropLast_concat_getLast hne).symm, fun y hy => f.last y ?_⟩
  rw [List.dropLast_eq_take] at hy
  exact hy
theorem many_int {m : PyData} (h : isNone m = false) (g : isMany m = true) : ∃ i : Int, m = .int i ∧ 0 ≤ i := by
  cases m with
  | int i => exact ⟨i, rfl, of_decide_eq_true g⟩
  | none => cases h
  | _ => cases g
theorem none_of (n : Int) : ∀ (f : Int) (rs : List RowT), (∀ x ∈ rs, isNone x.2 = false ∧ isMany x.2 = true) → f + sumW rs ≤ n → (pcsR f rs).find? (comes n) = none
  | _, [], _, _ => rfl
  | f, x :: rs, h, hn => by
    obtain ⟨hx1, hx2⟩ := h x List.mem_cons_self
    have hr := sumW_nn (rs := rs) fun y hy => (h y (List.mem_cons_of_mem _ hy)).2
    have hn' : f + (worth x.2 + sumW rs) ≤ n := hn
    obtain ⟨m, em, hm⟩ := many_int hx1 hx2
    show List.find? (comes n) ((f, pastO f x.2, x.1.map pdO) :: pcsR (f + worth x.2) rs) = none
    have hw : worth x.2 = m := by rw [em]; rfl
    have hc : comes n (f, pastO f x.2, x.1.map pdO) = false := by
      unfold comes
      rw [em]
      show decide (n < f + m) = false
      exact decide_eq_false (by omega)
    rw [List.find?_cons, hc]
    exact none_of n (f + worth x.2) rs (fun y hy => h y (List.mem_cons_of_mem _ hy)) (by omega)
theorem said_len (most : Nat) : ∀ (rs : List RowT) (acc : List (Option Int)), (∀ x ∈ rs, isNone x.2 = false ∧ isMany x.2 = true) → acc.length ≤ most → ((said most acc rs).length : Int) = min (most : Int) (acc.length + sumW rs)
  | [], acc, _, h => by
    show (acc.length : Int) = min (most : Int) (acc.length + 0)
    omega
  | x :: rs, acc, g, h => by
    obtain ⟨hx1, hx2⟩ := g x List.mem_cons_self
    obtain ⟨m, em, hm⟩ := many_int hx1 hx2
    have h0 := sumW_nn (rs := rs) fun z hz => (g z (List.mem_cons_of_mem _ hz)).2
    have hs : sizeO most acc.length x.2 = min m.toNat (most - acc.length) := by rw [em]; rfl
    have ew : worth x.2 = m := by rw [em]; rfl
    have ih := said_len most rs (acc ++ seg x (sizeO most acc.length x.2)) (fun y hy => g y (List.mem_cons_of_mem _ hy)) (by rw [List.length_append, seg_len]; omega)
    have e : said most acc (x :: rs) = said most (acc ++ seg x (sizeO most acc.length x.2)) rs := rfl
    rw [e, ih, List.length_append, seg_len]
    show min (most : Int) _ = min (most : Int) (acc.length + (worth x.2 + sumW rs))
    omega
theorem said_full (most : Nat) {rs : List RowT} {x : RowT} (e : x.2 = .none) : (said most [] (rs ++ [x])).length = most := by
  rw [said_snoc, List.length_append, seg_len, e]
  have := said_le most rs [] (Nat.zero_le _)
  show _ + (most - _) = most
  omega
theorem has_snoc {f : Int} {rs : List RowT} {x : RowT} {n : Int} {d : PyData} (h : HasP (pcsR f rs) n d) : HasP (pcsR f (rs ++ [x])) n d := by
  obtain ⟨pp, h1, h2, h3⟩ := h
  exact ⟨pp, by rw [pcsR_snoc, List.find?_append, h1]; rfl, h2, h3⟩
theorem has_last {rs : List RowT} {x : RowT} (g : ∀ y ∈ rs, isNone y.2 = false ∧ isMany y.2 = true) {k : Nat} {m : Int} (em : x.2 = .int m) (hk : (k : Int) < m) {o : Option Int} (hl : 1 ≤ x.1.length) (ho : x.1[k % x.1.length]? = some o) : HasP (pcsR 0 (rs ++ [x])) (sumW rs + (k : Int)) (optD o) := by
  refine ⟨(0 + sumW rs, pastO (0 + sumW rs) x.2, x.1.map pdO), ?_, by show 0 < (x.1.map pdO).length; rw [List.length_map]; omega, ?_⟩
  · rw [pcsR_snoc, List.find?_append, none_of _ 0 rs g (by omega)]
    have hc : comes (sumW rs + (k : Int)) (0 + sumW rs, pastO (0 + sumW rs) x.2, x.1.map pdO) = true := by
      unfold comes
      rw [em]
      show decide (sumW rs + (k : Int) < 0 + sumW rs + m) = true
      exact decide_eq_true (by omega)
    rw [List.find?_cons, hc]
    rfl
  · show (x.1.map pdO)[((sumW rs + (k : Int) - (0 + sumW rs)) % ((x.1.map pdO).length : Int)).toNat]? = _
    have e : sumW rs + (k : Int) - (0 + sumW rs) = (k : Int) := by omega
    rw [e, List.length_map]
    have e2 : ((k : Int) % (x.1.length : Int)).toNat = k % x.1.length := rfl
    rw [e2, List.getElem?_map, ho, Option.map_some, pdO_optD]
theorem optD_inj : ∀ {a b : Option Int}, optD a = optD b → a = b
  | none, none, _ => rfl
  | some i, some j, e => by cases e; rfl
  | none, some _, e => by cases e
  | some _, none, e => by cases e
theorem has_uniq {ps : List PieceT} {n : Int} {d e : PyData} (h : HasP ps n d) (k : HasP ps n e) : d = e := by
  obtain ⟨p1, a1, _, a3⟩ := h
  obtain ⟨p2, b1, _, b3⟩ := k
  rw [a1] at b1
  cases b1
  rw [a3] at b3
  exact Option.some.inj b3
theorem said_pat {most : Nat} {rs : List RowT} (g : ∀ x ∈ rs, GoodRow x) {k : Nat} (h : k < (said most [] rs).length) : HasP (pcsR 0 rs) (k : Int) (optD (patL (said most [] rs) k)) := by
  obtain ⟨o, ho, hp⟩ := said_has most rs [] 0 g rfl (Nat.zero_le _) k (Nat.zero_le _) h
  unfold patL
  rw [ho]
  exact hp
theorem patL_take {os : List (Option Int)} {m k : Nat} (h : k < m) : patL (os.take m) k = patL os k := by
  unfold patL
  rw [List.getElem?_take_of_lt h]
theorem patL_app {os es : List (Option Int)} {k : Nat} (h : k < os.length) : patL (os ++ es) k = patL os k := by
  unfold patL
  rw [List.getElem?_append_left h]
theorem mom_of {P1 P2 C C3 C4 : Addr} {d : PyData} {rs : List RowT} {os : List (Option Int)} {n : Nat} {H : Hp} {E : XK} {R : (Nat → Option Int) → Nat → Prop} (hd : isPlan d = true) (hp : piecesOf d = pcsR 0 rs) (hF : Fine rs) (h2 : n ≤ 2000)
    (hm : ∀ rs' x, rs = rs' ++ [x] → isNone x.2 = false → (n : Int) ≤ sumW rs) (hh : ∀ k : Nat, k < n → HasP (pcsR 0 rs) (k : Int) (optD (patL os k))) (h : ∀ pat, lined pat n = lined (patL os) n → R pat n) : MomP P1 P2 C C3 C4 d (.int (n : Int)) H E R := by
  refine ⟨fun z => (by rw [hd] at z; cases z), fun _ => ?_⟩
  obtain ⟨rs', x, rfl, hno⟩ := fine_snoc hF
  have gx := (hF.row x (List.mem_append_right _ List.mem_cons_self)).many
  have hmo : momentOk (pastO (0 + sumW rs') x.2) (.int (n : Int)) = true := by
    rw [momentOk_int, decide_eq_true (by omega : (0 : Int) ≤ (n : Int)), decide_eq_true (by show (n : Int) ≤ 1000000000000000000000000000000; omega)]
    cases e : x.2 with
    | int m =>
      have z := hm rs' x rfl (by rw [e]; rfl)
      rw [sumW_snoc2, e] at z
      have z' : (n : Int) ≤ sumW rs' + m := z
      show (true && true && decide ((n : Int) ≤ 0 + sumW rs' + m)) = true
      rw [decide_eq_true (by omega)]
      rfl
    | none => rfl
    | _ => rw [e] at gx; cases gx
  refine ⟨_, _, by rw [hp]; exact pcsR_snoc 0 rs' x, fun z => ?_, fun _ => ⟨n, rfl, fun z => absurd z (by omega), fun _ pat hpat => ?_⟩⟩
  · have z' : momentOk (pastO (0 + sumW rs') x.2) (.int (n : Int)) = false := z
    rw [hmo] at z'
    cases z'
  · refine h pat (lined_congr n fun k hk => ?_)
    have h1 := hpat k hk
    rw [hp] at h1
    exact optD_inj (has_uniq h1 (hh k hk))
/-! ### what is told, as data -/
theorem goes_good : ∀ (p : Nat) (l : List (Option Int)), (∀ o ∈ l, goodO o) → ∀ o ∈ (goes p l).2, goodO o
  | 0, l, h => h
  | p + 1, l, h => by
    unfold goes
    split
    · rename_i k hk
      split
      · exact h
      · rename_i h0
        refine goes_good p _ fun o ho => ?_
        rcases List.mem_or_eq_of_mem_set ho with ho | rfl
        · exact h o ho
        · have g : 0 ≤ k ∧ k ≤ GREAT := h _ (List.mem_of_getElem? hk)
          exact ⟨by omega, by have := g.2; omega⟩
    · exact goes_good p l h
    · exact h
theorem lined_good {pat : Nat → Option Int} : ∀ m : Nat, (∀ n, n < m → goodO (pat n)) → (∀ o ∈ (lined pat m).2, goodO o) ∧ ∀ i ∈ (lined pat m).1, 0 ≤ i ∧ i < (m : Int)
  | 0, _ => ⟨fun o ho => (nomatch ho), fun o ho => (nomatch ho)⟩
  | m + 1, h => by
    obtain ⟨h1, h2⟩ := lined_good m fun n hn => h n (by omega)
    have hg := goes_good (lined pat m).1.length _ h1
    refine ⟨fun o ho => ?_, fun i hi => ?_⟩
    · have ho' : o ∈ (goes (lined pat m).1.length (lined pat m).2).2.take (goes (lined pat m).1.length (lined pat m).2).1 ++ [pat m] ++ (goes (lined pat m).1.length (lined pat m).2).2.drop (goes (lined pat m).1.length (lined pat m).2).1 := ho
      rcases List.mem_append.mp ho' with ho | ho
      · rcases List.mem_append.mp ho with ho | ho
        · exact hg o (List.mem_of_mem_take ho)
        · rw [List.mem_singleton.mp ho]
          exact h m (by omega)
      · exact hg o (List.mem_of_mem_drop ho)
    · have hi' : i ∈ (lined pat m).1.take (goes (lined pat m).1.length (lined pat m).2).1 ++ [(m : Int)] ++ (lined pat m).1.drop (goes (lined pat m).1.length (lined pat m).2).1 := hi
      rcases List.mem_append.mp hi' with hi | hi
      · rcases List.mem_append.mp hi with hi | hi
        · have := h2 i (List.mem_of_mem_take hi)
          omega
        · rw [List.mem_singleton.mp hi]
          omega
      · have := h2 i (List.mem_of_mem_drop hi)
        omega
theorem seg_good {x : RowT} (g : GoodRow x) (n : Nat) : ∀ o ∈ seg x n, goodO o := fun o ho => by
  obtain ⟨k, _, rfl⟩ := List.mem_map.mp ho
  cases e : x.1[k % x.1.length]? with
  | none => exact trivial
  | some y => exact g.pat y (List.mem_of_getElem? e)
theorem said_good (most : Nat) : ∀ (rs : List RowT) (acc : List (Option Int)), (∀ x ∈ rs, GoodRow x) → (∀ o ∈ acc, goodO o) → ∀ o ∈ said most acc rs, goodO o
  | [], acc, _, h => h
  | x :: rs, acc, g, h => said_good most rs _ (fun y hy => g y (List.mem_cons_of_mem _ hy)) fun o ho => by
    rcases List.mem_append.mp ho with ho | ho
    · exact h o ho
    · exact seg_good (g x List.mem_cons_self) _ o ho
theorem patL_good {os : List (Option Int)} (h : ∀ o ∈ os, goodO o) (n : Nat) : goodO (patL os n) := by
  unfold patL
  cases e : os[n]? with
  | none => exact trivial
  | some y => exact h y (List.mem_of_getElem? e)
theorem b_opt {o : Option Int} (h : goodO o) : B 97 200 (optD o) := by
  cases o with
  | none => exact b_none
  | some i =>
    refine b_int ?_
    have h1 : 0 ≤ i := h.1
    have h2 : i ≤ 1000000000000000000000000000000 := h.2
    omega
def twoD (is : List Int) (os : List (Option Int)) : PyData := .list [.list (is.map PyData.int), .list (os.map optD)]
theorem b_two {is : List Int} {os : List (Option Int)} (h1 : is.length ≤ 2000) (h2 : os.length ≤ 2000) (hi : ∀ i ∈ is, 0 ≤ i ∧ i < 2000) (ho : ∀ o ∈ os, goodO o) : B 100 10000000 (twoD is os) := by
  refine (B.list (ds := [.list (is.map PyData.int), .list (os.map optD)]) (k := 98) (u := 404004) (n := 2) (fun x hx => ?_) (Nat.le_refl 2)).mono (by decide) (by decide)
  simp only [List.mem_cons, List.not_mem_nil, or_false] at hx
  rcases hx with rfl | rfl
  · refine (B.list (k := 97) (u := 200) (n := 2000) (fun x hx => ?_) (by rw [List.length_map]; exact h1)).mono (by decide) (by decide)
    obtain ⟨i, hi', rfl⟩ := List.mem_map.mp hx
    have := hi i hi'
    exact b_int (by omega)
  · refine (B.list (k := 97) (u := 200) (n := 2000) (fun x hx => ?_) (by rw [List.length_map]; exact h2)).mono (by decide) (by decide)
    obtain ⟨o, ho', rfl⟩ := List.mem_map.mp hx
    exact b_opt (ho o ho')
theorem rpAll_ints {H : Hp} : ∀ is : List Int, RpAll H (is.map V.int) (is.map PyData.int)
  | [] => .nil
  | i :: is => .cons (.int i) (rpAll_ints is)
theorem rpAll_opts {H : Hp} : ∀ os : List (Option Int), RpAll H (os.map optV) (os.map optD)
  | [] => .nil
  | o :: os => .cons (rp_opt2 o) (rpAll_opts os)
theorem rp_two {H : Hp} {p a b : Addr} {is : List Int} {os : List (Option Int)} (hp : H p = some (.lst [.ref a, .ref b])) (ha : H a = some (.lst (is.map V.int))) (hb : H b = some (.lst (os.map optV))) : Rp H (.ref p) (twoD is os) :=
  .lst hp (.cons (.lst ha (rpAll_ints is)) (.cons (.lst hb (rpAll_opts os)) .nil))
/-- what is handed in, as a text -/
theorem b_rows {W : List PyData → PyData} {n u : Nat} {k : Nat} {ds : List PyData} {d : PyData} (e : rowsD d = some ds) (h : ∀ x ∈ ds, B k u x) (hn : ds.length ≤ n) : B (k + 1) (n * (u + 2) + 4) d := by
  cases d with
  | list xs => cases e; exact B.list h hn
  | tuple xs => cases e; exact B.tuple h hn
  | _ => cases e
theorem b_dressed {rs : List RowT} {d : PyData} (h : Drs (.tuple (rs.map rowT)) d) (f : Fine rs) : B 100 10000000 d := by
  obtain ⟨es, he, ha⟩ := drs_rows h
  have hl : es.length = rs.length := by rw [← ha.length, List.length_map]
  have nn := worth_le fun y hy => (f.row y hy).many
  have hG : sumW rs ≤ 1000000000000000000000000000000 := f.sum
  have z : ∀ (rs' : List RowT) (es : List PyData), (∀ x ∈ rs', x ∈ rs) → DrsAll (rs'.map rowT) es → ∀ e ∈ es, B 99 4048 e := fun rs' => by
    induction rs' with
    | nil => intro es _ h e he; cases h; cases he
    | cons x rs' ih =>
      intro es hm h e he
      cases h with
      | cons h1 h2 =>
        rcases List.mem_cons.mp he with rfl | he
        · have g := f.row x (hm x List.mem_cons_self)
          obtain ⟨t, h3, h4⟩ := drs_row h1 g
          refine (b_rows (W := PyData.list) (k := 98) (u := 2020) (n := 2) h3 (fun y hy => ?_) (Nat.le_refl 2)).mono (by decide) (by decide)
          simp only [List.mem_cons, List.not_mem_nil, or_false] at hy
          rcases hy with rfl | rfl
          · refine (b_rows (W := PyData.list) (k := 97) (u := 200) (n := 8) h4 (fun y hy => ?_) (by rw [List.length_map]; exact g.hi)).mono (by decide) (by decide)
            obtain ⟨o, ho, rfl⟩ := List.mem_map.mp hy
            rw [pdO_optD]
            exact b_opt (g.pat o ho)
          · have gm := g.many
            have nx := nn x (hm x List.mem_cons_self)
            cases e2 : x.2 with
            | none => exact b_none.mono (Nat.le_refl _) (by decide)
            | int m =>
              rw [e2] at gm nx
              have m0 : 0 ≤ m := of_decide_eq_true gm
              have m1 : m ≤ sumW rs := nx
              exact (b_int (by omega)).mono (Nat.le_refl _) (by decide)
            | _ => rw [e2] at gm; cases gm
        · exact ih _ (fun y hy => hm y (List.mem_cons_of_mem _ hy)) h2 e he
  exact (b_rows (W := PyData.list) (k := 99) (u := 4048) (n := 8) he (z rs es (fun _ h => h) ha) (by rw [hl]; exact f.hi)).mono (by decide) (by decide)
/-! ### == of lists of None and numbers -/
theorem opts_dp {K : PySem.W.Frag} {H : Hp} : ∀ os : List (Option Int), DpAll K H (os.map optV) (os.map optD)
  | [] => .nil
  | o :: os => .cons (optV_dp o) (opts_dp os)
theorem opts_lay : ∀ os : List (Option Int), PyData.canLayAll0 (os.map optD) = true
  | [] => rfl
  | none :: os => by simp [PyData.canLayAll0, PyData.canLay0, optD, opts_lay os]
  | some _ :: os => by simp [PyData.canLayAll0, PyData.canLay0, optD, opts_lay os]
theorem opts_depth : ∀ os : List (Option Int), PyData.depthAll (os.map optD) = 0
  | [] => rfl
  | none :: os => by simp [PyData.depthAll, PyData.depth, optD, opts_depth os]
  | some _ :: os => by simp [PyData.depthAll, PyData.depth, optD, opts_depth os]
theorem opts_shaped (os : List (Option Int)) : SeqAt.shaped (.list (os.map optD)) = true := by
  unfold SeqAt.shaped
  simp [PyData.canLay0, PyData.depth, opts_lay os, opts_depth os]
theorem opts_lay1 (os : List (Option Int)) : (PyData.list (os.map optD)).canLay0 = true := by
  simp [PyData.canLay0, opts_lay os]
theorem ints_lay1 (is : List Int) : (PyData.list (is.map PyData.int)).canLay0 = true := by
  simp [PyData.canLay0, ints_lay is]
theorem dp_ints {K : PySem.W.Frag} {H : Hp} {p : Addr} {is : List Int} (h : H p = some (.lst (is.map V.int))) : Dp K H (.ref p) (.list (is.map PyData.int)) := .lst (SqL.of h) (ints_dp is)
theorem dp_opts {K : PySem.W.Frag} {H : Hp} {p : Addr} {os : List (Option Int)} (h : H p = some (.lst (os.map optV))) : Dp K H (.ref p) (.list (os.map optD)) := .lst (SqL.of h) (opts_dp os)
/-! ### [one[c] for one in stood] -/
theorem one_lc {K : PySem.W.Frag} {i j : Nat} {σ : L2.St} {H : Hp} {R : VK} {D : Addr} {es : List OneT} {c : Int} (f : OneT → V) (hf : ∀ x : OneT, atI [V.int x.1, optV x.2] c = some (f x)) (h0 : σ[i]? = some (some (.ref D)))
    (hw : ∀ v : V, wipe ((wipe σ [j]).set j (some v)) [j] = wipe σ [j]) (hv : ∀ v : V, ((wipe σ [j]).set j (some v))[j]? = some (some v)) (hR : Rp H (.ref D) (.list (es.map pD))) (hl : es.length ≤ 2100) (q : ∀ L, H L = none → R (.ref L) (upd H L (.lst (es.map f)))) :
    tLc (iList K (tVar i)) (gName j) tYes (tOp (rIxL K) (tVar j) (tC (.int c))) [j] σ H R := by
  obtain ⟨D', vs, e, hD, hA⟩ := rp_list hR
  obtain rfl := V.ref.inj e
  have hlv : vs.length = es.length := by rw [hA.length, List.length_map]
  have sz : 5000 ≤ sizeLine := by decide
  refine ⟨.ref D, h0, D, rfl, ⟨vs, SqL.of hD⟩, fun L nL => ?_⟩
  refine lc_list (xs := vs) (fun k H5 => H5 = upd H L (.lst ((es.take k).map f))) rfl (fun k H5 _ e => by rw [e]; exact SqL.of (same_upd nL _ _ hD)) (fun k x H5 hx e => ?_) (fun H5 e => ?_)
  · subst e
    obtain ⟨d, hd, hRx⟩ := hA.get hx
    obtain ⟨y, hy, rfl⟩ : ∃ y, es[k]? = some y ∧ d = pD y := by
      rw [List.getElem?_map] at hd
      cases z : es[k]? with
      | none => rw [z] at hd; cases hd
      | some y => rw [z] at hd; cases hd; exact ⟨y, rfl, rfl⟩
    obtain ⟨b, rfl, hb⟩ := one_at hRx
    refine ⟨hw _, yesT ⟨.ref b, hv _, b, _, c, f y, rfl, rfl, SqL.of (same_upd nL _ _ hb), hf y, _, upd_same, by rw [List.length_map, List.length_take]; omega, ?_⟩⟩
    rw [upd_upd, List.take_add_one, hy, List.map_append]
    rfl
  · rw [hlv, List.take_length] at e
    rw [e]
    exact q L nL
theorem one_fst (es : List OneT) : es.map (fun x => V.int x.1) = (es.map (·.1)).map V.int := by rw [List.map_map]; rfl
theorem one_snd (es : List OneT) : es.map (fun x => optV x.2) = (es.map (·.2)).map optV := by rw [List.map_map]; rfl
end CL
set_option Elab.async false
set_option linter.all false
set_option maxRecDepth 100000
set_option maxHeartbeats 4000000
namespace CL
open PySem PySem.Spec PyProof.Rows L2 GE
abbrev sFarR : Stmt := topS 37
abbrev nFarR : List Str := ["reel", "rows", "moment", "stood", "one"]
theorem scFarR : FnScope nFarR ["reel"] (defScope sFarR) := ⟨rfl, rfl, rfl, by decide +kernel, rfl, by decide +kernel, by decide +kernel⟩
theorem free_of {H : Hp} {r p : Addr} {vs : List V} {b : Addr} (hr : ReelAt H r) (n : p ≠ r) (h : H p = some (.lst vs)) (hm : V.ref b ∈ vs) : Free H r p := ⟨n, fun xs e m => by
  obtain ⟨g, t, gs, ts, n', st, er, eg, et, _⟩ := hr
  rw [er] at e
  cases e
  have no : ∀ ks : List Int, vs ≠ ks.map V.int := fun ks z => by
    rw [z] at hm
    obtain ⟨k, _, hk⟩ := List.mem_map.mp hm
    cases hk
  simp only [List.mem_cons, V.ref.injEq, List.not_mem_nil, or_false, reduceCtorEq] at m
  rcases m with m | m
  · rw [m, eg] at h
    exact no gs (HO.lst.inj (Option.some.inj h)).symm
  · rw [m, et] at h
    exact no ts (HO.lst.inj (Option.some.inj h)).symm⟩
theorem Wk.upd {W : Addr → Prop} {H : Hp} {r p : Addr} {o : HO} (k : Wk W H r) : Wk W (upd H p o) r := ⟨k.reel, fun b hb => by
  by_cases e : b = p
  · rw [e, upd_same]; exact nofun
  · rw [upd_ne e]; exact k.trk b hb⟩
theorem fine_none {rs : List RowT} {x : RowT} (f : Fine (rs ++ [x])) : Fine (rs ++ [(x.1, PyData.none)]) := by
  have hrow := f.row x (List.mem_append_right _ (List.mem_singleton.mpr rfl))
  have hl := f.lo
  have hh := f.hi
  have hS := f.sum
  rw [List.length_append, List.length_singleton] at hl hh
  refine ⟨by rw [List.length_append, List.length_singleton]; exact hl, by rw [List.length_append, List.length_singleton]; exact hh, fun y hy => ?_, fun y hy => ?_, ?_⟩
  · rcases List.mem_append.mp hy with hy | hy
    · exact f.row y (List.mem_append_left _ hy)
    · rw [List.mem_singleton.mp hy]
      exact ⟨hrow.lo, hrow.hi, hrow.pat, rfl⟩
  · refine f.last y ?_
    rw [List.length_append, List.length_singleton, Nat.add_sub_cancel, List.take_left' rfl] at hy ⊢
    exact hy
  · rw [sumW_snoc2] at hS ⊢
    have := worth_nn hrow.many
    show sumW rs + 0 ≤ GREAT
    omega
theorem fine_pieces {rs : List RowT} : piecesOf (.list (rs.map rowD)) = pcsR 0 rs := pcs_rows 0 rs
def spFarR (P1 P2 r : Addr) : Sp := fun vs H Q _ => ∃ W, vs = [.ref r] ∧ ReelAt H r ∧ Wk W H r ∧ Tb P1 P2 H ∧ ∀ H', Q (.bl true) H'
section
variable {P : Program} {w : World} {K : PySem.W.Frag} {mg : Str → Option Value} {base : Heap}
theorem ok_farR {f r P1 P2 C C3 C4 : Addr} {fd : FuncData} (F : Fun K "_law_far_right" "_law_far_right" sFarR f fd) (T : Nm mg)
    (CN : Cal P w K mg base 4 "_law_near_rows" ["reel", "most", "ends"] (spNear r)) (CD : Cal P w K mg base 1 "_law_draw" ["reel", "many"] (spDraw r)) (CS : Cal P w K mg base 1 "_law_said_over" ["rows", "most"] spSaid) (CT : Cal P w K mg base 1 "_law_stood" ["patiences"] spStood)
    (CQ : CalX P w K mg base 11 "queue_at" ["plan", "moment"] (spQueue P1 P2 C C3 C4)) (CL : CalX P w K mg base 11 "left_at" ["plan", "moment"] (spLeft P1 P2 C C3 C4)) : FnOk P w K mg base CX0 12 f fd ["reel"] (spFarR P1 P2 r) := by
  refine F.ok scFarR (fun vs H Q E ⟨W, e, _⟩ => by rw [e]; rfl) (fun cdv A outer s H vs Q E hr h => ?_)
  obtain ⟨W, rfl, hre, hW, hTb, q⟩ := h
  have nd := scFarR.nd
  have sz : 5000 ≤ sizeLine := by decide
  refine ⟨_, (pss_cons (ps_set (i := 1) nd rfl (.inl rfl) (pe_cal (CN.mono (by decide)) hr (by rfl) (pa_cons (pv 0) (pa_cons (pe_ix ix_list (pe_lst (pa_cons pe_int (pa_cons pe_int (pa_cons (pe_op op_pow pe_int pe_int) pa_nil)))) (pe_cal (CD.mono (by decide)) hr (by rfl) (pa_cons (pv 0) (pa_cons pe_int pa_nil))) (fun _ _ => rfl)) (pa_cons pe_bl pa_nil)))))
    (pss_cons (ps_asg (pe_tup (pa_cons (pe_ix ix_tup (pe_ix ix_list (pv 1) (pe_un un_neg pe_int) (fun _ _ => rfl)) pe_int (fun _ _ => rfl)) (pa_cons pe_non pa_nil))) (pg_sub (pv 1) (pe_un un_neg pe_int) set_list))
    (pss_cons (ps_set (i := 2) nd rfl (.inl rfl) (pe_op op_add pe_int (pe_cal (CD.mono (by decide)) hr (by rfl) (pa_cons (pv 0) (pa_cons (pe_ix ix_list (pe_lst (pa_cons pe_int (pa_cons pe_int pa_nil))) (pe_callTy call_int1 (by rfl) T.int PyProof.Rows.boot_int (pa_cons (pe_cmpR op_eq (pe_cal (CD.mono (by decide)) hr (by rfl) (pa_cons (pv 0) (pa_cons pe_int pa_nil))) pe_int (nomark _)) pa_nil)) (fun _ _ => rfl)) pa_nil)))))
    (pss_cons (ps_set (i := 3) nd rfl (.inl rfl) (pe_cal (CT.mono (by decide)) hr (by rfl) (pa_cons (pe_cal (CS.mono (by decide)) hr (by rfl) (pa_cons (pv 1) (pa_cons (pv 2) pa_nil))) pa_nil)))
    (pss_cons (ps_if (pt_cmpR (op_neD hr.units) (pe_calX CQ hr (by rfl) (passes_call takes0 fun _ _ _ _ h => h) (pa_cons (pv 1) (pa_cons (pv 2) pa_nil)))
        (pe_lc (own := [("one", 4)]) (g := gName 4) (tt := tYes) rfl nd (pi_list (pv 3)) (blkOk_by (N := nFarR) (sc := defScope sFarR) (by decide +kernel)) (fun _ _ _ _ _ => pg_name (i := 4) nd rfl (.inl rfl) (.inr rfl)) (fun _ _ _ _ _ => pts_nil) (fun _ _ _ _ _ => pe_ix ix_blk (pv 4) pe_int (fun _ _ => rfl))) (nomark _)) (pss_one (ps_ret pe_bl)) pss_nil)
    (pss_one (ps_ret (pe_cmpR (op_eqD hr.units) (pe_calX CL hr (by rfl) (passes_call takes0 fun _ _ _ _ h => h) (pa_cons (pv 1) (pa_cons (pv 2) pa_nil)))
        (pe_lc (own := [("one", 4)]) (g := gName 4) (tt := tYes) rfl nd (pi_list (pv 3)) (blkOk_by (N := nFarR) (sc := defScope sFarR) (by decide +kernel)) (fun _ _ _ _ _ => pg_name (i := 4) nd rfl (.inl rfl) (.inr rfl)) (fun _ _ _ _ _ => pts_nil) (fun _ _ _ _ _ => pe_ix ix_blk (pv 4) pe_int (fun _ _ => rfl))) (nomark _))))))))), ?_⟩
  -- rows
  refine ⟨.ref r, rfl, 10, 30, rfl, rfl, ⟨by decide, by decide, by decide⟩, small_le (by show 3 ≤ 1000; decide), fun p np => ?_⟩
  have s1 := same_upd (o := .lst [.int 4, .int 60, .int ((10 : Int) ^ (30 : Int).toNat)]) np
  have ep : (upd H p (.lst [.int 4, .int 60, .int ((10 : Int) ^ (30 : Int).toNat)])) p = some (.lst [.int 4, .int 60, .int ((10 : Int) ^ (30 : Int).toNat)]) := upd_same
  have npr := (hre.new np).ne
  generalize upd H p (.lst [.int 4, .int 60, .int ((10 : Int) ^ (30 : Int).toNat)]) = H1 at s1 ep
  have re1 := hre.same s1
  have W1 := hW.mv re1 (Mv.of s1 hre)
  have tb1 := hTb.same s1
  refine ⟨.ref r, rfl, 3, rfl, re1, by decide, by decide, fun x H2 re2 m2 x0 x1 => ?_⟩
  obtain ⟨z, hz, z0, z1⟩ : ∃ z, atI [V.int 4, .int 60, .int ((10 : Int) ^ (30 : Int).toNat)] x = some (.int z) ∧ 0 ≤ z ∧ z ≤ GREAT := by
    have hh : x = 0 ∨ x = 1 ∨ x = 2 := by omega
    rcases hh with z | z | z <;> rw [z]
    · exact ⟨4, atI_nat (j := 0) rfl, by decide, by decide⟩
    · exact ⟨60, atI_nat (j := 1) rfl, by decide, by decide⟩
    · exact ⟨GREAT, by rw [p30]; exact atI_nat (j := 2) rfl, by decide, by decide⟩
  refine ⟨p, _, x, .int z, rfl, rfl, SqL.of (m2.keep p _ npr ep), hz, z, true, W, rfl, re2, W1.mv re2 m2, z0, z1, fun pr rs H3 re3 m3 hp3 hF hs => ?_⟩
  have W3 := (W1.mv re2 m2).mv re3 m3
  have tb3 := (tb1.mv re1 m2).mv re2 m3
  clear ep s1 tb1
  -- rows[-1] = (rows[-1][0], None)
  obtain ⟨rs', row, rfl, hno⟩ := fine_snoc hF
  obtain ⟨p', xs, e, hp, hx⟩ := rp_list hp3
  obtain rfl := V.ref.inj e
  have nWp := Hw.ne hp
  have npr3 : pr ≠ r := fun z => nWp (by rw [z]; exact W3.reel)
  obtain ⟨vs', v, rfl, hA, hv⟩ : ∃ vs' v, xs = vs' ++ [v] ∧ RpAll (Hw W H3) vs' (rs'.map rowD) ∧ Rp (Hw W H3) v (rowD row) := by
    rw [List.map_append] at hx
    exact RpAll.unsnoc hx
  obtain ⟨b, vt, vm, rfl, hb, ht⟩ : ∃ b vt vm, v = .ref b ∧ Hw W H3 b = some (.tup [vt, vm]) ∧ Rp (Hw W H3) vt (.list (row.1.map pdO)) := by
    cases hv with
    | @tup b xs _ hb hxs =>
      cases hxs with
      | @cons vt _ _ _ ht hxs2 =>
        cases hxs2 with
        | @cons vm _ _ _ hm hxs3 =>
          cases hxs3
          exact ⟨b, vt, vm, rfl, hb, ht⟩
  have hb' := Hw.sub _ _ _ _ hb
  refine ⟨.ref pr, rfl, 1, rfl, pr, _, -1, .ref b, rfl, rfl, SqL.of (Hw.sub _ _ _ _ hp), atI_last _ _, b, _, 0, vt, rfl, rfl, SqT.of hb', atI_nat (j := 0) rfl, small_le (by show 2 ≤ 1000; decide), fun u nu => ?_⟩
  have s4 := same_upd (o := .tup [vt, .non]) nu
  have eu : (upd H3 u (.tup [vt, .non])) u = some (.tup [vt, .non]) := upd_same
  have nWu : ¬ W u := W3.out nu
  have nup : u ≠ pr := fun z => by rw [z, Hw.sub _ _ _ _ hp] at nu; cases nu
  generalize upd H3 u (.tup [vt, .non]) = H4 at s4 eu
  have re4 := re3.same s4
  have W4 := W3.mv re4 (Mv.of s4 re3)
  have tb4 := tb3.same s4
  have hp4 := Same.hw (W := W) s4 _ _ hp
  refine ⟨.ref pr, rfl, 1, rfl, pr, _, -1, vs'.length, rfl, rfl, Hw.sub _ _ _ _ hp4, by rw [List.length_append]; exact ix_last _, ?_⟩
  have hset : (vs' ++ [V.ref b]).set vs'.length (.ref u) = vs' ++ [.ref u] := by simp
  rw [hset]
  have hp5 : Rp (Hw W (upd H4 pr (.lst (vs' ++ [.ref u])))) (.ref pr) (.list ((rs' ++ [(row.1, PyData.none)]).map rowD)) := rp_write hp4 (RpAll.sm (Same.hw (W := W) s4) hx) fun h => by
    rw [List.map_append] at h ⊢
    obtain ⟨vs2, v2, e2, hA2, hv2⟩ := RpAll.unsnoc h
    obtain ⟨e3, e4⟩ := List.append_inj' e2 rfl
    obtain rfl := e3
    obtain rfl := List.singleton_inj.mp e4
    refine hA2.snoc (.tup (xs := [vt, .non]) (by rw [Hw.at (W := fun b => W b ∨ b = pr) (fun z => z.elim nWu nup)]; exact eu) (.cons ?_ (.cons .non .nil)))
    cases hv2 with
    | @tup _ xs2 _ hb2 hxs2 =>
      have e5 := Hw.sub _ _ _ _ hb2
      rw [s4 _ _ hb'] at e5
      cases e5
      cases hxs2 with
      | cons ht2 _ => exact ht2
  have fr4 := free_of re4 npr3 (Hw.sub _ _ _ _ hp4) (List.mem_append_right _ (List.mem_singleton.mpr rfl))
  have re5 := re4.store (o := .lst (vs' ++ [.ref u])) fr4
  have W5 := W4.upd (p := pr) (o := .lst (vs' ++ [.ref u]))
  have tb5 := tb4.upd (o := .lst (vs' ++ [.ref u])) (p := pr) (fun ps z => by rw [Hw.sub _ _ _ _ hp4] at z; cases z)
  have hF5 := fine_none hF
  generalize upd H4 pr (.lst (vs' ++ [.ref u])) = H5 at hp5 re5 W5 tb5
  clear hp4 hp hx hA hv hb hb' ht s4 eu fr4 W4 W3 tb4 tb3 re4
  -- moment
  refine ⟨.ref r, rfl, small_le (by show 2 ≤ 1000; decide), fun p2 np2 => ?_⟩
  have s6 := same_upd (o := .lst [.int 300, .int 1600]) np2
  have ep2 : (upd H5 p2 (.lst [.int 300, .int 1600])) p2 = some (.lst [.int 300, .int 1600]) := upd_same
  have npr2 := (re5.new np2).ne
  generalize upd H5 p2 (.lst [.int 300, .int 1600]) = H6 at s6 ep2
  have re6 := re5.same s6
  have m56 := Mv.of s6 re5
  refine ⟨.ref r, rfl, 4, rfl, re6, by decide, by decide, fun y H7 re7 m7 y0 y1 => ⟨rfl, .inr ⟨_, rfl, ?_⟩⟩⟩
  obtain ⟨z2, hz2, z3, z4⟩ : ∃ z2, atI [V.int 300, .int 1600] (if (decide (V.int y = V.int 0)) = true then 1 else 0) = some (.int z2) ∧ 1 ≤ z2 ∧ z2 ≤ 1600 := by
    split
    · exact ⟨1600, atI_nat (j := 1) rfl, by decide, by decide⟩
    · exact ⟨300, atI_nat (j := 0) rfl, by decide, by decide⟩
  refine ⟨p2, _, _, .int z2, rfl, rfl, SqL.of (m7.keep p2 _ npr2 ep2), hz2, z2, rfl, re7, z3, by omega, fun m H8 re8 m8 m0 m1 => ⟨401, m, rfl, rfl, ?_⟩⟩
  obtain ⟨n, hn⟩ : ∃ n : Nat, 401 + m = (n : Int) := ⟨(401 + m).toNat, by omega⟩
  have hn2 : n ≤ 2000 := by omega
  show gName 2 (V.int (401 + m)) _ _ _
  rw [hn]
  have m58 := (m56.trans m7).trans m8
  have hp8 : Rp (Hw W H8) (.ref pr) (.list ((rs' ++ [(row.1, PyData.none)]).map rowD)) := Rp.sm (m58.hw W5.reel) hp5
  have hR8 := Rp.sm (Hw.sub W H8) hp8
  have tb8 := tb5.mv re5 m58
  -- stood
  have hos : (said n [] (rs' ++ [(row.1, PyData.none)])).length = n := said_full n rfl
  refine ⟨.ref pr, rfl, .int (n : Int), rfl, .ref pr, rs' ++ [(row.1, PyData.none)], (n : Int), n, rfl, rfl, hR8, hF5.row, hn2, fun sp H9 s9 nsp esp => ?_⟩
  refine ⟨sp, said n [] (rs' ++ [(row.1, PyData.none)]), rfl, esp, by rw [hos]; omega, fun D es H10 s10 nD hD h1 h2 => ?_⟩
  rw [hos] at h1 h2
  have sA := s9.trans s10
  have hR10 := Rp.sm sA hR8
  have tb10 := tb8.same sA
  have hes : es.length ≤ 2100 := by
    have := (lined_len (patL (said n [] (rs' ++ [(row.1, PyData.none)]))) n).1
    rw [← h1, List.length_map] at this
    omega
  have hpl : isPlan (.list ((rs' ++ [(row.1, PyData.none)]).map rowD)) = true := fine_plan hF5
  have hmm : ∀ rs2 (x : RowT), rs' ++ [(row.1, PyData.none)] = rs2 ++ [x] → isNone x.2 = false → (n : Int) ≤ sumW (rs' ++ [(row.1, PyData.none)]) := fun rs2 x e z => by
    have e2 := List.singleton_inj.mp (List.append_inj' e rfl).2
    rw [← e2] at z
    cases z
  have hhp : ∀ k : Nat, k < n → HasP (pcsR 0 (rs' ++ [(row.1, PyData.none)])) (k : Int) (optD (patL (said n [] (rs' ++ [(row.1, PyData.none)])) k)) := fun k hk => said_pat hF5.row (by rw [hos]; exact hk)
  -- queue_at
  refine ⟨.ref pr, rfl, .int (n : Int), rfl, .ref pr, .int (n : Int), .list ((rs' ++ [(row.1, PyData.none)]).map rowD), .int (n : Int), rfl, hR10, .int _, tb10, mom_of (os := said n [] (rs' ++ [(row.1, PyData.none)])) hpl fine_pieces hF5 hn2 hmm hhp fun pat hpat => ?_⟩
  intro L H11 e11 tb11 nL eL
  refine one_lc (i := 3) (j := 4) (es := es) (fun x => V.int x.1) (fun x => atI_nat (j := 0) rfl) rfl (fun _ => rfl) (fun _ => rfl) (Rp.ex e11 _ _ hD) hes fun L2 nL2 => ?_
  have eL2 := same_upd (o := .lst (es.map fun x => V.int x.1)) nL2 _ _ eL
  have eq2 : (upd H11 L2 (.lst (es.map fun x => V.int x.1))) L2 = some (.lst (((lined pat n).1).map V.int)) := by rw [upd_same, one_fst, h1, hpat]
  refine ⟨_, _, dp_ints eL2, dp_ints eq2, ints_shaped _, ints_shaped _, _, rfl, ?_⟩
  rw [SeqAt.eqv_refl _ (ints_lay1 _)]
  refine iteF ?_
  have sB := same_upd (o := .lst (es.map fun x => V.int x.1)) nL2
  have e12 := e11.trans (Ex.of sB)
  have tb12 := tb11.same sB
  generalize upd H11 L2 (.lst (es.map fun x => V.int x.1)) = H12 at e12 tb12
  -- left_at
  refine ⟨.ref pr, rfl, .int (n : Int), rfl, .ref pr, .int (n : Int), .list ((rs' ++ [(row.1, PyData.none)]).map rowD), .int (n : Int), rfl, Rp.ex e12 _ _ hR10, .int _, tb12, mom_of (os := said n [] (rs' ++ [(row.1, PyData.none)])) hpl fine_pieces hF5 hn2 hmm hhp fun pat2 hpat2 => ?_⟩
  intro L3 H13 e13 tb13 nL3 eL3
  refine one_lc (i := 3) (j := 4) (es := es) (fun x => optV x.2) (fun x => atI_nat (j := 1) rfl) rfl (fun _ => rfl) (fun _ => rfl) (Rp.ex (e12.trans e13) _ _ hD) hes fun L4 nL4 => ?_
  have eL4 := same_upd (o := .lst (es.map fun x => optV x.2)) nL4 _ _ eL3
  have eq4 : (upd H13 L4 (.lst (es.map fun x => optV x.2))) L4 = some (.lst (((lined pat2 n).2).map optV)) := by rw [upd_same, one_snd, h2, hpat2]
  refine ⟨_, _, dp_opts eL4, dp_opts eq4, opts_shaped _, opts_shaped _, ?_⟩
  rw [SeqAt.eqv_refl _ (opts_lay1 _)]
  exact q _
end
end CL
set_option Elab.async false
set_option linter.all false
set_option maxRecDepth 100000
set_option maxHeartbeats 4000000
namespace CL
open PySem PySem.Spec PyProof.Rows L2 GE
abbrev sLaw : Stmt := topS 38
abbrev nLaw : List Str := ["script", "reel", "k", "rows", "most", "patiences", "handed", "stays", "moment", "stood", "due", "again", "told", "turn", "many", "one"]
theorem scLaw : FnScope nLaw ["script"] (defScope sLaw) := ⟨rfl, rfl, rfl, by decide +kernel, rfl, by decide +kernel, by decide +kernel⟩
def spE (sp : Addr → Sp) : Sp := fun vs H Q E => ∃ r, sp r vs H Q E
theorem ct_blk {X : Cx} {s : Shared} {H : Hp} {scope : Scope} {cenv : Env} {fp : List Addr} : CallR (X.blk s H scope cenv fp) (.type "tuple") (fun xs H Q => ∃ p ys, xs = [.ref p] ∧ ((SqL X.K H p ys ∧ ∀ l, H l = none → Q (.ref l) (upd H l (.tup ys))) ∨ (SqT X.K H p ys ∧ Q (.ref p) H))) := call_tuple_of
def spLaw (K : PySem.W.Frag) (P1 P2 : Addr) : Sp := fun vs H Q _ => ∃ (a : Addr) (ns : List Int), vs = [.ref a] ∧ SqL K H a (ns.map V.int) ∧ ns.length ≤ 63 ∧ Tb P1 P2 H ∧ ∀ H', Q (.bl true) H'
theorem okd_rows {rs : List RowT} (f : Fine rs) : Okd 3 (.tuple (rs.map rowT)) := fun ds e => by
  cases e
  refine ⟨by rw [List.length_map]; have := f.hi; omega, fun x hx => ?_⟩
  obtain ⟨y, hy, rfl⟩ := List.mem_map.mp hx
  have g := f.row y hy
  intro ds e
  cases e
  refine ⟨by show 2 ≤ 1000; decide, fun z hz => ?_⟩
  rcases List.mem_cons.mp hz with rfl | hz
  · intro ds e
    cases e
    refine ⟨by rw [List.length_map]; have := g.hi; omega, fun z hz => ?_⟩
    obtain ⟨o, ho, rfl⟩ := List.mem_map.mp hz
    intro ds e
    cases o <;> cases e
  · rw [List.mem_singleton.mp hz]
    intro ds e
    have := g.many
    rw [e] at this
    cases this
theorem most_two {r : Addr} {σ : L2.St} {H : Hp} {R : VK} (h1 : σ[1]? = some (some (.ref r))) (re : ReelAt H r) (h : ∀ (mo : Nat) H', mo = 400 ∨ mo = 110 → ReelAt H' r → Mv r H H' → R (.int (mo : Int)) H') :
    (tIf (tTest (tOp rEq (tCall (spE spDraw) [] E0 (tCons (tVar 1) (tCons (tC (.int 4)) tNil))) (tC (.int 0)))) (tC (.int 400)) (tC (.int 110))) σ H R :=
  ⟨.ref r, h1, r, 4, rfl, re, by decide, by decide, fun x H' re' m' _ _ => ⟨rfl, _, rfl, ite2 (fun _ => h 400 H' (.inl rfl) re' m') (fun _ => h 110 H' (.inr rfl) re' m')⟩⟩
theorem Ex.put {H H' : Hp} {p : Addr} {o : HO} (e : Ex H H') (n : H p = none) : Ex H (upd H' p o) := fun b x hb => by
  have nb : b ≠ p := fun z => by rw [z, n] at hb; cases hb
  rw [upd_ne nb]
  exact e b x hb
/-- the piece that is put behind -/
abbrev xRow : RowT := ([some 0, some 2], .int 3)
theorem drs_snoc {rs : List RowT} {es : List PyData} (h : DrsAll (rs.map rowT) es) : Drs (.tuple ((rs ++ [xRow]).map rowT)) (.list (es ++ [rowD xRow])) := by
  rw [List.map_append]
  exact .lst (h.snoc (.tup (.cons (.lst (.cons (.same _) (.cons (.same _) .nil))) (.cons (.same _) .nil))))
theorem drs_list {ds es : List PyData} (h : Drs (.tuple ds) (.list es)) : DrsAll ds es := by
  cases h with
  | lst h => exact h
theorem fine_x {rs : List RowT} (f : Fine rs) (h8 : rs.length < 8) (hn : ∀ x ∈ rs, isNone x.2 = false) (hs : sumW rs ≤ 320) : Fine (rs ++ [xRow]) := by
  refine ⟨by rw [List.length_append]; show 1 ≤ _ + 1; omega, by rw [List.length_append]; show _ + 1 ≤ 8; omega, fun y hy => ?_, fun y hy => ?_, ?_⟩
  · rcases List.mem_append.mp hy with hy | hy
    · exact f.row y hy
    · rw [List.mem_singleton.mp hy]
      refine ⟨by decide, by decide, fun o ho => ?_, by decide⟩
      simp only [List.mem_cons, List.not_mem_nil, or_false] at ho
      rcases ho with rfl | rfl
      · exact ⟨by decide, by decide⟩
      · exact ⟨by decide, by decide⟩
  · refine hn y ?_
    rw [List.length_append, List.length_singleton, Nat.add_sub_cancel, List.take_left' rfl] at hy
    exact hy
  · rw [sumW_snoc2]
    show sumW rs + 3 ≤ (1000000000000000000000000000000 : Int)
    omega
theorem has_x {mo : Nat} {rs : List RowT} (f : Fine rs) (hn : ∀ x ∈ rs, isNone x.2 = false) (hlt : (said mo [] rs).length < mo) :
    ((said mo [] rs).length : Int) = sumW rs ∧ ∀ k : Nat, k < (said mo [] rs).length + 3 → HasP (pcsR 0 (rs ++ [xRow])) (k : Int) (optD (patL (said mo [] rs ++ [some 0, some 2, some 0]) k)) := by
  have g : ∀ x ∈ rs, isNone x.2 = false ∧ isMany x.2 = true := fun x hx => ⟨hn x hx, (f.row x hx).many⟩
  have hl := said_len mo rs [] g (Nat.zero_le _)
  have h0 := sumW_nn fun x hx => (g x hx).2
  have hl' : ((said mo [] rs).length : Int) = min (mo : Int) (0 + sumW rs) := hl
  have hS : ((said mo [] rs).length : Int) = sumW rs := by omega
  refine ⟨hS, fun k hk => ?_⟩
  by_cases hk2 : k < (said mo [] rs).length
  · rw [patL_app hk2]
    exact has_snoc (said_pat f.row hk2)
  · obtain ⟨j, rfl⟩ : ∃ j, k = (said mo [] rs).length + j := ⟨k - (said mo [] rs).length, by omega⟩
    have hj : j < 3 := by omega
    have e1 : (((said mo [] rs).length + j : Nat) : Int) = sumW rs + (j : Int) := by omega
    have e2 : patL (said mo [] rs ++ [some 0, some 2, some 0]) ((said mo [] rs).length + j) = (([some 0, some 2, some 0] : List (Option Int))[j]?).getD none := by
      unfold patL
      rw [List.getElem?_append_right (by omega), Nat.add_sub_cancel_left]
    rw [e1, e2]
    have hj3 : j = 0 ∨ j = 1 ∨ j = 2 := by omega
    rcases hj3 with rfl | rfl | rfl
    · exact has_last (x := xRow) g rfl (by decide) (by decide) rfl
    · exact has_last (x := xRow) g rfl (by decide) (by decide) rfl
    · exact has_last (x := xRow) g rfl (by decide) (by decide) rfl
theorem moms {len : Nat} {x : Int} (h0 : 0 ≤ x) (h1 : x < (len : Int) + 1) : ∃ ks : List Nat, [V.int 0, .int (len : Int), .int x, .int ((len : Int) / 2)] = ks.map (fun n : Nat => V.int (n : Int)) ∧ ∀ k ∈ ks, k ≤ len := by
  refine ⟨[0, len, x.toNat, len / 2], ?_, fun k hk => ?_⟩
  · have e1 : ((x.toNat : Nat) : Int) = x := by omega
    have e2 : ((len / 2 : Nat) : Int) = (len : Int) / 2 := by omega
    simp only [List.map_cons, List.map_nil, e1, e2]
    rfl
  · simp only [List.mem_cons, List.not_mem_nil, or_false] at hk
    rcases hk with rfl | rfl | rfl | rfl <;> omega
theorem rows_cases {d : PyData} {ds : List PyData} (h : rowsD d = some ds) : d = .list ds ∨ d = .tuple ds := by
  cases d with
  | list xs => cases h; exact .inl rfl
  | tuple xs => cases h; exact .inr rfl
  | _ => cases h
theorem row_ref {H : Hp} {rs : List RowT} {es : List PyData} {vs : List V} (hda : DrsAll (rs.map rowT) es) (g : ∀ x ∈ rs, GoodRow x) (h1 : 1 ≤ rs.length) (hx : RpAll H vs es) : ∃ b, V.ref b ∈ vs := by
  cases rs with
  | nil => exact absurd h1 (by decide)
  | cons x rs =>
    cases hda with
    | cons a1 a2 =>
      cases hx with
      | cons c1 c2 =>
        obtain ⟨t, e, _⟩ := drs_row a1 (g x List.mem_cons_self)
        obtain ⟨b, _, rfl, _⟩ := c1.rows e
        exact ⟨b, List.mem_cons_self⟩
def Nxt (a r P1 P2 : Addr) (σ : L2.St) (H : Hp) : Prop := ∃ (W : Addr → Prop) (y2 y3 y4 y5 y6 y7 y8 y9 y10 y11 y12 : Option V), σ = [some (.ref a), some (.ref r), y2, y3, y4, y5, y6, y7, y8, y9, y10, y11, y12, none, none, none] ∧ ReelAt H r ∧ Wk W H r ∧ Tb P1 P2 H
section
variable {P : Program} {w : World} {K : PySem.W.Frag} {mg : Str → Option Value} {base : Heap}
theorem ok_law {f P1 P2 C C3 C4 : Addr} {fd : FuncData} (F : Fun K "law" "law" sLaw f fd) (T : Nm mg) (T2 : Nm2 mg) (hsys : ∃ o, base.get? sysModules = some o)
    (CR : Cal P w K mg base 1 "_law_reel" ["script"] (spReel K)) (CD : Cal P w K mg base 1 "_law_draw" ["reel", "many"] (spE spDraw)) (CW : Cal P w K mg base 4 "_law_near_rows" ["reel", "most", "ends"] (spE spNear)) (CS : Cal P w K mg base 1 "_law_said_over" ["rows", "most"] spSaid)
    (CT : Cal P w K mg base 1 "_law_stood" ["patiences"] spStood) (CB : Cal P w K mg base 5 "_law_dressed" ["reel", "thing"] (spE fun r => spDress r 3)) (CF : Cal P w K mg base 12 "_law_far_right" ["reel"] (spE (spFarR P1 P2)))
    (CQ : CalX P w K mg base 12 "queue_at" ["plan", "moment"] (spQueue P1 P2 C C3 C4)) (CL : CalX P w K mg base 12 "left_at" ["plan", "moment"] (spLeft P1 P2 C C3 C4)) : FnG P w K mg base 13 f fd ["script"] (spLaw K P1 P2) := by
  refine fng_of F scLaw (fun vs H Q E ⟨a, ns, e, _⟩ => by rw [e]; rfl) (fun cdv A outer s H vs Q E hgd hr h => ?_)
  obtain ⟨a, ns, rfl, hS, h63, hTb, q⟩ := h
  have nd := scLaw.nd
  have sz : 5000 ≤ sizeLine := by decide
  refine ⟨_, (pss_cons (ps_set (i := 1) nd rfl (.inl rfl) (pe_cal (CR.mono (by decide)) hr (by rfl) (pa_cons (pv 0) pa_nil)))
    (pss_cons (ps_for PassesOwn.never rfl (pi_range1 (by rfl) T2.range (pa_cons (pe_op op_add pe_int (pe_callB (call_min2 rfl) (by rfl) T2.min (by decide +kernel) (pa_cons (pe_callB call_len_seq (by rfl) T.len PySem.boot_len (pa_cons (pv 0) pa_nil)) (pa_cons pe_int pa_nil)))) pa_nil)) (pg_name (i := 2) nd rfl (.inl rfl))
    (pss_cons (ps_set (i := 3) nd rfl (.inl rfl) (pe_cal (CW.mono (by decide)) hr (by rfl) (pa_cons (pv 1) (pa_cons pe_int (pa_cons pe_bl pa_nil)))))
    (pss_cons (ps_set (i := 4) nd rfl (.inl rfl) (pe_ifExp (pt_cmpR op_eq (pe_cal (CD.mono (by decide)) hr (by rfl) (pa_cons (pv 1) (pa_cons pe_int pa_nil))) pe_int (nomark _)) pe_int pe_int))
    (pss_cons (ps_set (i := 5) nd rfl (.inl rfl) (pe_cal (CS.mono (by decide)) hr (by rfl) (pa_cons (pv 3) (pa_cons (pv 4) pa_nil))))
    (pss_cons (ps_set (i := 6) nd rfl (.inl rfl) (pe_cal (CB.mono (by decide)) hr (by rfl) (pa_cons (pv 1) (pa_cons (pe_callTy call_tuple_of (by rfl) T.tuple PyProof.Rows.boot_tuple (pa_cons (pe_lc (own := [("turn", 13), ("many", 14)]) (g := gTup K 2 (gCons (gName 13) (gCons (gName 14) gNil))) (tt := tYes) rfl nd (pi_list (pv 3)) (blkOk_by (N := nLaw) (sc := defScope sLaw) (by decide +kernel))
        (fun _ _ _ _ _ => pg_tup rfl (pgs_cons (pg_name (i := 13) nd rfl (.inl rfl) (.inr rfl)) (pgs_cons (pg_name (i := 14) nd rfl (.inl rfl) (.inr rfl)) pgs_nil))) (fun _ _ _ _ _ => pts_nil) (fun _ _ _ _ _ => (pe_tup (pa_cons (pe_callTy ct_blk (by rfl) T.tuple PyProof.Rows.boot_tuple (pa_cons (pv 13) pa_nil)) (pa_cons (pv 14) pa_nil))))) pa_nil)) pa_nil))))
    (pss_cons (ps_set (i := 7) nd rfl (.inl rfl) (pe_callB (call_reprD hgd hr hsys) (by rfl) T2.repr PyProof.Rows.boot_repr (pa_cons (pv 6) pa_nil)))
    (pss_cons (ps_for PassesOwn.never rfl (pi_list (pe_lst (pa_cons pe_int (pa_cons (pe_callB call_len_seq (by rfl) T.len PySem.boot_len (pa_cons (pv 5) pa_nil)) (pa_cons (pe_cal (CD.mono (by decide)) hr (by rfl) (pa_cons (pv 1) (pa_cons (pe_op op_add (pe_callB call_len_seq (by rfl) T.len PySem.boot_len (pa_cons (pv 5) pa_nil)) pe_int) pa_nil))) (pa_cons (pe_op op_fdiv (pe_callB call_len_seq (by rfl) T.len PySem.boot_len (pa_cons (pv 5) pa_nil)) pe_int) pa_nil)))))) (pg_name (i := 8) nd rfl (.inl rfl))
    (pss_cons (ps_set (i := 9) nd rfl (.inl rfl) (pe_cal (CT.mono (by decide)) hr (by rfl) (pa_cons (pe_slice sl_list (pv 5) po_none (po_some (pv 8))) pa_nil)))
    (pss_cons (ps_set (i := 10) nd rfl (.inl rfl) (pe_callB (call_reprD hgd hr hsys) (by rfl) T2.repr PyProof.Rows.boot_repr (pa_cons (pe_lst (pa_cons (pe_lc (own := [("one", 15)]) (g := gName 15) (tt := tYes) rfl nd (pi_list (pv 9)) (blkOk_by (N := nLaw) (sc := defScope sLaw) (by decide +kernel)) (fun _ _ _ _ _ => pg_name (i := 15) nd rfl (.inl rfl) (.inr rfl)) (fun _ _ _ _ _ => pts_nil) (fun _ _ _ _ _ => pe_ix ix_blk (pv 15) pe_int (fun _ _ => rfl))) (pa_cons (pe_lc (own := [("one", 15)]) (g := gName 15) (tt := tYes) rfl nd (pi_list (pv 9)) (blkOk_by (N := nLaw) (sc := defScope sLaw) (by decide +kernel)) (fun _ _ _ _ _ => pg_name (i := 15) nd rfl (.inl rfl) (.inr rfl)) (fun _ _ _ _ _ => pts_nil) (fun _ _ _ _ _ => pe_ix ix_blk (pv 15) pe_int (fun _ _ => rfl))) pa_nil))) pa_nil)))
    (pss_one (ps_for PassesOwn.never rfl (pi_range1 (by rfl) T2.range (pa_cons pe_int pa_nil)) (pg_name (i := 11) nd rfl (.inl rfl))
    (pss_cons (ps_set (i := 12) nd rfl (.inl rfl) (pe_lst (pa_cons (pe_calX CQ hr (by rfl) (passes_call takes0 fun _ _ _ _ h => h) (pa_cons (pv 6) (pa_cons (pv 8) pa_nil))) (pa_cons (pe_calX CL hr (by rfl) (passes_call takes0 fun _ _ _ _ h => h) (pa_cons (pv 6) (pa_cons (pv 8) pa_nil))) pa_nil))))
    (pss_cons (ps_if (PW.pt (pw_or (pt_cmpR op_ne (pe_callB (call_reprD hgd hr hsys) (by rfl) T2.repr PyProof.Rows.boot_repr (pa_cons (pv 12) pa_nil)) (pv 10) (nomark _)) (pw_or1 (pt_cmpR op_ne (pe_callB (call_reprD hgd hr hsys) (by rfl) T2.repr PyProof.Rows.boot_repr (pa_cons (pv 6) pa_nil)) (pv 7) (nomark _))))) (pss_one (ps_ret pe_bl)) pss_nil)
    (pss_cons (ps_expr (pe_bm PySem.F.plainAttrs_list PySem.F.slot_list_append PySem.F.type_list_append mt_append (pe_ix ix_list (pv 12) pe_int (fun _ _ => rfl)) (pa_cons pe_int pa_nil)))
    (pss_one (ps_expr (pe_bm0 PySem.F.plainAttrs_list PySem.F.slot_list_reverse PySem.F.type_list_reverse mt_reverse (pe_ix ix_list (pv 12) pe_int (fun _ _ => rfl)))))))))))))
    (pss_one (ps_if (PW.pt (pw_and (pt_val (pe_callB call_isi (by rfl) T.isi (by decide +kernel) (pa_cons (pv 6) (pa_cons (pe_bltn (v := .ty "list") (by rfl) T.list PyProof.Rows.boot_list rfl) pa_nil)))) (pw_and (pt_cmpR op_lt (pe_callB call_len_seq (by rfl) T.len PySem.boot_len (pa_cons (pv 3) pa_nil)) pe_int (nomark _)) (pw_and (pt_cmp (pc_notN (pe_ix ix_tup (pe_ix ix_list (pv 3) (pe_un un_neg pe_int) (fun _ _ => rfl)) pe_int (fun _ _ => rfl)))) (pw_and1 (pt_cmpR op_lt (pe_callB call_len_seq (by rfl) T.len PySem.boot_len (pa_cons (pv 5) pa_nil)) (pv 4) (nomark _))))))) (pss_cons (ps_expr (pe_bm PySem.F.plainAttrs_list PySem.F.slot_list_append PySem.F.type_list_append mt_append (pv 6) (pa_cons (pe_tup (pa_cons (pe_lst (pa_cons pe_int (pa_cons pe_int pa_nil))) (pa_cons pe_int pa_nil))) pa_nil)))
    (pss_cons (ps_set (i := 9) nd rfl (.inl rfl) (pe_cal (CT.mono (by decide)) hr (by rfl) (pa_cons (pe_op op_cat (pv 5) (pe_lst (pa_cons pe_int (pa_cons pe_int (pa_cons pe_int pa_nil))))) pa_nil)))
    (pss_one (ps_if (pt_cmpR (op_neD hr.units) (pe_calX CQ hr (by rfl) (passes_call takes0 fun _ _ _ _ h => h) (pa_cons (pv 6) (pa_cons (pe_op op_add (pe_callB call_len_seq (by rfl) T.len PySem.boot_len (pa_cons (pv 5) pa_nil)) pe_int) pa_nil))) (pe_lc (own := [("one", 15)]) (g := gName 15) (tt := tYes) rfl nd (pi_list (pv 9)) (blkOk_by (N := nLaw) (sc := defScope sLaw) (by decide +kernel)) (fun _ _ _ _ _ => pg_name (i := 15) nd rfl (.inl rfl) (.inr rfl)) (fun _ _ _ _ _ => pts_nil) (fun _ _ _ _ _ => pe_ix ix_blk (pv 15) pe_int (fun _ _ => rfl))) (nomark _)) (pss_one (ps_ret pe_bl)) pss_nil)))) pss_nil)))))))))
    (pss_one (ps_ret (pe_cal (CF.mono (by decide)) hr (by rfl) (pa_cons (pv 1) pa_nil)))))), ?_⟩
  refine ⟨.ref a, rfl, a, ns, rfl, hS, h63, fun r H1 s1 nr re1 => ?_⟩
  have W0 : Wk (fun b => b = r) H1 r := ⟨rfl, fun b hb => by
    obtain ⟨_, _, _, _, _, _, er, _⟩ := re1
    rw [hb, er]
    exact nofun⟩
  have lm : (ns.map V.int).length = ns.length := List.length_map ..
  refine ⟨.ref a, rfl, a, ns.map V.int, rfl, .inl (s1.seq hS), (ns.map V.int).length, 4, rfl, 1, _, rfl, rfl, _, rfl, by split <;> omega, by split <;> omega, ?_⟩
  refine for_range (lo := 0) (n := ((1 : Int) + (if (4 : Int) < ((ns.map V.int).length : Int) then 4 else ((ns.map V.int).length : Int))).toNat) (fun i σ H2 => Nxt a r P1 P2 σ H2)
    ⟨_, none, none, none, none, none, none, none, none, none, none, none, rfl, re1, W0, hTb.same s1⟩ (fun i σ H2 hi hP => ?_) (fun σ H2 hP => ?_)
  · obtain ⟨W, y2, y3, y4, y5, y6, y7, y8, y9, y10, y11, y12, rfl, re2, W2, tb2⟩ := hP
    -- rows
    refine ⟨.ref r, rfl, r, 60, false, W, rfl, re2, W2, by decide, by decide, fun p rs H3 re3 m3 hp3 hF hs => ?_⟩
    have l1 := hF.lo
    have l8 := hF.hi
    have W3 := W2.mv re3 m3
    have tb3 := tb2.mv re2 m3
    -- most
    refine most_two rfl re3 fun mo H4 hmo re4 m4 => ?_
    have hmo2 : mo ≤ 400 := by omega
    have W4 := W3.mv re4 m4
    have tb4 := tb3.mv re3 m4
    have hp4 : Rp (Hw W H4) (.ref p) (.list (rs.map rowD)) := Rp.sm (m4.hw W3.reel) hp3
    clear m3 W3 tb3 hp3 re3 W2 tb2 m4
    -- patiences
    refine ⟨.ref p, rfl, .int (mo : Int), rfl, .ref p, rs, (mo : Int), mo, rfl, rfl, Rp.sm (Hw.sub W H4) hp4, hF.row, by omega, fun sp H5 s5 nsp esp => ?_⟩
    have los : (said mo [] rs).length ≤ mo := said_le mo rs [] (Nat.zero_le _)
    have nspr : sp ≠ r := (re4.new nsp).ne
    have re5 := re4.same s5
    have W5 := W4.mv re5 (Mv.of s5 re4)
    have tb5 := tb4.same s5
    have hp5 : Rp (Hw W H5) (.ref p) (.list (rs.map rowD)) := Rp.sm (Same.hw s5) hp4
    clear s5 nsp hp4 re4 W4 tb4
    -- handed
    obtain ⟨p4, xs, ep, hp, hx⟩ := rp_list hp5
    obtain rfl : p = p4 := V.ref.inj ep
    have npr : p ≠ r := fun z => Hw.ne hp (by rw [z]; exact W5.reel)
    have hlx : xs.length = rs.length := by rw [hx.length, List.length_map]
    refine ⟨.ref r, rfl, .ref p, rfl, p, rfl, ⟨xs, SqL.of (Hw.sub W H5 _ _ hp)⟩, fun D2 hD2 => ?_⟩
    have frD2 := re5.new hD2
    have nspD : sp ≠ D2 := fun z => by rw [z, hD2] at esp; cases esp
    refine lc_list (xs := xs) (fun i H6 => ReelAt H6 r ∧ Mv r H5 H6 ∧ Free H6 r D2 ∧ Tb P1 P2 H6 ∧ ∃ vs, H6 D2 = some (.lst vs) ∧ vs.length = i ∧ RpAll (Hw (fun b => W b ∨ b = D2) H6) vs ((rs.take i).map rowT))
      ⟨re5.store frD2, (Mv.refl r H5).upd hD2 frD2.ne, frD2.upd frD2.ne, tb5.upd (fun ps z => by rw [hD2] at z; cases z), [], upd_same, rfl, .nil⟩ (fun i H6 _ ⟨_, m, _⟩ => SqL.of (m.keep _ _ npr (Hw.sub W H5 _ _ hp))) (fun i x H6 hx' ⟨re6, m6, fr6, tb6, vs, eD2, lv, hv⟩ => ?_) (fun H6 ⟨re6, m6, fr6, tb6, vs, eD2, lv, hv⟩ => ?_)
    · obtain ⟨dx, hdx, hRx⟩ := hx.get hx'
      obtain ⟨rw', hrw, rfl⟩ : ∃ rw', rs[i]? = some rw' ∧ dx = rowD rw' := by
        rw [List.getElem?_map] at hdx
        cases q : rs[i]? with
        | none => rw [q] at hdx; cases hdx
        | some y => rw [q] at hdx; cases hdx; exact ⟨y, rfl, rfl⟩
      have li : i < rs.length := by
        obtain ⟨z, _⟩ := List.getElem?_eq_some_iff.mp hrw
        exact z
      have nWD : ∀ {b : Addr}, H6 b = none → ¬ (W b ∨ b = D2) := fun {b} nb z => z.elim ((W5.mv re6 m6).out nb) fun z => by rw [z, eD2] at nb; cases nb
      cases hRx with
      | @tup b ys _ hb hys =>
        cases hys with
        | @cons vt _ _ _ hvt hys2 =>
          cases hys2 with
          | @cons vm _ _ _ hvm hys3 =>
            cases hys3
            have keep : ∀ {c : Addr} {o : HO}, Hw W H5 c = some o → H6 c = some o := fun {c o} h => m6.keep c o (fun z => Hw.ne h (by rw [z]; exact W5.reel)) (Hw.sub W H5 _ _ h)
            obtain ⟨t, zs, rfl, ht, hzs⟩ := rp_list hvt
            refine ⟨b, [.ref t, vm], rfl, SqT.of (keep hb), rfl, .ref t, [vm], rfl, vm, [], rfl, rfl, rfl, yesT ?_⟩
            refine ⟨.ref t, rfl, t, zs, rfl, .inl ⟨SqL.of (keep ht), fun l nl => ⟨vm, rfl, small_le (by show 2 ≤ 1000; decide), fun l2 nl2 => ?_⟩⟩⟩
            have s6 : Same H6 (upd H6 l (.tup zs)) := same_upd nl
            have el : (upd H6 l (.tup zs)) l = some (.tup zs) := upd_same
            generalize hH7 : upd H6 l (.tup zs) = H7 at s6 el nl2
            have s7 : Same H7 (upd H7 l2 (.tup [.ref l, vm])) := same_upd nl2
            have el2 : (upd H7 l2 (.tup [.ref l, vm])) l2 = some (.tup [.ref l, vm]) := upd_same
            generalize hH8 : upd H7 l2 (.tup [.ref l, vm]) = H8 at s7 el2
            have s57 := s6.trans s7
            have m57 := Mv.of s57 re6
            have re7 := re6.same s57
            have fr7 := m57.free D2 (by rw [eD2]; exact nofun) fr6
            have eD7 := s57 D2 _ eD2
            have nl' : H6 l2 = none := by
              cases z : H6 l2 with
              | none => rfl
              | some o => rw [s6 _ _ z] at nl2; cases nl2
            have w47 : Same (Hw W H5) (Hw (fun b => W b ∨ b = D2) H8) := fun c o h => by
              rw [Hw.at fun z => z.elim (Hw.ne h) fun z => by rw [z] at h; rw [Hw.sub W H5 _ _ h] at hD2; cases hD2]
              exact s57 _ _ (keep h)
            refine ⟨vs, eD7, by rw [lv]; exact small1000 (by omega), re7.store fr7, (m6.trans m57).upd hD2 fr7.ne, fr7.upd fr7.ne, (tb6.same s57).upd (fun ps z => by rw [eD7] at z; cases z), vs ++ [.ref l2], upd_same, by rw [List.length_append, lv]; rfl, ?_⟩
            rw [hw_upd (.inr rfl), List.take_add_one, hrw, List.map_append]
            refine (RpAll.sm (Same.hw s57) hv).snoc (.tup (by rw [Hw.at (nWD nl')]; exact el2) (.cons (.tup (by rw [Hw.at (nWD nl)]; exact s7 _ _ el) (RpAll.sm w47 hzs)) (.cons (Rp.sm w47 hvm) .nil)))
    · rw [hlx, List.take_length] at hv
      have W6 := W5.mv re6 m6
      have hv6 : RpAll (Hw W H6) vs (rs.map rowT) := RpAll.sm (Hw.less fun b hb => .inl hb) hv
      have hp6 : Rp (Hw W H6) (.ref p) (.list (rs.map rowD)) := Rp.sm (m6.hw W5.reel) hp5
      have esp6 := m6.keep sp _ nspr esp
      refine ⟨D2, vs, rfl, .inl ⟨SqL.of eD2, fun l nl => ?_⟩⟩
      have s7 : Same H6 (upd H6 l (.tup vs)) := same_upd nl
      have el : (upd H6 l (.tup vs)) l = some (.tup vs) := upd_same
      have tb7 := tb6.same s7
      generalize hH7 : upd H6 l (.tup vs) = H7 at s7 el tb7
      have re7 := re6.same s7
      have W7 := W6.mv re7 (Mv.of s7 re6)
      have hp7 : Rp (Hw W H7) (.ref p) (.list (rs.map rowD)) := Rp.sm (Same.hw s7) hp6
      have esp7 := s7 _ _ esp6
      refine ⟨r, .ref l, .tuple (rs.map rowT), W, rfl, re7, W7, .tup (by rw [Hw.at (W6.out nl)]; exact el) (RpAll.sm (Same.hw s7) hv6), okd_rows hF, fun v8 d8 H8 re8 m8 rp8 drs => ?_⟩
      obtain ⟨hpl, hpcs⟩ := dressed_plan drs hF
      have hB := b_dressed drs hF
      obtain ⟨e8s, he8, hda⟩ := drs_rows drs
      obtain ⟨q8, x8s, rfl, hx8, hor8⟩ := rp8.rows he8
      have tb8 := tb7.mv re7 m8
      have W8 := W7.mv re8 m8
      have hp8 : Rp (Hw W H8) (.ref p) (.list (rs.map rowD)) := Rp.sm (m8.hw W7.reel) hp7
      have esp8 := m8.keep sp _ nspr esp7
      clear s7 el nl hp7 esp7 tb7 re7 W7 m8 hv6 hp6 esp6 hv eD2 lv tb6 W6 fr6 m6 re6 hx hp hp5 tb5 W5 re5 esp frD2 hD2 nspD
      have hhp : ∀ k : Nat, k < (said mo [] rs).length → HasP (pcsR 0 rs) (k : Int) (optD (patL (said mo [] rs) k)) := fun k hk => said_pat hF.row hk
      have hgo : ∀ o ∈ said mo [] rs, goodO o := said_good mo rs [] hF.row (fun _ h => nomatch h)
      have hX := fun (hn : ∀ x ∈ rs, isNone x.2 = false) (hlt : (said mo [] rs).length < mo) => has_x hF hn hlt
      have hmm : ∀ rs' x, rs = rs' ++ [x] → isNone x.2 = false → ((said mo [] rs).length : Int) ≤ sumW rs := fun rs' x e z => by
        have g : ∀ y ∈ rs, isNone y.2 = false ∧ isMany y.2 = true := fun y hy => ⟨by
          rw [e] at hy
          rcases List.mem_append.mp hy with hy2 | hy2
          · refine hF.last y ?_
            rw [e, List.length_append, List.length_singleton, Nat.add_sub_cancel, List.take_left' rfl]
            exact hy2
          · rw [List.mem_singleton.mp hy2]; exact z, (hF.row y hy).many⟩
        have hl := said_len mo rs [] g (Nat.zero_le _)
        have hl' : ((said mo [] rs).length : Int) = min (mo : Int) (0 + sumW rs) := hl
        omega
      generalize said mo [] rs = os at *
      have lOs : (os.map optV).length = os.length := List.length_map ..
      -- stays
      refine ⟨.ref q8, rfl, .ref q8, d8, q8, rfl, rfl, Rp.sm (Hw.sub W H8) rp8, hB, ?_⟩
      have hd8 : ∃ tx, d8.shown = tx := ⟨_, rfl⟩
      obtain ⟨tx, htx⟩ := hd8
      rw [htx]
      -- the moments
      refine ⟨.ref sp, rfl, sp, _, rfl, .inl (SqL.of esp8), .ref r, rfl, .ref sp, rfl, sp, _, rfl, .inl (SqL.of esp8), ((os.map optV).length : Int), 1, rfl, rfl, r, ((os.map optV).length : Int) + 1, rfl, re8, by omega, by omega, fun x H9 re9 m9 x0 x1 => ?_⟩
      have esp9 := m9.keep sp _ nspr esp8
      have W9 := W8.mv re9 m9
      have tb9 := tb8.mv re8 m9
      have hp9 : Rp (Hw W H9) (.ref p) (.list (rs.map rowD)) := Rp.sm (m9.hw W8.reel) hp8
      have rp9 := Rp.sm (m9.hw W8.reel) rp8
      refine ⟨.ref sp, rfl, sp, _, rfl, .inl (SqL.of esp9), ((os.map optV).length : Int), 2, rfl, rfl, ⟨by decide, by decide⟩, small_le (by show 4 ≤ 1000; decide), fun M nM => ?_⟩
      obtain ⟨ks, hks, hkl⟩ := moms x0 x1
      rw [hks]
      rw [lOs] at hkl
      have s10 := same_upd (o := .lst (ks.map fun n : Nat => V.int (n : Int))) nM
      have eM : (upd H9 M (.lst (ks.map fun n : Nat => V.int (n : Int)))) M = some (.lst (ks.map fun n : Nat => V.int (n : Int))) := upd_same
      generalize upd H9 M (.lst (ks.map fun n : Nat => V.int (n : Int))) = H10 at s10 eM
      have re10 := re9.same s10
      have W10 := W9.mv re10 (Mv.of s10 re9)
      have tb10 := tb9.same s10
      have esp10 := s10 _ _ esp9
      have hp10 : Rp (Hw W H10) (.ref p) (.list (rs.map rowD)) := Rp.sm (Same.hw s10) hp9
      have rp10 := Rp.sm (Same.hw s10) rp9
      clear s10 nM hp9 rp9 tb9 W9 re9 esp9 m9 hp8 tb8 W8 rp8 re8 hks x0 x1 esp8 hx8 hor8
      refine ⟨M, rfl, ⟨_, SqL.of eM⟩, for_list (xs := ks.map fun n : Nat => V.int (n : Int)) (fun j σ H => ∃ y8 y9 y10 y11 y12, σ = [some (.ref a), some (.ref r), some (.int (0 + (i : Int))), some (.ref p), some (.int (mo : Int)), some (.ref sp), some (.ref q8), some (.str tx), y8, y9, y10, y11, y12, none, none, none] ∧ Ex H10 H ∧ Tb P1 P2 H)
        ⟨y8, y9, y10, y11, y12, rfl, Ex.refl _, tb10⟩ (fun j σ H _ ⟨_, _, _, _, _, _, e, _⟩ => SqL.of (e.lst eM)) (fun j xn σ H11 hxn ⟨z8, z9, z10, z11, z12, eσ, e11, tb11⟩ => ?_) (fun σ H11 ⟨z8, z9, z10, z11, z12, eσ, e11, tb11⟩ => ?_)⟩
      · subst eσ
        obtain ⟨n, rfl, hnl⟩ : ∃ n : Nat, xn = .int (n : Int) ∧ n ≤ os.length := by
          rw [List.getElem?_map] at hxn
          cases z : ks[j]? with
          | none => rw [z] at hxn; cases hxn
          | some k =>
            rw [z] at hxn
            exact ⟨k, (Option.some.inj hxn).symm, hkl k (List.mem_of_getElem? z)⟩
        have n4 : n ≤ 400 := by omega
        have esp11 := e11.lst esp10
        -- stood
        refine ⟨.ref sp, rfl, .int (n : Int), rfl, (n : Int), rfl, sp, os.map optV, rfl, SqL.of esp11, fun t nt => ?_⟩
        have c1 : cutV (os.map optV) none (some (n : Int)) = (os.take n).map optV := by rw [cut_to, List.map_take]
        rw [c1]
        have s12 := same_upd (o := .lst ((os.take n).map optV)) nt
        have et : (upd H11 t (.lst ((os.take n).map optV))) t = some (.lst ((os.take n).map optV)) := upd_same
        generalize upd H11 t (.lst ((os.take n).map optV)) = H12 at s12 et
        have ltk : (os.take n).length = n := by rw [List.length_take]; omega
        refine ⟨t, os.take n, rfl, et, by rw [ltk]; omega, fun D es H13 s13 nD hD h1 h2 => ?_⟩
        have hst : lined (patL (os.take n)) n = lined (patL os) n := lined_congr n fun k hk => patL_take hk
        rw [ltk, hst] at h1 h2
        obtain ⟨ln1, ln2⟩ := lined_len (patL os) n
        obtain ⟨hg1, hg2⟩ := lined_good (pat := patL os) n fun k _ => patL_good hgo k
        have hes : es.length ≤ 2100 := by rw [← h1, List.length_map] at ln1; omega
        -- due
        obtain ⟨D', vD, eD, hDD, hvD⟩ := rp_list hD
        obtain rfl := V.ref.inj eD
        have lvD : vD.length = es.length := by rw [hvD.length, List.length_map]
        refine ⟨.ref D, rfl, D, rfl, ⟨vD, SqL.of hDD⟩, fun L nL => ?_⟩
        refine lc_list (xs := vD) (fun k H5 => H5 = upd H13 L (.lst ((es.take k).map fun x => V.int x.1))) rfl (fun k H5 _ e => by rw [e]; exact SqL.of (same_upd nL _ _ hDD)) (fun k x H5 hx e => ?_) (fun H5 e => ?_)
        · subst e
          obtain ⟨d, hd, hRx⟩ := hvD.get hx
          obtain ⟨y, hy, rfl⟩ : ∃ y, es[k]? = some y ∧ d = pD y := by
            rw [List.getElem?_map] at hd
            cases z : es[k]? with
            | none => rw [z] at hd; cases hd
            | some y => rw [z] at hd; cases hd; exact ⟨y, rfl, rfl⟩
          obtain ⟨b, rfl, hb⟩ := one_at hRx
          refine ⟨rfl, yesT ⟨.ref b, rfl, b, _, 0, _, rfl, rfl, SqL.of (same_upd nL _ _ hb), atI_nat (j := 0) rfl, _, upd_same, by rw [List.length_map, List.length_take]; omega, ?_⟩⟩
          rw [upd_upd, List.take_add_one, hy, List.map_append]
          rfl
        rw [lvD, List.take_length] at e
        subst e
        have s14 := same_upd (o := .lst (es.map fun x => V.int x.1)) nL
        have eL : (upd H13 L (.lst (es.map fun x => V.int x.1))) L = some (.lst ((lined (patL os) n).1.map V.int)) := by rw [upd_same, one_fst, h1]
        generalize upd H13 L (.lst (es.map fun x => V.int x.1)) = H14 at s14 eL
        refine ⟨.ref D, rfl, D, rfl, ⟨vD, SqL.of (s14 _ _ hDD)⟩, fun L2 nL2 => ?_⟩
        refine lc_list (xs := vD) (fun k H5 => H5 = upd H14 L2 (.lst ((es.take k).map fun x => optV x.2))) rfl (fun k H5 _ e => by rw [e]; exact SqL.of (same_upd nL2 _ _ (s14 _ _ hDD))) (fun k x H5 hx e => ?_) (fun H5 e => ?_)
        · subst e
          obtain ⟨d, hd, hRx⟩ := hvD.get hx
          obtain ⟨y, hy, rfl⟩ : ∃ y, es[k]? = some y ∧ d = pD y := by
            rw [List.getElem?_map] at hd
            cases z : es[k]? with
            | none => rw [z] at hd; cases hd
            | some y => rw [z] at hd; cases hd; exact ⟨y, rfl, rfl⟩
          obtain ⟨b, rfl, hb⟩ := one_at hRx
          refine ⟨rfl, yesT ⟨.ref b, rfl, b, _, 1, _, rfl, rfl, SqL.of (same_upd nL2 _ _ (s14 _ _ hb)), atI_nat (j := 1) rfl, _, upd_same, by rw [List.length_map, List.length_take]; omega, ?_⟩⟩
          rw [upd_upd, List.take_add_one, hy, List.map_append]
          rfl
        rw [lvD, List.take_length] at e
        subst e
        have s15 := same_upd (o := .lst (es.map fun x => optV x.2)) nL2
        have eL2 : (upd H14 L2 (.lst (es.map fun x => optV x.2))) L2 = some (.lst ((lined (patL os) n).2.map optV)) := by rw [upd_same, one_snd, h2]
        generalize upd H14 L2 (.lst (es.map fun x => optV x.2)) = H15 at s15 eL2
        refine ⟨small_le (by show 2 ≤ 1000; decide), fun M2 nM2 => ?_⟩
        have s16 := same_upd (o := .lst [.ref L, .ref L2]) nM2
        have eM2 : (upd H15 M2 (.lst [.ref L, .ref L2])) M2 = some (.lst [.ref L, .ref L2]) := upd_same
        generalize upd H15 M2 (.lst [.ref L, .ref L2]) = H16 at s16 eM2
        have bD : B 100 10000000 (twoD (lined (patL os) n).1 (lined (patL os) n).2) := b_two (by omega) (by omega) (fun k hk => by have := hg2 k hk; omega) hg1
        refine ⟨.ref M2, twoD (lined (patL os) n).1 (lined (patL os) n).2, M2, rfl, rfl, rp_two eM2 (s16 _ _ (s15 _ _ eL)) (s16 _ _ eL2), bD, ?_⟩
        have sAll := (((s12.trans s13).trans s14).trans s15).trans s16
        have e16 := e11.trans (Ex.of sAll)
        have tb16 := tb11.same sAll
        obtain ⟨td, htd⟩ : ∃ td, (twoD (lined (patL os) n).1 (lined (patL os) n).2).shown = td := ⟨_, rfl⟩
        rw [htd]
        clear sAll s16 s15 s14 s13 s12 et eL eL2 eM2 nM2 nL nL2 nt nD hD h1 h2 hes esp11 e11 tb11
        -- again and again
        refine ⟨2, rfl, by omega, by omega, ?_⟩
        refine for_range (lo := 0) (n := (2 : Int).toNat) (fun j σ H => ∃ y11 y12, σ = [some (.ref a), some (.ref r), some (.int (0 + (i : Int))), some (.ref p), some (.int (mo : Int)), some (.ref sp), some (.ref q8), some (.str tx), some (.int (n : Int)), some (.ref D), some (.str td), y11, y12, none, none, none] ∧ Ex H10 H ∧ Tb P1 P2 H)
          ⟨z11, z12, rfl, e16, tb16⟩ (fun j σ H17 hj ⟨z11, z12, eσ, e17, tb17⟩ => ?_) (fun σ H17 ⟨z11, z12, eσ, e17, tb17⟩ => ⟨_, _, _, z11, z12, eσ, e17, tb17⟩)
        subst eσ
        have hp17 : ∀ {H}, Ex H10 H → Rp H (.ref q8) d8 := fun {H} e => Rp.ex e _ _ (Rp.sm (Hw.sub W H10) rp10)
        have hmn : ∀ rs' x, rs = rs' ++ [x] → isNone x.2 = false → (n : Int) ≤ sumW rs := fun rs' x e z => by have := hmm rs' x e z; omega
        -- told
        refine ⟨.ref q8, rfl, .int (n : Int), rfl, .ref q8, .int (n : Int), d8, .int (n : Int), rfl, hp17 e17, .int _, tb17, mom_of (os := os) hpl hpcs hF (by omega) hmn (fun k hk => hhp k (by omega)) fun pat hpat => ?_⟩
        intro L H18 e18 tb18 nL eL
        rw [hpat] at eL
        refine ⟨.ref q8, rfl, .int (n : Int), rfl, .ref q8, .int (n : Int), d8, .int (n : Int), rfl, hp17 (e17.trans e18), .int _, tb18, mom_of (os := os) hpl hpcs hF (by omega) hmn (fun k hk => hhp k (by omega)) fun pat2 hpat2 => ?_⟩
        intro L2 H19 e19 tb19 nL2 eL2
        rw [hpat2] at eL2
        have eL' := e19.lst eL
        have nLL : L2 ≠ L := fun z => by rw [z, eL] at nL2; cases nL2
        refine ⟨small_le (by show 2 ≤ 1000; decide), fun M3 nM3 => ?_⟩
        have s20 := same_upd (o := .lst [.ref L, .ref L2]) nM3
        have eM3 : (upd H19 M3 (.lst [.ref L, .ref L2])) M3 = some (.lst [.ref L, .ref L2]) := upd_same
        have nML : M3 ≠ L := fun z => by rw [z, eL'] at nM3; cases nM3
        generalize upd H19 M3 (.lst [.ref L, .ref L2]) = H20 at s20 eM3
        have e1720 := (e18.trans e19).trans (Ex.of s20)
        have nL17 : H10 L = none := e17.free nL
        have nL217 : H10 L2 = none := e17.free (e18.free nL2)
        have tb20 := tb19.same s20
        have eL20 := s20 _ _ eL'
        have eL220 := s20 _ _ eL2
        -- the if
        refine ⟨.ref M3, rfl, .ref M3, twoD (lined (patL os) n).1 (lined (patL os) n).2, M3, rfl, rfl, rp_two eM3 eL20 eL220, bD, ?_⟩
        rw [htd]
        refine ⟨.str td, rfl, rfl, _, rfl, ite2 (fun z => absurd z (by simp)) (fun _ => ?_)⟩
        refine ⟨.ref q8, rfl, .ref q8, d8, q8, rfl, rfl, hp17 (e17.trans e1720), hB, ?_⟩
        rw [htx]
        refine ⟨.str tx, rfl, rfl, _, rfl, ite2 (fun z => absurd z (by simp)) (fun _ => ?_)⟩
        -- told[0].append(7); told[1].reverse()
        refine ⟨.ref M3, rfl, M3, _, 0, .ref L, rfl, rfl, SqL.of eM3, atI_nat (j := 0) rfl, .inl ⟨rfl, _, SqL.of eL20⟩, L, _, .int 7, rfl, rfl, eL20, by rw [List.length_map]; omega, ?_⟩
        refine ⟨.ref M3, rfl, M3, _, 1, .ref L2, rfl, rfl, SqL.of (by rw [upd_ne nML]; exact eM3), atI_nat (j := 1) rfl, .inl ⟨rfl, _, SqL.of (by rw [upd_ne nLL]; exact eL220)⟩, L2, _, rfl, rfl, by rw [upd_ne nLL]; exact eL220, ?_⟩
        refine ⟨_, _, rfl, ((e17.trans e1720).put nL17).put nL217, (tb20.upd (fun ps z => by rw [eL20] at z; cases z)).upd (fun ps z => by rw [upd_ne nLL, eL220] at z; cases z)⟩
      · subst eσ
        have re11 := re10.kx e11
        have W11 := W10.ex e11
        have hp11 : Rp (Hw W H11) (.ref p) (.list (rs.map rowD)) := Rp.ex (Ex.hw e11) _ _ hp10
        have rp11 : Rp (Hw W H11) (.ref q8) d8 := Rp.ex (Ex.hw e11) _ _ rp10
        have esp11 := e11.lst esp10
        have skip : Nxt a r P1 P2 [some (.ref a), some (.ref r), some (.int (0 + (i : Int))), some (.ref p), some (.int (mo : Int)), some (.ref sp), some (.ref q8), some (.str tx), z8, z9, z10, z11, z12, none, none, none] H11 := ⟨W, _, _, _, _, _, _, _, _, _, _, _, rfl, re11, W11, tb11⟩
        clear re10 W10 hp10 rp10 esp10 eM tb10 e11
        rcases rows_cases he8 with rfl | rfl
        rotate_left
        · exact ⟨.ref q8, rfl, .ref q8, .ty "list", _, _, false, rfl, .ty _, (Rp.sm (Hw.sub W H11) rp11).ty, kit_list _, _, rfl, iteF (iteF skip)⟩
        refine ⟨.ref q8, rfl, .ref q8, .ty "list", _, _, true, rfl, .ty _, (Rp.sm (Hw.sub W H11) rp11).ty, kit_list _, _, rfl, iteT ?_⟩
        obtain ⟨p5, xs5, ep5, hp5, hx5⟩ := rp_list hp11
        obtain rfl := V.ref.inj ep5
        have lx5 : xs5.length = rs.length := by rw [hx5.length, List.length_map]
        refine ⟨.ref p, rfl, p, _, rfl, .inl (SqL.of (Hw.sub _ _ _ _ hp5)), (xs5.length : Int), 8, rfl, rfl, _, rfl, ite2 (fun e1 => ?_) (fun _ => iteF skip)⟩
        have h8 : rs.length < 8 := by have := of_decide_eq_true e1; omega
        obtain ⟨rs', x, ers, hno⟩ := fine_snoc hF
        obtain ⟨vs', v, rfl, hA, hv⟩ : ∃ vs' v, xs5 = vs' ++ [v] ∧ RpAll (Hw W H11) vs' (rs'.map rowD) ∧ Rp (Hw W H11) v (rowD x) := by
          rw [ers, List.map_append] at hx5
          exact RpAll.unsnoc hx5
        obtain ⟨b, vt, vm, rfl, hb, hvm⟩ : ∃ b vt vm, v = .ref b ∧ Hw W H11 b = some (.tup [vt, vm]) ∧ Rp (Hw W H11) vm x.2 := by
          cases hv with
          | @tup b xs _ hb hxs =>
            cases hxs with
            | @cons vt _ _ _ ht hxs2 =>
              cases hxs2 with
              | @cons vm _ _ _ hm hxs3 =>
                cases hxs3
                exact ⟨b, vt, vm, rfl, hb, hm⟩
        refine ⟨.ref p, rfl, 1, rfl, p, _, -1, .ref b, rfl, rfl, SqL.of (Hw.sub _ _ _ _ hp5), atI_last _ _, b, _, 1, vm, rfl, rfl, SqT.of (Hw.sub _ _ _ _ hb), atI_nat (j := 1) rfl, _, rfl, ite2 (fun e2 => ?_) (fun _ => iteF skip)⟩
        have hxn : isNone x.2 = false := by
          cases e3 : x.2 with
          | none =>
            rw [e3] at hvm
            cases hvm
            simp at e2
          | _ => rfl
        have hnone : ∀ y ∈ rs, isNone y.2 = false := fun y hy => by
          rw [ers] at hy
          rcases List.mem_append.mp hy with hy | hy
          · exact hno y hy
          · rw [List.mem_singleton.mp hy]; exact hxn
        refine ⟨.ref sp, rfl, sp, _, rfl, .inl (SqL.of esp11), .int (mo : Int), rfl, ((os.map optV).length : Int), (mo : Int), rfl, rfl, _, rfl, ite2 (fun e3 => ?_) (fun _ => skip)⟩
        have hlt : os.length < mo := by have := of_decide_eq_true e3; rw [lOs] at this; omega
        obtain ⟨hS, hh2⟩ := hX hnone hlt
        clear skip hvm hb hA hv hx5 hp5 e1 e2 e3 hp11
        -- handed.append(([0, 2], 3))
        obtain ⟨q9, x9, eq9, hq9, hx9⟩ := rp_list rp11
        obtain rfl := V.ref.inj eq9
        have hda8 := drs_list drs
        have l9 : x9.length = rs.length := by rw [hx9.length, ← hda8.length, List.length_map]
        obtain ⟨b9, hb9⟩ := row_ref hda8 hF.row l1 hx9
        have nWq := Hw.ne hq9
        have nq8r : q8 ≠ r := fun z => nWq (by rw [z]; exact W11.reel)
        have nspq : sp ≠ q8 := fun z => by
          rw [z, Hw.sub _ _ _ _ hq9] at esp11
          have e := HO.lst.inj (Option.some.inj esp11)
          rw [e] at hb9
          obtain ⟨o, _, ho⟩ := List.mem_map.mp hb9
          cases o <;> cases ho
        refine ⟨.ref q8, rfl, .inl ⟨rfl, _, SqL.of (Hw.sub _ _ _ _ hq9)⟩, small_le (by show 2 ≤ 1000; decide), fun t nt => ?_⟩
        have nWt : ¬ (W t ∨ t = q8) := fun z => z.elim (W11.out nt) fun z => by rw [z, Hw.sub _ _ _ _ hq9] at nt; cases nt
        have s12 := same_upd (o := .lst [.int 0, .int 2]) nt
        have et : (upd H11 t (.lst [.int 0, .int 2])) t = some (.lst [.int 0, .int 2]) := upd_same
        generalize upd H11 t (.lst [.int 0, .int 2]) = H12 at s12 et
        refine ⟨small_le (by show 2 ≤ 1000; decide), fun u nu => ?_⟩
        have W12 := W11.mv (re11.same s12) (Mv.of s12 re11)
        have nWu : ¬ (W u ∨ u = q8) := fun z => z.elim (W12.out nu) fun z => by rw [z, s12 _ _ (Hw.sub _ _ _ _ hq9)] at nu; cases nu
        have s13 := same_upd (o := .tup [.ref t, .int 3]) nu
        have eu : (upd H12 u (.tup [.ref t, .int 3])) u = some (.tup [.ref t, .int 3]) := upd_same
        generalize upd H12 u (.tup [.ref t, .int 3]) = H13 at s13 eu
        have s1113 := s12.trans s13
        have hq13 := Same.hw (W := W) s1113 _ _ hq9
        have re13 := re11.same s1113
        have W13 := W11.mv re13 (Mv.of s1113 re11)
        have tb13 := tb11.same s1113
        refine ⟨q8, _, _, rfl, rfl, Hw.sub _ _ _ _ hq13, by omega, ?_⟩
        have rp14 : Rp (Hw W (upd H13 q8 (.lst (x9 ++ [.ref u])))) (.ref q8) (.list (e8s ++ [rowD xRow])) := rp_write hq13 (RpAll.sm (Same.hw (W := W) s1113) hx9) fun h =>
          h.snoc (.tup (xs := [.ref t, .int 3]) (by rw [Hw.at (W := fun b => W b ∨ b = q8) nWu]; exact eu) (.cons (.lst (xs := [.int 0, .int 2]) (by rw [Hw.at (W := fun b => W b ∨ b = q8) nWt]; exact s13 _ _ et) (.cons (.int 0) (.cons (.int 2) .nil))) (.cons (.int 3) .nil)))
        have re14 := re13.store (o := .lst (x9 ++ [.ref u])) (free_of re13 nq8r (Hw.sub _ _ _ _ hq13) hb9)
        have W14 := W13.upd (p := q8) (o := .lst (x9 ++ [.ref u]))
        have tb14 := tb13.upd (o := .lst (x9 ++ [.ref u])) (p := q8) (fun ps z => by rw [Hw.sub _ _ _ _ hq13] at z; cases z)
        have esp14 : (upd H13 q8 (.lst (x9 ++ [.ref u]))) sp = some (.lst (os.map optV)) := by rw [upd_ne nspq]; exact s1113 _ _ esp11
        generalize upd H13 q8 (.lst (x9 ++ [.ref u])) = H14 at rp14 re14 W14 tb14 esp14
        clear hq13 W13 re13 tb13 s1113 s13 eu W12 s12 et nt nu hq9 hx9 esp11 rp11 re11 W11 tb11
        -- stood
        refine ⟨.ref sp, rfl, small_le (by show 3 ≤ 1000; decide), fun t3 nt3 => ?_⟩
        have s15 := same_upd (o := .lst [.int 0, .int 2, .int 0]) nt3
        have et3 : (upd H14 t3 (.lst [.int 0, .int 2, .int 0])) t3 = some (.lst [.int 0, .int 2, .int 0]) := upd_same
        generalize upd H14 t3 (.lst [.int 0, .int 2, .int 0]) = H15 at s15 et3
        refine ⟨sp, t3, _, _, rfl, rfl, s15 _ _ esp14, et3, by rw [lOs]; show _ + 3 ≤ sizeLine; omega, fun T nT => ?_⟩
        have s16 := same_upd (o := .lst (os.map optV ++ [.int 0, .int 2, .int 0])) nT
        have eT : (upd H15 T (.lst (os.map optV ++ [.int 0, .int 2, .int 0]))) T = some (.lst ((os ++ [some 0, some 2, some 0]).map optV)) := by rw [upd_same, List.map_append]; rfl
        generalize upd H15 T (.lst (os.map optV ++ [.int 0, .int 2, .int 0])) = H16 at s16 eT
        have l2 : (os ++ [some 0, some 2, some 0]).length = os.length + 3 := by rw [List.length_append]; rfl
        refine ⟨T, os ++ [some 0, some 2, some 0], rfl, eT, by rw [l2]; omega, fun D es H17 s17 nD hD h1 h2 => ?_⟩
        rw [l2] at h1 h2
        have s1417 := (s15.trans s16).trans s17
        have esp17 := s1417 _ _ esp14
        have hes : es.length ≤ 2100 := by
          have := (lined_len (patL (os ++ [some 0, some 2, some 0])) (os.length + 3)).1
          rw [← h1, List.length_map] at this
          omega
        obtain ⟨hpl2, hpcs2⟩ := dressed_plan (drs_snoc hda8) (fine_x hF h8 hnone hs)
        -- queue_at
        refine ⟨.ref q8, rfl, .ref sp, rfl, sp, _, rfl, .inl (SqL.of esp17), ((os.map optV).length : Int), 3, rfl, rfl, ?_⟩
        have el : (((os.map optV).length : Int) + 3) = ((os.length + 3 : Nat) : Int) := by rw [lOs]; rfl
        refine ⟨.ref q8, .int (((os.map optV).length : Int) + 3), .list (e8s ++ [rowD xRow]), .int ((os.length + 3 : Nat) : Int), rfl, Rp.sm s1417 (Rp.sm (Hw.sub W H14) rp14), by rw [el]; exact .int _, tb14.same s1417, mom_of (rs := rs ++ [xRow]) (os := os ++ [some 0, some 2, some 0]) hpl2 hpcs2 (fine_x hF h8 hnone hs) (by omega) (fun rs2 y e z => by rw [sumW_snoc2]; show _ ≤ sumW rs + 3; omega) hh2 fun pat hpat => ?_⟩
        intro L H18 e18 tb18 nL eL
        refine one_lc (i := 9) (j := 15) (es := es) (fun x => V.int x.1) (fun x => atI_nat (j := 0) rfl) rfl (fun _ => rfl) (fun _ => rfl) (Rp.ex e18 _ _ hD) hes fun L2 nL2 => ?_
        have s19 := same_upd (o := .lst (es.map fun x => V.int x.1)) nL2
        have eL2 := s19 _ _ eL
        have eq2 : (upd H18 L2 (.lst (es.map fun x => V.int x.1))) L2 = some (.lst (((lined pat (os.length + 3)).1).map V.int)) := by rw [upd_same, one_fst, h1, hpat]
        refine ⟨_, _, dp_ints eL2, dp_ints eq2, ints_shaped _, ints_shaped _, _, rfl, ?_⟩
        rw [SeqAt.eqv_refl _ (ints_lay1 _)]
        refine iteF ?_
        have e1419 := ((Ex.of s1417).trans e18).trans (Ex.of s19)
        exact ⟨W, _, _, _, _, _, _, _, _, _, _, _, rfl, re14.kx e1419, W14.ex e1419, tb18.same s19⟩
  · obtain ⟨W, y2, y3, y4, y5, y6, y7, y8, y9, y10, y11, y12, rfl, re2, W2, tb2⟩ := hP
    exact ⟨.ref r, rfl, r, W, rfl, re2, W2, tb2, fun H' => q H'⟩
end
end CL
set_option Elab.async false
set_option linter.all false
set_option maxRecDepth 100000
set_option maxHeartbeats 4000000
namespace CL
open PySem PySem.Spec PyProof.Rows L2 GE
/-! ### the end: what is tracked when the law is called, and that the run leaves the heap as it was but for the tables -/
def H0 (ts : List Addr) (K : PySem.W.Frag) (a : Addr) (vs : List Value) (ns : List Int) : Hp := fun b =>
  if b ∈ ts then some (.tbl #[]) else if b = a ∧ (K.lookup a).isNone = true then some (.frz { cls := .type "list", data := .seq vs.toArray } (.lst (ns.map V.int))) else none
section
variable {ts : List Addr} {K : PySem.W.Frag} {a : Addr} {vs : List Value} {ns : List Int} {h : Heap}
theorem H0.tab {b : Addr} (m : b ∈ ts) : H0 ts K a vs ns b = some (.tbl #[]) := if_pos m
theorem H0.cases {b : Addr} {u : HO} (e : H0 ts K a vs ns b = some u) : (b ∈ ts ∧ u = .tbl #[]) ∨ (b = a ∧ K.lookup a = none ∧ u = .frz { cls := .type "list", data := .seq vs.toArray } (.lst (ns.map V.int))) := by
  unfold H0 at e
  split at e
  · rename_i m
    exact .inl ⟨m, (Option.some.inj e).symm⟩
  · split at e
    · rename_i z
      exact .inr ⟨z.1, Option.isNone_iff_eq_none.mp z.2, (Option.some.inj e).symm⟩
    · cases e
/-- an object that is no list and no empty table is not tracked -/
theorem H0.other (hT : ∀ b ∈ ts, h.get? b = some { cls := .none, data := .fields #[] }) (ha : h.get? a = some { cls := .type "list", data := .seq vs.toArray }) {b : Addr} {o : Obj} (e : h.get? b = some o) (h1 : o.data ≠ .seq vs.toArray) (h2 : o.data ≠ .fields #[]) :
    H0 ts K a vs ns b = none := by
  cases q : H0 ts K a vs ns b with
  | none => rfl
  | some u =>
    rcases H0.cases q with ⟨m, _⟩ | ⟨rfl, _, _⟩
    · rw [hT b m] at e
      cases e
      exact absurd rfl h2
    · rw [ha] at e
      cases e
      exact absurd rfl h1
end
theorem end_own {P : Program} {w : World} {K : PySem.W.Frag} {mg mb : Str → Option Value} {q : Program} {loose : List Str} {mean : ExcName → Option Value} {k : Nat} {fa a : Addr} {fd : FuncData} {x : Str} {sp : Sp} {s₁ : Shared} {vs : List Value} {ns : List Int} (ts : List Addr)
    (KX : K.In s₁.heap) (T : Top q loose mean mg mb s₁.heap) (hi0 : importsNone q = true) (hg : s₁.gens = #[])
    (hT : ∀ b ∈ ts, s₁.heap.get? b = some { cls := .none, data := .fields #[] }) (hC : ∀ b ∈ ts, ∃ c, PySem.W.codeHdIn K c b = true) (nT : ∀ b ∈ ts, K.lookup b = none)
    (ha : s₁.heap.get? a = some { cls := .type "list", data := .seq vs.toArray }) (hi : IntsAre vs ns) (hl : ns.length ≤ sizeLine) (hr : Room k callerA)
    (F : ∀ base : Heap, K.In base → base.Ns mainGlobals mg → (∃ o, base.get? sysModules = some o) → (∀ b ∈ ts, base.BuiltinsAt mg b ∧ mainGlobals ≠ b) → FnG P w K mg base k fa fd [x] sp)
    (hbind : ∀ (s : Shared) (u : Value), BindsTo s fd ⟨[u], []⟩ [(x, u)])
    (hsp : ∀ H : Hp, (∀ b ∈ ts, H b = some (.tbl #[])) → SqL K H a (ns.map V.int) → sp [.ref a] H (fun v _ => v = .bl true) fun _ _ _ => False) :
    codeAny (model P w) callerA (.call (.ref fa) ⟨[.ref a], []⟩) (fun r s' => r = .ok (.ret (.bool true)) ∧ OldK s₁.heap s'.heap ∧ s'.os = s₁.os ∧ AllBare s'.gens) s₁ := by
  have rv := vals_ints hi
  have aT : a ∉ ts := fun m => by
    have z := hT a m
    rw [ha] at z
    cases z
  generalize hH : H0 ts K a vs ns = H
  have tabs : ∀ b ∈ ts, H b = some (.tbl #[]) := fun b m => by rw [← hH]; exact H0.tab m
  have cs : ∀ {b : Addr} {u : HO}, H b = some u → (b ∈ ts ∧ u = .tbl #[]) ∨ (b = a ∧ K.lookup a = none ∧ u = .frz { cls := .type "list", data := .seq vs.toArray } (.lst (ns.map V.int))) := fun e => by
    rw [← hH] at e
    exact H0.cases e
  have oth : ∀ {b : Addr} {o : Obj}, s₁.heap.get? b = some o → o.data ≠ .seq vs.toArray → o.data ≠ .fields #[] → H b = none := fun e h1 h2 => by
    rw [← hH]
    exact H0.other hT ha e h1 h2
  have inB : ∀ {b : Addr} {o : Obj}, s₁.heap.get? b = some o → H b = none → (hidT s₁.heap H).get? b = some o := fun e n => hidT_get e n
  have nsB : ∀ {b : Addr} {m : Str → Option Value}, s₁.heap.Ns b m → (hidT s₁.heap H).Ns b m := fun ⟨o, es, ep, e, d, r⟩ => ⟨o, es, ep, inB e (oth e (by rw [d]; exact nofun) (by rw [d]; exact nofun)), d, r⟩
  have hok : HOk P w H s₁.heap := fun b u e => by
    rcases cs e with ⟨m, rfl⟩ | ⟨rfl, _, rfl⟩
    · exact hT b m
    · exact ⟨ha, by rw [List.length_map]; exact hl, vs, _, rv, ha⟩
  have hS : SqL K H a (ns.map V.int) := by
    cases hk : K.lookup a with
    | some o =>
      have e := KX a o hk
      rw [ha] at e
      cases e
      exact .inr ⟨_, vs.toArray, _, hk, rfl, rfl, rfl, by rw [List.size_toArray, hi.length]; exact hl, by simpa using rv⟩
    | none =>
      have e : H a = some (.frz { cls := .type "list", data := .seq vs.toArray } (.lst (ns.map V.int))) := by
        rw [← hH]
        unfold H0
        rw [if_neg aT, if_pos ⟨rfl, by rw [hk]; rfl⟩]
      exact .inl (.inr ⟨_, e⟩)
  have KB : K.In (hidT s₁.heap H) := fun b o e => inB (KX b o e) (by
    cases z : H b with
    | none => rfl
    | some u =>
      rcases cs z with ⟨m, _⟩ | ⟨rfl, n, _⟩
      · rw [nT b m] at e; cases e
      · rw [n] at e; cases e)
  have hM : L2.Mod K mg (hidT s₁.heap H) := ⟨KB, nsB T.g, ⟨mb, nsB T.b, T.builtins⟩, let ⟨mc, h1, h2⟩ := T.nolimit; ⟨mc, nsB h1, h2⟩⟩
  have sysB : ∃ o, (hidT s₁.heap H).get? sysModules = some o := by
    obtain ⟨mm, ⟨o, es, ep, e, d, _⟩, _⟩ := (T.seer hi0).mods
    exact ⟨o, inB e (oth e (by rw [d]; exact nofun) (by rw [d]; exact nofun))⟩
  have gB : ∀ b ∈ ts, mainGlobals ≠ b := fun b m z => by
    obtain ⟨o, es, ep, e, d, _⟩ := T.g
    rw [z, hT b m] at e
    cases e
    cases d
  have bB : ∀ b ∈ ts, (hidT s₁.heap H).BuiltinsAt mg b := fun b m => by
    obtain ⟨bm, ob, b1, b2, b3, b4, b5, b6⟩ := T.bmain
    refine ⟨bm, ob, b1, b2, fun z => ?_, fun z => ?_, inB b3 (oth b3 (by rw [b6]; exact nofun) (by rw [b6]; exact nofun)), b4, b5, b6⟩
    · obtain ⟨o, es, ep, e, d, _⟩ := T.g
      rw [z, e] at b3
      cases b3
      rw [d] at b6
      cases b6
    · rw [z, hT b m] at b3
      cases b3
      cases b6
  have e0 : Env0 P w K mg (hidT s₁.heap H) callerA [] s₁ H := ⟨rfl, hM, fun b o e => of_hidT e, Nat.le_of_eq (hidT_size _ _), trivial, fun b hb => absurd (show b ∈ ([] : List Addr) from hb) (by simp), hok, .of_eq hg⟩
  have G := F _ KB (nsB T.g) sysB fun b m => ⟨bB b m, gB b m⟩
  refine codeAny_mono (G.run callerA [] s₁ H ⟨[.ref a], []⟩ [.ref a] [.ref a] _ _ rfl hr e0 (hbind s₁ (.ref a)) (.cons rfl .nil) (hsp H tabs hS)) fun r s' z => ?_
  cases r with
  | error e => exact False.elim z
  | ok fl =>
    cases fl with
    | next => exact False.elim z
    | brk => exact False.elim z
    | cont => exact False.elim z
    | ret u =>
      obtain ⟨v, H', os, bare, un, hok', r', e'⟩ := z
      obtain rfl : v = .bl true := e'
      obtain rfl : u = Value.bool true := r'
      have stays : ∀ b o, b ∉ ts → s₁.heap.get? b = some o → s'.heap.get? b = some o := fun b o nb e => by
        cases z : H b with
        | none => exact un.keep b o e z (fun y => absurd (show b ∈ ([] : List Addr) from y) (by simp)) (by simp)
        | some u =>
          rcases cs z with ⟨m, _⟩ | ⟨rfl, _, rfl⟩
          · exact absurd m nb
          · rw [ha] at e
            cases e
            exact (hok' _ _ (un.frzs _ _ _ z)).1
      have grow : ∀ b ∈ ts, ∃ more : Array Value, s'.heap.get? b = some { cls := .none, data := .fields more } := fun b m => by
        obtain ⟨more, e⟩ := un.tbls b #[] (tabs b m)
        exact ⟨_, hok' b _ e⟩
      refine ⟨rfl, ⟨fun b o e => ?_, fun b o e => ?_⟩, os, bare⟩
      · by_cases m : b ∈ ts
        · obtain ⟨c, hc⟩ := hC b m
          obtain ⟨more, hm⟩ := grow b m
          rw [hT b m] at e
          cases e
          exact .inr (.inl ⟨((PySem.W.codeHd_of_K KX hc).tab (hT b m)).isCodeTable, rfl, #[], more, rfl, by rw [Array.empty_append]; exact hm⟩)
        · exact .inl (stays b o m e)
      · by_cases m : b ∈ ts
        · obtain ⟨more, hm⟩ := grow b m
          exact ⟨_, hm⟩
        · exact ⟨o, stays b o m e⟩
end CL
set_option Elab.async false
set_option linter.all false
set_option maxRecDepth 100000
set_option maxHeartbeats 4000000
namespace CL
open PySem PySem.Spec PyProof.Rows L2 GE
theorem fnE {P : Program} {w : World} {K : PySem.W.Frag} {mg : Str → Option Value} {base : Heap} {k : Nat} {f : Addr} {fd : FuncData} {ps : List Str} {sp : Addr → Sp} (F : ∀ r, FnOk P w K mg base CX0 k f fd ps (sp r)) : FnOk P w K mg base CX0 k f fd ps (spE sp) :=
  ⟨fun vs H Q E ⟨r, h⟩ => (F r).len vs H Q E h, fun A outer s H args us vs Q E hr e0 hb rv ⟨r, h⟩ => (F r).run A outer s H args us vs Q E hr e0 hb rv h⟩
/-- the table of a def of the program is empty when the law is called -/
theorem tab_of {q : Program} {loose : List Str} {mean : ExcName → Option Value} {mg mb : Str → Option Value} {h : Heap} {K : PySem.W.Frag} {n : Str} {f c P : Addr} {o : Obj} {fd : FuncData} (T : Top q loose mean mg mb h) (KX : K.In h) (hr : ((recsOf q).any fun e => e.name == n) = true)
    (hm : mg n = some (.ref f)) (k1 : K.lookup f = some o) (k2 : o.data = .func fd) (k3 : fd.code = .ref c) (hh : PySem.W.codeHdIn K c P = true) : h.get? P = some { cls := .none, data := .fields #[] } := by
  obtain ⟨d, hd, e⟩ := List.any_eq_true.mp hr
  have e' : d.name = n := beq_iff_eq.mp e
  obtain ⟨a', o', fd', c', P', t1, t2, t3, t4, t5, t6⟩ := T.tab d hd
  rw [e', hm] at t1
  cases t1
  rw [KX _ _ k1] at t2
  cases t2
  rw [k2] at t3
  cases t3
  rw [k3] at t4
  cases t4
  obtain ⟨⟨oc, vc, g1, _, g3, g4⟩, g5⟩ := t6
  obtain ⟨oh, uh, _, _, _, _, _, _, _, i1, _, i2, i3, _⟩ := PySem.W.codeHd_of_K KX hh
  rw [g1] at i1
  cases i1
  rw [g3] at i2
  cases i2
  rw [g4] at i3
  cases i3
  exact g5
/-- what the head must know of the law's def -/
def AtLaw (l : PySem.W.OpenLaw) (w : World) (K : PySem.W.Frag) (mg : Str → Option Value) (fa : Addr) (h : Heap) : Prop :=
  ∃ (fd : FuncData) (P1 P2 : Addr), (∀ b ∈ [P1, P2], h.get? b = some { cls := .none, data := .fields #[] }) ∧ (∀ b ∈ [P1, P2], ∃ c, PySem.W.codeHdIn K c b = true) ∧ (∀ b ∈ [P1, P2], K.lookup b = none) ∧ (∀ (s : Shared) (u : Value), BindsTo s fd ⟨[u], []⟩ [("script", u)]) ∧
    ∀ base : Heap, K.In base → base.Ns mainGlobals mg → (∃ o, base.get? sysModules = some o) → (∀ b ∈ [P1, P2], base.BuiltinsAt mg b ∧ mainGlobals ≠ b) → FnG l.prog w K mg base 13 fa fd ["script"] (spLaw K P1 P2)
theorem walk {l : PySem.W.OpenLaw} {q : Program} {loose : List Str} {XP : (Str → Option Value) → Heap → Prop} {YP : World → Heap → Prop} {d : DefRec} {K : Params → PySem.W.Frag} (hn : l.most = some 63) (hdf : d.params.defaults = []) (hi0 : importsNone q = true)
    (hY : ∀ (w : World) (h : Heap), YP w h → (K w.params).In h)
    (F : ∀ (w : World) (mg mb : Str → Option Value) (mean : ExcName → Option Value) (lo : List Str) (fa : Addr) (h : Heap), (K w.params).In h → Top q lo mean mg mb h → mg d.name = some (.ref fa) → AtLaw l w (K w.params) mg fa h) :
    PySem.W.WalkO q loose XP YP l.row.toRowW d [] (fun f vs => PySem.call f vs) := by
  refine Att.attach_callB hn hdf fun w s₀ s₁ mg mb fa o pm cd doc a vs ns G Y ho hd hcd hmg hobj hints hlen _ hg => ?_
  obtain ⟨fd, P1, P2, h1, h2, h3, h4, h5⟩ := F w mg mb _ _ fa s₁.heap (hY w _ Y) G.T hmg
  exact end_own [P1, P2] (hY w _ Y) G.T hi0 hg h1 h2 h3 hobj hints (Nat.le_trans hlen (by decide)) ⟨rfl, by decide, by decide⟩ h5 h4 fun H t hS => ⟨a, ns, rfl, hS, hlen, ⟨⟨#[], t P1 (by simp), trivial⟩, ⟨#[], t P2 (by simp), trivial⟩⟩, fun _ => rfl⟩
theorem all_mk {l : PySem.W.OpenLaw} {w : World} {K : PySem.W.Frag} {q : Program} {lo : List Str} {mean : ExcName → Option Value} {h : Heap} {mg mb : Str → Option Value} {fa fW fR fA fT fI fL fCKP fG fM fV fJ fQ fN fLTP fU fS fO fF fE fD fpa ftu fne fsd fso fdr ffr fZ cT cL PT PL X1 X3 X4 : Addr} (X : K.In h) (G : Top q lo mean mg mb h) (hfa : mg "law" = some (.ref fa))
    {odW anW : Option Addr} {slW : Array (Option Value)} {ocW kVW dcW pmW cdW ctW : Value}
    {odR anR : Option Addr} {slR : Array (Option Value)} {ocR kVR dcR pmR cdR ctR : Value}
    {odA anA : Option Addr} {slA : Array (Option Value)} {ocA kVA dcA pmA cdA ctA : Value}
    {odT anT : Option Addr} {slT : Array (Option Value)} {ocT kVT dcT pmT ctT : Value}
    {odI anI : Option Addr} {slI : Array (Option Value)} {ocI kVI dcI pmI cdI ctI : Value}
    {odL anL : Option Addr} {slL : Array (Option Value)} {ocL kVL dcL pmL ctL : Value}
    {odCKP anCKP : Option Addr} {slCKP : Array (Option Value)} {ocCKP kVCKP dcCKP pmCKP cdCKP ctCKP : Value}
    {odG anG : Option Addr} {slG : Array (Option Value)} {ocG kVG dcG pmG cdG ctG : Value}
    {odM anM : Option Addr} {slM : Array (Option Value)} {ocM kVM dcM pmM cdM ctM : Value}
    {odV anV : Option Addr} {slV : Array (Option Value)} {ocV kVV dcV pmV cdV ctV : Value}
    {odJ anJ : Option Addr} {slJ : Array (Option Value)} {ocJ kVJ dcJ pmJ cdJ ctJ : Value}
    {odQ anQ : Option Addr} {slQ : Array (Option Value)} {ocQ kVQ dcQ pmQ cdQ ctQ : Value}
    {odN anN : Option Addr} {slN : Array (Option Value)} {ocN kVN dcN pmN cdN ctN : Value}
    {odLTP anLTP : Option Addr} {slLTP : Array (Option Value)} {ocLTP kVLTP dcLTP pmLTP cdLTP ctLTP : Value}
    {odU anU : Option Addr} {slU : Array (Option Value)} {ocU kVU dcU pmU cdU ctU : Value}
    {odS anS : Option Addr} {slS : Array (Option Value)} {ocS kVS dcS pmS cdS ctS : Value}
    {odO anO : Option Addr} {slO : Array (Option Value)} {ocO kVO dcO pmO cdO ctO : Value}
    {odF anF : Option Addr} {slF : Array (Option Value)} {ocF kVF dcF pmF cdF ctF : Value}
    {odE anE : Option Addr} {slE : Array (Option Value)} {ocE kVE dcE pmE cdE ctE : Value}
    {odD anD : Option Addr} {slD : Array (Option Value)} {ocD kVD dcD pmD cdD ctD : Value}
    {odpa anpa : Option Addr} {slpa : Array (Option Value)} {ocpa kVpa dcpa pmpa cdpa ctpa : Value}
    {odtu antu : Option Addr} {sltu : Array (Option Value)} {octu kVtu dctu pmtu cdtu cttu : Value}
    {odne anne : Option Addr} {slne : Array (Option Value)} {ocne kVne dcne pmne cdne ctne : Value}
    {odsd ansd : Option Addr} {slsd : Array (Option Value)} {ocsd kVsd dcsd pmsd cdsd ctsd : Value}
    {odso anso : Option Addr} {slso : Array (Option Value)} {ocso kVso dcso pmso cdso ctso : Value}
    {oddr andr : Option Addr} {sldr : Array (Option Value)} {ocdr kVdr dcdr pmdr cddr ctdr : Value}
    {odfr anfr : Option Addr} {slfr : Array (Option Value)} {ocfr kVfr dcfr pmfr cdfr ctfr : Value}
    {odZ anZ : Option Addr} {slZ : Array (Option Value)} {ocZ kVZ dcZ pmZ cdZ ctZ : Value} {eT : Value} {dT : Option Addr} {usT : Array Value} {wT : Array (Option Value)} {eL : Value} {dL : Option Addr} {usL : Array Value} {wL : Array (Option Value)}
    (aW : PySem.W.nsIn K mainGlobals "is_whole" = some (some (.ref fW))) (lW : K.lookup fW = some ⟨ocW, odW, .func (PySem.W.fnOf "is_whole" "is_whole" (defArgs sWhole) (defBody sWhole) (defScope sWhole) .none kVW dcW pmW anW cdW ctW), slW⟩) (Wc : PySem.W.codeIn K cdW "is_whole" = true) (kW : PySem.W.keepIn K (.ref fW) = true)
    (aR : PySem.W.nsIn K mainGlobals "is_row" = some (some (.ref fR))) (lR : K.lookup fR = some ⟨ocR, odR, .func (PySem.W.fnOf "is_row" "is_row" (defArgs sRow) (defBody sRow) (defScope sRow) .none kVR dcR pmR anR cdR ctR), slR⟩) (Rc : PySem.W.codeIn K cdR "is_row" = true) (kR : PySem.W.keepIn K (.ref fR) = true)
    (aA : PySem.W.nsIn K mainGlobals "is_patience" = some (some (.ref fA))) (lA : K.lookup fA = some ⟨ocA, odA, .func (PySem.W.fnOf "is_patience" "is_patience" (defArgs sPat) (defBody sPat) (defScope sPat) .none kVA dcA pmA anA cdA ctA), slA⟩) (Ac : PySem.W.codeIn K cdA "is_patience" = true) (kA : PySem.W.keepIn K (.ref fA) = true)
    (aT : PySem.W.nsIn K mainGlobals "is_turns" = some (some (.ref fT))) (lT : K.lookup fT = some ⟨ocT, odT, .func (PySem.W.fnOf "is_turns" "is_turns" (defArgs sTurns) (defBody sTurns) (defScope sTurns) .none kVT dcT pmT anT (.ref cT) ctT), slT⟩) (Tc : PySem.W.codeIn K (.ref cT) "is_turns" = true) (kT : PySem.W.keepIn K (.ref fT) = true)
    (aI : PySem.W.nsIn K mainGlobals "is_piece" = some (some (.ref fI))) (lI : K.lookup fI = some ⟨ocI, odI, .func (PySem.W.fnOf "is_piece" "is_piece" (defArgs sPiece) (defBody sPiece) (defScope sPiece) .none kVI dcI pmI anI cdI ctI), slI⟩) (Ic : PySem.W.codeIn K cdI "is_piece" = true) (kI : PySem.W.keepIn K (.ref fI) = true)
    (aL : PySem.W.nsIn K mainGlobals "is_plan" = some (some (.ref fL))) (lL : K.lookup fL = some ⟨ocL, odL, .func (PySem.W.fnOf "is_plan" "is_plan" (defArgs sPlan) (defBody sPlan) (defScope sPlan) .none kVL dcL pmL anL (.ref cL) ctL), slL⟩) (Lc : PySem.W.codeIn K (.ref cL) "is_plan" = true) (kL : PySem.W.keepIn K (.ref fL) = true)
    (aCKP : PySem.W.nsIn K mainGlobals "check_plan" = some (some (.ref fCKP))) (lCKP : K.lookup fCKP = some ⟨ocCKP, odCKP, .func (PySem.W.fnOf "check_plan" "check_plan" (defArgs sCheck) (defBody sCheck) (defScope sCheck) .none kVCKP dcCKP pmCKP anCKP cdCKP ctCKP), slCKP⟩) (CKPc : PySem.W.codeIn K cdCKP "check_plan" = true) (kCKP : PySem.W.keepIn K (.ref fCKP) = true)
    (aG : PySem.W.nsIn K mainGlobals "pieces_of" = some (some (.ref fG))) (lG : K.lookup fG = some ⟨ocG, odG, .func (PySem.W.fnOf "pieces_of" "pieces_of" (defArgs sPieces) (defBody sPieces) (defScope sPieces) .none kVG dcG pmG anG cdG ctG), slG⟩) (Gc : PySem.W.codeIn K cdG "pieces_of" = true) (kG : PySem.W.keepIn K (.ref fG) = true)
    (aM : PySem.W.nsIn K mainGlobals "many_in" = some (some (.ref fM))) (lM : K.lookup fM = some ⟨ocM, odM, .func (PySem.W.fnOf "many_in" "many_in" (defArgs sMany) (defBody sMany) (defScope sMany) .none kVM dcM pmM anM cdM ctM), slM⟩) (Mc : PySem.W.codeIn K cdM "many_in" = true) (kM : PySem.W.keepIn K (.ref fM) = true)
    (aV : PySem.W.nsIn K mainGlobals "piece_number" = some (some (.ref fV))) (lV : K.lookup fV = some ⟨ocV, odV, .func (PySem.W.fnOf "piece_number" "piece_number" (defArgs sPieceNo) (defBody sPieceNo) (defScope sPieceNo) .none kVV dcV pmV anV cdV ctV), slV⟩) (Vc : PySem.W.codeIn K cdV "piece_number" = true) (kV : PySem.W.keepIn K (.ref fV) = true)
    (aJ : PySem.W.nsIn K mainGlobals "turn_at" = some (some (.ref fJ))) (lJ : K.lookup fJ = some ⟨ocJ, odJ, .func (PySem.W.fnOf "turn_at" "turn_at" (defArgs sTurnAt) (defBody sTurnAt) (defScope sTurnAt) .none kVJ dcJ pmJ anJ cdJ ctJ), slJ⟩) (Jc : PySem.W.codeIn K cdJ "turn_at" = true) (kJ : PySem.W.keepIn K (.ref fJ) = true)
    (aQ : PySem.W.nsIn K mainGlobals "patience_at" = some (some (.ref fQ))) (lQ : K.lookup fQ = some ⟨ocQ, odQ, .func (PySem.W.fnOf "patience_at" "patience_at" (defArgs sPatAt) (defBody sPatAt) (defScope sPatAt) .none kVQ dcQ pmQ anQ cdQ ctQ), slQ⟩) (Qc : PySem.W.codeIn K cdQ "patience_at" = true) (kQ : PySem.W.keepIn K (.ref fQ) = true)
    (aN : PySem.W.nsIn K mainGlobals "check_moment" = some (some (.ref fN))) (lN : K.lookup fN = some ⟨ocN, odN, .func (PySem.W.fnOf "check_moment" "check_moment" (defArgs sCkM) (defBody sCkM) (defScope sCkM) .none kVN dcN pmN anN cdN ctN), slN⟩) (Nc : PySem.W.codeIn K cdN "check_moment" = true) (kN : PySem.W.keepIn K (.ref fN) = true)
    (aLTP : PySem.W.nsIn K mainGlobals "let_past" = some (some (.ref fLTP))) (lLTP : K.lookup fLTP = some ⟨ocLTP, odLTP, .func (PySem.W.fnOf "let_past" "let_past" (defArgs sLet) (defBody sLet) (defScope sLet) .none kVLTP dcLTP pmLTP anLTP cdLTP ctLTP), slLTP⟩) (LTPc : PySem.W.codeIn K cdLTP "let_past" = true) (kLTP : PySem.W.keepIn K (.ref fLTP) = true)
    (aU : PySem.W.nsIn K mainGlobals "line_up" = some (some (.ref fU))) (lU : K.lookup fU = some ⟨ocU, odU, .func (PySem.W.fnOf "line_up" "line_up" (defArgs sLine) (defBody sLine) (defScope sLine) .none kVU dcU pmU anU cdU ctU), slU⟩) (Uc : PySem.W.codeIn K cdU "line_up" = true) (kU : PySem.W.keepIn K (.ref fU) = true)
    (aS : PySem.W.nsIn K mainGlobals "listed_at" = some (some (.ref fS))) (lS : K.lookup fS = some ⟨ocS, odS, .func (PySem.W.fnOf "listed_at" "listed_at" (defArgs sListed) (defBody sListed) (defScope sListed) .none kVS dcS pmS anS cdS ctS), slS⟩) (Sc : PySem.W.codeIn K cdS "listed_at" = true) (kS : PySem.W.keepIn K (.ref fS) = true)
    (aO : PySem.W.nsIn K mainGlobals "queue_at" = some (some (.ref fO))) (lO : K.lookup fO = some ⟨ocO, odO, .func (PySem.W.fnOf "queue_at" "queue_at" (defArgs sQueue) (defBody sQueue) (defScope sQueue) .none kVO dcO pmO anO cdO ctO), slO⟩) (Oc : PySem.W.codeIn K cdO "queue_at" = true) (kO : PySem.W.keepIn K (.ref fO) = true)
    (aF : PySem.W.nsIn K mainGlobals "left_at" = some (some (.ref fF))) (lF : K.lookup fF = some ⟨ocF, odF, .func (PySem.W.fnOf "left_at" "left_at" (defArgs sLeft) (defBody sLeft) (defScope sLeft) .none kVF dcF pmF anF cdF ctF), slF⟩) (Fc : PySem.W.codeIn K cdF "left_at" = true) (kF : PySem.W.keepIn K (.ref fF) = true)
    (aE : PySem.W.nsIn K mainGlobals "_law_reel" = some (some (.ref fE))) (lE : K.lookup fE = some ⟨ocE, odE, .func (PySem.W.fnOf "_law_reel" "_law_reel" (defArgs sReel) (defBody sReel) (defScope sReel) .none kVE dcE pmE anE cdE ctE), slE⟩) (Ec : PySem.W.codeIn K cdE "_law_reel" = true) (kE : PySem.W.keepIn K (.ref fE) = true)
    (aD : PySem.W.nsIn K mainGlobals "_law_draw" = some (some (.ref fD))) (lD : K.lookup fD = some ⟨ocD, odD, .func (PySem.W.fnOf "_law_draw" "_law_draw" (defArgs sDraw) (defBody sDraw) (defScope sDraw) .none kVD dcD pmD anD cdD ctD), slD⟩) (Dc : PySem.W.codeIn K cdD "_law_draw" = true) (kD : PySem.W.keepIn K (.ref fD) = true)
    (apa : PySem.W.nsIn K mainGlobals "_law_patience" = some (some (.ref fpa))) (lpa : K.lookup fpa = some ⟨ocpa, odpa, .func (PySem.W.fnOf "_law_patience" "_law_patience" (defArgs sPatL) (defBody sPatL) (defScope sPatL) .none kVpa dcpa pmpa anpa cdpa ctpa), slpa⟩) (pac : PySem.W.codeIn K cdpa "_law_patience" = true) (kpa : PySem.W.keepIn K (.ref fpa) = true)
    (atu : PySem.W.nsIn K mainGlobals "_law_turn" = some (some (.ref ftu))) (ltu : K.lookup ftu = some ⟨octu, odtu, .func (PySem.W.fnOf "_law_turn" "_law_turn" (defArgs sTurn) (defBody sTurn) (defScope sTurn) .none kVtu dctu pmtu antu cdtu cttu), sltu⟩) (tuc : PySem.W.codeIn K cdtu "_law_turn" = true) (ktu : PySem.W.keepIn K (.ref ftu) = true)
    (ane : PySem.W.nsIn K mainGlobals "_law_near_rows" = some (some (.ref fne))) (lne : K.lookup fne = some ⟨ocne, odne, .func (PySem.W.fnOf "_law_near_rows" "_law_near_rows" (defArgs sNear) (defBody sNear) (defScope sNear) .none kVne dcne pmne anne cdne ctne), slne⟩) (nec : PySem.W.codeIn K cdne "_law_near_rows" = true) (kne : PySem.W.keepIn K (.ref fne) = true)
    (asd : PySem.W.nsIn K mainGlobals "_law_stood" = some (some (.ref fsd))) (lsd : K.lookup fsd = some ⟨ocsd, odsd, .func (PySem.W.fnOf "_law_stood" "_law_stood" (defArgs sStood) (defBody sStood) (defScope sStood) .none kVsd dcsd pmsd ansd cdsd ctsd), slsd⟩) (sdc : PySem.W.codeIn K cdsd "_law_stood" = true) (ksd : PySem.W.keepIn K (.ref fsd) = true)
    (aso : PySem.W.nsIn K mainGlobals "_law_said_over" = some (some (.ref fso))) (lso : K.lookup fso = some ⟨ocso, odso, .func (PySem.W.fnOf "_law_said_over" "_law_said_over" (defArgs sSaid) (defBody sSaid) (defScope sSaid) .none kVso dcso pmso anso cdso ctso), slso⟩) (soc : PySem.W.codeIn K cdso "_law_said_over" = true) (kso : PySem.W.keepIn K (.ref fso) = true)
    (adr : PySem.W.nsIn K mainGlobals "_law_dressed" = some (some (.ref fdr))) (ldr : K.lookup fdr = some ⟨ocdr, oddr, .func (PySem.W.fnOf "_law_dressed" "_law_dressed" (defArgs sDress) (defBody sDress) (defScope sDress) .none kVdr dcdr pmdr andr cddr ctdr), sldr⟩) (drc : PySem.W.codeIn K cddr "_law_dressed" = true) (kdr : PySem.W.keepIn K (.ref fdr) = true)
    (afr : PySem.W.nsIn K mainGlobals "_law_far_right" = some (some (.ref ffr))) (lfr : K.lookup ffr = some ⟨ocfr, odfr, .func (PySem.W.fnOf "_law_far_right" "_law_far_right" (defArgs sFarR) (defBody sFarR) (defScope sFarR) .none kVfr dcfr pmfr anfr cdfr ctfr), slfr⟩) (frc : PySem.W.codeIn K cdfr "_law_far_right" = true) (kfr : PySem.W.keepIn K (.ref ffr) = true)
    (aZ : PySem.W.nsIn K mainGlobals "law" = some (some (.ref fZ))) (lZ : K.lookup fZ = some ⟨ocZ, odZ, .func (PySem.W.fnOf "law" "law" (defArgs sLaw) (defBody sLaw) (defScope sLaw) .none kVZ dcZ pmZ anZ cdZ ctZ), slZ⟩) (Zc : PySem.W.codeIn K cdZ "law" = true) (kZ : PySem.W.keepIn K (.ref fZ) = true)
    (z_isinstance : PySem.W.nsIn K mainGlobals "isinstance" = some none) (z_len : PySem.W.nsIn K mainGlobals "len" = some none) (z_all : PySem.W.nsIn K mainGlobals "all" = some none) (z_any : PySem.W.nsIn K mainGlobals "any" = some none) (z_sum : PySem.W.nsIn K mainGlobals "sum" = some none) (z_int : PySem.W.nsIn K mainGlobals "int" = some none) (z_bool : PySem.W.nsIn K mainGlobals "bool" = some none) (z_list : PySem.W.nsIn K mainGlobals "list" = some none) (z_tuple : PySem.W.nsIn K mainGlobals "tuple" = some none) (z_range : PySem.W.nsIn K mainGlobals "range" = some none) (z_min : PySem.W.nsIn K mainGlobals "min" = some none) (z_repr : PySem.W.nsIn K mainGlobals "repr" = some none) (z_enumerate : PySem.W.nsIn K mainGlobals "enumerate" = some none)
    (mT : K.lookup cT = some ⟨eT, dT, .fields usT, wT⟩) (pT : usT[11]? = some (.ref PT)) (qT : PySem.W.codeHdIn K cT PT = true) (nT : (K.lookup PT).isNone = true) (rT : ((recsOf q).any fun e => e.name == "is_turns") = true)
    (mL : K.lookup cL = some ⟨eL, dL, .fields usL, wL⟩) (pL : usL[11]? = some (.ref PL)) (qL : PySem.W.codeHdIn K cL PL = true) (nL : (K.lookup PL).isNone = true) (rL : ((recsOf q).any fun e => e.name == "is_plan") = true)
    (xg1 : PySem.W.nsIn K mainGlobals "NoPlan" = some (some (.ref X1)))
    (xx1 : PySem.W.excIn K X1 [.type "ValueError", .type "Exception", .type "BaseException", .type "object"] "ValueError.__new__" = true)
    (xk1 : PySem.W.keepIn K (.ref X1) = true)
    (xb1 : PySem.W.subIn K (.ref X1) (.type "BaseException") = some true)
    (xt1 : PySem.W.typeIn K (.ref X1) = some (.type "type"))
    (xg3 : PySem.W.nsIn K mainGlobals "NoMoment" = some (some (.ref X3)))
    (xx3 : PySem.W.excIn K X3 [.type "ValueError", .type "Exception", .type "BaseException", .type "object"] "ValueError.__new__" = true)
    (xk3 : PySem.W.keepIn K (.ref X3) = true)
    (xb3 : PySem.W.subIn K (.ref X3) (.type "BaseException") = some true)
    (xt3 : PySem.W.typeIn K (.ref X3) = some (.type "type"))
    (xg4 : PySem.W.nsIn K mainGlobals "TooMany" = some (some (.ref X4)))
    (xx4 : PySem.W.excIn K X4 [.type "ValueError", .type "Exception", .type "BaseException", .type "object"] "ValueError.__new__" = true)
    (xk4 : PySem.W.keepIn K (.ref X4) = true)
    (xb4 : PySem.W.subIn K (.ref X4) (.type "BaseException") = some true)
    (xt4 : PySem.W.typeIn K (.ref X4) = some (.type "type"))
    {tg tl tm : Tok} (gG : PySem.W.nsIn K mainGlobals "GREATEST" = some (some (.int GREAT tg))) (gL : PySem.W.nsIn K mainGlobals "LONGEST" = some (some (.int 8 tl))) (gM : PySem.W.nsIn K mainGlobals "MOST_LISTED" = some (some (.int 2000 tm))) : AtLaw l w K mg fa h := by
  have e := hfa.symm.trans (PySem.W.mg_of X G.g aZ)
  cases e
  have FW := fun_mk (st := sWhole) lW Wc kW
  have FR := fun_mk (st := sRow) lR Rc kR
  have FA := fun_mk (st := sPat) lA Ac kA
  have FT := fun_mk (st := sTurns) lT Tc kT
  have FI := fun_mk (st := sPiece) lI Ic kI
  have FL := fun_mk (st := sPlan) lL Lc kL
  have FCKP := fun_mk (st := sCheck) lCKP CKPc kCKP
  have FG := fun_mk (st := sPieces) lG Gc kG
  have FM := fun_mk (st := sMany) lM Mc kM
  have FV := fun_mk (st := sPieceNo) lV Vc kV
  have FJ := fun_mk (st := sTurnAt) lJ Jc kJ
  have FQ := fun_mk (st := sPatAt) lQ Qc kQ
  have FN := fun_mk (st := sCkM) lN Nc kN
  have FLTP := fun_mk (st := sLet) lLTP LTPc kLTP
  have FU := fun_mk (st := sLine) lU Uc kU
  have FS := fun_mk (st := sListed) lS Sc kS
  have FO := fun_mk (st := sQueue) lO Oc kO
  have FF := fun_mk (st := sLeft) lF Fc kF
  have FE := fun_mk (st := sReel) lE Ec kE
  have FD := fun_mk (st := sDraw) lD Dc kD
  have Fpa := fun_mk (st := sPatL) lpa pac kpa
  have Ftu := fun_mk (st := sTurn) ltu tuc ktu
  have Fne := fun_mk (st := sNear) lne nec kne
  have Fsd := fun_mk (st := sStood) lsd sdc ksd
  have Fso := fun_mk (st := sSaid) lso soc kso
  have Fdr := fun_mk (st := sDress) ldr drc kdr
  have Ffr := fun_mk (st := sFarR) lfr frc kfr
  have FZ := fun_mk (st := sLaw) lZ Zc kZ
  have bW := FW.binds (ps := ["thing"]) fun _ _ _ _ _ _ us hl => match us, hl with | [_], _ => rfl
  have bR := FR.binds (ps := ["thing"]) fun _ _ _ _ _ _ us hl => match us, hl with | [_], _ => rfl
  have bA := FA.binds (ps := ["thing"]) fun _ _ _ _ _ _ us hl => match us, hl with | [_], _ => rfl
  have bT := FT.binds (ps := ["thing"]) fun _ _ _ _ _ _ us hl => match us, hl with | [_], _ => rfl
  have bI := FI.binds (ps := ["thing"]) fun _ _ _ _ _ _ us hl => match us, hl with | [_], _ => rfl
  have bL := FL.binds (ps := ["thing"]) fun _ _ _ _ _ _ us hl => match us, hl with | [_], _ => rfl
  have bCKP := FCKP.binds (ps := ["thing"]) fun _ _ _ _ _ _ us hl => match us, hl with | [_], _ => rfl
  have bG := FG.binds (ps := ["plan"]) fun _ _ _ _ _ _ us hl => match us, hl with | [_], _ => rfl
  have bM := FM.binds (ps := ["pieces"]) fun _ _ _ _ _ _ us hl => match us, hl with | [_], _ => rfl
  have bV := FV.binds (ps := ["pieces", "person"]) fun _ _ _ _ _ _ us hl => match us, hl with | [_, _], _ => rfl
  have bJ := FJ.binds (ps := ["pieces", "person"]) fun _ _ _ _ _ _ us hl => match us, hl with | [_, _], _ => rfl
  have bQ := FQ.binds (ps := ["pieces", "person"]) fun _ _ _ _ _ _ us hl => match us, hl with | [_, _], _ => rfl
  have bN := FN.binds (ps := ["pieces", "moment"]) fun _ _ _ _ _ _ us hl => match us, hl with | [_, _], _ => rfl
  have bLTP := FLTP.binds (ps := ["left"]) fun _ _ _ _ _ _ us hl => match us, hl with | [_], _ => rfl
  have bU := FU.binds (ps := ["pieces", "moment"]) fun _ _ _ _ _ _ us hl => match us, hl with | [_, _], _ => rfl
  have bS := FS.binds (ps := ["plan", "moment"]) fun _ _ _ _ _ _ us hl => match us, hl with | [_, _], _ => rfl
  have bO := FO.binds (ps := ["plan", "moment"]) fun _ _ _ _ _ _ us hl => match us, hl with | [_, _], _ => rfl
  have bF := FF.binds (ps := ["plan", "moment"]) fun _ _ _ _ _ _ us hl => match us, hl with | [_, _], _ => rfl
  have bE := FE.binds (ps := ["script"]) fun _ _ _ _ _ _ us hl => match us, hl with | [_], _ => rfl
  have bD := FD.binds (ps := ["reel", "many"]) fun _ _ _ _ _ _ us hl => match us, hl with | [_, _], _ => rfl
  have bpa := Fpa.binds (ps := ["reel", "most"]) fun _ _ _ _ _ _ us hl => match us, hl with | [_, _], _ => rfl
  have btu := Ftu.binds (ps := ["reel", "most"]) fun _ _ _ _ _ _ us hl => match us, hl with | [_, _], _ => rfl
  have bne := Fne.binds (ps := ["reel", "most", "ends"]) fun _ _ _ _ _ _ us hl => match us, hl with | [_, _, _], _ => rfl
  have bsd := Fsd.binds (ps := ["patiences"]) fun _ _ _ _ _ _ us hl => match us, hl with | [_], _ => rfl
  have bso := Fso.binds (ps := ["rows", "most"]) fun _ _ _ _ _ _ us hl => match us, hl with | [_, _], _ => rfl
  have bdr := Fdr.binds (ps := ["reel", "thing"]) fun _ _ _ _ _ _ us hl => match us, hl with | [_, _], _ => rfl
  have bfr := Ffr.binds (ps := ["reel"]) fun _ _ _ _ _ _ us hl => match us, hl with | [_], _ => rfl
  have bZ := FZ.binds (ps := ["script"]) fun _ _ _ _ _ _ us hl => match us, hl with | [_], _ => rfl
  have CT : FunC K "is_turns" "is_turns" sTurns fT _ cT := ⟨⟨ocT, odT, kVT, dcT, pmT, anT, ctT, slT, rfl, lT, Tc⟩, kT⟩
  have CL : FunC K "is_plan" "is_plan" sPlan fL _ cL := ⟨⟨ocL, odL, kVL, dcL, pmL, anL, ctL, slL, rfl, lL, Lc⟩, kL⟩
  have m := fun {n : Str} (e : PySem.W.nsIn K mainGlobals n = some none) => PySem.W.mg_none_of X G.g e
  have g := fun {n : Str} {v : Value} (e : PySem.W.nsIn K mainGlobals n = some (some v)) => PySem.W.mg_of X G.g e
  have T : Nm mg := ⟨m z_isinstance, m z_len, m z_all, m z_any, m z_sum, m z_int, m z_bool, m z_list, m z_tuple, ⟨_, g gG⟩, ⟨_, g gL⟩⟩
  have T2 : Nm2 mg := ⟨m z_range, m z_min, m z_repr, m z_enumerate⟩
  have XC1 : ExcC K mg "NoPlan" X1 := ⟨g xg1, xx1, xk1, xb1, xt1⟩
  have XC3 : ExcC K mg "NoMoment" X3 := ⟨g xg3, xx3, xk3, xb3, xt3⟩
  have XC4 : ExcC K mg "TooMany" X4 := ⟨g xg4, xx4, xk4, xb4, xt4⟩
  have nT' := Option.isNone_iff_eq_none.mp nT
  have nL' := Option.isNone_iff_eq_none.mp nL
  refine ⟨PySem.W.fnOf "law" "law" (defArgs sLaw) (defBody sLaw) (defScope sLaw) .none kVZ dcZ pmZ anZ cdZ ctZ, PT, PL, fun b hb => ?_, fun b hb => ?_, fun b hb => ?_, fun s v => .of_eq rfl, fun base _ _ hsys hB => ?_⟩
  · rcases List.mem_cons.mp hb with rfl | hb
    · exact tab_of G X rT (PySem.W.mg_of X G.g aT) lT rfl rfl qT
    · rw [List.mem_singleton.mp hb]
      exact tab_of G X rL (PySem.W.mg_of X G.g aL) lL rfl rfl qL
  · rcases List.mem_cons.mp hb with rfl | hb
    · exact ⟨_, qT⟩
    · rw [List.mem_singleton.mp hb]
      exact ⟨_, qL⟩
  · rcases List.mem_cons.mp hb with rfl | hb
    · exact nT'
    · rw [List.mem_singleton.mp hb]
      exact nL'
  · have XB : K.In base := ‹K.In base›
    have TB1 : GxR.TabB base mg cT PT := ⟨PySem.W.codeHd_of_K XB qT, (hB PT (by simp)).1, (hB PT (by simp)).2⟩
    have TB2 : GxR.TabB base mg cL PL := ⟨PySem.W.codeHd_of_K XB qL, (hB PL (by simp)).1, (hB PL (by simp)).2⟩
    have KW : Cal l.prog w K mg base 1 "is_whole" ["thing"] (spOne isWhole) := ⟨fW, _, g aW, kW, bW, ok_whole FW T⟩
    have KR : Cal l.prog w K mg base 1 "is_row" ["thing"] (spOne isRow) := ⟨fR, _, g aR, kR, bR, ok_row FR T⟩
    have KA : Cal l.prog w K mg base 2 "is_patience" ["thing"] (spOne isPatience) := ⟨fA, _, g aA, kA, bA, ok_pat FA T KW⟩
    have KT : Cal l.prog w K mg base 4 "is_turns" ["thing"] (spTab PT PL isTurns) := ⟨fT, _, g aT, kT, bT, ok_turns CT T TB1 KR KA⟩
    have KI : Cal l.prog w K mg base 5 "is_piece" ["thing"] (spTab PT PL isPiece) := ⟨fI, _, g aI, kI, bI, ok_piece FI T KW KR KT⟩
    have KP : Cal l.prog w K mg base 7 "is_plan" ["thing"] (spTab PT PL isPlan) := ⟨fL, _, g aL, kL, bL, ok_plan CL T TB2 KR KI⟩
    have KCKP : CalX l.prog w K mg base 8 "check_plan" ["thing"] (spCheck PT PL X1) := ⟨fCKP, _, PySem.W.mg_of X G.g aCKP, kCKP, bCKP, ok_check FCKP XC1 KP⟩
    have KG : CalX l.prog w K mg base 9 "pieces_of" ["plan"] (spPieces PT PL X1) := ⟨fG, _, g aG, kG, bG, ok_pieces FG T KCKP⟩
    have KM : Cal l.prog w K mg base 1 "many_in" ["pieces"] (spMany) := ⟨fM, _, g aM, kM, bM, ok_many FM⟩
    have KV : Cal l.prog w K mg base 1 "piece_number" ["pieces", "person"] (spPieceNo) := ⟨fV, _, g aV, kV, bV, ok_pieceNo FV⟩
    have KJ : Cal l.prog w K mg base 2 "turn_at" ["pieces", "person"] (spTurnAt) := ⟨fJ, _, g aJ, kJ, bJ, ok_turnAt FJ T KV⟩
    have KQ : Cal l.prog w K mg base 3 "patience_at" ["pieces", "person"] (spPatAt) := ⟨fQ, _, g aQ, kQ, bQ, ok_patAt FQ KJ⟩
    have KN : CalX l.prog w K mg base 2 "check_moment" ["pieces", "moment"] (spCkM X3) := ⟨fN, _, g aN, kN, bN, ok_ckm FN T XC3 KM KW⟩
    have KLTP : Cal l.prog w K mg base 1 "let_past" ["left"] (spLet) := ⟨fLTP, _, PySem.W.mg_of X G.g aLTP, kLTP, bLTP, ok_let FLTP T⟩
    have KU : Cal l.prog w K mg base 4 "line_up" ["pieces", "moment"] (spLine) := ⟨fU, _, g aU, kU, bU, ok_line FU T T2.range KQ (KLTP.mono (by decide))⟩
    have KS : CalX l.prog w K mg base 10 "listed_at" ["plan", "moment"] (spListed PT PL X1 X3 X4) := ⟨fS, _, g aS, kS, bS, ok_listed FS ⟨_, g gM⟩ XC4 KG (KN.mono (by decide)) (KU.mono (by decide))⟩
    have KO : CalX l.prog w K mg base 11 "queue_at" ["plan", "moment"] (spQueue PT PL X1 X3 X4) := ⟨fO, _, g aO, kO, bO, ok_queue FO KS⟩
    have KF : CalX l.prog w K mg base 11 "left_at" ["plan", "moment"] (spLeft PT PL X1 X3 X4) := ⟨fF, _, g aF, kF, bF, ok_left FF KS⟩
    have KE : Cal l.prog w K mg base 1 "_law_reel" ["script"] (spReel K) := ⟨fE, _, g aE, kE, bE, ok_reel FE⟩
    have kd : ∀ r, Cal l.prog w K mg base 1 "_law_draw" ["reel", "many"] (spDraw r) := fun r => ⟨fD, _, g aD, kD, bD, ok_draw FD T⟩
    have KD : Cal l.prog w K mg base 1 "_law_draw" ["reel", "many"] (spE spDraw) := ⟨fD, _, g aD, kD, bD, fnE fun r => ok_draw FD T⟩
    have kp : ∀ r, Cal l.prog w K mg base 2 "_law_patience" ["reel", "most"] (spPatL r) := fun r => ⟨fpa, _, g apa, kpa, bpa, ok_patL Fpa (kd r)⟩
    have kt : ∀ r, Cal l.prog w K mg base 3 "_law_turn" ["reel", "most"] (spTurn r) := fun r => ⟨ftu, _, g atu, ktu, btu, ok_turn Ftu T2.range ((kd r).mono (by decide)) (kp r)⟩
    have kn : ∀ r, Cal l.prog w K mg base 4 "_law_near_rows" ["reel", "most", "ends"] (spNear r) := fun r => ⟨fne, _, g ane, kne, bne, ok_near Fne T2.range ((kd r).mono (by decide)) (kt r)⟩
    have KB : Cal l.prog w K mg base 4 "_law_near_rows" ["reel", "most", "ends"] (spE spNear) := ⟨fne, _, g ane, kne, bne, fnE fun r => ok_near Fne T2.range ((kd r).mono (by decide)) (kt r)⟩
    have KV2 : Cal l.prog w K mg base 1 "_law_stood" ["patiences"] (spStood) := ⟨fsd, _, g asd, ksd, bsd, ok_stood Fsd T T2⟩
    have KZ : Cal l.prog w K mg base 1 "_law_said_over" ["rows", "most"] (spSaid) := ⟨fso, _, g aso, kso, bso, ok_said Fso T T2⟩
    have dress : ∀ (r : Addr) (n : Nat), FnOk l.prog w K mg base CX0 (2 + n) fdr (PySem.W.fnOf "_law_dressed" "_law_dressed" (defArgs sDress) (defBody sDress) (defScope sDress) .none kVdr dcdr pmdr andr cddr ctdr) ["reel", "thing"] (spDress r n) := fun r n => by
      induction n with
      | zero => exact ok_dress0 Fdr T
      | succ n ih => exact ok_dressS Fdr T (kd r) ⟨fdr, _, g adr, kdr, bdr, ih⟩
    have KDr : Cal l.prog w K mg base 5 "_law_dressed" ["reel", "thing"] (spE fun r => spDress r 3) := ⟨fdr, _, g adr, kdr, bdr, fnE fun r => dress r 3⟩
    have Kfr : Cal l.prog w K mg base 12 "_law_far_right" ["reel"] (spE (spFarR PT PL)) := ⟨ffr, _, g afr, kfr, bfr, fnE fun r => ok_farR Ffr T (kn r) (kd r) KZ KV2 KO KF⟩
    exact ok_law FZ T T2 hsys KE KD KB KZ KV2 KDr Kfr (KO.mono (by decide)) (KF.mono (by decide))
end CL
open PySem PySem.W PyProof.Rows
set_option maxRecDepth 100000 in
set_option maxHeartbeats 0 in
theorem PySem.Challenge.cw_comersline_k02_queues_one_by_one_holds : PySem.Challenge.rw_comersline_k02_queues_one_by_one.Holds := by
  w_on; o_law; k_head; (case hw => w_witness2)
  k_fill
  refine CL.walk (l := PySem.Challenge.rw_comersline_k02_queues_one_by_one) rfl rfl (by decide +kernel) (fun w h Y => PySem.W.kIn_of Y) ?F
  case F =>
    intro w mg mb mean lo fa h KX G hmg
    refine' CL.all_mk KX G hmg ?aW ?lW ?Wc ?kW ?aR ?lR ?Rc ?kR ?aA ?lA ?Ac ?kA ?aT ?lT ?Tc ?kT ?aI ?lI ?Ic ?kI ?aL ?lL ?Lc ?kL ?aCKP ?lCKP ?CKPc ?kCKP ?aG ?lG ?Gc ?kG ?aM ?lM ?Mc ?kM ?aV ?lV ?Vc ?kV ?aJ ?lJ ?Jc ?kJ ?aQ ?lQ ?Qc ?kQ ?aN ?lN ?Nc ?kN ?aLTP ?lLTP ?LTPc ?kLTP ?aU ?lU ?Uc ?kU ?aS ?lS ?Sc ?kS ?aO ?lO ?Oc ?kO ?aF ?lF ?Fc ?kF ?aE ?lE ?Ec ?kE ?aD ?lD ?Dc ?kD ?apa ?lpa ?pac ?kpa ?atu ?ltu ?tuc ?ktu ?ane ?lne ?nec ?kne ?asd ?lsd ?sdc ?ksd ?aso ?lso ?soc ?kso ?adr ?ldr ?drc ?kdr ?afr ?lfr ?frc ?kfr ?aZ ?lZ ?Zc ?kZ ?z_isinstance ?z_len ?z_all ?z_any ?z_sum ?z_int ?z_bool ?z_list ?z_tuple ?z_range ?z_min ?z_repr ?z_enumerate ?mT ?pT ?qT ?nT ?rT ?mL ?pL ?qL ?nL ?rL ?xg1 ?xx1 ?xk1 ?xb1 ?xt1 ?xg3 ?xx3 ?xk3 ?xb3 ?xt3 ?xg4 ?xx4 ?xk4 ?xb4 ?xt4 ?gG ?gL ?gM
    (case aW => k_is)
    (case lW => k_is)
    (case Wc => k_is)
    (case kW => k_is)
    (case aR => k_is)
    (case lR => k_is)
    (case Rc => k_is)
    (case kR => k_is)
    (case aA => k_is)
    (case lA => k_is)
    (case Ac => k_is)
    (case kA => k_is)
    (case aT => k_is)
    (case lT => k_is)
    (case Tc => k_is)
    (case kT => k_is)
    (case aI => k_is)
    (case lI => k_is)
    (case Ic => k_is)
    (case kI => k_is)
    (case aL => k_is)
    (case lL => k_is)
    (case Lc => k_is)
    (case kL => k_is)
    (case aCKP => k_is)
    (case lCKP => k_is)
    (case CKPc => k_is)
    (case kCKP => k_is)
    (case aG => k_is)
    (case lG => k_is)
    (case Gc => k_is)
    (case kG => k_is)
    (case aM => k_is)
    (case lM => k_is)
    (case Mc => k_is)
    (case kM => k_is)
    (case aV => k_is)
    (case lV => k_is)
    (case Vc => k_is)
    (case kV => k_is)
    (case aJ => k_is)
    (case lJ => k_is)
    (case Jc => k_is)
    (case kJ => k_is)
    (case aQ => k_is)
    (case lQ => k_is)
    (case Qc => k_is)
    (case kQ => k_is)
    (case aN => k_is)
    (case lN => k_is)
    (case Nc => k_is)
    (case kN => k_is)
    (case aLTP => k_is)
    (case lLTP => k_is)
    (case LTPc => k_is)
    (case kLTP => k_is)
    (case aU => k_is)
    (case lU => k_is)
    (case Uc => k_is)
    (case kU => k_is)
    (case aS => k_is)
    (case lS => k_is)
    (case Sc => k_is)
    (case kS => k_is)
    (case aO => k_is)
    (case lO => k_is)
    (case Oc => k_is)
    (case kO => k_is)
    (case aF => k_is)
    (case lF => k_is)
    (case Fc => k_is)
    (case kF => k_is)
    (case aE => k_is)
    (case lE => k_is)
    (case Ec => k_is)
    (case kE => k_is)
    (case aD => k_is)
    (case lD => k_is)
    (case Dc => k_is)
    (case kD => k_is)
    (case apa => k_is)
    (case lpa => k_is)
    (case pac => k_is)
    (case kpa => k_is)
    (case atu => k_is)
    (case ltu => k_is)
    (case tuc => k_is)
    (case ktu => k_is)
    (case ane => k_is)
    (case lne => k_is)
    (case nec => k_is)
    (case kne => k_is)
    (case asd => k_is)
    (case lsd => k_is)
    (case sdc => k_is)
    (case ksd => k_is)
    (case aso => k_is)
    (case lso => k_is)
    (case soc => k_is)
    (case kso => k_is)
    (case adr => k_is)
    (case ldr => k_is)
    (case drc => k_is)
    (case kdr => k_is)
    (case afr => k_is)
    (case lfr => k_is)
    (case frc => k_is)
    (case kfr => k_is)
    (case aZ => k_is)
    (case lZ => k_is)
    (case Zc => k_is)
    (case kZ => k_is)
    (case z_isinstance => k_is)
    (case z_len => k_is)
    (case z_all => k_is)
    (case z_any => k_is)
    (case z_sum => k_is)
    (case z_int => k_is)
    (case z_bool => k_is)
    (case z_list => k_is)
    (case z_tuple => k_is)
    (case z_range => k_is)
    (case z_min => k_is)
    (case z_repr => k_is)
    (case z_enumerate => k_is)
    (case mT => k_is)
    (case pT => rfl)
    (case qT => kernel_rfl)
    (case nT => kernel_rfl)
    (case rT => kernel_rfl)
    (case mL => k_is)
    (case pL => rfl)
    (case qL => kernel_rfl)
    (case nL => kernel_rfl)
    (case rL => kernel_rfl)
    (case xg1 => k_is)
    (case xx1 => k_exc)
    (case xk1 => k_is)
    (case xb1 => k_is)
    (case xt1 => k_is)
    (case xg3 => k_is)
    (case xx3 => k_exc)
    (case xk3 => k_is)
    (case xb3 => k_is)
    (case xt3 => k_is)
    (case xg4 => k_is)
    (case xx4 => k_exc)
    (case xk4 => k_is)
    (case xb4 => k_is)
    (case xt4 => k_is)
    (case gG => k_is)
    (case gL => k_is)
    (case gM => k_is)
