import PyProof.Rows.All
import Wide.All
import OpenK.AllK
import Wide.FinOn
import HandS.ForMost
import HandS.ForExc
import HandS.AnyAll
import HandS.GenBody
import HandS.IsInst
import HandS.TupAny
import HandS.Wide
import HandS.Codes
import HandS.More
import HandS.WideBits
import HandS.Zip
import KE.GoesMore
import HandS.Walk
import HandS.Lambda
import HandS.EndTab
import HandS.NestedK
import PySem.Challenge.RW_comersline_k28_least_plans_without_end
set_option Elab.async false
set_option linter.all false
set_option maxRecDepth 100000
set_option maxHeartbeats 1000000
namespace GE
open PySem PySem.Spec PyProof.Rows L2 GenW
open Sem (wp)

/-- what a consumer holds between two turns of a generator -/
structure Con (α : Type) where
  fp : List Addr
  at_ : α → Heap → Prop
structure ConOk {α : Type} (C : Con α) : Prop where
  obj : ∀ a h, C.at_ a h → ∀ b ∈ C.fp, ∃ o, h.get? b = some o ∧ ∀ v, o.data ≠ .cell v
  keep : ∀ a h h', C.at_ a h → (∀ b ∈ C.fp, ∀ o, h.get? b = some o → h'.get? b = some o) → C.at_ a h'
  inj : ∀ a b h, C.at_ a h → C.at_ b h → a = b
def conU : Con Unit := ⟨[], fun _ _ => True⟩
theorem conU_ok : ConOk conU := ⟨(fun _ _ _ b hb => nomatch hb), (fun _ _ _ _ _ => trivial), (fun _ _ _ _ _ => rfl)⟩

abbrev nones (n : Nat) : L2.St := List.replicate n none
theorem nones_some {n i : Nat} {v : V} (h : (nones n)[i]? = some (some v)) : False := by
  rw [List.getElem?_replicate] at h
  split at h <;> cases h

section
variable {α : Type}
def GI (Y : Cx) (C : Con α) (fpI : List Addr) (tn : Nat → Heap → Prop) (a : α) (i : Nat) (H : Hp) (s : Shared) : Prop :=
  Inv Y (pinsAt C.fp s.heap) (nones Y.N.length) H s ∧ C.at_ a s.heap ∧ tn i s.heap ∧ ∀ b ∈ fpI, H b = none
def GP (Y : Cx) (C : Con α) (fpI : List Addr) (tn : Nat → Heap → Prop) (Out : α → V → Hp → (α → Hp → Prop) → Prop) : Protocol := fun _ s₀ v s kap =>
  ∃ a i H y Nx, RelV y v ∧ GI Y C fpI tn a i H s ∧ Out a y H Nx ∧ (∀ b ∈ C.fp, ∀ o, s₀.heap.get? b = some o → s.heap.get? b = some o) ∧ ∀ a' s'', GI Y C fpI tn a' i H s'' → Nx a' H → kap (.send .none) s''
def GF (Y : Cx) (C : Con α) (Fin : α → Hp → Prop) : Nat → Shared → Shared → Prop := fun _ s₀ s₁ =>
  ∃ a H, Inv Y (pinsAt C.fp s₁.heap) (nones Y.N.length) H s₁ ∧ C.at_ a s₁.heap ∧ (∀ b ∈ C.fp, ∀ o, s₀.heap.get? b = some o → s₁.heap.get? b = some o) ∧ Fin a H
abbrev GRr (Y : Cx) (C : Con α) (Fin : α → Hp → Prop) : GenEnd := fun n s₀ r s₁ => r = .ok .next ∧ GF Y C Fin n s₀ s₁
def TurnOf (J : It) (n0 : Nat) (g : TG) (tt : TT) (te : TE) (Out : α → V → Hp → (α → Hp → Prop) → Prop) (Fin : α → Hp → Prop) (W : α → Nat → Nat → Hp → Prop) : Prop :=
  ∀ a i m H, W a i m H → (J.stop i H ∧ Fin a H) ∨ (J.go i H ∧ ∃ Nx : α → Hp → Prop, (∀ a' H', Nx a' H' → ∃ m', m' < m ∧ W a' (i + 1) m' H') ∧
    ∀ x H', J.yld i H x H' → g x (nones n0) H' fun σ2 H2 => tt σ2 H2 fun b H3 => if b = true then te σ2 H3 fun y H4 => Out a y H4 Nx else Nx a H3)

def GoOn (M : Model) (A : Around) (R : GenEnd) (P : Protocol) (gi : α → Shared → Prop) (nx : α → Prop) (gs1 : GenState) : Nat → Prop
  | 0 => ∀ a' s'', gi a' s'' → nx a' → False
  | n1 + 1 => ∀ a' s'', gi a' s'' → nx a' → gs1.Goes M A R P n1 (.send .none) s''
theorem over_loopG {A : Around} {elt tg iter : Expr} {ifs : List Expr} {scope : Scope} {pos : Pos} {it acc : Value} {env : Env} :
    A.over (.compLoop (.GeneratorExp elt [⟨tg, iter, ifs, 0⟩] scope pos) 0 it acc env) [] = A.deeper env := by
  first
    | rfl
    | (obtain ⟨hd, d, fr, gs, u⟩ := A; simp [Around.over, Around.deeper, marksOver, frameCount, unitsOf, envsOf, guardsOf, pushEnvs, pushGuards, Code.envs, Code.env?, Code.isFrame, Code.guards, Code.isGuard, Code.weight, Code.frames, Code.isCreation, Code.isCaller, Code.cUnits])
theorem over_startG {A : Around} {elt tg iter : Expr} {ifs : List Expr} {scope : Scope} {pos : Pos} {it acc : Value} {env : Env} :
    A.over (.compStart (.GeneratorExp elt [⟨tg, iter, ifs, 0⟩] scope pos) 0 it acc env) [] = A.deeper env := by
  first
    | rfl
    | (obtain ⟨hd, d, fr, gs, u⟩ := A; simp [Around.over, Around.deeper, marksOver, frameCount, unitsOf, envsOf, guardsOf, pushEnvs, pushGuards, Code.envs, Code.env?, Code.isFrame, Code.guards, Code.isGuard, Code.weight, Code.frames, Code.isCreation, Code.isCaller, Code.cUnits])

theorem Inv.gensG {X : Cx} {pins : List (Addr × Obj)} {σ : L2.St} {H : Hp} {s : Shared} (I : Inv X pins σ H s) {G : Array GenState} (h : AllBare G) : Inv X pins σ H { s with gens := G } :=
  ⟨I.ok, I.os, h, I.base, I.loc, I.cell, I.free, I.freeC, I.pin, I.hok, I.len⟩
theorem bare_setGen {s : Shared} {g : Nat} {x : GenState} (h : AllBare s.gens) (hx : x.bare = true) : AllBare (s.setGen g x).gens := by
  intro y hy
  show y.bare = true
  have hy : y ∈ s.gens.setIfInBounds g x := hy
  rcases Array.mem_or_eq_of_mem_setIfInBounds hy with h1 | h1
  · exact h y h1
  · rw [h1]; exact hx

section
variable {Y : Cx} {C : Con α} {tg elt iter : Expr} {ifs : List Expr} {scope : Scope} {pos : Pos} {J : It} {fpI : List Addr} {it : Addr} {tn : Nat → Heap → Prop} {g : TG} {tt : TT} {te : TE}
  {Out : α → V → Hp → (α → Hp → Prop) → Prop} {Fin : α → Hp → Prop} {W : α → Nat → Nat → Hp → Prop} {A : Around}
/-- the loop of a generator expression -/
theorem seg_loop (CO : ConOk C) (hcalm : Y.calm = true) (T : Turn Y.prog Y.w Y.K tg J fpI it tn) (hg : PG Y tg g) (ht : PTs Y ifs tt) (he : PE Y elt te) (hA : A.deeper Y.env = Y.A)
    (hex : ∀ b ∈ fpI, b ∈ Y.ex) (hdis : ∀ b ∈ C.fp, b ∉ fpI) (hpn : ∀ p ∈ Y.pn, p.1 ∉ fpI) (hxe : Y.xe = fun _ _ => False) (hco : Y.env.scope.isCoroutine = false) (turn : TurnOf J Y.N.length g tt te Out Fin W) :
    ∀ (m : Nat) (a : α) (i n : Nat) (H : Hp) (s₀ s : Shared), m < n → W a i m H → GI Y C fpI tn a i H s → (∀ b ∈ C.fp, ∀ o, s₀.heap.get? b = some o → s.heap.get? b = some o) →
      Seg (model Y.prog Y.w) A (GRr Y C Fin) (GP Y C fpI tn Out) n s₀ (.compLoop (.GeneratorExp elt [⟨tg, iter, ifs, 0⟩] scope pos) 0 (.ref it) .none Y.env)
        ((model Y.prog Y.w).den (.compLoop (.GeneratorExp elt [⟨tg, iter, ifs, 0⟩] scope pos) 0 (.ref it) .none Y.env)) [] s := by
  have ov : A.over (.compLoop (.GeneratorExp elt [⟨tg, iter, ifs, 0⟩] scope pos) 0 (.ref it) .none Y.env) [] = Y.A := over_loopG.trans hA
  have stat : ∀ {pins : List (Addr × Obj)} {σ' : L2.St} {H' : Hp} {s' : Shared}, Inv Y pins σ' H' s' → (∀ p ∈ pins, p.1 ∉ fpI) → (∀ b ∈ fpI, H' b = none) → ∀ b ∈ fpI, FpOk Y pins H' b := fun {pins σ' H' s'} I' hp hn b hb =>
    ⟨hn b hb, (I'.ok.exf b (hex b hb)).1, I'.ok.exfs b (hex b hb), .inl (hex b hb), fun x c e => (I'.ok.exf b (hex b hb)).2 x c e, fun p hp' z => (List.mem_append.mp hp').elim (fun q => hpn p q (z ▸ hb)) fun q => hp p q (z ▸ hb)⟩
  have pinN : ∀ h : Heap, ∀ p ∈ pinsAt C.fp h, p.1 ∉ fpI := fun h p hp => hdis p.1 (of_pinsAt hp).1
  intro m
  induction m using Nat.strongRecOn with
  | ind m ih =>
    intro a i n H s₀ s hmn hw hGI since
    obtain ⟨I, hat, st, hn0⟩ := hGI
    show Seg _ A _ _ n s₀ _ ((compTurn (.GeneratorExp elt [⟨tg, iter, ifs, 0⟩] scope pos) 0 (.ref it) .none Y.env).onRaise (leaving Y.env)) [] s
    rw [compTurn_gen, Sem.onRaise_eq_wrap]
    refine seg_bind_wrap (wpAny_standAt ?_)
    have sf := stat I (pinN s.heap) hn0
    rcases turn a i m H hw with ⟨stop, fin⟩ | ⟨go, Nx, hNx, step⟩
    · refine seg_bind_wrap ?_
      rw [ov]
      refine thnF (T.done Y rfl rfl rfl hcalm i _ s _ H (fun _ _ => False) I sf st stop) fun r s1 ⟨hr, I1⟩ => ?_
      subst hr
      have hk : ∀ b ∈ C.fp, ∀ o, s.heap.get? b = some o → s1.heap.get? b = some o := fun b hb o e => (I1.pin (b, o) (List.mem_append_right _ (mem_pinsAt hb e))).1
      refine seg_end (.ok .next) ⟨rfl, a, H, I1.pins_of fun p hp => ?_, CO.keep _ _ _ hat hk, fun b hb o e => hk b hb o (since b hb o e), fin⟩
      obtain ⟨hb, e⟩ := of_pinsAt hp
      obtain ⟨o, e2, _⟩ := CO.obj _ _ hat p.1 hb
      have e3 := hk p.1 hb o e2
      rw [e] at e3
      cases e3
      exact I1.pin (p.1, p.2) (List.mem_append_right _ (mem_pinsAt hb e2))
    · refine seg_bind_wrap ?_
      rw [ov]
      refine thnF (T.item Y rfl rfl rfl hcalm i _ s _ H (fun _ _ => False) I sf st go) fun r s1 ⟨u, hr, h1⟩ => ?_
      subst hr
      refine seg_bind_wrap ?_
      rw [ov]
      refine thnF h1 fun _ s2 ⟨x, H2, I2, r2, y2, st2, n2⟩ => ?_
      have I2' := I2.pinned (stat I2 (pinN s.heap) n2) (T.obj _ _ st2)
      refine seg_bind_wrap ?_
      rw [ov]
      have xf : ∀ {β : Type} {t : Sem β} {P P' : β → Shared → Prop} {E' : Value → Shared → Prop} {z : Shared}, wpAny (model Y.prog Y.w) Y.A t P Y.xe z → (∀ a s, P a s → P' a s) → wpAny (model Y.prog Y.w) Y.A t P' E' z := fun {β t P P' E' z} q hq => by
        rw [hxe] at q
        exact thnF q hq
      refine xf (hg.run _ s2 _ H2 x u _ I2' r2 (step x H2 y2)) fun _ s3 ⟨σ3, H3, I3, q3⟩ => ?_
      refine seg_bind_wrap ?_
      rw [ov]
      refine xf (ht.run _ s3 σ3 H3 _ I3 q3) fun ok s4 ⟨H4, I4, q4⟩ => ?_
      -- what stands at a turn's end
      have fin : ∀ {s' : Shared} {H' : Hp} {σ' : L2.St}, Inv Y (pinsAt C.fp s.heap ++ pinsAt fpI s2.heap) σ' H' s' →
          GI Y C fpI tn a (i + 1) H' s' ∧ ∀ b ∈ C.fp, ∀ o, s₀.heap.get? b = some o → s'.heap.get? b = some o := fun {s' H' σ'} I' => by
        have hk : ∀ b ∈ C.fp, ∀ o, s.heap.get? b = some o → s'.heap.get? b = some o := fun b hb o e => (I'.pin (b, o) (List.mem_append_right _ (List.mem_append_left _ (mem_pinsAt hb e)))).1
        have pin' : ∀ b ∈ fpI, ∀ o, s2.heap.get? b = some o → s'.heap.get? b = some o ∧ H' b = none := fun b hb o e =>
          let z := I'.pin (b, o) (List.mem_append_right _ (List.mem_append_right _ (mem_pinsAt hb e)))
          ⟨z.1, z.2.1⟩
        have I1 : Inv Y (pinsAt C.fp s'.heap) σ' H' s' := I'.pins_of fun p hp => by
          obtain ⟨hb, e⟩ := of_pinsAt hp
          obtain ⟨o, e2, _⟩ := CO.obj _ _ hat p.1 hb
          have e3 := hk p.1 hb o e2
          rw [e] at e3
          cases e3
          exact I'.pin (p.1, p.2) (List.mem_append_right _ (List.mem_append_left _ (mem_pinsAt hb e2)))
        refine ⟨⟨I1.weak (by rw [I1.len, List.length_replicate]) fun j v e => (nones_some e).elim, CO.keep _ _ _ hat hk, T.keep _ _ _ st2 fun b hb o e => (pin' b hb o e).1, fun b hb => ?_⟩, fun b hb o e => hk b hb o (since b hb o e)⟩
        obtain ⟨o, e, _⟩ := T.obj _ _ st2 b hb
        exact (pin' b hb o e).2
      cases ok with
      | false =>
        simp only [Bool.false_eq_true, if_false] at q4 ⊢
        obtain ⟨f1, f2⟩ := fin I4
        obtain ⟨m', hm', w'⟩ := hNx a H4 q4
        exact seg_again rfl (ih m' hm' a (i + 1) n H4 s₀ s4 (by omega) w' f1 f2)
      | true =>
        simp only [if_true] at q4 ⊢
        obtain ⟨n', rfl⟩ : ∃ n', n = n' + 1 := ⟨n - 1, by omega⟩
        have hy : ∀ v, yieldOut Y.env v = yieldValue v := fun v => by simp only [yieldOut, hco, Bool.false_eq_true, if_false]
        simp only [hy]
        rw [Sem.bind_eq_wrap', Sem.bind_eq_wrap', Sem.wrap_wrap, Sem.wrap_wrap]
        refine seg_wrap ?_
        rw [ov]
        refine xf (he.run _ s4 σ3 H4 _ I4 q4) fun y s5 ⟨yv, H5, I5, r5, o5⟩ => ?_
        obtain ⟨f1, f2⟩ := fin I5
        refine seg_at (seg_yield rfl rfl rfl ⟨a, i + 1, H5, yv, Nx, r5, f1, o5, f2, fun a' s'' hGI' hN' => ?_⟩)
        obtain ⟨m', hm', w'⟩ := hNx a' H5 hN'
        exact seg_again rfl (ih m' hm' a' (i + 1) n' H5 s'' s'' (by omega) w' hGI' fun _ _ _ e => e)

/-- .. and its start -/
theorem seg_start (CO : ConOk C) (hcalm : Y.calm = true) (T : Turn Y.prog Y.w Y.K tg J fpI it tn) (hg : PG Y tg g) (ht : PTs Y ifs tt) (he : PE Y elt te) (hA : A.deeper Y.env = Y.A)
    (hex : ∀ b ∈ fpI, b ∈ Y.ex) (hdis : ∀ b ∈ C.fp, b ∉ fpI) (hpn : ∀ p ∈ Y.pn, p.1 ∉ fpI) (hxe : Y.xe = fun _ _ => False) (hco : Y.env.scope.isCoroutine = false) (turn : TurnOf J Y.N.length g tt te Out Fin W)
    (m : Nat) (a : α) (n : Nat) (H : Hp) (s : Shared) (hm : m < n) (hw : W a 0 m H) (hGI : GI Y C fpI tn a 0 H s) :
      Seg (model Y.prog Y.w) A (GRr Y C Fin) (GP Y C fpI tn Out) n s (.compStart (.GeneratorExp elt [⟨tg, iter, ifs, 0⟩] scope pos) 0 (.ref it) .none Y.env)
        ((model Y.prog Y.w).den (.compStart (.GeneratorExp elt [⟨tg, iter, ifs, 0⟩] scope pos) 0 (.ref it) .none Y.env)) [] s := by
  have loop := seg_loop (iter := iter) (scope := scope) (pos := pos) CO hcalm T hg ht he hA hex hdis hpn hxe hco turn m a 0 n H s s hm hw hGI fun _ _ _ e => e
  show Seg _ A _ _ _ s _ ((compStart (.GeneratorExp elt [⟨tg, iter, ifs, 0⟩] scope pos) 0 (.ref it) .none Y.env).onRaise (leaving Y.env)) [] s
  unfold compStart
  rw [Sem.onRaise_eq_wrap]
  show Seg _ A _ _ _ s _ ((ask >>= _).wrap _ _ _ _) [] s
  refine seg_bind_wrap (wpAny_askSetting ?_)
  split
  · exact seg_again rfl loop
  · first
      | exact seg_bind_wrap (wpAny_rule (seg_bind_wrap (wpAny_standAt (seg_bind_wrap (T.self _ 0 s _ _ hGI.2.2.1 (seg_again rfl loop))))))
      | (refine seg_bind_wrap (wpAny_rule ?_); show Seg _ A _ _ _ s _ ((standAt iter.pos >>= _).wrap _ _ _ _) [] s; exact seg_bind_wrap (wpAny_standAt (seg_bind_wrap (T.self _ 0 s _ _ hGI.2.2.1 (seg_again rfl loop)))))

theorem repin {a : α} {h : Heap} {σ : L2.St} {H : Hp} {s' : Shared} (CO : ConOk C) (hat : C.at_ a h) (I : Inv Y (pinsAt C.fp h) σ H s') (hk : ∀ b ∈ C.fp, ∀ o, h.get? b = some o → s'.heap.get? b = some o) :
    Inv Y (pinsAt C.fp s'.heap) σ H s' := I.pins_of fun p hp => by
  obtain ⟨hb, e⟩ := of_pinsAt hp
  obtain ⟨o, e2, _⟩ := CO.obj _ _ hat p.1 hb
  have e3 := hk p.1 hb o e2
  rw [e] at e3
  cases e3
  exact I.pin (p.1, p.2) (List.mem_append_right _ (mem_pinsAt hb e2))

/-- one item of such a generator -/
theorem next_ge {A : Around} {ga : Addr} {go : Obj} {g i n : Nat} {gs : GenState} {a : α} {H : Hp} {Nx : α → Hp → Prop} {s : Shared} {Q : Option Value → Shared → Prop} {E : Value → Shared → Prop}
    (CO : ConOk C) (hh : A.handled = none) (hd : A.depth < recursionLimit) (hpn : (ga, go) ∈ Y.pn) (hgo : ∀ h : Heap, h.get? ga = some go → h.IsGen ga g) (hgs : s.gens[g]? = some gs)
    (gi : GI Y C fpI tn a i H s) (hN : Nx a H)
    (goes : ∀ a' s'', GI Y C fpI tn a' i H s'' → Nx a' H → gs.Goes (model Y.prog Y.w) A.in1 (GRr Y C Fin) (GP Y C fpI tn Out) n (.send .none) s'')
    (hsome : ∀ i1 H1 y v Nx1 s1 gs1, RelV y v → GI Y C fpI tn a i1 H1 s1 → Out a y H1 Nx1 → s1.gens[g]? = some gs1 →
      GoOn (model Y.prog Y.w) A.in1 (GRr Y C Fin) (GP Y C fpI tn Out) (fun a' s'' => GI Y C fpI tn a' i1 H1 s'') (fun a' => Nx1 a' H1) gs1 n → Q (some v) s1)
    (hnone : ∀ H1 s1, Inv Y (pinsAt C.fp s1.heap) (nones Y.N.length) H1 s1 → C.at_ a s1.heap → Fin a H1 → Q none s1) :
    wpAny (model Y.prog Y.w) A (pyNext (.ref ga)) Q E s := by
  obtain ⟨I, hat, st, hn0⟩ := id gi
  have hlt : g < s.gens.size := by
    rcases Nat.lt_or_ge g s.gens.size with h' | h'
    · exact h'
    · rw [Array.getElem?_eq_none h'] at hgs; cases hgs
  refine wpAny_gsz (n := g + 1) hlt ?_
  have gi' : GI Y C fpI tn a i H (s.setGen g .running) := ⟨Inv.gensG I (bare_setGen I.bare rfl), hat, st, hn0⟩
  have hig : s.heap.IsGen ga g := hgo _ (I.pin (ga, go) (List.mem_append_left _ hpn)).1
  refine wpAny_pyNext_genexpQ (P := GF Y C Fin) (Y := GP Y C fpI tn Out) hh I.nolimit hd hig hgs (goes a _ gi' hN) (fun v s1 gs1 hb hv => ?_) (fun s1 hp h' hk => ?_)
  · obtain ⟨a1, i1, H1, y, Nx1, rv, gi1, o1, since, kap⟩ := hv
    have hat1 : C.at_ a s1.heap := CO.keep _ _ _ hat since
    have ea : a1 = a := CO.inj _ _ _ gi1.2.1 hat1
    subst ea
    intro hsz
    have hlt1 : g < s1.gens.size := by
      rw [setGen_size] at hsz
      exact hsz
    have gi2 : GI Y C fpI tn a1 i1 H1 (s1.setGen g gs1) := ⟨Inv.gensG gi1.1 (bare_setGen gi1.1.bare hb), gi1.2.1, gi1.2.2.1, gi1.2.2.2⟩
    refine hsome i1 H1 y v Nx1 _ gs1 rv gi2 o1 (by simp [Shared.setGen, hlt1]) ?_
    cases n with
    | zero => exact fun a' s'' q1 q2 => kap a' s'' q1 q2
    | succ n1 => exact fun a' s'' q1 q2 => kap a' s'' q1 q2
  · obtain ⟨a1, H1, I1, hat1, since, fin⟩ := hp
    have ea : a1 = a := CO.inj _ _ _ hat1 (CO.keep _ _ _ hat since)
    subst ea
    intro _
    have I2 : Inv Y (pinsAt C.fp s1.heap) (nones Y.N.length) H1 { s1.setGen g .finished with heap := h' } := (Inv.gensG I1 (bare_setGen (x := .finished) (g := g) I1.bare rfl)).kept (t' := s1.toks) hk
    exact hnone H1 _ (repin CO hat1 I2 fun b _ o e => hk b o e) (CO.keep _ _ _ hat1 fun b _ o e => hk b o e) fin
end
end

section
variable {Y : Cx} {fpI : List Addr} {tn : Nat → Heap → Prop}
def outAll (QB : Bool → Hp → Prop) : Unit → V → Hp → (Unit → Hp → Prop) → Prop := fun _ y H Nx => ∃ c, y = .bl c ∧ if c = true then Nx () H else QB false H
def outAny (QB : Bool → Hp → Prop) : Unit → V → Hp → (Unit → Hp → Prop) → Prop := fun _ y H Nx => ∃ c, y = .bl c ∧ if c = true then QB true H else Nx () H
theorem all_loop {A : Around} {ga : Addr} {go : Obj} {g : Nat} {QB : Bool → Hp → Prop} {R : Result → Shared → Prop} (hh : A.handled = none) (hd : A.depth < recursionLimit) (hpn : (ga, go) ∈ Y.pn) (hgo : ∀ h : Heap, h.get? ga = some go → h.IsGen ga g)
    (hR : ∀ b s' H', Inv Y [] (nones Y.N.length) H' s' → QB b H' → R (.ok (.ret (.bool b))) s') :
    ∀ (n i : Nat) (H : Hp) (Nx : Unit → Hp → Prop) (s : Shared) (gs : GenState), s.gens[g]? = some gs → GI Y conU fpI tn () i H s → Nx () H →
      (∀ a' s'', GI Y conU fpI tn a' i H s'' → Nx a' H → gs.Goes (model Y.prog Y.w) A.in1.in1 (GRr Y conU fun _ H => QB true H) (GP Y conU fpI tn (outAll QB)) n (.send .none) s'') →
      codeAny (model Y.prog Y.w) A (.builtin "all.loop" ⟨[.ref ga], []⟩) R s := by
  intro n
  induction n with
  | zero =>
    intro i H Nx s gs hgs gi hN goes
    refine codeAny_builtin F.entry_all_loop ?_
    rw [Around.under_plainId F.plain_all_loop _]
    show wpAny _ A.in1 (pyNext (.ref ga) >>= _) _ _ s
    refine wpAny_bind (next_ge (A := A.in1) conU_ok hh hd hpn hgo hgs gi hN goes (fun i1 H1 y v Nx1 s1 gs1 rv gi1 o1 hg1 go1 => ?_) (fun H1 s1 I1 _ fin => ?_))
    · obtain ⟨c, rfl, hc⟩ := o1
      cases (show v = Value.bool c from rv)
      refine wpAny_bind (wpAny_holding (wpAny_truthy_bool ?_))
      refine wpAny_bind (wpAny_letGo ?_)
      cases c with
      | true => exact (go1 () s1 gi1 hc).elim
      | false =>
        simp only [Bool.false_eq_true, if_false]
        exact wpAny_bind (wpAny_rule (wpAny_pure (hR false s1 H1 gi1.1 hc)))
    · exact wpAny_bind (wpAny_rule (wpAny_pure (hR true s1 H1 I1 fin)))
  | succ n ih =>
    intro i H Nx s gs hgs gi hN goes
    refine codeAny_builtin F.entry_all_loop ?_
    rw [Around.under_plainId F.plain_all_loop _]
    show wpAny _ A.in1 (pyNext (.ref ga) >>= _) _ _ s
    refine wpAny_bind (next_ge (A := A.in1) conU_ok hh hd hpn hgo hgs gi hN goes (fun i1 H1 y v Nx1 s1 gs1 rv gi1 o1 hg1 go1 => ?_) (fun H1 s1 I1 _ fin => ?_))
    · obtain ⟨c, rfl, hc⟩ := o1
      cases (show v = Value.bool c from rv)
      refine wpAny_bind (wpAny_holding (wpAny_truthy_bool ?_))
      refine wpAny_bind (wpAny_letGo ?_)
      cases c with
      | true =>
        simp only [if_true]
        exact wpAny_pure ⟨plainId_quiet F.plain_all_loop _, ih i1 H1 Nx1 s1 gs1 hg1 gi1 hc go1⟩
      | false =>
        simp only [Bool.false_eq_true, if_false]
        exact wpAny_bind (wpAny_rule (wpAny_pure (hR false s1 H1 gi1.1 hc)))
    · exact wpAny_bind (wpAny_rule (wpAny_pure (hR true s1 H1 I1 fin)))
theorem any_loop {A : Around} {ga : Addr} {go : Obj} {g : Nat} {QB : Bool → Hp → Prop} {R : Result → Shared → Prop} (hh : A.handled = none) (hd : A.depth < recursionLimit) (hpn : (ga, go) ∈ Y.pn) (hgo : ∀ h : Heap, h.get? ga = some go → h.IsGen ga g)
    (hR : ∀ b s' H', Inv Y [] (nones Y.N.length) H' s' → QB b H' → R (.ok (.ret (.bool b))) s') :
    ∀ (n i : Nat) (H : Hp) (Nx : Unit → Hp → Prop) (s : Shared) (gs : GenState), s.gens[g]? = some gs → GI Y conU fpI tn () i H s → Nx () H →
      (∀ a' s'', GI Y conU fpI tn a' i H s'' → Nx a' H → gs.Goes (model Y.prog Y.w) A.in1.in1 (GRr Y conU fun _ H => QB false H) (GP Y conU fpI tn (outAny QB)) n (.send .none) s'') →
      codeAny (model Y.prog Y.w) A (.builtin "any.loop" ⟨[.ref ga], []⟩) R s := by
  intro n
  induction n with
  | zero =>
    intro i H Nx s gs hgs gi hN goes
    refine codeAny_builtin F.entry_any_loop ?_
    rw [Around.under_plainId F.plain_any_loop _]
    show wpAny _ A.in1 (pyNext (.ref ga) >>= _) _ _ s
    refine wpAny_bind (next_ge (A := A.in1) conU_ok hh hd hpn hgo hgs gi hN goes (fun i1 H1 y v Nx1 s1 gs1 rv gi1 o1 hg1 go1 => ?_) (fun H1 s1 I1 _ fin => ?_))
    · obtain ⟨c, rfl, hc⟩ := o1
      cases (show v = Value.bool c from rv)
      refine wpAny_bind (wpAny_holding (wpAny_truthy_bool ?_))
      refine wpAny_bind (wpAny_letGo ?_)
      cases c with
      | false => exact (go1 () s1 gi1 hc).elim
      | true =>
        simp only [if_true]
        exact wpAny_bind (wpAny_rule (wpAny_pure (hR true s1 H1 gi1.1 hc)))
    · exact wpAny_bind (wpAny_rule (wpAny_pure (hR false s1 H1 I1 fin)))
  | succ n ih =>
    intro i H Nx s gs hgs gi hN goes
    refine codeAny_builtin F.entry_any_loop ?_
    rw [Around.under_plainId F.plain_any_loop _]
    show wpAny _ A.in1 (pyNext (.ref ga) >>= _) _ _ s
    refine wpAny_bind (next_ge (A := A.in1) conU_ok hh hd hpn hgo hgs gi hN goes (fun i1 H1 y v Nx1 s1 gs1 rv gi1 o1 hg1 go1 => ?_) (fun H1 s1 I1 _ fin => ?_))
    · obtain ⟨c, rfl, hc⟩ := o1
      cases (show v = Value.bool c from rv)
      refine wpAny_bind (wpAny_holding (wpAny_truthy_bool ?_))
      refine wpAny_bind (wpAny_letGo ?_)
      cases c with
      | false =>
        simp only [Bool.false_eq_true, if_false]
        exact wpAny_pure ⟨plainId_quiet F.plain_any_loop _, ih i1 H1 Nx1 s1 gs1 hg1 gi1 hc go1⟩
      | true =>
        simp only [if_true]
        exact wpAny_bind (wpAny_rule (wpAny_pure (hR true s1 H1 gi1.1 hc)))
    · exact wpAny_bind (wpAny_rule (wpAny_pure (hR false s1 H1 I1 fin)))
end

/-! ### a generator expression is made -/
abbrev ce (X : Cx) (scope : Scope) (C : Addr) (code : Value) : Env := genEnv scope [] C code builtinsNs X.env
abbrev gx (X : Cx) (A : Around) (N : List Str) (s : Shared) (H : Hp) (cenv : Env) (fp : List Addr) (pn : List (Addr × Obj)) : Cx :=
  { X with A := A.deeper cenv, N := N, s_0 := s, H_0 := H, env := cenv, outer := X.stack, stack := cenv :: X.stack, ex := fp, fn := fun _ => false, calm := true, pn := pn, xe := fun _ _ => False }
structure GSc (scope : Scope) : Prop where
  kind : scope.kind = .function
  co : scope.isCoroutine = false
  own : ∀ y ∈ scope.names, y.2 ≠ .cell ∧ y.2 ≠ .free
  dot : scope.names.lookup (".0" : Str) = some NameKind.local
theorem cloFrom_nil {cells : List (Str × Addr)} : ∀ {names : List (Str × NameKind)} {acc : List (Str × Addr)}, (∀ y ∈ names, y.2 ≠ .free) → cloFrom cells names acc = acc
  | [], _, _ => rfl
  | (n, k) :: r, acc, h => by
    unfold cloFrom
    rw [if_neg (by simpa using h (n, k) List.mem_cons_self)]
    exact cloFrom_nil fun y hy => h y (List.mem_cons_of_mem _ hy)
theorem GSc.nocell {scope : Scope} (S : GSc scope) {x : Str} (h : scope.names.lookup x = some .cell ∨ scope.names.lookup x = some .free) : False := by
  rcases h with h | h
  · exact (S.own _ (PySem.mem_of_lookup h)).1 rfl
  · exact (S.own _ (PySem.mem_of_lookup h)).2 rfl
section
variable {X : Cx} {pins : List (Addr × Obj)} {σ : L2.St} {H : Hp} {s : Shared}
theorem ge_start {A : Around} {N : List Str} {scope : Scope} {code : Value} {fp : List Addr} {go : Obj} {G : Array GenState} {tk : Nat} {h5 : Heap} {m0 : Str → Option Value} (I : Inv X pins σ H s) (S : GSc scope) (hA : A.handled = none) (hf : A.frames = some X.stack)
    (hfp : ∀ b ∈ fp, FpOk X pins H b ∧ b < s.heap.objs.size) (hG : AllBare G) (hns : h5.Ns s.heap.objs.size m0) (hk : ∀ b o, s.heap.get? b = some o → h5.get? b = some o) (hgo : h5.get? (s.heap.objs.size + 1) = some go) (hgd : ∀ v, go.data ≠ .cell v) :
    Inv (gx X A N s H (ce X scope s.heap.objs.size code) fp [(s.heap.objs.size + 1, go)]) [] (nones N.length) H { s with gens := G, toks := tk, heap := h5 } := by
  have noc : ∀ x c, (ce X scope s.heap.objs.size code).cells.lookup x = some c → False := fun x c e => by simp [genEnv] at e
  have stkne : ∀ b, s.heap.objs.size ≤ b → b ∉ frs X.stack := fun b hb z => by
    rcases List.mem_cons.mp (I.stkSub b z) with e | e
    · exact absurd (Nat.lt_of_lt_of_le I.lt (by rw [← e]; exact hb)) (Nat.lt_irrefl _)
    · exact I.nofs hb e
  refine ⟨⟨I.ok.mod, S.kind, I.ok.glob, rfl, Nat.le_refl _, fun x y c h1 _ => (noc x c h1).elim, fun x hx => (S.nocell hx).elim, fun x c h _ => (by cases h), fun _ => hA, Around.frames_deeper hf, .inr ⟨rfl, rfl⟩, fun b hb => ⟨Nat.ne_of_lt (hfp b hb).2, fun x c e => (noc x c e).elim⟩,
    I.bs, Nat.le_trans I.ok.bsz I.sz, fun b o e hb => ?_, fun b hb z => ?_, I.stack, I.stkFree⟩, rfl, hG, Un.kept hk, ⟨m0, hns, fun i x v _ h2 _ => (nones_some h2).elim⟩, fun x c e => (noc x c e).elim, I.hok.fresh (Nat.le_refl _), fun x c e => (noc x c e).elim, fun p hp => ?_, I.hok.kept hk, List.length_replicate⟩
  · rcases (hfp b hb).1.2.2.2.1 with z | z
    · exact I.ok.noex b o e z
    · exact absurd (Nat.lt_of_lt_of_le (Heap.lt_size e) (Nat.le_trans I.ok.bsz z)) (Nat.lt_irrefl _)
  · rcases List.mem_cons.mp (I.stkSub b z) with e | e
    · exact (hfp b hb).1.2.1 e
    · exact (hfp b hb).1.2.2.1 e
  · have hp' : p ∈ [(s.heap.objs.size + 1, go)] := by simpa using hp
    rw [List.mem_singleton.mp hp']
    exact ⟨hgo, I.hok.fresh (Nat.le_succ _), Nat.succ_ne_self _, stkne _ (Nat.le_succ _), hgd⟩
/-- back in the def that asked -/
theorem ge_back {A : Around} {N : List Str} {cenv : Env} {fp : List Addr} {pn pins' : List (Addr × Obj)} {σ' : L2.St} {H' : Hp} {s' : Shared} (I : Inv X pins σ H s) (hfp : ∀ b ∈ fp, FpOk X pins H b ∧ b < s.heap.objs.size)
    (J : Inv (gx X A N s H cenv fp pn) pins' σ' H' s') : Inv X pins σ H' s' :=
  I.call' (ch := fp) J.os J.base J.hok J.bare fun b hb => ⟨(hfp b hb).1.2.2.2.1, (hfp b hb).1.2.1, (hfp b hb).1.2.2.2.2.1, (hfp b hb).1.2.2.2.2.2⟩
theorem room3 {k : Nat} {A : Around} (r : Room (k + 1) A) (env : Env) : Room k (A.in1.in1.deeper env) :=
  ⟨r.hd, by have := r.dp; show A.depth + 1 + 3 * k + 5 < _; omega, by have := r.un; show A.units + 1 + 1 + 3 + 16 * k + 200 < _; omega⟩

theorem gen_make {c P : Addr} {elt tg iter : Expr} {ifs : List Expr} {gpos : Pos} {scope : Scope} {wi : TI} {k : Nat} {Q' : Value → Shared → Prop} {R : It → Hp → Prop}
    (hr : Room k X.A) (TB : GxR.TabB X.base X.mg c P) (hcode : X.env.code = .ref c) (S : GSc scope) (hi : PI X tg iter wi) (hs : ∀ v, genFold iter X.env v = pure v) (I : Inv X pins σ H s) (h : wi σ H fun J H1 => GxR.TabG H1 P ∧ R J H1)
    (hQ : ∀ J H1 H2 s4 s5 code fp it tn go g, R J H1 → GxR.Tabbed P H1 H2 → Inv X pins σ H2 s4 → (∀ b ∈ fp, FpOk X pins H2 b ∧ b < s4.heap.objs.size) → Turn X.prog X.w X.K tg J fp it tn → tn 0 s5.heap →
      (∀ A N, A.handled = none → A.frames = some X.stack → Inv (gx X A N s4 H2 (ce X scope s4.heap.objs.size code) fp [(s4.heap.objs.size + 1, go)]) [] (nones N.length) H2 s5) →
      (∀ h : Heap, h.get? (s4.heap.objs.size + 1) = some go → h.IsGen (s4.heap.objs.size + 1) g) →
      s5.gens[g]? = some (.fresh (.compStart (.GeneratorExp elt [⟨tg, iter, ifs, 0⟩] scope gpos) 0 (.ref it) .none (ce X scope s4.heap.objs.size code))) → Q' (.ref (s4.heap.objs.size + 1)) s5) :
    wpAny (model X.prog X.w) X.A (eval (.GeneratorExp elt [⟨tg, iter, ifs, 0⟩] scope gpos) X.env) Q' X.xe s := by
  have hcl : closureFor scope X.env = pure [] := by
    rw [closure_ok fun y hy e => absurd e (S.own y hy).2, cloFrom_nil fun y hy => (S.own y hy).2]
  refine wpAny_GeneratorExp_make S.co hcl (fun y hy => (S.own y hy).1) S.dot S.kind (by have := hr.dp; omega) (thn (hi.run pins s σ H _ I h) fun xv s1 hx => thn hx fun itv s2 h2 => ?_) hs
  obtain ⟨it, fp, tn, J, H1, e, I2, T, st2, f2, ⟨ps, hP, ht⟩, q1⟩ := h2
  subst e
  have hPs : s2.heap.get? P = some { cls := .none, data := .fields ps } := I2.hok P _ hP
  have cd : PySem.W.CodeHd s2.heap c P := TB.code.keeps fun b u e => I2.bk b u e
  have nfp : ∀ b ∈ fp, b ≠ P := fun b hb z => by
    have := (f2 b hb).1
    rw [z, hP] at this
    cases this
  have szf : ∀ b ∈ fp, b < s2.heap.objs.size := fun b hb => by
    obtain ⟨o, e, _⟩ := T.obj _ _ st2 b hb
    exact Heap.lt_size e
  have cont : ∀ (code : Value) (h3 : Heap) (tk : Nat) (ps' : Array Value), Heap.ExtBut P s2.heap h3 → s2.heap.objs.size ≤ h3.objs.size → h3.get? P = some { cls := .none, data := .fields ps' } → (∃ more, ps' = ps ++ more) → TriplesOk ps'.toList →
      wpAny (model X.prog X.w) X.A (builtinsFor X.env.globals X.env.builtins) (fun bi s4 =>
        ∀ h', h'.Ns s4.heap.objs.size (fun y => if y = ".0" then some (.ref it) else none) → Heap.SameBut s4.heap.objs.size (s4.heap.push { cls := .type "frame", data := .dict #[] }) h' →
          Q' (.ref h'.objs.size) { s4 with
            gens := s4.gens.push (.fresh (.compStart (.GeneratorExp elt [⟨tg, iter, ifs, 0⟩] scope gpos) 0 (.ref it) .none (genEnv scope [] s4.heap.objs.size code bi X.env))),
            toks := s4.toks + 1 + 1 + 1,
            heap := h'.push { cls := .type "generator", data := .fields #[.int s4.gens.size 0, .str "<genexpr>" (s4.toks + 1), .str (X.env.qual ++ "<genexpr>") (s4.toks + 1 + 1)] } }) X.xe { s2 with heap := h3, toks := tk } := by
    intro code h3 tk ps' hx hsz hP3 hmore ht3
    obtain ⟨bm, ob, e1, e2, e3, e4, e5, e6, e7, e8⟩ := TB.bm
    obtain ⟨more, rfl⟩ := hmore
    have I3 : Inv X pins σ (upd H1 P (.tbl (ps ++ more))) { s2 with heap := h3, toks := tk } := GxR.inv_tab (more := more) (g' := s2.gens) (d' := s2.drawn) I2 hP (fun b u hb e => hx b u hb e) hP3 I2.bare
    have tab : GxR.Tabbed P H1 (upd H1 P (.tbl (ps ++ more))) := ⟨⟨_, upd_same, ht3⟩, fun b hb => upd_ne hb⟩
    have st3 : tn 0 h3 := T.keep _ _ _ st2 fun b hb o e => hx b o (nfp b hb) e
    have f3 : ∀ b ∈ fp, FpOk X pins (upd H1 P (.tbl (ps ++ more))) b ∧ b < h3.objs.size := fun b hb =>
      ⟨⟨by rw [upd_ne (nfp b hb)]; exact (f2 b hb).1, (f2 b hb).2⟩, Nat.lt_of_lt_of_le (szf b hb) hsz⟩
    refine wpAny_builtinsFor (m := X.mg) (by rw [I3.ok.glob]; exact I3.mod.glob.keeps I3.bk) e1 e2 (I3.bk _ _ e5) e6 e7 e8 ?_
    intro h' hns hsb
    have hsz' : h'.objs.size = h3.objs.size + 1 := by rw [hsb.1, Heap.size_push]
    have keep' : ∀ b o, h3.get? b = some o → h'.get? b = some o := fun b o e => hsb.extBut b o (Nat.ne_of_lt (Heap.lt_size e)) (Heap.get?_push_of_some _ e)
    have main : ∀ (go : Obj), go.cls = .type "generator" → (∃ nm qn, go.data = .fields #[.int s2.gens.size 0, nm, qn]) → go.slots = #[] → (∀ h : Heap, (h.push go).get? h.objs.size = some go) → ∀ t',
        Q' (.ref h'.objs.size) { s2 with heap := h'.push go, toks := t', gens := s2.gens.push (.fresh (.compStart (.GeneratorExp elt [⟨tg, iter, ifs, 0⟩] scope gpos) 0 (.ref it) .none (genEnv scope [] h3.objs.size code builtinsNs X.env))) } := by
      intro go gc ⟨nm, qn, gd⟩ gsl gp t'
      have hgp := gp h'
      rw [hsz'] at hgp ⊢
      have keep5 : ∀ b o, h3.get? b = some o → (h'.push go).get? b = some o := fun b o e => Heap.get?_push_of_some _ (keep' b o e)
      refine hQ J H1 (upd H1 P (.tbl (ps ++ more))) { s2 with heap := h3, toks := tk } _ code fp it tn go s2.gens.size q1 tab I3 f3 T (T.keep _ _ _ st3 fun b _ o e => keep5 b o e) (fun A N hA hf => ?_) (fun h e => ⟨go, nm, qn, e, gc, gd, gsl⟩) (Array.getElem?_push_size ..)
      exact ge_start (s := { s2 with heap := h3, toks := tk }) I3 S hA hf f3 (I2.bare.push rfl) (hns.push _) keep5 hgp (fun v z => by rw [gd] at z; cases z)
    exact main _ rfl ⟨_, _, rfl⟩ rfl (fun h => Heap.get?_push_size _ rfl) _
  refine ⟨I2.nolimit, ?_⟩
  cases hf : codeAmong gpos ps.toList with
  | none =>
    refine wpAny_genexprCodeX hcode (cd.code hPs ht) (cd.tab hPs) hf fun c' h' tk hx hge hlt hco' _ htab' _ => ?_
    obtain ⟨o1, vs, f1, tf, fl, tg', inF, tx, tt, op, _, _, _, _, _, _, _, _, _, htr, _⟩ := hco'
    exact cont _ h' tk _ hx (Nat.le_trans hge (Nat.le_of_lt hlt)) htab'.2 ⟨_, rfl⟩ htr
  | some cv =>
    refine wpAny_genexprCode_hit hcode (cd.code hPs ht) hf ?_
    exact cont cv s2.heap s2.toks ps (Heap.ExtBut.refl _ _) (Nat.le_refl _) hPs ⟨#[], by simp⟩ ht

/-! ### all and any of one -/
def tGen (P : Addr) (n0 : Nat) (wi : TI) (g : TG) (tt : TT) (te : TE) (Out : (Bool → Hp → Prop) → Unit → V → Hp → (Unit → Hp → Prop) → Prop) (fin : Bool) : TE := fun σ H Q => wi σ H fun J H1 => GxR.TabG H1 P ∧ ∀ H2, GxR.Tabbed P H1 H2 →
  ∃ W : Unit → Nat → Nat → Hp → Prop, (∃ m, W () 0 m H2) ∧ TurnOf J n0 g tt te (Out fun b H => Q (.bl b) H) (fun _ H => Q (.bl fin) H) W
theorem pe_allG {N : List Str} {c P : Addr} {elt tg iter : Expr} {ifs : List Expr} {p pos gpos : Pos} {scope : Scope} {wi : TI} {g : TG} {tt : TT} {te : TE} {k : Nat}
    (hr : Room (k + 1) X.A) (hgl : Gl X "all") (hm : X.mg "all" = none) (TB : GxR.TabB X.base X.mg c P) (hcode : X.env.code = .ref c) (S : GSc scope) (hi : PI X tg iter wi)
    (hg : ∀ (A : Around) (s : Shared) (H : Hp) (C : Addr) (code : Value) (fp : List Addr) (pn : List (Addr × Obj)), Room k (A.deeper (ce X scope C code)) → PG (gx X A N s H (ce X scope C code) fp pn) tg g)
    (ht : ∀ (A : Around) (s : Shared) (H : Hp) (C : Addr) (code : Value) (fp : List Addr) (pn : List (Addr × Obj)), Room k (A.deeper (ce X scope C code)) → PTs (gx X A N s H (ce X scope C code) fp pn) ifs tt)
    (he : ∀ (A : Around) (s : Shared) (H : Hp) (C : Addr) (code : Value) (fp : List Addr) (pn : List (Addr × Obj)), Room k (A.deeper (ce X scope C code)) → PE (gx X A N s H (ce X scope C code) fp pn) elt te)
    (hs : ∀ v, genFold iter X.env v = pure v := by intro _; rfl)
    (hb : bootBuiltins "all" = some (.builtin "all") := by decide +kernel)
    (hst : starEach [.GeneratorExp elt [⟨tg, iter, ifs, 0⟩] scope gpos] X.env = (false, eval (.GeneratorExp elt [⟨tg, iter, ifs, 0⟩] scope gpos) X.env) :: starEach [] X.env := by rfl) :
    PE X (.Call (.Name "all" p) [.GeneratorExp elt [⟨tg, iter, ifs, 0⟩] scope gpos] [] pos) (tGen P N.length wi g tt te outAll true) := by
  refine ⟨fun pins s σ H Q I h => ?_⟩
  refine wpAny_Call_Name_kw (ld_blt I hgl hm hb ?_)
  refine PyProof.Rows.callWith_builtin1 ?_ hst (by rfl)
  rw [hst]
  show wpAny _ _ (spliced ((false, eval (.GeneratorExp elt [⟨tg, iter, ifs, 0⟩] scope gpos) X.env) :: backTo pos (starEach [] X.env))) _ _ s
  refine Calls.spliced_cons (gen_make hr TB hcode S hi hs I h fun J H1 H2 s4 s5 code fp it tn go gn hR tab I4 f4 T st5 mk hgo hgs => ?_)
  refine Calls.spliced_nil ?_
  obtain ⟨W, ⟨m0, w0⟩, turn⟩ := hR H2 tab
  have rY := room3 hr (ce X scope s4.heap.objs.size code)
  have I5 := mk X.A.in1.in1 N hr.hd I.ok.frames
  generalize hpn : [(s4.heap.objs.size + 1, go)] = pn at I5
  have hpm : (s4.heap.objs.size + 1, go) ∈ pn := by rw [← hpn]; exact List.mem_singleton.mpr rfl
  have hpf : ∀ p ∈ pn, p.1 ∉ fp := fun p hp z => by
    rw [← hpn] at hp
    rw [List.mem_singleton.mp hp] at z
    exact absurd (f4 _ z).2 (Nat.not_lt.mpr (Nat.le_succ _))
  have gi0 : GI (gx X X.A.in1.in1 N s4 H2 (ce X scope s4.heap.objs.size code) fp pn) conU fp tn () 0 H2 s5 := ⟨I5, trivial, st5, fun b hb => (f4 b hb).1.1⟩
  have isg := hgo _ (I5.pin _ (List.mem_append_left _ hpm)).1
  refine call_function_tree F.kind_all F.plain_all F.entry_all (F.args_all1 _) ?_
  unfold Builtin.«all»
  refine wpAny_bind (m := oneArg "all" _) (wpAny_pure ?_)
  refine wpAny_bind (wpAny_pyIter_gen isg ?_)
  refine wpAny_pure ⟨plainId_quiet F.plain_all_loop _, ?_⟩
  refine all_loop (Y := gx X X.A.in1.in1 N s4 H2 (ce X scope s4.heap.objs.size code) fp pn) (A := X.A) (g := gn) (QB := fun b H => Q (.bl b) H) hr.hd hr.depth hpm hgo (fun b s' H' I' q => ?_) (m0 + 1) 0 H2 (fun a H => W a 0 m0 H) s5 _ hgs gi0 w0 (fun a' s'' gi' w' => ?_)
  · exact ⟨.bl b, H', ge_back I4 f4 I', rfl, q⟩
  · exact ⟨rfl, seg_start (Y := gx X X.A.in1.in1 N s4 H2 (ce X scope s4.heap.objs.size code) fp pn) conU_ok rfl T (hg _ _ _ _ _ _ _ rY) (ht _ _ _ _ _ _ _ rY) (he _ _ _ _ _ _ _ rY) rfl (fun b hb => hb) (fun b hb => nomatch hb) hpf rfl S.co turn m0 a' (m0 + 1) H2 s'' (Nat.lt_succ_self _) w' gi'⟩
theorem pe_anyG {N : List Str} {c P : Addr} {elt tg iter : Expr} {ifs : List Expr} {p pos gpos : Pos} {scope : Scope} {wi : TI} {g : TG} {tt : TT} {te : TE} {k : Nat}
    (hr : Room (k + 1) X.A) (hgl : Gl X "any") (hm : X.mg "any" = none) (TB : GxR.TabB X.base X.mg c P) (hcode : X.env.code = .ref c) (S : GSc scope) (hi : PI X tg iter wi)
    (hg : ∀ (A : Around) (s : Shared) (H : Hp) (C : Addr) (code : Value) (fp : List Addr) (pn : List (Addr × Obj)), Room k (A.deeper (ce X scope C code)) → PG (gx X A N s H (ce X scope C code) fp pn) tg g)
    (ht : ∀ (A : Around) (s : Shared) (H : Hp) (C : Addr) (code : Value) (fp : List Addr) (pn : List (Addr × Obj)), Room k (A.deeper (ce X scope C code)) → PTs (gx X A N s H (ce X scope C code) fp pn) ifs tt)
    (he : ∀ (A : Around) (s : Shared) (H : Hp) (C : Addr) (code : Value) (fp : List Addr) (pn : List (Addr × Obj)), Room k (A.deeper (ce X scope C code)) → PE (gx X A N s H (ce X scope C code) fp pn) elt te)
    (hs : ∀ v, genFold iter X.env v = pure v := by intro _; rfl)
    (hst : starEach [.GeneratorExp elt [⟨tg, iter, ifs, 0⟩] scope gpos] X.env = (false, eval (.GeneratorExp elt [⟨tg, iter, ifs, 0⟩] scope gpos) X.env) :: starEach [] X.env := by rfl) :
    PE X (.Call (.Name "any" p) [.GeneratorExp elt [⟨tg, iter, ifs, 0⟩] scope gpos] [] pos) (tGen P N.length wi g tt te outAny false) := by
  refine ⟨fun pins s σ H Q I h => ?_⟩
  refine wpAny_Call_Name_kw (ld_blt I hgl hm boot_any ?_)
  refine PyProof.Rows.callWith_builtin1 ?_ hst (by rfl)
  rw [hst]
  show wpAny _ _ (spliced ((false, eval (.GeneratorExp elt [⟨tg, iter, ifs, 0⟩] scope gpos) X.env) :: backTo pos (starEach [] X.env))) _ _ s
  refine Calls.spliced_cons (gen_make hr TB hcode S hi hs I h fun J H1 H2 s4 s5 code fp it tn go gn hR tab I4 f4 T st5 mk hgo hgs => ?_)
  refine Calls.spliced_nil ?_
  obtain ⟨W, ⟨m0, w0⟩, turn⟩ := hR H2 tab
  have rY := room3 hr (ce X scope s4.heap.objs.size code)
  have I5 := mk X.A.in1.in1 N hr.hd I.ok.frames
  generalize hpn : [(s4.heap.objs.size + 1, go)] = pn at I5
  have hpm : (s4.heap.objs.size + 1, go) ∈ pn := by rw [← hpn]; exact List.mem_singleton.mpr rfl
  have hpf : ∀ p ∈ pn, p.1 ∉ fp := fun p hp z => by
    rw [← hpn] at hp
    rw [List.mem_singleton.mp hp] at z
    exact absurd (f4 _ z).2 (Nat.not_lt.mpr (Nat.le_succ _))
  have gi0 : GI (gx X X.A.in1.in1 N s4 H2 (ce X scope s4.heap.objs.size code) fp pn) conU fp tn () 0 H2 s5 := ⟨I5, trivial, st5, fun b hb => (f4 b hb).1.1⟩
  have isg := hgo _ (I5.pin _ (List.mem_append_left _ hpm)).1
  refine call_function_tree F.kind_any F.plain_any F.entry_any (F.args_any1 _) ?_
  unfold Builtin.«any»
  refine wpAny_bind (m := oneArg "any" _) (wpAny_pure ?_)
  refine wpAny_bind (wpAny_pyIter_gen isg ?_)
  refine wpAny_pure ⟨plainId_quiet F.plain_any_loop _, ?_⟩
  refine any_loop (Y := gx X X.A.in1.in1 N s4 H2 (ce X scope s4.heap.objs.size code) fp pn) (A := X.A) (g := gn) (QB := fun b H => Q (.bl b) H) hr.hd hr.depth hpm hgo (fun b s' H' I' q => ?_) (m0 + 1) 0 H2 (fun a H => W a 0 m0 H) s5 _ hgs gi0 w0 (fun a' s'' gi' w' => ?_)
  · exact ⟨.bl b, H', ge_back I4 f4 I', rfl, q⟩
  · exact ⟨rfl, seg_start (Y := gx X X.A.in1.in1 N s4 H2 (ce X scope s4.heap.objs.size code) fp pn) conU_ok rfl T (hg _ _ _ _ _ _ _ rY) (ht _ _ _ _ _ _ _ rY) (he _ _ _ _ _ _ _ rY) rfl (fun b hb => hb) (fun b hb => nomatch hb) hpf rfl S.co turn m0 a' (m0 + 1) H2 s'' (Nat.lt_succ_self _) w' gi'⟩

/-! ### sum of one -/
def sumObj (a : Int) (t : Tok) (c : Nat) : Obj := { cls := .type "list", dict := none, data := .seq #[.int a t] c, slots := #[] }
def conS (S : Addr) : Con Int := ⟨[S], fun a h => ∃ t c, h.get? S = some (sumObj a t c)⟩
theorem conS_ok (S : Addr) : ConOk (conS S) :=
  ⟨(fun a h ⟨t, c, e⟩ b hb => by
      rw [List.mem_singleton.mp hb]
      exact ⟨_, e, fun v z => by cases z⟩),
   (fun a h h' ⟨t, c, e⟩ k => ⟨t, c, k S (List.mem_singleton.mpr rfl) _ e⟩),
   (fun a b h ⟨t, c, e⟩ ⟨t', c', e'⟩ => by
      rw [e] at e'
      have z : Data.seq #[Value.int a t] c = Data.seq #[Value.int b t'] c' := congrArg Obj.data (Option.some.inj e')
      injection z with z1 _
      have z2 : [Value.int a t] = [Value.int b t'] := congrArg Array.toList z1
      injection z2 with z3 _
      injection z3)⟩
def outSum : Int → V → Hp → (Int → Hp → Prop) → Prop := fun a y H Nx => ∃ v, y = .int v ∧ Nx (a + v) H
structure ApS (Y : Cx) (S : Addr) : Prop where
  young : Y.s_0.heap.objs.size ≤ S
  loc : S ≠ Y.env.locals
  cell : ∀ x c, Y.env.cells.lookup x = some c → c ≠ S
  pn : ∀ p ∈ Y.pn, p.1 ≠ S
theorem gi_upd {Y : Cx} {fpI : List Addr} {tn : Nat → Heap → Prop} {S : Addr} {a v : Int} {i : Nat} {H : Hp} {s : Shared} {tk : Nat} {h' : Heap} {t : Tok} {c : Nat} (hSf : S ∉ fpI) (ap : ApS Y S) (keepT : ∀ i h h', tn i h → (∀ b ∈ fpI, ∀ o, h.get? b = some o → h'.get? b = some o) → tn i h')
    (gi : GI Y (conS S) fpI tn a i H s) (hk : ∀ b o, b ≠ S → s.heap.get? b = some o → h'.get? b = some o) (hS : h'.get? S = some (sumObj v t c)) : GI Y (conS S) fpI tn v i H { s with heap := h', toks := tk } := by
  obtain ⟨I, ⟨t0, c0, e0⟩, st, hn⟩ := gi
  obtain ⟨_, p2, p3, p4, _⟩ := I.pin (S, sumObj a t0 c0) (List.mem_append_right _ (mem_pinsAt (List.mem_singleton.mpr rfl) e0))
  have I0 : Inv Y [] (nones Y.N.length) H s := I.pins_of fun p hp => by cases hp
  have I1 : Inv Y [] (nones Y.N.length) H { s with heap := h', toks := tk } := I0.turned (it := S) (fun b o hb e => hk b o hb e) p2 p3 (.inr ap.young) ap.cell fun p hp => (List.mem_append.mp hp).elim (fun z => ap.pn p z) fun z => by cases z
  refine ⟨I1.pins_of fun p hp => ?_, ⟨t, c, hS⟩, keepT _ _ _ st fun b hb o e => hk b o (fun z => hSf (z ▸ hb)) e, hn⟩
  obtain ⟨hb, e⟩ := of_pinsAt hp
  have eS : p.1 = S := List.mem_singleton.mp hb
  rw [eS] at e ⊢
  have e' : h'.get? S = some p.2 := e
  rw [hS] at e'
  refine ⟨e, p2, p3, p4, fun v z => ?_⟩
  rw [← Option.some.inj e'] at z
  cases z
theorem sum_loop {Y : Cx} {fpI : List Addr} {tn : Nat → Heap → Prop} {A : Around} {ga : Addr} {go : Obj} {g : Nat} {S : Addr} {QI : Int → Hp → Prop} {R : Result → Shared → Prop} (hSf : S ∉ fpI) (ap : ApS Y S) (keepT : ∀ i h h', tn i h → (∀ b ∈ fpI, ∀ o, h.get? b = some o → h'.get? b = some o) → tn i h')
    (hh : A.handled = none) (hd : A.depth < recursionLimit) (hpn : (ga, go) ∈ Y.pn) (hgo : ∀ h : Heap, h.get? ga = some go → h.IsGen ga g)
    (hR : ∀ a t' s' H', Inv Y [] (nones Y.N.length) H' s' → QI a H' → R (.ok (.ret (.int a t'))) s') :
    ∀ (n i : Nat) (H : Hp) (Nx : Int → Hp → Prop) (s : Shared) (gs : GenState) (a : Int) (t : Tok) (c : Nat) (st : Int), (st = 0 ∨ st = 2) → s.gens[g]? = some gs → GI Y (conS S) fpI tn a i H s → s.heap.get? S = some (sumObj a t c) → Nx a H →
      (∀ a' s'', GI Y (conS S) fpI tn a' i H s'' → Nx a' H → gs.Goes (model Y.prog Y.w) A.in1.in1 (GRr Y (conS S) QI) (GP Y (conS S) fpI tn outSum) n (.send .none) s'') →
      codeAny (model Y.prog Y.w) A (.builtin "sum.loop" ⟨[.ref ga, .ref S, rawInt st, rawInt 0], []⟩) R s := by
  -- what a turn comes to, the loop going on or not
  have turn : ∀ (n i : Nat) (H : Hp) (Nx : Int → Hp → Prop) (s : Shared) (gs : GenState) (a : Int) (t : Tok) (c : Nat) (st : Int), (st = 0 ∨ st = 2) → s.gens[g]? = some gs → GI Y (conS S) fpI tn a i H s → s.heap.get? S = some (sumObj a t c) → Nx a H →
      (∀ a' s'', GI Y (conS S) fpI tn a' i H s'' → Nx a' H → gs.Goes (model Y.prog Y.w) A.in1.in1 (GRr Y (conS S) QI) (GP Y (conS S) fpI tn outSum) n (.send .none) s'') →
      (∀ (i1 : Nat) (H1 : Hp) (Nx1 : Int → Hp → Prop) (s1 : Shared) (gs1 : GenState) (b : Int) (t1 : Tok) (c1 : Nat) (st1 : Int), (st1 = 0 ∨ st1 = 2) → s1.gens[g]? = some gs1 → GI Y (conS S) fpI tn b i1 H1 s1 → s1.heap.get? S = some (sumObj b t1 c1) → Nx1 b H1 →
        GoOn (model Y.prog Y.w) A.in1.in1 (GRr Y (conS S) QI) (GP Y (conS S) fpI tn outSum) (fun a' s'' => GI Y (conS S) fpI tn a' i1 H1 s'') (fun a' => Nx1 a' H1) gs1 n →
        codeAny (model Y.prog Y.w) A (.builtin "sum.loop" ⟨[.ref ga, .ref S, rawInt st1, rawInt 0], []⟩) R s1) →
      codeAny (model Y.prog Y.w) A (.builtin "sum.loop" ⟨[.ref ga, .ref S, rawInt st, rawInt 0], []⟩) R s := by
    intro n i H Nx s gs a t c st hst2 hgs gi hS hN goes again
    refine codeAny_builtin F.entry_sum_loop ?_
    rw [Around.under_plainId F.plain_sum_loop _]
    show wpAny _ A.in1 (seqItems? (.ref S) >>= _) _ _ s
    refine wpAny_bind (wpAny_seqItems hS rfl ?_)
    show wpAny _ A.in1 (tryCatch (pyNext (.ref ga)) _ >>= _) _ _ s
    refine wpAny_bind (wpAny_tryCatch (next_ge (A := A.in1) (conS_ok S) hh hd hpn hgo hgs gi hN goes (fun i1 H1 y v Nx1 s1 gs1 rv gi1 o1 hg1 go1 => ?_) (fun H1 s1 I1 _ fin => ?_)))
    · obtain ⟨v', rfl, hc⟩ := o1
      obtain ⟨t', rfl⟩ := (show ∃ t', v = Value.int v' t' from rv)
      obtain ⟨tS, cS, hS'⟩ := gi1.2.1
      rcases hst2 with rfl | rfl
      · show wpAny _ A.in1 (if (_ : Bool) = true then (mkInt (a + v') >>= _) else _) _ _ _
        split
        · refine wpAny_bind (wpAny_mkInt ?_)
          show wpAny _ A.in1 (updateSeq S (fun _ => #[.int (a + v') s1.toks]) >>= _) _ _ _
          refine wpAny_bind ?_
          refine wpAny_updateSeq hS' rfl (wpAny_pure ⟨plainId_quiet F.plain_sum_loop _, ?_⟩)
          refine again i1 H1 Nx1 _ gs1 (a + v') s1.toks _ 0 (.inl rfl) hg1 (gi_upd (t := s1.toks) (s := s1) hSf ap keepT gi1 (fun b o hb e => (Heap.get?_update_other _ _ (Ne.symm hb)).trans e) (Heap.get?_update_self _ hS' rfl)) (Heap.get?_update_self _ hS' rfl) hc go1
        · refine wpAny_bind (wpAny_rule ?_)
          refine wpAny_bind (wpAny_attempt (wpAny_holding (wpAny_add_int ?_)))
          show wpAny _ A.in1 (updateSeq S (fun _ => #[.int (a + v') s1.toks]) >>= _) _ _ _
          refine wpAny_bind (wpAny_updateSeq hS' rfl ?_)
          have hS₂ := Heap.get?_update_self (Obj.mapSeq fun _ => #[Value.int (a + v') s1.toks]) hS' rfl
          refine wpAny_bind (wpAny_letGo ?_)
          refine wpAny_bind (wpAny_updateSeq hS₂ rfl (wpAny_pure ⟨plainId_quiet F.plain_sum_loop _, ?_⟩))
          refine again i1 H1 Nx1 _ gs1 (a + v') s1.toks _ 2 (.inr rfl) hg1 (gi_upd (t := s1.toks) (s := s1) hSf ap keepT gi1 (fun b o hb e => (Heap.get?_update_other _ _ (Ne.symm hb)).trans ((Heap.get?_update_other _ _ (Ne.symm hb)).trans e)) (Heap.get?_update_self _ hS₂ rfl)) (Heap.get?_update_self _ hS₂ rfl) hc go1
      · show wpAny _ A.in1 ((holding [Value.int v' t'] (binaryOp .Add (.int a t) (.int v' t'))).attempt >>= _) _ _ _
        refine wpAny_bind (wpAny_attempt (wpAny_holding (wpAny_add_int ?_)))
        show wpAny _ A.in1 (updateSeq S (fun _ => #[.int (a + v') s1.toks]) >>= _) _ _ _
        refine wpAny_bind (wpAny_updateSeq hS' rfl ?_)
        have hS₂ := Heap.get?_update_self (Obj.mapSeq fun _ => #[Value.int (a + v') s1.toks]) hS' rfl
        refine wpAny_bind (wpAny_letGo ?_)
        refine wpAny_bind (wpAny_updateSeq hS₂ rfl (wpAny_pure ⟨plainId_quiet F.plain_sum_loop _, ?_⟩))
        refine again i1 H1 Nx1 _ gs1 (a + v') s1.toks _ 2 (.inr rfl) hg1 (gi_upd (t := s1.toks) (s := s1) hSf ap keepT gi1 (fun b o hb e => (Heap.get?_update_other _ _ (Ne.symm hb)).trans ((Heap.get?_update_other _ _ (Ne.symm hb)).trans e)) (Heap.get?_update_self _ hS₂ rfl)) (Heap.get?_update_self _ hS₂ rfl) hc go1
    · exact wpAny_pure (hR a t s1 H1 (I1.pins_of fun p hp => by cases hp) fin)
  intro n
  induction n with
  | zero => exact fun i H Nx s gs a t c st h1 h2 h3 h4 h5 h6 => turn 0 i H Nx s gs a t c st h1 h2 h3 h4 h5 h6 fun i1 H1 Nx1 s1 gs1 b t1 c1 st1 _ _ g1 _ g3 g4 => (g4 b s1 g1 g3).elim
  | succ n ih => exact fun i H Nx s gs a t c st h1 h2 h3 h4 h5 h6 => turn (n + 1) i H Nx s gs a t c st h1 h2 h3 h4 h5 h6 fun i1 H1 Nx1 s1 gs1 b t1 c1 st1 g0 g1 g2 g3 g4 g5 => ih i1 H1 Nx1 s1 gs1 b t1 c1 st1 g0 g1 g2 g3 g4 g5
def tSumG (P : Addr) (n0 : Nat) (wi : TI) (g : TG) (tt : TT) (te : TE) : TE := fun σ H Q => wi σ H fun J H1 => GxR.TabG H1 P ∧ ∀ H2, GxR.Tabbed P H1 H2 →
  ∃ W : Int → Nat → Nat → Hp → Prop, (∃ m, W 0 0 m H2) ∧ TurnOf J n0 g tt te outSum (fun a H => Q (.int a) H) W
theorem pe_sumG {N : List Str} {c P : Addr} {elt tg iter : Expr} {ifs : List Expr} {p pos gpos : Pos} {scope : Scope} {wi : TI} {g : TG} {tt : TT} {te : TE} {k : Nat}
    (hr : Room (k + 1) X.A) (hgl : Gl X "sum") (hm : X.mg "sum" = none) (TB : GxR.TabB X.base X.mg c P) (hcode : X.env.code = .ref c) (S : GSc scope) (hi : PI X tg iter wi)
    (hg : ∀ (A : Around) (s : Shared) (H : Hp) (C : Addr) (code : Value) (fp : List Addr) (pn : List (Addr × Obj)), Room k (A.deeper (ce X scope C code)) → PG (gx X A N s H (ce X scope C code) fp pn) tg g)
    (ht : ∀ (A : Around) (s : Shared) (H : Hp) (C : Addr) (code : Value) (fp : List Addr) (pn : List (Addr × Obj)), Room k (A.deeper (ce X scope C code)) → PTs (gx X A N s H (ce X scope C code) fp pn) ifs tt)
    (he : ∀ (A : Around) (s : Shared) (H : Hp) (C : Addr) (code : Value) (fp : List Addr) (pn : List (Addr × Obj)), Room k (A.deeper (ce X scope C code)) → PE (gx X A N s H (ce X scope C code) fp pn) elt te)
    (hs : ∀ v, genFold iter X.env v = pure v := by intro _; rfl)
    (hb : bootBuiltins "sum" = some (.builtin "sum") := by decide +kernel)
    (hst : starEach [.GeneratorExp elt [⟨tg, iter, ifs, 0⟩] scope gpos] X.env = (false, eval (.GeneratorExp elt [⟨tg, iter, ifs, 0⟩] scope gpos) X.env) :: starEach [] X.env := by rfl) :
    PE X (.Call (.Name "sum" p) [.GeneratorExp elt [⟨tg, iter, ifs, 0⟩] scope gpos] [] pos) (tSumG P N.length wi g tt te) := by
  refine ⟨fun pins s σ H Q I h => ?_⟩
  refine wpAny_Call_Name_kw (ld_blt I hgl hm hb ?_)
  refine PyProof.Rows.callWith_builtin1 ?_ hst (by rfl)
  rw [hst]
  show wpAny _ _ (spliced ((false, eval (.GeneratorExp elt [⟨tg, iter, ifs, 0⟩] scope gpos) X.env) :: backTo pos (starEach [] X.env))) _ _ s
  refine Calls.spliced_cons (gen_make hr TB hcode S hi hs I h fun J H1 H2 s4 s5 code fp it tn go gn hR tab I4 f4 T st5 mk hgo hgs => ?_)
  refine Calls.spliced_nil ?_
  obtain ⟨W, ⟨m0, w0⟩, turn⟩ := hR H2 tab
  have rY := room3 hr (ce X scope s4.heap.objs.size code)
  have I5 := mk X.A.in1.in1 N hr.hd I.ok.frames
  generalize hpn : [(s4.heap.objs.size + 1, go)] = pn at I5
  have hpm : (s4.heap.objs.size + 1, go) ∈ pn := by rw [← hpn]; exact List.mem_singleton.mpr rfl
  have hpf : ∀ p ∈ pn, p.1 ∉ fp := fun p hp z => by
    rw [← hpn] at hp
    rw [List.mem_singleton.mp hp] at z
    exact absurd (f4 _ z).2 (Nat.not_lt.mpr (Nat.le_succ _))
  have isg := hgo _ (I5.pin _ (List.mem_append_left _ hpm)).1
  have fpl : ∀ b ∈ fp, b < s5.heap.objs.size := fun b hb => Nat.lt_of_lt_of_le (f4 b hb).2 I5.sz
  refine call_function_tree F.kind_sum F.plain_sum F.entry_sum (F.args_sum1 _) ?_
  unfold Builtin.«sum»
  simp only [List.length_cons, List.length_nil]
  rw [if_neg (by decide)]
  refine wpAny_bind (wpAny_of_eq (show Builtin.Builtins.bindParams "sum" ["start"] 0 { } = pure [none] from rfl) ?_)
  refine wpAny_bind (wpAny_pyIter_gen isg ?_)
  refine wpAny_bind (wpAny_mkInt ?_)
  refine wpAny_bind (wpAny_pure ?_)
  simp only [List.forIn_cons, List.forIn_nil]
  refine wpAny_bind (wpAny_bind (wpAny_bind (wpAny_isInstance (T := "int") (b := false) (typeIs_int _ _ _) PySem.sub_int_str ?_)))
  simp only [Bool.false_eq_true, if_false]
  refine wpAny_pure (wpAny_bind (wpAny_bind (wpAny_isInstance (T := "int") (b := false) (typeIs_int _ _ _) PySem.sub_int_bytes ?_)))
  simp only [Bool.false_eq_true, if_false]
  refine wpAny_pure (wpAny_bind (wpAny_bind (wpAny_isInstance (T := "int") (b := false) (typeIs_int _ _ _) PySem.sub_int_bytearray ?_)))
  simp only [Bool.false_eq_true, if_false]
  refine wpAny_pure (wpAny_pure ?_)
  refine wpAny_bind (wpAny_newObj_type ?_)
  refine wpAny_pure ⟨plainId_quiet F.plain_sum_loop _, ?_⟩
  have hSf : s5.heap.objs.size ∉ fp := fun hm => Nat.lt_irrefl _ (fpl _ hm)
  have hget : (s5.heap.push (sumObj 0 s5.toks 0)).get? s5.heap.objs.size = some (sumObj 0 s5.toks 0) := Heap.get?_push_size _ rfl
  have I6 : Inv (gx X X.A.in1.in1 N s4 H2 (ce X scope s4.heap.objs.size code) fp pn) [] (nones N.length) H2 { s5 with heap := s5.heap.push (sumObj 0 s5.toks 0), toks := s5.toks + 1 } := I5.kept fun b o e => Heap.get?_push_of_some _ e
  have gi0 : GI (gx X X.A.in1.in1 N s4 H2 (ce X scope s4.heap.objs.size code) fp pn) (conS s5.heap.objs.size) fp tn 0 0 H2 { s5 with heap := s5.heap.push (sumObj 0 s5.toks 0), toks := s5.toks + 1 } := by
    refine ⟨I6.pins_of fun p hp => ?_, ⟨s5.toks, 0, hget⟩, T.keep _ _ _ st5 fun b _ o e => Heap.get?_push_of_some _ e, fun b hb => (f4 b hb).1.1⟩
    obtain ⟨hb, e⟩ := of_pinsAt hp
    have eS : p.1 = s5.heap.objs.size := List.mem_singleton.mp hb
    rw [eS] at e ⊢
    have e' : (s5.heap.push (sumObj 0 s5.toks 0)).get? s5.heap.objs.size = some p.2 := e
    rw [hget] at e'
    refine ⟨e, I5.hok.fresh (Nat.le_refl _), Nat.ne_of_gt I5.lt, I5.nofs (Nat.le_refl _), fun v z => ?_⟩
    rw [← Option.some.inj e'] at z
    cases z
  have ap : ApS (gx X X.A.in1.in1 N s4 H2 (ce X scope s4.heap.objs.size code) fp pn) s5.heap.objs.size := ⟨I5.sz, Nat.ne_of_gt I5.lt, fun x c e => by simp [genEnv] at e, fun p hp z => by
    have := Heap.lt_size (I5.pin p (List.mem_append_left _ hp)).1
    rw [z] at this
    exact Nat.lt_irrefl _ this⟩
  refine sum_loop (Y := gx X X.A.in1.in1 N s4 H2 (ce X scope s4.heap.objs.size code) fp pn) (A := X.A) (g := gn) (QI := fun a H => Q (.int a) H) hSf ap T.keep hr.hd hr.depth hpm hgo (fun a t' s' H' I' q => ?_) (m0 + 1) 0 H2 (fun a H => W a 0 m0 H) _ _ 0 s5.toks 0 0 (.inl rfl) hgs gi0 hget w0 (fun a' s'' gi' w' => ?_)
  · exact ⟨.int a, H', ge_back I4 f4 I', ⟨_, rfl⟩, q⟩
  · exact ⟨rfl, seg_start (Y := gx X X.A.in1.in1 N s4 H2 (ce X scope s4.heap.objs.size code) fp pn) (conS_ok _) rfl T (hg _ _ _ _ _ _ _ rY) (ht _ _ _ _ _ _ _ rY) (he _ _ _ _ _ _ _ rY) rfl (fun b hb => hb) (fun b hb => by rw [List.mem_singleton.mp hb]; exact hSf) hpf rfl S.co turn m0 a' (m0 + 1) H2 s'' (Nat.lt_succ_self _) w' gi'⟩
end
end GE
set_option Elab.async false
set_option linter.all false
set_option maxRecDepth 100000
set_option maxHeartbeats 1000000
namespace CL
open PySem PySem.Spec PyProof.Rows L2 GE
/-! ### what a value is worth, as data -/
mutual
inductive Rp (H : Hp) : V → PyData → Prop
  | non : Rp H .non .none
  | bl (b : Bool) : Rp H (.bl b) (.bool b)
  | int (i : Int) : Rp H (.int i) (.int i)
  | str (x : Str) : Rp H (.str x) (.str x)
  | lst {a : Addr} {xs : List V} {ds : List PyData} : H a = some (.lst xs) → RpAll H xs ds → Rp H (.ref a) (.list ds)
  | tup {a : Addr} {xs : List V} {ds : List PyData} : H a = some (.tup xs) → RpAll H xs ds → Rp H (.ref a) (.tuple ds)
  | dct {a : Addr} : H a = some (.dK []) → Rp H (.ref a) (.dict [])
inductive RpAll (H : Hp) : List V → List PyData → Prop
  | nil : RpAll H [] []
  | cons {v : V} {vs : List V} {d : PyData} {ds : List PyData} : Rp H v d → RpAll H vs ds → RpAll H (v :: vs) (d :: ds)
end
/-- all stays but tables, which may grow -/
def Ex (H H' : Hp) : Prop := ∀ b o, H b = some o → H' b = some o ∨ ∃ ps qs, o = .tbl ps ∧ H' b = some (.tbl qs)
theorem Ex.refl (H : Hp) : Ex H H := fun _ _ h => .inl h
theorem Ex.of {H H' : Hp} (s : Same H H') : Ex H H' := fun b o h => .inl (s b o h)
theorem Ex.trans {H H1 H2 : Hp} (a : Ex H H1) (b : Ex H1 H2) : Ex H H2 := fun c o h => by
  rcases a c o h with q | ⟨ps, qs, e, q⟩
  · exact b c o q
  · rcases b c _ q with r | ⟨ps', qs', _, r⟩
    · exact .inr ⟨ps, qs, e, r⟩
    · exact .inr ⟨ps, qs', e, r⟩
theorem Ex.keep {H H' : Hp} (e : Ex H H') {b : Addr} {o : HO} (h : H b = some o) (n : ∀ ps, o ≠ .tbl ps) : H' b = some o := by
  rcases e b o h with q | ⟨ps, _, z, _⟩
  · exact q
  · exact absurd z (n ps)
theorem Ex.lst {H H' : Hp} (e : Ex H H') {b : Addr} {xs : List V} (h : H b = some (.lst xs)) : H' b = some (.lst xs) := e.keep h fun _ => nofun
theorem Ex.tup {H H' : Hp} (e : Ex H H') {b : Addr} {xs : List V} (h : H b = some (.tup xs)) : H' b = some (.tup xs) := e.keep h fun _ => nofun
theorem Ex.free {H H' : Hp} (e : Ex H H') {l : Addr} (h : H' l = none) : H l = none := by
  cases q : H l with
  | none => rfl
  | some o =>
    rcases e l o q with r | ⟨_, _, _, r⟩
    · rw [h] at r; cases r
    · rw [h] at r; cases r
theorem Ex.new {H : Hp} {p : Addr} {o : HO} (h : H p = none) : Ex H (upd H p o) := fun b x e => .inl (by rw [upd_ne (ne_of_none e h)]; exact e)
theorem same_upd {H : Hp} {p : Addr} {o : HO} (h : H p = none) : Same H (upd H p o) := fun b x e => by
  rw [upd_ne (ne_of_none e h)]
  exact e
mutual
theorem Rp.ex {H H' : Hp} (e : Ex H H') : ∀ (d : PyData) (v : V), Rp H v d → Rp H' v d
  | .none, _, h => by cases h; exact .non
  | .bool b, _, h => by cases h; exact .bl b
  | .int i, _, h => by cases h; exact .int i
  | .str x, _, h => by cases h; exact .str x
  | .list ds, _, h => by
    cases h with
    | lst h1 h2 => exact .lst (e.lst h1) (RpAll.ex e ds _ h2)
  | .tuple ds, _, h => by
    cases h with
    | tup h1 h2 => exact .tup (e.tup h1) (RpAll.ex e ds _ h2)
  | .dict _, _, h => by
    cases h with
    | dct h1 => exact .dct (e.keep h1 fun _ => nofun)
theorem RpAll.ex {H H' : Hp} (e : Ex H H') : ∀ (ds : List PyData) (vs : List V), RpAll H vs ds → RpAll H' vs ds
  | [], _, h => by cases h; exact .nil
  | d :: ds, _, h => by
    cases h with
    | cons h1 h2 => exact .cons (Rp.ex e d _ h1) (RpAll.ex e ds _ h2)
end
theorem RpAll.length {H : Hp} : ∀ {vs : List V} {ds : List PyData}, RpAll H vs ds → vs.length = ds.length
  | _, _, .nil => rfl
  | _, _, .cons _ t => congrArg (· + 1) (RpAll.length t)
theorem RpAll.get {H : Hp} : ∀ {vs : List V} {ds : List PyData} {i : Nat} {v : V}, RpAll H vs ds → vs[i]? = some v → ∃ d, ds[i]? = some d ∧ Rp H v d
  | _, _, _, _, .nil, e => by simp at e
  | _, _, 0, _, .cons r _, e => by simp at e; subst e; exact ⟨_, rfl, r⟩
  | _, _, i + 1, _, .cons _ t, e => by
    obtain ⟨d, h1, h2⟩ := RpAll.get (i := i) t (by simpa using e)
    exact ⟨d, by simpa using h1, h2⟩
theorem RpAll.take {H : Hp} : ∀ {vs : List V} {ds : List PyData} (n : Nat), RpAll H vs ds → RpAll H (vs.take n) (ds.take n)
  | _, _, 0, _ => .nil
  | _, _, _ + 1, .nil => .nil
  | _, _, n + 1, .cons r t => .cons r (RpAll.take n t)
theorem RpAll.append {H : Hp} : ∀ {vs ws : List V} {ds es : List PyData}, RpAll H vs ds → RpAll H ws es → RpAll H (vs ++ ws) (ds ++ es)
  | _, _, _, _, .nil, s => s
  | _, _, _, _, .cons r t, s => .cons r (RpAll.append t s)
/-! ### plans, as the document tells -/
def tyName : PyData → String
  | .none => "NoneType" | .bool _ => "bool" | .int _ => "int" | .str _ => "str" | .list _ => "list" | .tuple _ => "tuple" | .dict _ => "dict"
def rowsD : PyData → Option (List PyData)
  | .list xs => some xs
  | .tuple xs => some xs
  | _ => none
def isRow (d : PyData) : Bool := (rowsD d).isSome
def isWhole : PyData → Bool
  | .int _ => true
  | _ => false
def isIntB : PyData → Bool
  | .int _ => true
  | .bool _ => true
  | _ => false
def isBoolB : PyData → Bool
  | .bool _ => true
  | _ => false
def isNone : PyData → Bool
  | .none => true
  | _ => false
abbrev GREAT : Int := 1000000000000000000000000000000
def isPatience : PyData → Bool
  | .none => true
  | .int i => decide (0 ≤ i) && decide (i ≤ GREAT)
  | _ => false
def isTurns (d : PyData) : Bool := match rowsD d with
  | some ds => decide (1 ≤ ds.length) && decide (ds.length ≤ 8) && ds.all isPatience
  | none => false
def isMany : PyData → Bool
  | .none => true
  | .int i => decide (0 ≤ i)
  | _ => false
def isPiece (d : PyData) : Bool := match rowsD d with
  | some [t, m] => isTurns t && isMany m
  | _ => false
def sndD (d : PyData) : PyData := match rowsD d with
  | some [_, m] => m
  | _ => .none
def worth : PyData → Int
  | .int i => i
  | _ => 0
def sumSnd (ds : List PyData) : Int := (ds.map fun d => worth (sndD d)).sum
def isPlanL (ds : List PyData) : Bool := decide (1 ≤ ds.length) && decide (ds.length ≤ 8) && ds.all isPiece && !((ds.take (ds.length - 1)).any fun d => isNone (sndD d)) && decide (sumSnd ds ≤ GREAT)
def isPlan (d : PyData) : Bool := match rowsD d with
  | some ds => isPlanL ds
  | none => false
theorem Rp.ty {K : PySem.W.Frag} {H : Hp} {v : V} {d : PyData} (h : Rp H v d) : TyX K H v (.type (tyName d)) := by
  cases h with
  | non => exact .base .non
  | bl b => exact .base (.bl b)
  | int i => exact .base (.int i)
  | str x => exact .base (.str x)
  | lst h _ => exact .base (.lst h)
  | tup h _ => exact .base (.tup h)
  | dct h => exact .base (.dK h)
theorem kit_int {K : PySem.W.Frag} (d : PyData) : PySem.W.kitOne K (.type (tyName d)) (.type "int") = some (isIntB d) := by cases d <;> (refine kit_ty ?_; dsimp only [tyName, isIntB]; decide +kernel)
theorem kit_bool {K : PySem.W.Frag} (d : PyData) : PySem.W.kitOne K (.type (tyName d)) (.type "bool") = some (isBoolB d) := by cases d <;> (refine kit_ty ?_; dsimp only [tyName, isBoolB]; decide +kernel)
theorem kit_list {K : PySem.W.Frag} (d : PyData) : PySem.W.kitOne K (.type (tyName d)) (.type "list") = some (match d with | .list _ => true | _ => false) := by cases d <;> (refine kit_ty ?_; dsimp only [tyName]; decide +kernel)
theorem kit_tuple {K : PySem.W.Frag} (d : PyData) : PySem.W.kitOne K (.type (tyName d)) (.type "tuple") = some (match d with | .tuple _ => true | _ => false) := by cases d <;> (refine kit_ty ?_; dsimp only [tyName]; decide +kernel)
theorem kit_rows {K : PySem.W.Frag} (d : PyData) : PySem.W.kitAny K (.type (tyName d)) [.type "list", .type "tuple"] = some (isRow d) := by
  refine kitAny_cons (kit_list d) (fun h => kitAny_cons (kit_tuple d) (fun h2 => ?_) fun h2 => ?_) fun h => ?_
  · cases d <;> first | exact kitAny_nil | (simp at h; done) | (simp at h2; done)
  · cases d <;> first | rfl | (simp at h; done) | (simp at h2; done)
  · cases d <;> first | rfl | (simp at h; done)
/-- a row's things -/
theorem Rp.rows {H : Hp} {v : V} {d : PyData} {ds : List PyData} (h : Rp H v d) (e : rowsD d = some ds) : ∃ a xs, v = .ref a ∧ RpAll H xs ds ∧ (H a = some (.lst xs) ∨ H a = some (.tup xs)) := by
  cases h with
  | lst h1 h2 => cases e; exact ⟨_, _, rfl, h2, .inl h1⟩
  | tup h1 h2 => cases e; exact ⟨_, _, rfl, h2, .inr h1⟩
  | _ => cases e
/-! ### for x in a list or a tuple -/
structure StSeq (H : Hp) (a : Addr) (xs : List V) : Prop where
  or : H a = some (.lst xs) ∨ H a = some (.tup xs)
theorem StSeq.ex {H H' : Hp} {a : Addr} {xs : List V} (s : StSeq H a xs) (e : Ex H H') : StSeq H' a xs := ⟨s.or.elim (fun h => .inl (e.lst h)) fun h => .inr (e.tup h)⟩
theorem StSeq.sq {K : PySem.W.Frag} {H : Hp} {a : Addr} {xs : List V} (s : StSeq H a xs) : SqL K H a xs ∨ SqT K H a xs := s.or.elim (fun h => .inl (SqL.of h)) fun h => .inr (SqT.of h)
/-- the thing that is walked stands -/
def StandsAs (K : PySem.W.Frag) (a : Addr) (xs : List V) (J : It) (H : Hp) : Prop := (J = Itl K a ∧ SqL K H a xs) ∨ (J = Itt K a ∧ SqT K H a xs)
section
variable {X : Cx} {tg : Expr}
def iSeq (K : PySem.W.Frag) (tl : TE) : TI := fun σ H R => tl σ H fun x H1 => ∃ a xs, x = .ref a ∧ StSeq H1 a xs ∧ ∀ J, (∀ H2, Ex H1 H2 → StandsAs K a xs J H2) → R J H1
theorem pi_seq {l : Expr} {tl : TE} (hl : PE X l tl) : PI X tg l (iSeq X.K tl) := by
  refine ⟨fun pins s σ H R I h => ?_⟩
  refine thn (hl.run pins s σ H _ I h) fun v s1 ⟨x, H1, I1, r1, q1⟩ => ?_
  obtain ⟨a, xs, e, st, q⟩ := q1
  subst e
  cases r1
  have new : ∀ b ∈ [s1.heap.objs.size], FpOk X pins H1 b := fun b hb => by
    rw [List.mem_singleton.mp hb]
    exact I1.fpOk (Nat.le_refl _) (I1.hok.fresh (Nat.le_refl _))
  rcases st.or with hq | hq
  · obtain ⟨its, rv, p, hz⟩ := I1.list (SqL.of hq)
    exact wpAny_pyIter_list p.isList ⟨s1.heap.objs.size, [s1.heap.objs.size], _, _, H1, rfl, I1.kept (t' := s1.toks) fun b o e => Heap.get?_push_of_some _ e, turn_list a _, ⟨_, Heap.get?_push_size _ rfl, rfl, rfl⟩, new, q _ fun H2 e => .inl ⟨rfl, SqL.of (e.lst hq)⟩⟩
  · obtain ⟨its, rv, p, hz⟩ := I1.tuple (SqT.of hq)
    exact wpAny_pyIter_tuple (show s1.heap.IsTuple a its.toArray from p) ⟨s1.heap.objs.size, [s1.heap.objs.size], _, _, H1, rfl, I1.kept (t' := s1.toks) fun b o e => Heap.get?_push_of_some _ e, turn_tuple a _, ⟨_, Heap.get?_push_size _ rfl, rfl, rfl⟩, new, q _ fun H2 e => .inr ⟨rfl, SqT.of (e.tup hq)⟩⟩
end
theorem StandsAs.go {K : PySem.W.Frag} {a : Addr} {xs : List V} {J : It} {H : Hp} {i : Nat} {x : V} (s : StandsAs K a xs J H) (h : xs[i]? = some x) : J.go i H := by
  rcases s with ⟨rfl, q⟩ | ⟨rfl, q⟩ <;> exact ⟨xs, x, q, h⟩
theorem StandsAs.stop {K : PySem.W.Frag} {a : Addr} {xs : List V} {J : It} {H : Hp} {i : Nat} (s : StandsAs K a xs J H) (h : xs.length ≤ i) : J.stop i H := by
  rcases s with ⟨rfl, q⟩ | ⟨rfl, q⟩ <;> exact ⟨xs, q, h⟩
theorem StandsAs.yld {K : PySem.W.Frag} {a : Addr} {xs : List V} {J : It} {H H' : Hp} {i : Nat} {x : V} (s : StandsAs K a xs J H) (h : J.yld i H x H') : H' = H ∧ xs[i]? = some x := by
  rcases s with ⟨rfl, q⟩ | ⟨rfl, q⟩ <;> exact ⟨h.1, h.2 xs q⟩
theorem turn_by {α : Type} {K : PySem.W.Frag} {ad : Addr} {xs : List V} {J : It} {n0 : Nat} {g : TG} {tt : TT} {te : TE} {Out : α → V → Hp → (α → Hp → Prop) → Prop} {Fin : α → Hp → Prop} (Pv : α → Nat → Hp → Prop)
    (stands : ∀ a i H, Pv a i H → StandsAs K ad xs J H)
    (step : ∀ a i x H, xs[i]? = some x → Pv a i H → g x (nones n0) H fun σ2 H2 => tt σ2 H2 fun b H3 => if b = true then te σ2 H3 fun y H4 => Out a y H4 (fun a' H' => Pv a' (i + 1) H') else Pv a (i + 1) H3)
    (done : ∀ a H, Pv a xs.length H → Fin a H) : TurnOf J n0 g tt te Out Fin (fun a i m H => m = xs.length - i ∧ i ≤ xs.length ∧ Pv a i H) := by
  rintro a i m H ⟨rfl, hi, p⟩
  have s := stands a i H p
  by_cases hlt : i < xs.length
  · refine .inr ⟨s.go (List.getElem?_eq_getElem hlt), fun a' H' => Pv a' (i + 1) H', fun a' H' p' => ⟨xs.length - (i + 1), by omega, rfl, hlt, p'⟩, fun x H' y => ?_⟩
    obtain ⟨rfl, hx⟩ := s.yld y
    exact step a i x _ hx p
  · have e : i = xs.length := by omega
    subst e
    exact .inl ⟨s.stop (Nat.le_refl _), done a H p⟩
end CL
set_option Elab.async false
set_option linter.all false
set_option maxRecDepth 100000
set_option maxHeartbeats 1000000
namespace CL
open PySem PySem.Spec PyProof.Rows L2 GE
def topS (i : Nat) : Stmt := PySem.Challenge.pw_comersline_k28_least_plans_without_end.main.body.getD i (.Pass ⟨0, 0, 0, 0⟩)
abbrev sWhole : Stmt := topS 4
abbrev sRow : Stmt := topS 5
abbrev sPat : Stmt := topS 9
abbrev sTurns : Stmt := topS 10
abbrev sPiece : Stmt := topS 11
abbrev sPlan : Stmt := topS 12
theorem scWhole : FnScope ["thing"] ["thing"] (defScope sWhole) := ⟨rfl, rfl, rfl, by decide +kernel, rfl, by decide +kernel, by decide +kernel⟩
theorem scRow : FnScope ["thing"] ["thing"] (defScope sRow) := ⟨rfl, rfl, rfl, by decide +kernel, rfl, by decide +kernel, by decide +kernel⟩
theorem scPat : FnScope ["thing"] ["thing"] (defScope sPat) := ⟨rfl, rfl, rfl, by decide +kernel, rfl, by decide +kernel, by decide +kernel⟩
theorem scTurns : FnScope ["thing"] ["thing"] (defScope sTurns) := ⟨rfl, rfl, rfl, by decide +kernel, rfl, by decide +kernel, by decide +kernel⟩
theorem scPiece : FnScope ["thing"] ["thing"] (defScope sPiece) := ⟨rfl, rfl, rfl, by decide +kernel, rfl, by decide +kernel, by decide +kernel⟩
theorem scPlan : FnScope ["thing"] ["thing"] (defScope sPlan) := ⟨rfl, rfl, rfl, by decide +kernel, rfl, by decide +kernel, by decide +kernel⟩

/-- a def whose code object is known -/
structure FunC (K : PySem.W.Frag) (x qual : Str) (st : Stmt) (f : Addr) (fd : FuncData) (c : Addr) : Prop where
  ex : ∃ (oc : Value) (od : Option Addr) (kV doc pm : Value) (an : Option Addr) (ct : Value) (osl : Array (Option Value)),
    fd = PySem.W.fnOf x qual (defArgs st) (defBody st) (defScope st) .none kV doc pm an (.ref c) ct ∧ K.lookup f = some ⟨oc, od, .func fd, osl⟩ ∧ PySem.W.codeIn K (.ref c) qual = true
  kp : PySem.W.keepIn K (.ref f) = true
theorem FunC.ok {P : Program} {w : World} {K : PySem.W.Frag} {mg : Str → Option Value} {base : Heap} {x qual : Str} {st : Stmt} {f c : Addr} {fd : FuncData} {N ps : List Str} {k : Nat} {sp : Sp} (F : FunC K x qual st f fd c) (S : FnScope N ps (defScope st)) (len : ∀ vs H Q E, sp vs H Q E → vs.length = ps.length)
    (hbody : ∀ (A : Around) (outer : List Env) (s : Shared) (H : Hp) (vs : List V) (Q : VK) (E : XK), Room k (A.deeper (envOfC qual (defScope st) s.heap.objs.size f (.ref c))) → sp vs H Q E →
      ∃ t, PSs (cxOf CX0 P w K mg base N qual (defScope st) f (.ref c) A outer s H E).nox (defBody st) t ∧ t { nx := fun _ H' => Q .non H', rt := Q } (start N vs) H) : FnOk P w K mg base CX0 (k + 1) f fd ps sp := by
  obtain ⟨oc, od, kV, doc, pm, an, ct, osl, rfl, lk, hcd⟩ := F.ex
  refine fn_of lk hcd S len fun A outer s H vs Q E hr hsp => ?_
  obtain ⟨t, h, q⟩ := hbody A outer s H vs Q E hr hsp
  exact ⟨t, h.nox, q⟩
/-- a def that may be called by its name -/
structure Cal (P : Program) (w : World) (K : PySem.W.Frag) (mg : Str → Option Value) (base : Heap) (k : Nat) (x : Str) (ps : List Str) (sp : Sp) : Prop where
  ex : ∃ f fd, mg x = some (.ref f) ∧ PySem.W.keepIn K (.ref f) = true ∧ Binds K fd ps [] ∧ FnOk P w K mg base CX0 k f fd ps sp
theorem pe_cal {X : Cx} {k : Nat} {x : Str} {ps : List Str} {sp : Sp} {p pos : Pos} {e : Expr} {es : List Expr} {t : TA} (C : Cal X.prog X.w X.K X.mg X.base k x ps sp) (hr : Room k X.A) (hg : Gl X x) (ha : PA X (e :: es) t) (hdb : (x == ("__debug__" : Str)) = false := by decide)
    (he : starEach (e :: es) X.env = (false, eval e X.env) :: starEach es X.env := by rfl) (hpl : (backTo pos (starEach es X.env)).any (·.1) = false := by rfl) : PE X (.Call (.Name x p) (e :: es) [] pos) (tCall sp [] E0 t) := by
  obtain ⟨f, fd, h1, h2, h3, h4⟩ := C.ex
  exact pe_call h4 hr hg h1 h2 h3 .nil pass0 ha hdb he hpl
theorem Cal.mono {P : Program} {w : World} {K : PySem.W.Frag} {mg : Str → Option Value} {base : Heap} {j k : Nat} {x : Str} {ps : List Str} {sp : Sp} (C : Cal P w K mg base j x ps sp) (h : j ≤ k) : Cal P w K mg base k x ps sp := by
  obtain ⟨f, fd, h1, h2, h3, h4⟩ := C.ex
  exact ⟨f, fd, h1, h2, h3, h4.mono h⟩
/-- names that are still the built-in ones, and constants -/
structure Nm (mg : Str → Option Value) : Prop where
  isi : mg "isinstance" = none
  len : mg "len" = none
  all : mg "all" = none
  any : mg "any" = none
  sum : mg "sum" = none
  int : mg "int" = none
  bool : mg "bool" = none
  list : mg "list" = none
  tuple : mg "tuple" = none
  great : ∃ t, mg "GREATEST" = some (.int GREAT t)
  longest : ∃ t, mg "LONGEST" = some (.int 8 t)
/-- the tables of the two defs that hold generator expressions -/
def Tb (P1 P2 : Addr) (H : Hp) : Prop := GxR.TabG H P1 ∧ GxR.TabG H P2
theorem tabG_same {P : Addr} {H H' : Hp} (s : Same H H') (h : GxR.TabG H P) : GxR.TabG H' P := by
  obtain ⟨ps, e, t⟩ := h
  exact ⟨ps, s _ _ e, t⟩
theorem Tb.same {P1 P2 : Addr} {H H' : Hp} (s : Same H H') (h : Tb P1 P2 H) : Tb P1 P2 H' := ⟨tabG_same s h.1, tabG_same s h.2⟩
theorem ex_tabbed {P : Addr} {H H' : Hp} (g : GxR.TabG H P) (t : GxR.Tabbed P H H') : Ex H H' := fun b o e => by
  by_cases hb : b = P
  · subst hb
    obtain ⟨ps, h1, _⟩ := g
    obtain ⟨⟨qs, h2, _⟩, _⟩ := t
    rw [h1] at e
    cases e
    exact .inr ⟨ps, qs, rfl, h2⟩
  · exact .inl (by rw [t.2 b hb]; exact e)
theorem Tb.tab1 {P1 P2 : Addr} {H H' : Hp} (h : Tb P1 P2 H) (t : GxR.Tabbed P1 H H') : Tb P1 P2 H' := ⟨t.1, by
  by_cases hb : P2 = P1
  · rw [hb]; exact t.1
  · obtain ⟨ps, e, q⟩ := h.2
    exact ⟨ps, by rw [t.2 P2 hb]; exact e, q⟩⟩
theorem Tb.tab2 {P1 P2 : Addr} {H H' : Hp} (h : Tb P1 P2 H) (t : GxR.Tabbed P2 H H') : Tb P1 P2 H' := ⟨by
  by_cases hb : P1 = P2
  · rw [hb]; exact t.1
  · obtain ⟨ps, e, q⟩ := h.1
    exact ⟨ps, by rw [t.2 P1 hb]; exact e, q⟩, t.1⟩
def spOne (g : PyData → Bool) : Sp := fun vs H Q _ => ∃ v d, vs = [v] ∧ Rp H v d ∧ ∀ H', Same H H' → Q (.bl (g d)) H'
def spTab (P1 P2 : Addr) (g : PyData → Bool) : Sp := fun vs H Q _ => ∃ v d, vs = [v] ∧ Rp H v d ∧ Tb P1 P2 H ∧ ∀ H', Ex H H' → Tb P1 P2 H' → Q (.bl (g d)) H'
theorem spOne_len {g : PyData → Bool} : ∀ vs H Q E, spOne g vs H Q E → vs.length = 1 := fun vs H Q E ⟨v, d, e, _⟩ => by rw [e]; rfl
theorem spTab_len {P1 P2 : Addr} {g : PyData → Bool} : ∀ vs H Q E, spTab P1 P2 g vs H Q E → vs.length = 1 := fun vs H Q E ⟨v, d, e, _⟩ => by rw [e]; rfl
section
variable {P : Program} {w : World} {K : PySem.W.Frag} {mg : Str → Option Value} {base : Heap}
theorem ok_whole {f : Addr} {fd : FuncData} (F : Fun K "is_whole" "is_whole" sWhole f fd) (T : Nm mg) : FnOk P w K mg base CX0 1 f fd ["thing"] (spOne isWhole) := by
  refine F.ok scWhole spOne_len (fun cdv A outer s H vs Q E hr h => ?_)
  obtain ⟨v, d, rfl, hR, q⟩ := h
  refine ⟨_, pss_one (ps_ret (pe_and (pe_callB call_isi (by rfl) T.isi (by decide +kernel) (pa_cons (pv 0) (pa_cons (pe_bltn (v := .ty "int") (by rfl) T.int PyProof.Rows.boot_int rfl) pa_nil)))
    (pe_one (pe_not (pe_callB call_isi (by rfl) T.isi (by decide +kernel) (pa_cons (pv 0) (pa_cons (pe_bltn (v := .ty "bool") (by rfl) T.bool PyProof.Rows.boot_bool rfl) pa_nil))))))), ?_⟩
  refine ⟨v, rfl, v, .ty "int", _, _, isIntB d, rfl, .ty _, hR.ty, kit_int d, isIntB d, rfl, ite2 (fun e => ?_) (fun e => ?_)⟩
  · refine ⟨v, rfl, v, .ty "bool", _, _, isBoolB d, rfl, .ty _, hR.ty, kit_bool d, isBoolB d, rfl, ?_⟩
    have z : (!isBoolB d) = isWhole d := by cases d <;> first | rfl | (exact absurd e Bool.false_ne_true)
    rw [z]
    exact q H (Same.refl H)
  · have z : isWhole d = false := by cases d <;> first | rfl | (exact absurd rfl e)
    have q' := q H (Same.refl H)
    rw [z] at q'
    exact q'
theorem ok_row {f : Addr} {fd : FuncData} (F : Fun K "is_row" "is_row" sRow f fd) (T : Nm mg) : FnOk P w K mg base CX0 1 f fd ["thing"] (spOne isRow) := by
  refine F.ok scRow spOne_len (fun cdv A outer s H vs Q E hr h => ?_)
  obtain ⟨v, d, rfl, hR, q⟩ := h
  refine ⟨_, pss_one (ps_ret (pe_callB call_isiT (by rfl) T.isi (by decide +kernel) (pa_cons (pv 0) (pa_cons (pe_tup (pa_cons (pe_bltn (v := .ty "list") (by rfl) T.list PyProof.Rows.boot_list rfl) (pa_cons (pe_bltn (v := .ty "tuple") (by rfl) T.tuple PyProof.Rows.boot_tuple rfl) pa_nil))) pa_nil)))), ?_⟩
  refine ⟨v, rfl, by show 2 ≤ sizeLine; decide, fun p np => ⟨v, p, [.ty "list", .ty "tuple"], _, _, isRow d, rfl, upd_same, .cons (.ty _) (.cons (.ty _) .nil), (Rp.ex (Ex.new np) d v hR).ty, kit_rows d, q _ (same_upd np)⟩⟩
theorem ok_pat {f : Addr} {fd : FuncData} (F : Fun K "is_patience" "is_patience" sPat f fd) (T : Nm mg) (CW : Cal P w K mg base 1 "is_whole" ["thing"] (spOne isWhole)) : FnOk P w K mg base CX0 2 f fd ["thing"] (spOne isPatience) := by
  refine F.ok scPat spOne_len (fun cdv A outer s H vs Q E hr h => ?_)
  obtain ⟨v, d, rfl, hR, q⟩ := h
  obtain ⟨tg, hgr⟩ := T.great
  refine ⟨_, pss_one (ps_ret (pe_or (pe_cmp (pc_isN (pv 0)) rfl) (pe_one (pe_and (pe_cal CW hr (by rfl) (pa_cons (pv 0) pa_nil))
    (pe_one (pe_chain op_le op_le pe_int (pv 0) (pe_glob (v := .int GREAT) (by rfl) hgr ⟨_, rfl⟩))))))), ?_⟩
  refine ⟨v, rfl, decide (v = .non), rfl, ite2 (fun e => ?_) (fun e => ?_)⟩
  · have ev : v = .non := of_decide_eq_true e
    subst ev
    cases hR
    exact q H (Same.refl H)
  · have nv : v ≠ .non := fun z => e (decide_eq_true z)
    refine ⟨v, rfl, v, d, rfl, hR, fun H1 s1 => ⟨isWhole d, rfl, ite2 (fun e2 => ?_) (fun e2 => ?_)⟩⟩
    · cases hR with
      | int i =>
        refine ⟨.int i, rfl, 0, i, rfl, rfl, decide (0 ≤ i), rfl, ite2 (fun e3 => ?_) (fun e3 => ?_)⟩
        · refine ⟨i, GREAT, rfl, rfl, ?_⟩
          have q' := q H1 s1
          have z : isPatience (.int i) = decide (i ≤ GREAT) := by
            show (decide (0 ≤ i) && decide (i ≤ GREAT)) = _
            rw [e3, Bool.true_and]
          rw [z] at q'
          exact q'
        · have q' := q H1 s1
          have z : isPatience (.int i) = false := by
            show (decide (0 ≤ i) && decide (i ≤ GREAT)) = _
            rw [Bool.eq_false_iff.mpr e3, Bool.false_and]
          rw [z] at q'
          exact q'
      | _ => exact absurd e2 Bool.false_ne_true
    · have q' := q H1 s1
      have z : isPatience d = false := by
        cases hR with
        | non => exact absurd rfl nv
        | int i => exact absurd rfl e2
        | _ => rfl
      rw [z] at q'
      exact q'
end
end CL
set_option Elab.async false
set_option linter.all false
set_option maxRecDepth 100000
set_option maxHeartbeats 1000000
namespace CL
open PySem PySem.Spec PyProof.Rows L2 GE
theorem all_take {p : PyData → Bool} {ds : List PyData} {i : Nat} {d : PyData} (h : ds[i]? = some d) : (ds.take (i + 1)).all p = ((ds.take i).all p && p d) := by
  rw [List.take_add_one, h, List.all_append]
  simp
theorem any_take {p : PyData → Bool} {ds : List PyData} {i : Nat} {d : PyData} (h : ds[i]? = some d) : (ds.take (i + 1)).any p = ((ds.take i).any p || p d) := by
  rw [List.take_add_one, h, List.any_append]
  simp
theorem all_false {p : PyData → Bool} {ds : List PyData} {i : Nat} {d : PyData} (h : ds[i]? = some d) (e : p d = false) : ds.all p = false := by
  rw [List.all_eq_false]
  exact ⟨d, List.mem_of_getElem? h, by rw [e]; exact Bool.false_ne_true⟩
theorem any_true {p : PyData → Bool} {ds : List PyData} {i : Nat} {d : PyData} (h : ds[i]? = some d) (e : p d = true) : ds.any p = true := by
  rw [List.any_eq_true]
  exact ⟨d, List.mem_of_getElem? h, e⟩
theorem rix_of {K : PySem.W.Frag} {H : Hp} {a : Addr} {xs : List V} {i : Nat} {v : V} {Q : VK} (s : StSeq H a xs) (e : xs[i]? = some v) (q : Q v H) : rIx K (.ref a) (.int (i : Int)) H Q := by
  rcases s.or with h | h
  · exact .inl ⟨a, xs, (i : Int), v, rfl, rfl, SqL.of h, atI_nat e, q⟩
  · exact .inr (.inl ⟨a, xs, (i : Int), v, rfl, rfl, SqT.of h, atI_nat e, q⟩)
theorem name_yes {i : Nat} {x : V} {σ : L2.St} {H : Hp} {A B : L2.St → Hp → Prop} (h : A (σ.set i (some x)) H) : gName i x σ H (fun σ2 H2 => tYes σ2 H2 fun b H3 => if b = true then A σ2 H3 else B σ2 H3) := by
  show if true = true then A (σ.set i (some x)) H else B (σ.set i (some x)) H
  exact iteT h
theorem nd1 {x : Str} : [x].Nodup := by simp
section
variable {P : Program} {w : World} {K : PySem.W.Frag} {mg : Str → Option Value} {base : Heap}
theorem ok_turns {f c P1 P2 : Addr} {fd : FuncData} (F : FunC K "is_turns" "is_turns" sTurns f fd c) (T : Nm mg) (TB : GxR.TabB base mg c P1) (CR : Cal P w K mg base 1 "is_row" ["thing"] (spOne isRow)) (CP : Cal P w K mg base 2 "is_patience" ["thing"] (spOne isPatience)) :
    FnOk P w K mg base CX0 4 f fd ["thing"] (spTab P1 P2 isTurns) := by
  refine F.ok scTurns spTab_len (fun A outer s H vs Q E hr h => ?_)
  obtain ⟨v, d, rfl, hR, hT, q⟩ := h
  obtain ⟨tl, hlo⟩ := T.longest
  refine ⟨_, pss_one (ps_ret (pe_and (pe_cal (CR.mono (by decide)) hr (by rfl) (pa_cons (pv 0) pa_nil))
    (pe_and (pe_chain op_le op_le pe_int (pe_callB call_len_seq (by rfl) T.len PySem.boot_len (pa_cons (pv 0) pa_nil)) (pe_glob (v := .int 8) (by rfl) hlo ⟨_, rfl⟩))
      (pe_one (pe_allG (N := ["patience"]) hr (by rfl) T.all TB rfl (by exact ⟨rfl, rfl, by decide +kernel, rfl⟩) (pi_seq (pv 0))
        (fun A s H C code fp pn rY => pg_name (i := 0) nd1 rfl (.inl rfl) (.inr rfl)) (fun A s H C code fp pn rY => pts_nil)
        (fun A s H C code fp pn rY => pe_cal CP rY (by rfl) (pa_cons (pv 0) pa_nil))))))), ?_⟩
  refine ⟨v, rfl, v, d, rfl, hR, fun H1 s1 => ⟨isRow d, rfl, ite2 (fun e => ?_) (fun e => ?_)⟩⟩
  · obtain ⟨ds, hds⟩ : ∃ ds, rowsD d = some ds := Option.isSome_iff_exists.mp e
    obtain ⟨a, xs, rfl, hA, hso⟩ := (Rp.ex (Ex.of s1) d v hR).rows hds
    have hst : StSeq H1 a xs := ⟨hso⟩
    have hlen := hA.length
    have val : isTurns d = (decide (1 ≤ ds.length) && decide (ds.length ≤ 8) && ds.all isPatience) := by
      unfold isTurns
      rw [hds]
    have hT1 := hT.same s1
    have no : ∀ {H2 : Hp}, Ex H1 H2 → Tb P1 P2 H2 → isTurns d = false → Q (.bl false) H2 := fun {H2} e2 t2 z => by
      have q' := q H2 ((Ex.of s1).trans e2) t2
      rw [z] at q'
      exact q'
    refine ⟨.ref a, rfl, a, xs, rfl, hst.sq, 1, xs.length, rfl, rfl, decide ((1 : Int) ≤ xs.length), rfl, ite2 (fun e1 => ?_) (fun e1 => ?_)⟩
    · refine ⟨xs.length, 8, rfl, rfl, decide ((xs.length : Int) ≤ 8), rfl, ite2 (fun e2 => ?_) (fun e2 => ?_)⟩
      · have l1 : 1 ≤ ds.length := by have := of_decide_eq_true e1; omega
        have l2 : ds.length ≤ 8 := by have := of_decide_eq_true e2; omega
        refine ⟨.ref a, rfl, a, xs, rfl, hst, fun J hJ => ⟨hT1.1, fun H2 tb => ⟨_, ⟨xs.length, rfl, Nat.zero_le _, ex_tabbed hT1.1 tb, hT1.tab1 tb, rfl⟩, turn_by (xs := xs) (fun _ i H => Ex H1 H ∧ Tb P1 P2 H ∧ (ds.take i).all isPatience = true)
          (fun _ i H ⟨eH, _, _⟩ => hJ H eH) (fun _ i x H hx ⟨eH, tH, aH⟩ => ?_) (fun _ H ⟨eH, tH, aH⟩ => ?_)⟩⟩⟩
        · obtain ⟨dx, hdx, hRx⟩ := hA.get hx
          refine name_yes ?_
          refine ⟨x, rfl, x, dx, rfl, Rp.ex eH dx x hRx, fun H4 s4 => ⟨isPatience dx, rfl, ite2 (fun e4 => ?_) (fun e4 => ?_)⟩⟩
          · exact ⟨eH.trans (Ex.of s4), tH.same s4, by rw [all_take hdx, aH, e4]; rfl⟩
          · refine no (eH.trans (Ex.of s4)) (tH.same s4) ?_
            rw [val, all_false hdx (Bool.eq_false_iff.mpr e4), Bool.and_false]
        · have q' := q H ((Ex.of s1).trans eH) tH
          rw [hlen, List.take_length] at aH
          rw [val, aH, decide_eq_true l1, decide_eq_true l2] at q'
          exact q'
      · refine no (Ex.refl H1) hT1 ?_
        have l2 : ¬ ds.length ≤ 8 := fun z => e2 (decide_eq_true (by omega))
        rw [val, decide_eq_false l2, Bool.and_false, Bool.false_and]
    · refine ⟨false, rfl, iteF (no (Ex.refl H1) hT1 ?_)⟩
      have l1 : ¬ 1 ≤ ds.length := fun z => e1 (decide_eq_true (by omega))
      rw [val, decide_eq_false l1, Bool.false_and, Bool.false_and]
  · have z : isTurns d = false := by
      unfold isTurns
      cases hds : rowsD d with
      | none => rfl
      | some ds => exact absurd (by unfold isRow; rw [hds]; rfl) e
    have q' := q H1 (Ex.of s1) (hT.same s1)
    rw [z] at q'
    exact q'
theorem two_of {α : Type} {xs : List α} (h : xs.length = 2) : ∃ x y, xs = [x, y] := match xs, h with
  | [x, y], _ => ⟨x, y, rfl⟩
theorem isPiece_two {d t m : PyData} (h : rowsD d = some [t, m]) : isPiece d = (isTurns t && isMany m) := by
  unfold isPiece
  rw [h]
theorem isPiece_not {d : PyData} {ds : List PyData} (h : rowsD d = some ds) (n : ds.length ≠ 2) : isPiece d = false := by
  unfold isPiece
  rw [h]
  match ds, n with
  | [], _ => rfl
  | [_], _ => rfl
  | [_, _], n => exact absurd rfl n
  | _ :: _ :: _ :: _, _ => rfl
theorem ok_piece {f P1 P2 : Addr} {fd : FuncData} (F : Fun K "is_piece" "is_piece" sPiece f fd) (T : Nm mg) (CW : Cal P w K mg base 1 "is_whole" ["thing"] (spOne isWhole)) (CR : Cal P w K mg base 1 "is_row" ["thing"] (spOne isRow)) (CT : Cal P w K mg base 4 "is_turns" ["thing"] (spTab P1 P2 isTurns)) :
    FnOk P w K mg base CX0 5 f fd ["thing"] (spTab P1 P2 isPiece) := by
  refine F.ok scPiece spTab_len (fun cdv A outer s H vs Q E hr h => ?_)
  obtain ⟨v, d, rfl, hR, hT, q⟩ := h
  refine ⟨_, pss_cons (ps_if (PW.pt (pw_or (pt_not (pt_val (pe_cal (CR.mono (by decide)) hr (by rfl) (pa_cons (pv 0) pa_nil))))
      (pw_or (pt_cmpR op_ne (pe_callB call_len_seq (by rfl) T.len PySem.boot_len (pa_cons (pv 0) pa_nil)) pe_int (nomark _))
        (pw_or1 (pt_not (pt_val (pe_cal CT hr (by rfl) (pa_cons (pe_ix ix_seq (pv 0) pe_int (fun _ _ => rfl)) pa_nil)))))))) (pss_one (ps_ret pe_bl)) pss_nil)
    (pss_one (ps_ret (pe_or (pe_cmp (pc_isN (pe_ix ix_seq (pv 0) pe_int (fun _ _ => rfl))) rfl)
      (pe_one (pe_and (pe_cal (CW.mono (by decide)) hr (by rfl) (pa_cons (pe_ix ix_seq (pv 0) pe_int (fun _ _ => rfl)) pa_nil)) (pe_one (pe_cmpR op_ge (pe_ix ix_seq (pv 0) pe_int (fun _ _ => rfl)) pe_int (nomark _)))))))), ?_⟩
  refine ⟨v, rfl, v, d, rfl, hR, fun H1 s1 => ⟨isRow d, rfl, ?_⟩⟩
  have hT1 := hT.same s1
  have at_ : ∀ {H2 : Hp} {b : Bool}, Ex H1 H2 → Tb P1 P2 H2 → isPiece d = b → Q (.bl b) H2 := fun {H2 b} e2 t2 z => by
    have q' := q H2 ((Ex.of s1).trans e2) t2
    rw [z] at q'
    exact q'
  cases hds : rowsD d with
  | none =>
    have e0 : isRow d = false := by unfold isRow; rw [hds]; rfl
    rw [e0]
    exact iteT (iteT (at_ (Ex.refl H1) hT1 (by unfold isPiece; rw [hds])))
  | some ds =>
    have e0 : isRow d = true := by unfold isRow; rw [hds]; rfl
    rw [e0]
    obtain ⟨a, xs, rfl, hA, hso⟩ := (Rp.ex (Ex.of s1) d v hR).rows hds
    have hst : StSeq H1 a xs := ⟨hso⟩
    have hlen := hA.length
    refine iteF ⟨.ref a, rfl, a, xs, rfl, hst.sq, rfl, _, rfl, ?_⟩
    by_cases h2 : ds.length = 2
    · have e1 : decide (V.int (xs.length : Int) = V.int 2) = true := decide_eq_true (by rw [hlen, h2]; rfl)
      refine ite2 (fun z => absurd z (by rw [e1]; exact Bool.false_ne_true)) (fun _ => ?_)
      obtain ⟨t, m, rfl⟩ := two_of h2
      obtain ⟨vt, vm, rfl⟩ := two_of (hlen.trans h2)
      cases hA with
      | cons ht hA2 =>
        cases hA2 with
        | cons hm _ =>
          refine ⟨.ref a, rfl, rix_of (i := 0) hst rfl ⟨vt, t, rfl, ht, hT1, fun H2 e2 t2 => ⟨isTurns t, rfl, ?_⟩⟩⟩
          have val := isPiece_two hds
          cases ht2 : isTurns t with
          | false => exact iteT (at_ e2 t2 (by rw [val, ht2]; rfl))
          | true =>
            refine iteF ⟨.ref a, rfl, rix_of (i := 1) (hst.ex e2) rfl ⟨decide (vm = .non), rfl, ite2 (fun e3 => ?_) (fun e3 => ?_)⟩⟩
            · have ev : vm = .non := of_decide_eq_true e3
              subst ev
              cases hm
              exact at_ e2 t2 (by rw [val, ht2]; rfl)
            · have nv : vm ≠ .non := fun z => e3 (decide_eq_true z)
              refine ⟨.ref a, rfl, rix_of (i := 1) (hst.ex e2) rfl ⟨vm, m, rfl, Rp.ex e2 m vm hm, fun H3 s3 => ⟨isWhole m, rfl, ite2 (fun e4 => ?_) (fun e4 => ?_)⟩⟩⟩
              · cases hm with
                | int i =>
                  refine ⟨.ref a, rfl, rix_of (i := 1) ((hst.ex e2).ex (Ex.of s3)) rfl ⟨i, 0, rfl, rfl, at_ (e2.trans (Ex.of s3)) (t2.same s3) ?_⟩⟩
                  rw [val, ht2]
                  rfl
                | _ => exact absurd e4 Bool.false_ne_true
              · refine at_ (e2.trans (Ex.of s3)) (t2.same s3) ?_
                rw [val, ht2]
                cases hm with
                | non => exact absurd rfl nv
                | int i => exact absurd rfl e4
                | _ => rfl
    · have e1 : decide (V.int (xs.length : Int) = V.int 2) = false := decide_eq_false fun z => h2 (by have := V.int.inj z; omega)
      refine ite2 (fun _ => iteT (at_ (Ex.refl H1) hT1 (isPiece_not hds h2))) (fun z => absurd (by rw [e1]; rfl) z)
end
end CL
set_option Elab.async false
set_option linter.all false
set_option maxRecDepth 100000
set_option maxHeartbeats 2000000
namespace CL
open PySem PySem.Spec PyProof.Rows L2 GE
theorem piece_parts {d : PyData} (h : isPiece d = true) : ∃ t m, rowsD d = some [t, m] ∧ isTurns t = true ∧ isMany m = true := by
  unfold isPiece at h
  split at h
  · rename_i t m e
    rw [Bool.and_eq_true] at h
    exact ⟨t, m, e, h.1, h.2⟩
  · cases h
theorem sndD_two {d t m : PyData} (h : rowsD d = some [t, m]) : sndD d = m := by
  unfold sndD
  rw [h]
theorem rp_none {H : Hp} {v : V} {m : PyData} (h : Rp H v m) : decide (v = .non) = isNone m := by
  cases h <;> first | rfl | exact decide_eq_false nofun
theorem all_get {p : PyData → Bool} {ds : List PyData} {i : Nat} {d : PyData} (h : ds.all p = true) (e : ds[i]? = some d) : p d = true := List.all_eq_true.mp h d (List.mem_of_getElem? e)
theorem sum_step {ds : List PyData} {i : Nat} {d : PyData} (h : ds[i]? = some d) : sumSnd (ds.take (i + 1)) = sumSnd (ds.take i) + worth (sndD d) := by
  unfold sumSnd
  rw [List.take_add_one, h, List.map_append, List.sum_append]
  simp
theorem cut_last (xs : List V) : cutV xs none (some (-1)) = xs.take (xs.length - 1) := by
  unfold cutV
  have e0 : HT.sIx xs.length 0 none = 0 := rfl
  have e1 : HT.sIx xs.length xs.length (some (-1)) = xs.length - 1 := by
    show (if (-1 : Int) < 0 then ((-1 : Int) + (xs.length : Int)).toNat else min (-1 : Int).toNat xs.length) = _
    rw [if_pos (by decide)]
    omega
  rw [e0, e1, List.drop_zero, Nat.sub_zero]
theorem ix_gx {X : Cx} {A : Around} {N : List Str} {s : Shared} {H : Hp} {cenv : Env} {fp : List Addr} {pn : List (Addr × Obj)} : IxR (gx X A N s H cenv fp pn) (rIx X.K) := ix_seq
/-- the second of a piece that stands -/
theorem piece_at {H : Hp} {x : V} {d : PyData} (hp : isPiece d = true) (hR : Rp H x d) : ∃ b vt vm m, x = .ref b ∧ StSeq H b [vt, vm] ∧ Rp H vm m ∧ sndD d = m ∧ isMany m = true := by
  obtain ⟨t, m, e, _, hm⟩ := piece_parts hp
  obtain ⟨b, ys, rfl, hA, hso⟩ := hR.rows e
  obtain ⟨vt, vm, rfl⟩ := two_of hA.length
  cases hA with
  | cons h1 h2 =>
    cases h2 with
    | cons h3 _ => exact ⟨b, vt, vm, m, rfl, ⟨hso⟩, h3, sndD_two e, hm⟩
section
variable {P : Program} {w : World} {K : PySem.W.Frag} {mg : Str → Option Value} {base : Heap}
theorem ok_plan {f c P1 P2 : Addr} {fd : FuncData} (F : FunC K "is_plan" "is_plan" sPlan f fd c) (T : Nm mg) (TB : GxR.TabB base mg c P2) (CR : Cal P w K mg base 1 "is_row" ["thing"] (spOne isRow)) (CP : Cal P w K mg base 5 "is_piece" ["thing"] (spTab P1 P2 isPiece)) :
    FnOk P w K mg base CX0 7 f fd ["thing"] (spTab P1 P2 isPlan) := by
  refine F.ok scPlan spTab_len (fun A outer s H vs Q E hr h => ?_)
  obtain ⟨v, d, rfl, hR, hT, q⟩ := h
  obtain ⟨tl, hlo⟩ := T.longest
  obtain ⟨tg, hgr⟩ := T.great
  refine ⟨_, pss_cons (ps_if (PW.pt (pw_or (pt_not (pt_val (pe_cal (CR.mono (by decide)) hr (by rfl) (pa_cons (pv 0) pa_nil))))
      (pw_or1 (pt_not (pt_chain op_le op_le pe_int (pe_callB call_len_seq (by rfl) T.len PySem.boot_len (pa_cons (pv 0) pa_nil)) (pe_glob (v := .int 8) (by rfl) hlo ⟨_, rfl⟩)))))) (pss_one (ps_ret pe_bl)) pss_nil)
    (pss_cons (ps_if (pt_not (pt_val (pe_allG (N := ["piece"]) hr (by rfl) T.all TB rfl (by exact ⟨rfl, rfl, by decide +kernel, rfl⟩) (pi_seq (pv 0))
        (fun A s H C code fp pn rY => pg_name (i := 0) nd1 rfl (.inl rfl) (.inr rfl)) (fun A s H C code fp pn rY => pts_nil)
        (fun A s H C code fp pn rY => pe_cal CP rY (by rfl) (pa_cons (pv 0) pa_nil))))) (pss_one (ps_ret pe_bl)) pss_nil)
    (pss_cons (ps_if (pt_val (pe_anyG (N := ["piece"]) hr (by rfl) T.any TB rfl (by exact ⟨rfl, rfl, by decide +kernel, rfl⟩) (pi_seq (pe_slice (SlR.or sl_list sl_tup) (pv 0) po_none (po_some (pe_un un_neg pe_int))))
        (fun A s H C code fp pn rY => pg_name (i := 0) nd1 rfl (.inl rfl) (.inr rfl)) (fun A s H C code fp pn rY => pts_nil)
        (fun A s H C code fp pn rY => pe_cmp (pc_isN (pe_ix ix_gx (pv 0) pe_int (fun _ _ => rfl))) rfl))) (pss_one (ps_ret pe_bl)) pss_nil)
    (pss_one (ps_ret (pe_cmpR op_le (pe_sumG (N := ["piece"]) hr (by rfl) T.sum TB rfl (by exact ⟨rfl, rfl, by decide +kernel, rfl⟩) (pi_seq (pv 0))
        (fun A s H C code fp pn rY => pg_name (i := 0) nd1 rfl (.inl rfl) (.inr rfl)) (fun A s H C code fp pn rY => pts_one (pt_cmp (pc_notN (pe_ix ix_gx (pv 0) pe_int (fun _ _ => rfl)))))
        (fun A s H C code fp pn rY => pe_ix ix_gx (pv 0) pe_int (fun _ _ => rfl))) (pe_glob (v := .int GREAT) (by rfl) hgr ⟨_, rfl⟩) (nomark _)))))), ?_⟩
  refine ⟨v, rfl, v, d, rfl, hR, fun H1 s1 => ⟨isRow d, rfl, ?_⟩⟩
  have hT1 := hT.same s1
  have at_ : ∀ {H2 : Hp} {b : Bool}, Ex H1 H2 → Tb P1 P2 H2 → isPlan d = b → Q (.bl b) H2 := fun {H2 b} e2 t2 z => by
    have q' := q H2 ((Ex.of s1).trans e2) t2
    rw [z] at q'
    exact q'
  cases hds : rowsD d with
  | none =>
    have e0 : isRow d = false := by unfold isRow; rw [hds]; rfl
    rw [e0]
    exact iteT (iteT (at_ (Ex.refl H1) hT1 (by unfold isPlan; rw [hds])))
  | some ds =>
    have e0 : isRow d = true := by unfold isRow; rw [hds]; rfl
    rw [e0]
    obtain ⟨a, xs, rfl, hA, hso⟩ := (Rp.ex (Ex.of s1) d v hR).rows hds
    have hst : StSeq H1 a xs := ⟨hso⟩
    have hlen := hA.length
    have val : isPlan d = (decide (1 ≤ ds.length) && decide (ds.length ≤ 8) && ds.all isPiece && !((ds.take (ds.length - 1)).any fun d => isNone (sndD d)) && decide (sumSnd ds ≤ GREAT)) := by
      unfold isPlan
      rw [hds]
      rfl
    refine iteF ⟨.ref a, rfl, a, xs, rfl, hst.sq, 1, xs.length, rfl, rfl, decide ((1 : Int) ≤ xs.length), rfl, ite2 (fun e1 => ?_) (fun e1 => ?_)⟩
    · have l1 : 1 ≤ ds.length := by have := of_decide_eq_true e1; omega
      refine ⟨xs.length, 8, rfl, rfl, decide ((xs.length : Int) ≤ 8), rfl, ?_⟩
      by_cases l2 : ds.length ≤ 8
      · have e2 : decide ((xs.length : Int) ≤ 8) = true := decide_eq_true (by omega)
        rw [e2]
        refine iteF ?_
        -- all
        refine ⟨.ref a, rfl, a, xs, rfl, hst, fun J hJ => ⟨hT1.2, fun H2 tb => ⟨_, ⟨xs.length, rfl, Nat.zero_le _, ex_tabbed hT1.2 tb, hT1.tab2 tb, rfl⟩, turn_by (xs := xs) (fun _ i H => Ex H1 H ∧ Tb P1 P2 H ∧ (ds.take i).all isPiece = true)
          (fun _ i H ⟨eH, _, _⟩ => hJ H eH) (fun _ i x H hx ⟨eH, tH, aH⟩ => ?_) (fun _ H ⟨eH, tH, pH⟩ => ?_)⟩⟩⟩
        · obtain ⟨dx, hdx, hRx⟩ := hA.get hx
          refine name_yes ?_
          refine ⟨x, rfl, x, dx, rfl, Rp.ex eH dx x hRx, tH, fun H4 e4 t4 => ⟨isPiece dx, rfl, ite2 (fun e5 => ?_) (fun e5 => ?_)⟩⟩
          · exact ⟨eH.trans e4, t4, by rw [all_take hdx, aH, e5]; rfl⟩
          · refine ⟨false, rfl, iteT (at_ (eH.trans e4) t4 ?_)⟩
            rw [val, all_false hdx (Bool.eq_false_iff.mpr e5), Bool.and_false, Bool.false_and, Bool.false_and]
        · rw [hlen, List.take_length] at pH
          refine ⟨true, rfl, iteF ?_⟩
          have hA' : RpAll H1 (xs.take (xs.length - 1)) (ds.take (ds.length - 1)) := by
            have z := hA.take (xs.length - 1)
            rw [show ds.take (xs.length - 1) = ds.take (ds.length - 1) by rw [hlen]] at z
            exact z
          have hp' : (ds.take (ds.length - 1)).all isPiece = true := by
            rw [List.all_eq_true]
            intro y hy
            exact List.all_eq_true.mp pH y (List.mem_of_mem_take hy)
          have hl' : (xs.take (xs.length - 1)).length = (ds.take (ds.length - 1)).length := hA'.length
          -- the walk, wherever the cut stands
          have walk : ∀ (p : Addr) (H3 : Hp), StSeq H3 p (xs.take (xs.length - 1)) → Ex H1 H3 → Tb P1 P2 H3 → ∀ QB : Bool → Hp → Prop,
              (∀ H', Ex H1 H' → Tb P1 P2 H' → QB ((ds.take (ds.length - 1)).any fun d => isNone (sndD d)) H') →
              ∀ J, (∀ H2, Ex H3 H2 → StandsAs K p (xs.take (xs.length - 1)) J H2) → GxR.TabG H3 P2 ∧ ∀ H2, GxR.Tabbed P2 H3 H2 →
                ∃ W : Unit → Nat → Nat → Hp → Prop, (∃ m, W () 0 m H2) ∧ TurnOf J 1 (gName 0) tYes (tIsN (tOp (rIx K) (tVar 0) (tC (.int 1)))) (outAny QB) (fun _ H => QB false H) W := by
            intro p H3 st3 e3 t3 QB hQB J hJ
            refine ⟨t3.2, fun H2 tb => ⟨_, ⟨(xs.take (xs.length - 1)).length, rfl, Nat.zero_le _, ex_tabbed t3.2 tb, t3.tab2 tb, rfl⟩, turn_by (xs := xs.take (xs.length - 1)) (fun _ i H => Ex H3 H ∧ Tb P1 P2 H ∧ ((ds.take (ds.length - 1)).take i).any (fun d => isNone (sndD d)) = false)
              (fun _ i H ⟨eH, _, _⟩ => hJ H eH) (fun _ i x H hx ⟨eH, tH, aH⟩ => ?_) (fun _ H ⟨eH, tH, aH⟩ => ?_)⟩⟩
            · obtain ⟨dx, hdx, hRx⟩ := hA'.get hx
              obtain ⟨b, vt, vm, m, rfl, stb, hRm, hsn, _⟩ := piece_at (all_get hp' hdx) (Rp.ex (e3.trans eH) dx x hRx)
              refine name_yes ?_
              refine ⟨.ref b, rfl, rix_of (i := 1) stb rfl ⟨decide (vm = .non), rfl, ite2 (fun e5 => ?_) (fun e5 => ?_)⟩⟩
              · have z := hQB H (e3.trans eH) tH
                rw [any_true (p := fun d => isNone (sndD d)) hdx (by rw [hsn, ← rp_none hRm]; exact e5)] at z
                exact z
              · refine ⟨eH, tH, ?_⟩
                rw [any_take hdx, aH, hsn, ← rp_none hRm, Bool.eq_false_iff.mpr e5]
                rfl
            · rw [hl', List.take_length] at aH
              have z := hQB H (e3.trans eH) tH
              rw [aH] at z
              exact z
          -- the sum
          have sums : ∀ (H3 : Hp), Ex H1 H3 → Tb P1 P2 H3 → ∀ QI : Int → Hp → Prop, (∀ H', Ex H1 H' → Tb P1 P2 H' → QI (sumSnd ds) H') →
              ∀ J, (∀ H2, Ex H3 H2 → StandsAs K a xs J H2) → GxR.TabG H3 P2 ∧ ∀ H2, GxR.Tabbed P2 H3 H2 →
                ∃ W : Int → Nat → Nat → Hp → Prop, (∃ m, W 0 0 m H2) ∧ TurnOf J 1 (gName 0) (tB (tNotN (tOp (rIx K) (tVar 0) (tC (.int 1))))) (tOp (rIx K) (tVar 0) (tC (.int 1))) outSum (fun a H => QI a H) W := by
            intro H3 e3 t3 QI hQI J hJ
            refine ⟨t3.2, fun H2 tb => ⟨_, ⟨xs.length, rfl, Nat.zero_le _, ex_tabbed t3.2 tb, t3.tab2 tb, rfl⟩, turn_by (xs := xs) (fun z i H => Ex H3 H ∧ Tb P1 P2 H ∧ z = sumSnd (ds.take i))
              (fun _ i H ⟨eH, _, _⟩ => hJ H eH) (fun z i x H hx ⟨eH, tH, aH⟩ => ?_) (fun z H ⟨eH, tH, zH⟩ => ?_)⟩⟩
            · obtain ⟨dx, hdx, hRx⟩ := hA.get hx
              obtain ⟨b, vt, vm, m, rfl, stb, hRm, hsn, hmm⟩ := piece_at (all_get pH hdx) (Rp.ex (e3.trans eH) dx x hRx)
              refine ⟨.ref b, rfl, rix_of (i := 1) stb rfl ⟨!decide (vm = .non), rfl, ite2 (fun e5 => ?_) (fun e5 => ?_)⟩⟩
              · refine ⟨.ref b, rfl, rix_of (i := 1) stb rfl ?_⟩
                cases hRm with
                | int j => exact ⟨j, rfl, eH, tH, by rw [sum_step hdx, hsn, aH]; rfl⟩
                | non => exact absurd e5 (by decide)
                | _ => cases hmm
              · refine ⟨eH, tH, ?_⟩
                rw [sum_step hdx, hsn, aH]
                cases hRm with
                | non => exact (Int.add_zero _).symm
                | _ => exact absurd rfl e5
            · rw [hlen, List.take_length] at zH
              subst zH
              exact hQI H (e3.trans eH) tH
          have hst2 := hst.ex eH
          have fin : ∀ (H' : Hp), Ex H1 H' → Tb P1 P2 H' → ((ds.take (ds.length - 1)).any fun d => isNone (sndD d)) = false → isPlan d = decide (sumSnd ds ≤ GREAT) := fun H' _ _ z => by
            rw [val, decide_eq_true l1, decide_eq_true l2, pH, z]
            rfl
          have bad : ∀ (H' : Hp), Ex H1 H' → Tb P1 P2 H' → ((ds.take (ds.length - 1)).any fun d => isNone (sndD d)) = true → Q (.bl false) H' := fun H' e' t' z => at_ e' t' (by
            rw [val, z]
            simp)
          refine ⟨.ref a, rfl, 1, rfl, -1, rfl, ?_⟩
          rcases hst2.or with hq | hq
          · refine .inl ⟨a, xs, rfl, SqL.of hq, fun p np => ?_⟩
            have st3 : StSeq (upd H p (.lst (cutV xs none (some (-1))))) p (xs.take (xs.length - 1)) := ⟨.inl (by rw [upd_same, cut_last])⟩
            refine ⟨p, _, rfl, st3, walk p _ st3 (eH.trans (Ex.new np)) (tH.same (same_upd np)) _ fun H' e' t' => ?_⟩
            refine ⟨_, rfl, ite2 (fun e5 => bad H' e' t' e5) (fun e5 => ?_)⟩
            refine ⟨.ref a, rfl, a, xs, rfl, hst.ex e', sums H' e' t' _ fun H'' e'' t'' => ⟨sumSnd ds, GREAT, rfl, rfl, at_ e'' t'' (fin H'' e'' t'' (Bool.eq_false_iff.mpr e5))⟩⟩
          · refine .inr ⟨a, xs, rfl, SqT.of hq, ?_, fun p np => ?_⟩
            · intro z
              have z2 : HT.sIx xs.length xs.length (some (-1)) = xs.length - 1 := by
                show (if (-1 : Int) < 0 then ((-1 : Int) + (xs.length : Int)).toNat else min (-1 : Int).toNat xs.length) = _
                rw [if_pos (by decide)]
                omega
              have z3 := z.2
              rw [z2] at z3
              omega
            have st3 : StSeq (upd H p (.tup (cutV xs none (some (-1))))) p (xs.take (xs.length - 1)) := ⟨.inr (by rw [upd_same, cut_last])⟩
            refine ⟨p, _, rfl, st3, walk p _ st3 (eH.trans (Ex.new np)) (tH.same (same_upd np)) _ fun H' e' t' => ?_⟩
            refine ⟨_, rfl, ite2 (fun e5 => bad H' e' t' e5) (fun e5 => ?_)⟩
            refine ⟨.ref a, rfl, a, xs, rfl, hst.ex e', sums H' e' t' _ fun H'' e'' t'' => ⟨sumSnd ds, GREAT, rfl, rfl, at_ e'' t'' (fin H'' e'' t'' (Bool.eq_false_iff.mpr e5))⟩⟩
      · have e2 : decide ((xs.length : Int) ≤ 8) = false := decide_eq_false (by omega)
        rw [e2]
        refine iteT (at_ (Ex.refl H1) hT1 ?_)
        rw [val, decide_eq_false l2, Bool.and_false, Bool.false_and, Bool.false_and, Bool.false_and]
    · have l1 : ¬ 1 ≤ ds.length := fun z => e1 (decide_eq_true (by omega))
      refine ⟨false, rfl, iteT (at_ (Ex.refl H1) hT1 ?_)⟩
      rw [val, decide_eq_false l1, Bool.false_and, Bool.false_and, Bool.false_and, Bool.false_and]
end
end CL
set_option Elab.async false
set_option linter.all false
set_option maxRecDepth 100000
set_option maxHeartbeats 4000000
namespace CL
open PySem PySem.Spec PyProof.Rows L2 GE
theorem p18 : (10 : Int) ^ (18 : Int).toNat = 1000000000000000000 := by decide +kernel
theorem p30 : (10 : Int) ^ (30 : Int).toNat = GREAT := by decide +kernel
theorem same_ne {H H' : Hp} (s : Same H H') {p b : Addr} (np : H' p = none) (hb : H b ≠ none) : b ≠ p := fun z => by
  rw [z] at hb
  cases q : H p with
  | none => exact hb q
  | some o =>
    rw [s p o q] at np
    cases np
theorem ints_dp {K : PySem.W.Frag} {H : Hp} : ∀ gs : List Int, DpAll K H (gs.map V.int) (gs.map PyData.int)
  | [] => .nil
  | x :: gs => .cons (.int x) (ints_dp gs)
theorem ints_lay : ∀ gs : List Int, PyData.canLayAll0 (gs.map PyData.int) = true
  | [] => by simp [PyData.canLayAll0]
  | x :: gs => by
    have := ints_lay gs
    simp [PyData.canLayAll0, PyData.canLay0, this]
theorem ints_depth : ∀ gs : List Int, PyData.depthAll (gs.map PyData.int) = 0
  | [] => rfl
  | x :: gs => by
    have := ints_depth gs
    show max 0 (PyData.depthAll (gs.map PyData.int)) = 0
    rw [this]
    rfl
theorem ints_shaped (gs : List Int) : SeqAt.shaped (.list (gs.map PyData.int)) = true := by
  unfold SeqAt.shaped
  have h1 : PyData.canLay0 (.list (gs.map PyData.int)) = true := by
    have := ints_lay gs
    simp [PyData.canLay0, this]
  have h2 : PyData.depth (.list (gs.map PyData.int)) = 1 := by
    show PyData.depthAll (gs.map PyData.int) + 1 = 1
    rw [ints_depth]
  rw [h1, h2]
  rfl
theorem ints_take (gs : List Int) (k : Nat) : (gs.map V.int).take k = (gs.take k).map V.int := List.map_take.symm
theorem cut_to (xs : List V) (k : Nat) : cutV xs none (some (k : Int)) = xs.take k := by
  unfold cutV
  have e0 : HT.sIx xs.length 0 none = 0 := rfl
  have e1 : HT.sIx xs.length xs.length (some (k : Int)) = min k xs.length := HT.sIx_nat _ _ _
  rw [e0, e1, List.drop_zero, Nat.sub_zero]
  rcases Nat.le_total k xs.length with h | h
  · rw [Nat.min_eq_left h]
  · rw [Nat.min_eq_right h, List.take_of_length_le h, List.take_of_length_le (Nat.le_refl _)]
theorem cut_from (xs : List V) (k : Nat) : cutV xs (some (k : Int)) none = xs.drop k := by
  unfold cutV
  have e0 : HT.sIx xs.length 0 (some (k : Int)) = min k xs.length := HT.sIx_nat _ _ _
  have e1 : HT.sIx xs.length xs.length none = xs.length := rfl
  rw [e0, e1]
  rcases Nat.le_total k xs.length with h | h
  · rw [Nat.min_eq_left h]
    exact List.take_of_length_le (by rw [List.length_drop]; exact Nat.le_refl _)
  · rw [Nat.min_eq_right h, List.drop_of_length_le (Nat.le_refl _), List.drop_of_length_le h]
    simp
theorem small_add {a b : Nat} (ha : a ≤ 1000) (hb : b ≤ 1000) : a + b ≤ sizeLine := by
  have : 2000 ≤ sizeLine := by decide
  omega
theorem small_le {a : Nat} (ha : a ≤ 1000) : a ≤ sizeLine := by
  have : 1000 ≤ sizeLine := by decide
  omega
theorem yesT {σ : L2.St} {H : Hp} {A B : Hp → Prop} (h : A H) : tYes σ H (fun b H3 => if b = true then A H3 else B H3) := by
  show if true = true then A H else B H
  exact iteT h
open Classical in
noncomputable def Hw (W : Addr → Prop) (H : Hp) : Hp := fun b => if W b then none else H b
theorem Hw.at {W : Addr → Prop} {H : Hp} {b : Addr} (n : ¬ W b) : Hw W H b = H b := by
  unfold Hw
  rw [if_neg n]
theorem Hw.ne {W : Addr → Prop} {H : Hp} {b : Addr} {o : HO} (e : Hw W H b = some o) : ¬ W b := fun z => by
  unfold Hw at e
  rw [if_pos z] at e
  cases e
theorem Hw.sub (W : Addr → Prop) (H : Hp) : Same (Hw W H) H := fun b o e => by rw [Hw.at (Hw.ne e)] at e; exact e
theorem Hw.less {W W' : Addr → Prop} {H : Hp} (h : ∀ b, W b → W' b) : Same (Hw W' H) (Hw W H) := fun b o e => by
  rw [Hw.at fun z => Hw.ne e (h b z)]
  exact Hw.sub W' H b o e
theorem Hw.more {W W' : Addr → Prop} {H : Hp} (h : ∀ b, W' b → W b ∨ H b = none) : Same (Hw W H) (Hw W' H) := fun b o e => by
  have e1 := Hw.sub W H b o e
  rw [Hw.at fun z => (h b z).elim (Hw.ne e) fun q => by rw [q] at e1; cases e1]
  exact e1
theorem hw_upd {W : Addr → Prop} {a : Addr} {H : Hp} {o : HO} (h : W a) : Hw W (upd H a o) = Hw W H := by
  funext b
  by_cases hb : W b
  · unfold Hw
    rw [if_pos hb, if_pos hb]
  · rw [Hw.at hb, Hw.at hb, upd_ne fun z => hb (by rw [z]; exact h)]
theorem Same.hw {W : Addr → Prop} {H H' : Hp} (m : Same H H') : Same (Hw W H) (Hw W H') := fun b o e => by
  rw [Hw.at (Hw.ne e)]
  exact m b o (Hw.sub W H b o e)
theorem Rp.sm {H H' : Hp} (s : Same H H') {v : V} {d : PyData} (h : Rp H v d) : Rp H' v d := Rp.ex (Ex.of s) d v h
theorem RpAll.sm {H H' : Hp} (s : Same H H') {vs : List V} {ds : List PyData} (h : RpAll H vs ds) : RpAll H' vs ds := RpAll.ex (Ex.of s) ds vs h
theorem RpAll.snoc {H : Hp} : ∀ {vs : List V} {ds : List PyData} {v : V} {d : PyData}, RpAll H vs ds → Rp H v d → RpAll H (vs ++ [v]) (ds ++ [d])
  | _, _, _, _, .nil, h => .cons h .nil
  | _, _, _, _, .cons a b, h => .cons a (RpAll.snoc b h)
end CL
set_option Elab.async false
set_option linter.all false
set_option maxRecDepth 100000
set_option maxHeartbeats 4000000
namespace CL
open PySem PySem.Spec PyProof.Rows L2 GE
/-! ### a, b = a list or a tuple -/
def gSeq (K : PySem.W.Frag) (n : Nat) (t : TGs) : TG := fun v σ H Q => ∃ a xs, v = .ref a ∧ StSeq H a xs ∧ xs.length = n ∧ t xs σ H Q
theorem pg_seq {X : Cx} {pos : Pos} {es : List Expr} {k : Nat} {t : TGs} {n : Nat} (hc : X.calm = true) (h : PGs X es t) (hn : (assignEach es X.env).length = n := by rfl) (hst : (assignEach es X.env).findIdx? (·.1) = none := by rfl) :
    PG X (.Tuple es k pos) (gSeq X.K n t) := by
  refine ⟨fun pins s σ H v u Q I r hw => ?_⟩
  obtain ⟨a, xs, e, hs, hl, q⟩ := hw
  rcases hs.or with hq | hq
  · exact (pg_lst hc h hn hst).run pins s σ H v u Q I r ⟨a, xs, e, SqL.of hq, hl, q⟩
  · exact (pg_tup hc h hn hst).run pins s σ H v u Q I r ⟨a, xs, e, SqT.of hq, hl, q⟩
/-! ### for x in a list or a tuple -/
def iSeqW (K : PySem.W.Frag) (tl : TE) : TI := fun σ H R => tl σ H fun x H1 => ∃ a xs, x = .ref a ∧ StSeq H1 a xs ∧ ∀ J, (∀ H2, (∀ o, H1 a = some o → H2 a = some o) → StandsAs K a xs J H2) → R J H1
theorem pi_seqW {X : Cx} {tg l : Expr} {tl : TE} (hl : PE X l tl) : PI X tg l (iSeqW X.K tl) := by
  refine ⟨fun pins s σ H R I h => thn (hl.run pins s σ H _ I h) fun v s1 ⟨x, H1, I1, r1, a, xs, e, st, q⟩ => ?_⟩
  subst e
  cases r1
  have new : ∀ b ∈ [s1.heap.objs.size], FpOk X pins H1 b := fun b hb => by
    rw [List.mem_singleton.mp hb]
    exact I1.fpOk (Nat.le_refl _) (I1.hok.fresh (Nat.le_refl _))
  have kept := fun {o : Obj} => I1.kept (h' := s1.heap.push o) (t' := s1.toks) fun b o' e => Heap.get?_push_of_some _ e
  rcases st.or with hq | hq
  · obtain ⟨its, rv, p, hz⟩ := I1.list (SqL.of hq)
    exact wpAny_pyIter_list p.isList ⟨s1.heap.objs.size, [s1.heap.objs.size], _, _, H1, rfl, kept, turn_list a _, ⟨_, Heap.get?_push_size _ rfl, rfl, rfl⟩, new, q _ fun H2 e => .inl ⟨rfl, SqL.of (e _ hq)⟩⟩
  · obtain ⟨its, rv, p, hz⟩ := I1.tuple (SqT.of hq)
    exact wpAny_pyIter_tuple (show s1.heap.IsTuple a its.toArray from p) ⟨s1.heap.objs.size, [s1.heap.objs.size], _, _, H1, rfl, kept, turn_tuple a _, ⟨_, Heap.get?_push_size _ rfl, rfl, rfl⟩, new, q _ fun H2 e => .inr ⟨rfl, SqT.of (e _ hq)⟩⟩
theorem for_seq {K : PySem.W.Frag} {a : Addr} {xs : List V} {J : It} {g : TG} {tb : TS} {D : Ends} {σ : L2.St} {H : Hp} (Pv : Nat → L2.St → Hp → Prop) (h0 : Pv 0 σ H) (hl : ∀ i σ H, Pv i σ H → StandsAs K a xs J H)
    (hs : ∀ i x σ H, xs[i]? = some x → Pv i σ H → g x σ H fun σ2 H2 => tb { D with nx := Pv (i + 1), ct := Pv (i + 1), bk := D.nx } σ2 H2) (hd : ∀ σ H, Pv xs.length σ H → D.nx σ H) :
    ∃ W : Nat → Nat → L2.St → Hp → Prop, (∃ m, W 0 m σ H) ∧ ∀ i m σ H, W i m σ H →
      (J.stop i H ∧ D.nx σ H) ∨ (J.go i H ∧ ∃ N : L2.St → Hp → Prop, (∀ σ' H', N σ' H' → ∃ m', m' < m ∧ W (i + 1) m' σ' H') ∧ ∀ x H', J.yld i H x H' → g x σ H' fun σ2 H2 => tb { D with nx := N, ct := N, bk := D.nx } σ2 H2) := by
  refine ⟨fun i m σ H => m + i = xs.length ∧ Pv i σ H, ⟨xs.length, rfl, h0⟩, ?_⟩
  rintro i m σ H ⟨hm, p⟩
  have s := hl i σ H p
  cases m with
  | zero =>
    obtain rfl : i = xs.length := by omega
    exact .inl ⟨s.stop (Nat.le_refl _), hd σ H p⟩
  | succ m =>
    have lt : i < xs.length := by omega
    refine .inr ⟨s.go (List.getElem?_eq_getElem lt), Pv (i + 1), fun σ' H' p' => ⟨m, Nat.lt_succ_self m, by omega, p'⟩, fun x H' y => ?_⟩
    obtain ⟨rfl, hx⟩ := s.yld y
    exact hs i x σ _ hx p
/-! ### a class of refusals -/
structure ExcC (K : PySem.W.Frag) (mg : Str → Option Value) (x : Str) (C : Addr) : Prop where
  g : mg x = some (.ref C)
  x : PySem.W.excIn K C [.type "ValueError", .type "Exception", .type "BaseException", .type "object"] "ValueError.__new__" = true
  k : PySem.W.keepIn K (.ref C) = true
  b : PySem.W.subIn K (.ref C) (.type "BaseException") = some true
  t : PySem.W.typeIn K (.ref C) = some (.type "type")
/-! ### pieces_of -/
abbrev sPieces : Stmt := topS 14
abbrev nPieces : List Str := ["plan", "pieces", "first", "turns", "many", "past"]
theorem scPieces : FnScope nPieces ["plan"] (defScope sPieces) := ⟨rfl, rfl, rfl, by decide +kernel, rfl, by decide +kernel, by decide +kernel⟩
abbrev PieceT := Int × Option Int × List PyData
def optD : Option Int → PyData
  | some i => .int i
  | none => .none
def pieceD (x : PieceT) : PyData := .tuple [.int x.1, optD x.2.1, .tuple x.2.2]
def turnsD (d : PyData) : List PyData := match rowsD d with
  | some (t :: _) => (rowsD t).getD []
  | _ => []
def pastO (f : Int) : PyData → Option Int
  | .int m => some (f + m)
  | _ => none
def pcs : Int → List PyData → List PieceT
  | _, [] => []
  | f, d :: ds => (f, pastO f (sndD d), turnsD d) :: pcs (f + worth (sndD d)) ds
theorem pcs_snoc : ∀ (f : Int) (ds : List PyData) (d : PyData), pcs f (ds ++ [d]) = pcs f ds ++ [(f + sumSnd ds, pastO (f + sumSnd ds) (sndD d), turnsD d)]
  | f, [], d => by
    have e : f + sumSnd [] = f := Int.add_zero f
    rw [e]
    rfl
  | f, c :: ds, d => by
    have e : f + sumSnd (c :: ds) = f + worth (sndD c) + sumSnd ds := by
      show f + (worth (sndD c) + sumSnd ds) = _
      omega
    rw [e]
    show _ :: pcs _ (ds ++ [d]) = _ :: (pcs _ ds ++ _)
    rw [pcs_snoc]
def piecesOf (d : PyData) : List PieceT := pcs 0 ((rowsD d).getD [])
def spPieces (P1 P2 C : Addr) : Sp := fun vs H Q E => ∃ v d, vs = [v] ∧ Rp H v d ∧ Tb P1 P2 H ∧ (isPlan d = false → ∀ H', Ex H H' → Tb P1 P2 H' → E (.ref C) none H') ∧
  (isPlan d = true → ∀ p H', Ex H H' → Tb P1 P2 H' → H p = none → Rp H' (.ref p) (.list ((piecesOf d).map pieceD)) → Q (.ref p) H')
theorem piece_at2 {H : Hp} {x : V} {d : PyData} (hp : isPiece d = true) (hR : Rp H x d) : ∃ b vt vm t m, x = .ref b ∧ StSeq H b [vt, vm] ∧ Rp H vt t ∧ Rp H vm m ∧ rowsD d = some [t, m] ∧ isTurns t = true ∧ isMany m = true := by
  obtain ⟨t, m, e, ht, hm⟩ := piece_parts hp
  obtain ⟨b, xs, rfl, hA, ho⟩ := hR.rows e
  cases hA with
  | cons h1 h2 =>
    cases h2 with
    | cons h3 h4 =>
      cases h4
      exact ⟨b, _, _, t, m, rfl, ⟨ho⟩, h1, h3, e, ht, hm⟩
theorem pieces_put {D : Addr} {ys : List V} {H2 H3 : Hp} {vs : List V} (eD : H2 D = some (.lst vs)) (s3 : Same H2 H3) {p : Addr} (np : H3 p = none) : upd H3 p (.tup ys) D = some (.lst vs) ∧
    Same (Hw (fun b => b = D) H3) (Hw (fun b => b = D) (upd (upd H3 p (.tup ys)) D (.lst (vs ++ [.ref p])))) ∧ Hw (fun b => b = D) (upd (upd H3 p (.tup ys)) D (.lst (vs ++ [.ref p]))) p = some (.tup ys) := by
  have e3 := s3 D _ eD
  have npD : p ≠ D := fun z => by rw [z, e3] at np; cases np
  have e4 : upd H3 p (.tup ys) D = some (.lst vs) := by rw [upd_ne (Ne.symm npD)]; exact e3
  rw [hw_upd (W := fun b => b = D) (a := D) rfl]
  refine ⟨e4, Same.hw (same_upd np), ?_⟩
  rw [Hw.at (W := fun b => b = D) npD]
  exact upd_same
/-- a def that may raise, called by its name -/
structure CalX (P : Program) (w : World) (K : PySem.W.Frag) (mg : Str → Option Value) (base : Heap) (k : Nat) (x : Str) (ps : List Str) (sp : Sp) : Prop where
  ex : ∃ f fd, mg x = some (.ref f) ∧ PySem.W.keepIn K (.ref f) = true ∧ Binds K fd ps [] ∧ FnOk P w K mg base (L2.CX P w) k f fd ps sp
theorem pe_calX {X : Cx} {k : Nat} {x : Str} {ps : List Str} {sp : Sp} {E : XK} {p pos : Pos} {e : Expr} {es : List Expr} {t : TA} (C : CalX X.prog X.w X.K X.mg X.base k x ps sp) (hr : Room k X.A) (hg : Gl X x) (hx : Passes (L2.CX X.prog X.w) X E) (ha : PA X (e :: es) t)
    (hdb : (x == ("__debug__" : Str)) = false := by decide) (he : starEach (e :: es) X.env = (false, eval e X.env) :: starEach es X.env := by rfl) (hpl : (backTo pos (starEach es X.env)).any (·.1) = false := by rfl) : PE X (.Call (.Name x p) (e :: es) [] pos) (tCall sp [] E t) := by
  obtain ⟨f, fd, a1, a2, a3, a4⟩ := C.ex
  exact pe_call a4 hr hg a1 a2 a3 .nil hx ha hdb he hpl
theorem CalX.mono {P : Program} {w : World} {K : PySem.W.Frag} {mg : Str → Option Value} {base : Heap} {j k : Nat} {x : Str} {ps : List Str} {sp : Sp} (C : CalX P w K mg base j x ps sp) (h : j ≤ k) : CalX P w K mg base k x ps sp := by
  obtain ⟨f, fd, a1, a2, a3, a4⟩ := C.ex
  exact ⟨f, fd, a1, a2, a3, a4.mono h⟩
abbrev sCheck : Stmt := topS 13
theorem scCheck : FnScope ["thing"] ["thing"] (defScope sCheck) := ⟨rfl, rfl, rfl, by decide +kernel, rfl, by decide +kernel, by decide +kernel⟩
def spCheck (P1 P2 C : Addr) : Sp := fun vs H Q E => ∃ v d, vs = [v] ∧ Rp H v d ∧ Tb P1 P2 H ∧ (isPlan d = false → ∀ H', Ex H H' → Tb P1 P2 H' → E (.ref C) none H') ∧ (isPlan d = true → ∀ H', Ex H H' → Tb P1 P2 H' → Q .non H')
section
variable {P : Program} {w : World} {K : PySem.W.Frag} {mg : Str → Option Value} {base : Heap}
theorem ok_check {f P1 P2 C : Addr} {fd : FuncData} (F : Fun K "check_plan" "check_plan" sCheck f fd) (XP : ExcC K mg "NoPlan" C) (CP : Cal P w K mg base 7 "is_plan" ["thing"] (spTab P1 P2 isPlan)) :
    FnOk P w K mg base (L2.CX P w) 8 f fd ["thing"] (spCheck P1 P2 C) := by
  refine F.okX scCheck (fun vs H Q E ⟨v, d, e, _⟩ => by rw [e]; rfl) (fun cdv A outer s H vs Q E hr h => ?_)
  obtain ⟨v, d, rfl, hR, hT, qE, q⟩ := h
  refine ⟨_, (pss_one (ps_if (pt_not (pt_val (pe_cal CP hr (by rfl) (pa_cons (pv 0) pa_nil)))) (pss_one (ps_raise rfl (takes_of rfl rfl rfl rfl) (pmk_own PySem.F.excBase_ValueError XP.x XP.g XP.k (raises_own XP.b XP.t) rfl))) pss_nil)), ?_⟩
  refine ⟨v, rfl, v, d, rfl, hR, hT, fun H1 e1 tb1 => ⟨isPlan d, rfl, ?_⟩⟩
  cases hp : isPlan d with
  | false => exact iteT (qE hp H1 e1 tb1)
  | true => exact iteF (q hp H1 e1 tb1)
theorem ok_pieces {f P1 P2 C : Addr} {fd : FuncData} (F : Fun K "pieces_of" "pieces_of" sPieces f fd) (T : Nm mg) (CK : CalX P w K mg base 8 "check_plan" ["thing"] (spCheck P1 P2 C)) :
    FnOk P w K mg base (L2.CX P w) 9 f fd ["plan"] (spPieces P1 P2 C) := by
  refine F.okX scPieces (fun vs H Q E ⟨v, d, e, _⟩ => by rw [e]; rfl) (fun cdv A outer s H vs Q E hr h => ?_)
  obtain ⟨v, d, rfl, hR, hT, qE, q⟩ := h
  have nd := scPieces.nd
  refine ⟨_, (pss_cons (ps_expr (pe_calX CK hr (by rfl) (passes_call (takes_of rfl rfl rfl rfl) fun _ _ _ _ h => h) (pa_cons (pv 0) pa_nil))) (PSs.nox (pss_cons (ps_set (i := 1) nd rfl (.inl rfl) (pe_lst pa_nil))
    (pss_cons (ps_set (i := 2) nd rfl (.inl rfl) pe_int)
    (pss_cons (ps_for PassesOwn.never rfl (pi_seqW (pv 0)) (pg_seq rfl (pgs_cons (pg_name (i := 3) nd rfl (.inl rfl)) (pgs_cons (pg_name (i := 4) nd rfl (.inl rfl)) pgs_nil))) (pss_cons (ps_set (i := 5) nd rfl (.inl rfl) (pe_ifExp (pt_cmp (pc_isN (pv 4))) pe_non (pe_op op_add (pv 2) (pv 4))))
    (pss_cons (ps_expr (pe_bm PySem.F.plainAttrs_list PySem.F.slot_list_append PySem.F.type_list_append mt_append (pv 1) (pa_cons (pe_tup (pa_cons (pv 2) (pa_cons (pv 5) (pa_cons (pe_callTy call_tuple_of (by rfl) T.tuple PyProof.Rows.boot_tuple (pa_cons (pv 3) pa_nil)) pa_nil)))) pa_nil)))
    (pss_one (ps_set (i := 2) nd rfl (.inl rfl) (pv 5))))))
    (pss_one (ps_ret (pv 1)))))))), ?_⟩
  refine ⟨v, rfl, v, d, rfl, hR, hT, qE, fun hp H1 e1 tb1 => ?_⟩
  · skip
    have hR1 := Rp.ex e1 d v hR
    obtain ⟨ds, hds⟩ : ∃ ds, rowsD d = some ds := by
      cases z : rowsD d with
      | none => unfold isPlan at hp; rw [z] at hp; cases hp
      | some ds => exact ⟨ds, rfl⟩
    have val : isPlan d = isPlanL ds := by unfold isPlan; rw [hds]
    have hp' := hp
    rw [val] at hp'
    unfold isPlanL at hp'
    simp only [Bool.and_eq_true, decide_eq_true_eq, Bool.not_eq_true'] at hp'
    obtain ⟨⟨⟨⟨l1, l8⟩, hpc⟩, hno⟩, hsum⟩ := hp'
    obtain ⟨a, xs, rfl, hA, hso⟩ := hR1.rows hds
    have hst : StSeq H1 a xs := ⟨hso⟩
    have hlen := hA.length
    refine ⟨Nat.zero_le _, fun D hD => ?_⟩
    have eD0 : (upd H1 D (.lst [])) D = some (.lst []) := upd_same
    have s0 : Same H1 (Hw (fun b => b = D) (upd H1 D (.lst []))) := fun b o e => by
      rw [Hw.at fun z => by rw [z, hD] at e; cases e]
      exact same_upd hD b o e
    generalize hH0 : upd H1 D (.lst []) = H0 at eD0 s0
    have ex0 : ∀ {H2 : Hp}, Same H1 (Hw (fun b => b = D) H2) → Ex H1 H2 := fun {H2} s => Ex.of fun b o e => Hw.sub _ _ _ _ (s b o e)
    have naD : a ≠ D := fun z => by
      rcases hso with z2 | z2 <;> (rw [z, hD] at z2; cases z2)
    have stay : ∀ {H2 : Hp} {o : HO}, Same H1 (Hw (fun b => b = D) H2) → H0 a = some o → H2 a = some o := fun {H2 o} s ho => by
      rw [← hH0, upd_ne naD] at ho
      exact Hw.sub _ _ _ _ (s _ _ ho)
    show tSeq _ _ _ [some (.ref a), some (.ref D), none, none, none, none] H0
    refine ⟨.ref a, rfl, a, xs, rfl, hst.ex (ex0 s0), fun J hJ => for_seq (K := K) (a := a) (xs := xs) (fun i σ H2 => ∃ fv y3 y4 y5 vs, σ = [some (.ref a), some (.ref D), some fv, y3, y4, y5] ∧ (i < ds.length → fv = .int (sumSnd (ds.take i))) ∧ Same H1 (Hw (fun b => b = D) H2) ∧
        H2 D = some (.lst vs) ∧ vs.length = i ∧ RpAll (Hw (fun b => b = D) H2) vs ((pcs 0 (ds.take i)).map pieceD))
      ⟨.int 0, none, none, none, [], rfl, fun _ => rfl, s0, eD0, rfl, .nil⟩ (fun i σ H2 ⟨_, _, _, _, _, _, _, e, _⟩ => hJ H2 fun o ho => stay e ho) (fun i x σ H2 hx ⟨fv, y3, y4, y5, vs, es, hfv, s2, eD, lv, hv⟩ => ?_) (fun σ H2 ⟨fv, y3, y4, y5, vs, es, _, s2, eD, lv, hv⟩ => ?_)⟩
    · subst es
      obtain ⟨dx, hdx, hRx⟩ := hA.get hx
      have li : i < ds.length := by
        obtain ⟨z, _⟩ := List.getElem?_eq_some_iff.mp hdx
        exact z
      obtain rfl := hfv li
      obtain ⟨b, vt, vm, t, m, rfl, hsb, hvt, hvm, hrx, htu, hma⟩ := piece_at2 (all_get hpc hdx) (Rp.sm s2 hRx)
      have hsnd : sndD dx = m := sndD_two hrx
      obtain ⟨ts, hts⟩ : ∃ ts, rowsD t = some ts := by
        cases z : rowsD t with
        | none => unfold isTurns at htu; rw [z] at htu; cases htu
        | some ts => exact ⟨ts, rfl⟩
      have htd : turnsD dx = ts := by unfold turnsD; rw [hrx]; show (rowsD t).getD [] = ts; rw [hts]; rfl
      obtain ⟨t0, zs, rfl, hzs, hto⟩ := hvt.rows hts
      refine ⟨b, [.ref t0, vm], rfl, hsb.ex (Ex.of (Hw.sub _ _)), rfl, .ref t0, [vm], rfl, vm, [], rfl, rfl, ?_⟩
      have hS := sum_step hdx
      have epc : (pcs 0 (ds.take (i + 1))).map pieceD = (pcs 0 (ds.take i)).map pieceD ++ [pieceD (sumSnd (ds.take i), pastO (sumSnd (ds.take i)) m, ts)] := by
        rw [List.take_add_one, hdx]
        show (pcs 0 (ds.take i ++ [dx])).map pieceD = _
        rw [pcs_snoc, List.map_append, Int.zero_add, hsnd, htd]
        rfl
      generalize hSS : sumSnd (ds.take i) = S at hS epc ⊢
      obtain ⟨pv, hp1, hp2, hc⟩ : ∃ pv, (∀ H3, Rp H3 pv (optD (pastO S m))) ∧ (i + 1 < ds.length → pv = .int (sumSnd (ds.take (i + 1)))) ∧ ((vm = .non ∧ pv = .non) ∨ ∃ k, vm = .int k ∧ pv = .int (S + k)) := by
        rw [hsnd] at hS
        cases hvm with
        | non =>
          refine ⟨.non, fun _ => .non, fun lt => ?_, .inl ⟨rfl, rfl⟩⟩
          have z := List.any_eq_false.mp hno dx (List.mem_of_getElem? (i := i) (by rw [List.getElem?_take_of_lt (by omega : i < ds.length - 1)]; exact hdx))
          rw [hsnd] at z
          exact absurd rfl z
        | int k => exact ⟨.int (S + k), fun _ => .int _, fun _ => by rw [hS]; rfl, .inr ⟨k, rfl, rfl⟩⟩
        | _ => cases hma
      have fin : ∀ (l : Addr) (H3 : Hp), Same H2 H3 → Hw (fun b => b = D) H3 l = some (.tup zs) → ∀ p, H3 p = none → upd H3 p (.tup [.int S, pv, .ref l]) D = some (.lst vs) ∧ Same H1 (Hw (fun b => b = D) (upd (upd H3 p (.tup [.int S, pv, .ref l])) D (.lst (vs ++ [.ref p])))) ∧
          RpAll (Hw (fun b => b = D) (upd (upd H3 p (.tup [.int S, pv, .ref l])) D (.lst (vs ++ [.ref p])))) (vs ++ [.ref p]) ((pcs 0 (ds.take (i + 1))).map pieceD) := fun l H3 s3 el p np => by
        obtain ⟨e4, s5, eb⟩ := pieces_put (ys := [.int S, pv, .ref l]) eD s3 np
        have s25 := Same.trans (Same.hw (W := fun b => b = D) s3) s5
        refine ⟨e4, Same.trans s2 s25, ?_⟩
        rw [epc]
        exact (RpAll.sm s25 hv).snoc (.tup eb (.cons (.int S) (.cons (hp1 _) (.cons (.tup (s5 _ _ el) (RpAll.sm s25 hzs)) .nil))))
      have l3 : ∀ l : Addr, [V.int S, pv, .ref l].length ≤ sizeLine := fun l => small_le (by show 3 ≤ 1000; decide)
      have lvs : vs.length < sizeLine := small1000 (by omega)
      have lv1 : ∀ p : Addr, (vs ++ [V.ref p]).length = i + 1 := fun p => by rw [List.length_append, lv]; rfl
      have nlD : ∀ {l : Addr}, H2 l = none → Hw (fun b => b = D) (upd H2 l (.tup zs)) l = some (.tup zs) := fun {l} nl => by
        rw [Hw.at (W := fun b => b = D) fun z => by rw [z, eD] at nl; cases nl]
        exact upd_same
      rcases hc with ⟨rfl, rfl⟩ | ⟨k, rfl, rfl⟩
      · refine ⟨.non, rfl, _, rfl, iteT ⟨.ref D, rfl, .inl ⟨rfl, _, SqL.of eD⟩, .int S, rfl, .non, rfl, .ref t0, rfl, t0, zs, rfl, ?_⟩⟩
        rcases hto with ht | ht
        · refine .inl ⟨SqL.of (Hw.sub _ _ _ _ ht), fun l nl => ⟨l3 l, fun p np => ?_⟩⟩
          obtain ⟨e4, a1, a2⟩ := fin l _ (same_upd nl) (nlD nl) p np
          exact ⟨D, vs, .ref p, rfl, rfl, e4, lvs, .non, rfl, .non, _, _, _, _, rfl, hp2, a1, upd_same, lv1 p, a2⟩
        · refine .inr ⟨SqT.of (Hw.sub _ _ _ _ ht), l3 t0, fun p np => ?_⟩
          obtain ⟨e4, a1, a2⟩ := fin t0 H2 (Same.refl H2) ht p np
          exact ⟨D, vs, .ref p, rfl, rfl, e4, lvs, .non, rfl, .non, _, _, _, _, rfl, hp2, a1, upd_same, lv1 p, a2⟩
      · refine ⟨.int k, rfl, _, rfl, iteF ⟨.int S, rfl, .int k, rfl, S, k, rfl, rfl, .ref D, rfl, .inl ⟨rfl, _, SqL.of eD⟩, .int S, rfl, .int (S + k), rfl, .ref t0, rfl, t0, zs, rfl, ?_⟩⟩
        rcases hto with ht | ht
        · refine .inl ⟨SqL.of (Hw.sub _ _ _ _ ht), fun l nl => ⟨l3 l, fun p np => ?_⟩⟩
          obtain ⟨e4, a1, a2⟩ := fin l _ (same_upd nl) (nlD nl) p np
          exact ⟨D, vs, .ref p, rfl, rfl, e4, lvs, .int (S + k), rfl, .int (S + k), _, _, _, _, rfl, hp2, a1, upd_same, lv1 p, a2⟩
        · refine .inr ⟨SqT.of (Hw.sub _ _ _ _ ht), l3 t0, fun p np => ?_⟩
          obtain ⟨e4, a1, a2⟩ := fin t0 H2 (Same.refl H2) ht p np
          exact ⟨D, vs, .ref p, rfl, rfl, e4, lvs, .int (S + k), rfl, .int (S + k), _, _, _, _, rfl, hp2, a1, upd_same, lv1 p, a2⟩
    · subst es
      rw [hlen, List.take_length] at hv
      have hpo : piecesOf d = pcs 0 ds := by unfold piecesOf; rw [hds]; rfl
      exact ⟨.ref D, rfl, q hp D H2 (e1.trans (ex0 s2)) (tb1.same fun b o e => Hw.sub _ _ _ _ (s2 b o e)) (e1.free hD) (by rw [hpo]; exact .lst eD (RpAll.sm (Hw.sub _ _) hv))⟩
end
end CL
set_option Elab.async false
set_option linter.all false
set_option maxRecDepth 100000
set_option maxHeartbeats 4000000
namespace CL
open PySem PySem.Spec PyProof.Rows L2 GE
abbrev sMany : Stmt := topS 15
theorem scMany : FnScope ["pieces"] ["pieces"] (defScope sMany) := ⟨rfl, rfl, rfl, by decide +kernel, rfl, by decide +kernel, by decide +kernel⟩
abbrev sPieceNo : Stmt := topS 16
theorem scPieceNo : FnScope ["pieces", "person", "at"] ["pieces", "person"] (defScope sPieceNo) := ⟨rfl, rfl, rfl, by decide +kernel, rfl, by decide +kernel, by decide +kernel⟩
abbrev sTurnAt : Stmt := topS 17
theorem scTurnAt : FnScope ["pieces", "person", "at", "first", "past", "turns"] ["pieces", "person"] (defScope sTurnAt) := ⟨rfl, rfl, rfl, by decide +kernel, rfl, by decide +kernel, by decide +kernel⟩
/-- the pieces stand as a list at a -/
structure PcsAt (H : Hp) (a : Addr) (ps : List PieceT) : Prop where
  ex : ∃ xs, H a = some (.lst xs) ∧ RpAll H xs (ps.map pieceD)
theorem PcsAt.of {H : Hp} {v : V} {ps : List PieceT} (h : Rp H v (.list (ps.map pieceD))) : ∃ a, v = .ref a ∧ PcsAt H a ps := by
  cases h with
  | lst h1 h2 => exact ⟨_, rfl, _, h1, h2⟩
def optV : Option Int → V
  | some i => .int i
  | none => .non
/-- a piece that stands -/
theorem pc_at {H : Hp} {a : Addr} {ps : List PieceT} {i : Nat} {pc : PieceT} (h : PcsAt H a ps) (e : ps[i]? = some pc) : ∃ xs b t zs, StSeq H a xs ∧ xs.length = ps.length ∧ xs[i]? = some (.ref b) ∧ H b = some (.tup [.int pc.1, optV pc.2.1, .ref t]) ∧ H t = some (.tup zs) ∧ RpAll H zs pc.2.2 := by
  obtain ⟨xs, h1, h2⟩ := h.ex
  have hl : xs.length = ps.length := by rw [h2.length, List.length_map]
  have hi : i < xs.length := by
    obtain ⟨z, _⟩ := List.getElem?_eq_some_iff.mp e
    omega
  obtain ⟨d, hd, hr⟩ := h2.get (List.getElem?_eq_getElem hi)
  obtain rfl : d = pieceD pc := by
    rw [List.getElem?_map, e] at hd
    exact (Option.some.inj hd).symm
  obtain ⟨f, po, ts⟩ := pc
  generalize hv : xs[i] = v at hr
  cases hr with
  | tup hb hys =>
    cases hys with
    | cons k1 k2 =>
      cases k2 with
      | cons k3 k4 =>
        cases k4 with
        | cons k5 k6 =>
          cases k6
          cases k1
          cases k5 with
          | tup ht hz =>
            have z : ∀ v, Rp H v (optD po) → v = optV po := fun v h => by cases po <;> cases h <;> rfl
            rw [z _ k3] at hb
            exact ⟨xs, _, _, _, ⟨.inl h1⟩, hl, by rw [List.getElem?_eq_getElem hi, hv], hb, ht, hz⟩
def spMany : Sp := fun vs H Q _ => ∃ a ps pc, vs = [.ref a] ∧ PcsAt H a (ps ++ [pc]) ∧ Q (optV pc.2.1) H
section
variable {P : Program} {w : World} {K : PySem.W.Frag} {mg : Str → Option Value} {base : Heap}
theorem ok_many {f : Addr} {fd : FuncData} (F : Fun K "many_in" "many_in" sMany f fd) : FnOk P w K mg base CX0 1 f fd ["pieces"] spMany := by
  refine F.ok scMany (fun vs H Q E ⟨a, ps, pc, e, _⟩ => by rw [e]; rfl) (fun cdv A outer s H vs Q E hr h => ?_)
  obtain ⟨a, ps, pc, rfl, hp, q⟩ := h
  refine ⟨_, pss_one (ps_ret (pe_ix ix_seq (pe_ix ix_seq (pv 0) (pe_un un_neg pe_int) (fun _ _ => rfl)) pe_int (fun _ _ => rfl))), ?_⟩
  obtain ⟨xs, b, t, zs, st, hl, hx, hb, _⟩ := pc_at (i := ps.length) (pc := pc) hp (by simp)
  obtain ⟨ys, z, rfl⟩ : ∃ ys z, xs = ys ++ [z] := ⟨xs.dropLast, xs.getLast (by intro z; rw [z] at hl; simp at hl), (List.dropLast_concat_getLast _).symm⟩
  have ey : ys.length = ps.length := by simpa using hl
  obtain rfl : z = .ref b := by
    rw [← ey] at hx
    simpa using hx
  have e1 : atI (ys ++ [V.ref b]) (-1) = some (.ref b) := atI_last _ _
  refine ⟨.ref a, rfl, 1, rfl, ?_⟩
  have fin : rIx K (.ref b) (.int 1) H Q := rix_of (i := 1) ⟨.inr hb⟩ rfl q
  rcases st.or with h | h
  · exact .inl ⟨a, _, -1, .ref b, rfl, rfl, SqL.of h, e1, fin⟩
  · exact .inr (.inl ⟨a, _, -1, .ref b, rfl, rfl, SqT.of h, e1, fin⟩)
/-- whether one of that number comes by the piece, or by one ahead of it -/
def comes (n : Int) (x : PieceT) : Bool := match x.2.1 with
  | none => true
  | some m => decide (n < m)
def spPieceNo : Sp := fun vs H Q _ => ∃ a n ps pc, vs = [.ref a, .int n] ∧ PcsAt H a ps ∧ ps.find? (comes n) = some pc ∧ ∀ i : Nat, ps[i]? = some pc → Q (.int (i : Int)) H
theorem ok_pieceNo {f : Addr} {fd : FuncData} (F : Fun K "piece_number" "piece_number" sPieceNo f fd) : FnOk P w K mg base CX0 1 f fd ["pieces", "person"] spPieceNo := by
  refine F.ok scPieceNo (fun vs H Q E ⟨a, n, ps, pc, e, _⟩ => by rw [e]; rfl) (fun cdv A outer s H vs Q E hr h => ?_)
  obtain ⟨a, n, ps, pc, rfl, hp, hf, q⟩ := h
  have nd := scPieceNo.nd
  refine ⟨_, (pss_cons (ps_set (i := 2) nd rfl (.inl rfl) pe_int) (pss_cons (ps_while PassesOwn.never (PW.pt (pw_and (pt_cmp (pc_notN (pe_ix ix_seq (pe_ix ix_seq (pv 0) (pv 2) (fun _ _ => rfl)) pe_int (fun _ _ => rfl)))) (pw_and1 (pt_cmpR op_le (pe_ix ix_seq (pe_ix ix_seq (pv 0) (pv 2) (fun _ _ => rfl)) pe_int (fun _ _ => rfl)) (pv 1) (nomark _))))) (pss_one (ps_aug (i := 2) nd rfl (.inl rfl) pe_int ip_add)))
    (pss_one (ps_ret (pv 2))))), ?_⟩
  refine ⟨fun m σ H' => ∃ i : Nat, m + i = ps.length ∧ σ = [some (.ref a), some (.int n), some (.int (i : Int))] ∧ H' = H ∧ (ps.drop i).find? (comes n) = some pc, ⟨ps.length, 0, rfl, rfl, rfl, hf⟩, fun m σ H' hW => ?_⟩
  obtain ⟨i, hm, rfl, rfl, hfi⟩ := hW
  have li : i < ps.length := by
    by_cases z : i < ps.length
    · exact z
    · rw [List.drop_eq_nil_of_le (by omega)] at hfi
      cases hfi
  obtain ⟨x, hx⟩ : ∃ x, ps[i]? = some x := ⟨_, List.getElem?_eq_getElem li⟩
  have ed : ps.drop i = x :: ps.drop (i + 1) := by
    rw [List.drop_eq_getElem_cons li]
    rw [List.getElem?_eq_getElem li] at hx
    rw [Option.some.inj hx]
  obtain ⟨xs, b, t, zs, st, hl, hxi, hb, ht, hz⟩ := pc_at hp hx
  have go : ∀ {R : VK}, R (optV x.2.1) H' → rIx K (.ref a) (.int (i : Int)) H' fun y H1 => rIx K y (.int 1) H1 R := fun {R} h => rix_of st hxi (rix_of (i := 1) ⟨.inr hb⟩ rfl h)
  rw [ed, List.find?_cons] at hfi
  refine ⟨.ref a, rfl, .int (i : Int), rfl, go ?_⟩
  cases hpo : x.2.1 with
  | none =>
    have hc : comes n x = true := by unfold comes; rw [hpo]
    rw [hc] at hfi
    obtain rfl : x = pc := Option.some.inj hfi
    exact ⟨_, rfl, iteF ⟨.int (i : Int), rfl, q i hx⟩⟩
  | some k =>
    refine ⟨_, rfl, iteT ⟨.ref a, rfl, .int (i : Int), rfl, go ?_⟩⟩
    rw [hpo]
    refine ⟨.int n, rfl, k, n, rfl, rfl, decide (k ≤ n), rfl, ?_⟩
    have hc : comes n x = decide (n < k) := by unfold comes; rw [hpo]
    rw [hc] at hfi
    refine ite2 (fun e => ?_) (fun e => ?_)
    · have e1 : decide (n < k) = false := decide_eq_false (by have := of_decide_eq_true e; omega)
      rw [e1] at hfi
      refine ⟨fun σ' H'' => σ' = [some (.ref a), some (.int n), some (.int ((i : Int) + 1))] ∧ H'' = H', fun σ' H'' z => ⟨m - 1, by omega, i + 1, by omega, z.1, z.2, hfi⟩, ?_⟩
      exact ⟨.int (i : Int), rfl, i, 1, rfl, rfl, rfl, rfl⟩
    · have e1 : decide (n < k) = true := decide_eq_true (by
        have : ¬ k ≤ n := fun z => e (decide_eq_true z)
        omega)
      rw [e1] at hfi
      obtain rfl : x = pc := Option.some.inj hfi
      exact ⟨.int (i : Int), rfl, q i hx⟩
/-- the number of its piece, its place in the round -/
def spTurnAt : Sp := fun vs H Q _ => ∃ a n ps pc, vs = [.ref a, .int n] ∧ PcsAt H a ps ∧ ps.find? (comes n) = some pc ∧ 0 < pc.2.2.length ∧ ∀ (i : Nat) p H', ps[i]? = some pc → Same H H' → H' p = some (.tup [.int (i : Int), .int ((n - pc.1) % (pc.2.2.length : Int))]) → Q (.ref p) H'
theorem ok_turnAt {f : Addr} {fd : FuncData} (F : Fun K "turn_at" "turn_at" sTurnAt f fd) (T : Nm mg) (CA : Cal P w K mg base 1 "piece_number" ["pieces", "person"] spPieceNo) : FnOk P w K mg base CX0 2 f fd ["pieces", "person"] spTurnAt := by
  refine F.ok scTurnAt (fun vs H Q E ⟨a, n, ps, pc, e, _⟩ => by rw [e]; rfl) (fun cdv A outer s H vs Q E hr h => ?_)
  obtain ⟨a, n, ps, pc, rfl, hp, hf, hl, q⟩ := h
  have nd := scTurnAt.nd
  refine ⟨_, (pss_cons (ps_set (i := 2) nd rfl (.inl rfl) (pe_cal CA hr (by rfl) (pa_cons (pv 0) (pa_cons (pv 1) pa_nil))))
    (pss_cons (ps_asg (pe_ix ix_seq (pv 0) (pv 2) (fun _ _ => rfl)) (pg_tup rfl (pgs_cons (pg_name (i := 3) nd rfl (.inl rfl)) (pgs_cons (pg_name (i := 4) nd rfl (.inl rfl)) (pgs_cons (pg_name (i := 5) nd rfl (.inl rfl)) pgs_nil)))))
    (pss_one (ps_ret (pe_tup (pa_cons (pv 2) (pa_cons (pe_op op_mod (pe_op op_sub (pv 1) (pv 3)) (pe_callB call_len_seq (by rfl) T.len PySem.boot_len (pa_cons (pv 5) pa_nil))) pa_nil))))))), ?_⟩
  refine ⟨.ref a, rfl, .int n, rfl, a, n, ps, pc, rfl, hp, hf, fun i hi => ?_⟩
  obtain ⟨xs, b, t, zs, st, _, hx, hb, ht, hz⟩ := pc_at hp hi
  have hzl := hz.length
  have st2 : StSeq H t zs := ⟨.inr ht⟩
  refine ⟨.ref a, rfl, .int (i : Int), rfl, rix_of st hx ?_⟩
  refine ⟨b, _, rfl, SqT.of hb, rfl, .int pc.1, _, rfl, optV pc.2.1, _, rfl, .ref t, _, rfl, rfl, ?_⟩
  refine ⟨.int (i : Int), rfl, .int n, rfl, .int pc.1, rfl, n, pc.1, rfl, rfl, .ref t, rfl, t, zs, rfl, st2.sq, n - pc.1, (zs.length : Int), rfl, rfl, by show (0 : Int) < (zs.length : Int); omega, small_le (by show 2 ≤ 1000; decide), fun p np => ?_⟩
  exact q i p _ hi (same_upd np) (by rw [upd_same, hzl])
def spPatAt : Sp := fun vs H Q _ => ∃ a n ps pc d, vs = [.ref a, .int n] ∧ PcsAt H a ps ∧ ps.find? (comes n) = some pc ∧ 0 < pc.2.2.length ∧ pc.2.2[((n - pc.1) % (pc.2.2.length : Int)).toNat]? = some d ∧ ∀ v H', Same H H' → Rp H' v d → Q v H'
end
end CL
set_option Elab.async false
set_option linter.all false
set_option maxRecDepth 100000
set_option maxHeartbeats 4000000
namespace CL
open PySem PySem.Spec PyProof.Rows L2 GE
/-- whether anything is the number of one that comes before past, or ever -/
def under : Option Int → Int → Bool
  | none, _ => true
  | some m, n => decide (n < m)
def personOk (past : Option Int) : PyData → Bool
  | .int n => decide (0 ≤ n) && under past n
  | _ => false
theorem personOk_int (past : Option Int) (n : Int) : personOk past (.int n) = (decide (0 ≤ n) && under past n) := rfl
def spCkP (C : Addr) : Sp := fun vs H Q E => ∃ a v ps pc d, vs = [.ref a, v] ∧ PcsAt H a (ps ++ [pc]) ∧ Rp H v d ∧ (personOk pc.2.1 d = false → ∀ H', Same H H' → E (.ref C) none H') ∧ (personOk pc.2.1 d = true → ∀ H', Same H H' → Q .non H')
/-- whether anything is a moment by which no more come than come -/
def upto : Option Int → Int → Bool
  | none, _ => true
  | some m, n => decide (n ≤ m)
def momentOk (past : Option Int) : PyData → Bool
  | .int n => decide (0 ≤ n) && decide (n ≤ GREAT) && upto past n
  | _ => false
theorem momentOk_int (past : Option Int) (n : Int) : momentOk past (.int n) = (decide (0 ≤ n) && decide (n ≤ GREAT) && upto past n) := rfl
def spCkM (C : Addr) : Sp := fun vs H Q E => ∃ a v ps pc d, vs = [.ref a, v] ∧ PcsAt H a (ps ++ [pc]) ∧ Rp H v d ∧ (momentOk pc.2.1 d = false → ∀ H', Same H H' → E (.ref C) none H') ∧ (momentOk pc.2.1 d = true → ∀ H', Same H H' → Q .non H')
section
variable {P : Program} {w : World} {K : PySem.W.Frag} {mg : Str → Option Value} {base : Heap}
/-- the patience of a person, as the pieces have it -/
def patD (ps : List PieceT) (n : Int) : Option PyData := (ps.find? (comes n)).bind fun pc => pc.2.2[((n - pc.1) % (pc.2.2.length : Int)).toNat]?
/-- each that comes has its piece, with a patience -/
def HasP (ps : List PieceT) (n : Int) (e : PyData) : Prop := ∃ pp, ps.find? (comes n) = some pp ∧ 0 < pp.2.2.length ∧ pp.2.2[((n - pp.1) % (pp.2.2.length : Int)).toNat]? = some e
def spPatOf (P1 P2 C C2 : Addr) : Sp := fun vs H Q E => ∃ v u d c, vs = [v, u] ∧ Rp H v d ∧ Rp H u c ∧ Tb P1 P2 H ∧ (isPlan d = false → ∀ H', Ex H H' → Tb P1 P2 H' → E (.ref C) none H') ∧
  (isPlan d = true → ∃ ps pc, piecesOf d = ps ++ [pc] ∧ (personOk pc.2.1 c = false → ∀ H', Ex H H' → Tb P1 P2 H' → E (.ref C2) none H') ∧
    (personOk pc.2.1 c = true → ∃ n e, c = .int n ∧ HasP (piecesOf d) n e ∧ ∀ x H', Ex H H' → Tb P1 P2 H' → Rp H' x e → Q x H'))
end
end CL
set_option Elab.async false
set_option linter.all false
set_option pp.maxSteps 400
set_option maxRecDepth 100000
set_option maxHeartbeats 4000000
namespace CL
open PySem PySem.Spec PyProof.Rows L2 GE
abbrev sWid : Stmt := topS 22
theorem scWid : FnScope ["turns", "start", "bound", "widths", "patience", "opens"] ["turns", "start", "bound"] (defScope sWid) := ⟨rfl, rfl, rfl, by decide +kernel, rfl, by decide +kernel, by decide +kernel⟩
abbrev sEnd : Stmt := topS 21
abbrev nEnd : List Str := ["piece", "start", "bound", "stop", "first", "past", "turns", "end", "fits", "patience", "last"]
theorem scEnd : FnScope nEnd ["piece", "start", "bound", "stop"] (defScope sEnd) := ⟨rfl, rfl, rfl, by decide +kernel, rfl, by decide +kernel, by decide +kernel⟩
theorem sz5000 : 5000 ≤ sizeLine := by decide
/-- how many a window holds that one of that patience opens at x, 0 where it opens none -/
def wd (b : Option Int) (x : Int) : PyData → Int
  | .int p => match b with
    | none => p + 1
    | some m => if x + p ≤ m then p + 1 else 0
  | _ => 0
theorem pat_cases {t : PyData} (h : isPatience t = true) : t = .none ∨ ∃ p : Int, t = .int p ∧ 0 ≤ p ∧ p ≤ GREAT := by
  cases t with
  | none => exact .inl rfl
  | int i =>
    have h' : (decide (0 ≤ i) && decide (i ≤ GREAT)) = true := h
    simp only [Bool.and_eq_true, decide_eq_true_eq] at h'
    exact .inr ⟨i, rfl, h'.1, h'.2⟩
  | _ => cases h
theorem wd_nn {b : Option Int} {x : Int} {t : PyData} (h : isPatience t = true) : 0 ≤ wd b x t := by
  rcases pat_cases h with rfl | ⟨p, rfl, h0, _⟩
  · exact Int.le_refl 0
  · cases b with
    | none => show 0 ≤ p + 1; omega
    | some m =>
      show 0 ≤ if x + p ≤ m then p + 1 else 0
      split <;> omega
/-- a round of patiences that stands -/
structure TurnsAt (H : Hp) (t : Addr) (ts : List PyData) : Prop where
  ex : ∃ zs, H t = some (.tup zs) ∧ RpAll H zs ts
  pat : ∀ x ∈ ts, isPatience x = true
  lo : 1 ≤ ts.length
  hi : ts.length ≤ 8
theorem TurnsAt.same {H H' : Hp} {t : Addr} {ts : List PyData} (h : TurnsAt H t ts) (s : Same H H') : TurnsAt H' t ts := by
  obtain ⟨⟨zs, h1, h2⟩, h3, h4, h5⟩ := h
  exact ⟨⟨zs, s _ _ h1, RpAll.sm s h2⟩, h3, h4, h5⟩
theorem pat_val {H : Hp} {v : V} {t : PyData} (h : Rp H v t) (g : isPatience t = true) : (t = .none ∧ v = .non) ∨ ∃ p : Int, t = .int p ∧ v = .int p ∧ 0 ≤ p ∧ p ≤ GREAT := by
  rcases pat_cases g with rfl | ⟨p, rfl, h0, h1⟩
  · cases h; exact .inl ⟨rfl, rfl⟩
  · cases h; exact .inr ⟨p, rfl, rfl, h0, h1⟩
def spWid : Sp := fun vs H Q _ => ∃ t ts, ∃ start : Int, ∃ b : Option Int, vs = [.ref t, .int start, optV b] ∧ TurnsAt H t ts ∧ ∀ q H', Same H H' → H q = none → H' q = some (.lst ((ts.map (wd b start)).map V.int)) → Q (.ref q) H'
/-- the last number by which the same turns open windows -/
structure EndOk (past : Option Int) (ts : List PyData) (start : Int) (b : Option Int) (stop e : Int) : Prop where
  lo : start ≤ e
  hi : e ≤ stop
  pst : ∀ m, past = some m → e < m
  fit : ∀ m, b = some m → ∀ p : Int, PyData.int p ∈ ts → start ≤ m - p → e ≤ m - p
  from_ : e = stop ∨ past = some (e + 1) ∨ ∃ m p, b = some m ∧ PyData.int p ∈ ts ∧ e = m - p
def spEnd : Sp := fun vs H Q _ => ∃ a t ts, ∃ f start stop : Int, ∃ b past : Option Int, vs = [.ref a, .int start, optV b, .int stop] ∧ H a = some (.tup [.int f, optV past, .ref t]) ∧ TurnsAt H t ts ∧ start ≤ stop ∧ (∀ m, past = some m → start < m) ∧ ∀ e H', Same H H' → EndOk past ts start b stop e → Q (.int e) H'
section
variable {P : Program} {w : World} {K : PySem.W.Frag} {mg : Str → Option Value} {base : Heap}
theorem ok_wid {f : Addr} {fd : FuncData} (F : Fun K "window_widths" "window_widths" sWid f fd) : FnOk P w K mg base CX0 1 f fd ["turns", "start", "bound"] spWid := by
  refine F.ok scWid (fun vs H Q E ⟨t, ts, st0, b, e, _⟩ => by rw [e]; rfl) (fun cdv A outer s H vs Q E hr h => ?_)
  obtain ⟨t, ts, start, b, rfl, hT, q⟩ := h
  have nd := scWid.nd
  have sz := sz5000
  refine ⟨_, (pss_cons (ps_set (i := 3) nd rfl (.inl rfl) (pe_lst pa_nil))
    (pss_cons (ps_for PassesOwn.never rfl (pi_tup (pv 0)) (pg_name (i := 4) nd rfl (.inl rfl))
    (pss_cons (ps_set (i := 5) nd rfl (.inl rfl) (pe_and (pe_cmp (pc_notN (pv 4)) rfl) (pe_one (pe_or (pe_cmp (pc_isN (pv 2)) rfl) (pe_one (pe_cmpR op_le (pe_op op_add (pv 1) (pv 4)) (pv 2) (nomark _)))))))
    (pss_one (ps_expr (pe_bm PySem.F.plainAttrs_list PySem.F.slot_list_append PySem.F.type_list_append mt_append (pv 3) (pa_cons (pe_ifExp (pt_val (pv 5)) (pe_op op_add (pv 4) pe_int) pe_int) pa_nil))))))
    (pss_one (ps_ret (pv 3))))), ?_⟩
  obtain ⟨⟨zs, ht, hz⟩, hpat, lo, hi⟩ := hT
  refine ⟨Nat.zero_le _, fun D nD => ?_⟩
  have s0 := same_upd (o := .lst []) nD
  have e0 : (upd H D (.lst [])) D = some (.lst (([] : List Int).map V.int)) := upd_same
  generalize upd H D (.lst []) = H0 at s0 e0
  refine ⟨.ref t, rfl, t, rfl, ⟨zs, SqT.of (s0 _ _ ht)⟩, for_tup (xs := zs) (fun i σ H2 => ∃ y4 y5, σ = [some (.ref t), some (.int start), some (optV b), some (.ref D), y4, y5] ∧ Same H H2 ∧ H2 D = some (.lst (((ts.take i).map (wd b start)).map V.int)))
    ⟨none, none, rfl, s0, e0⟩ (fun i σ H2 _ ⟨_, _, _, s, _⟩ => SqT.of (s _ _ ht)) (fun i x σ H2 hx ⟨y4, y5, eσ, s2, eD⟩ => ?_) (fun σ H2 ⟨y4, y5, eσ, s2, eD⟩ => ?_)⟩
  · subst eσ
    obtain ⟨d, hd, hR⟩ := hz.get hx
    have ld : i < ts.length := (List.getElem?_eq_some_iff.mp hd).1
    have hlen : (((ts.take i).map (wd b start)).map V.int).length < sizeLine := by
      rw [List.length_map, List.length_map, List.length_take]
      omega
    have fin : ∀ {y5 : V}, ∃ y4 y5', ([some (.ref t), some (.int start), some (optV b), some (.ref D), some x, some y5] : L2.St) = [some (.ref t), some (.int start), some (optV b), some (.ref D), y4, y5'] ∧ Same H (upd H2 D (.lst (((ts.take i).map (wd b start)).map V.int ++ [.int (wd b start d)]))) ∧
        (upd H2 D (.lst (((ts.take i).map (wd b start)).map V.int ++ [.int (wd b start d)]))) D = some (.lst (((ts.take (i + 1)).map (wd b start)).map V.int)) := fun {y5} => by
      refine ⟨_, _, rfl, fun c o hc => ?_, ?_⟩
      · rw [upd_ne (fun z => by rw [z, nD] at hc; cases hc)]
        exact s2 _ _ hc
      · rw [upd_same, List.take_add_one, hd, List.map_append, List.map_append]
        rfl
    rcases pat_val hR (hpat d (List.mem_of_getElem? hd)) with ⟨rfl, rfl⟩ | ⟨p, rfl, rfl, h0, h1⟩
    · refine ⟨.non, rfl, false, rfl, iteF ?_⟩
      exact ⟨.ref D, rfl, .inl ⟨rfl, _, SqL.of eD⟩, .bl false, rfl, false, rfl, iteF ⟨D, _, .int 0, rfl, rfl, eD, hlen, fin⟩⟩
    · refine ⟨.int p, rfl, true, rfl, iteT ?_⟩
      cases b with
      | none =>
        refine ⟨.non, rfl, true, rfl, iteT ?_⟩
        exact ⟨.ref D, rfl, .inl ⟨rfl, _, SqL.of eD⟩, .bl true, rfl, true, rfl, iteT ⟨.int p, rfl, p, 1, rfl, rfl, D, _, .int (p + 1), rfl, rfl, eD, hlen, fin⟩⟩
      | some m =>
        refine ⟨.int m, rfl, false, rfl, iteF ?_⟩
        refine ⟨.int start, rfl, .int p, rfl, start, p, rfl, rfl, .int m, rfl, start + p, m, rfl, rfl, ?_⟩
        refine ⟨.ref D, rfl, .inl ⟨rfl, _, SqL.of eD⟩, .bl (decide (start + p ≤ m)), rfl, _, rfl, ?_⟩
        by_cases c : start + p ≤ m
        · have e : wd (some m) start (.int p) = p + 1 := if_pos c
          rw [e] at fin
          rw [decide_eq_true c]
          exact iteT ⟨.int p, rfl, p, 1, rfl, rfl, D, _, .int (p + 1), rfl, rfl, eD, hlen, fin⟩
        · have e : wd (some m) start (.int p) = 0 := if_neg c
          rw [e] at fin
          rw [decide_eq_false c]
          exact iteF ⟨D, _, .int 0, rfl, rfl, eD, hlen, fin⟩
  · subst eσ
    have lz : zs.length = ts.length := hz.length
    rw [lz, List.take_length] at eD
    exact ⟨.ref D, rfl, q D H2 s2 nD eD⟩
def fitsOf (m : Int) (ts : List PyData) : List Int := ts.filterMap fun
  | .int p => some (m - p)
  | _ => none
theorem mem_fits {m x : Int} {ts : List PyData} : x ∈ fitsOf m ts ↔ ∃ p : Int, PyData.int p ∈ ts ∧ x = m - p := by
  unfold fitsOf
  rw [List.mem_filterMap]
  constructor
  · rintro ⟨d, hd, h⟩
    cases d <;> first | (cases h; exact ⟨_, hd, rfl⟩) | cases h
  · rintro ⟨p, hp, rfl⟩
    exact ⟨.int p, hp, rfl⟩
theorem ok_end {f : Addr} {fd : FuncData} (F : Fun K "stretch_end" "stretch_end" sEnd f fd) (hmin : mg "min" = none) : FnOk P w K mg base CX0 1 f fd ["piece", "start", "bound", "stop"] spEnd := by
  refine F.ok scEnd (fun vs H Q E ⟨a, t, ts, f, st0, stop, b, past, e, _⟩ => by rw [e]; rfl) (fun cdv A outer s H vs Q E hr h => ?_)
  obtain ⟨a, t, ts, ff, start, stop, b, past, rfl, ha, hT, hss, hsp, q⟩ := h
  have nd := scEnd.nd
  have sz := sz5000
  refine ⟨_, (pss_cons (ps_asg (pv 0) (pg_tup rfl (pgs_cons (pg_name (i := 4) nd rfl (.inl rfl)) (pgs_cons (pg_name (i := 5) nd rfl (.inl rfl)) (pgs_cons (pg_name (i := 6) nd rfl (.inl rfl)) pgs_nil)))))
    (pss_cons (ps_set (i := 7) nd rfl (.inl rfl) (pe_ifExp (pt_cmp (pc_isN (pv 5))) (pv 3) (pe_callB (call_min2 rfl) (by rfl) hmin (by decide +kernel) (pa_cons (pv 3) (pa_cons (pe_op op_sub (pv 5) pe_int) pa_nil)))))
    (pss_cons (ps_if (pt_cmp (pc_isN (pv 2))) (pss_one (ps_ret (pv 7))) pss_nil)
    (pss_cons (ps_setLc (i := 8) (own := [("patience", 9)]) (g := gName 9) rfl nd rfl rfl (sw_true rfl rfl rfl (by decide +kernel)) (pi_tup (pv 6)) (blkOk_by (N := nEnd) (sc := defScope sEnd) (by decide +kernel))
        (fun _ _ _ _ _ => pg_name (i := 9) nd rfl (.inl rfl) (.inr rfl)) (fun _ _ _ _ _ => pts_one (pt_cmp (pc_notN (pv 9)))) (fun _ _ _ _ _ => (pe_op op_sub (pv 2) (pv 9))))
    (pss_one (ps_ret (pe_callB (cr_min rfl) (by rfl) hmin (by decide +kernel) (pa_cons (pe_op op_cat (pe_lst (pa_cons (pv 7) pa_nil)) (pe_lc (own := [("last", 10)]) (g := gName 10) rfl nd (pi_list (pv 8)) (blkOk_by (N := nEnd) (sc := defScope sEnd) (by decide +kernel))
        (fun _ _ _ _ _ => pg_name (i := 10) nd rfl (.inl rfl) (.inr rfl)) (fun _ _ _ _ _ => pts_one (pt_cmpR op_ge (pv 10) (pv 1) (nomark _))) (fun _ _ _ _ _ => (pv 10)))) pa_nil)))))))), ?_⟩
  obtain ⟨⟨zs, ht, hz⟩, hpat, lo, hi⟩ := hT
  refine ⟨.ref a, rfl, a, _, rfl, SqT.of ha, rfl, .int ff, _, rfl, optV past, _, rfl, .ref t, _, rfl, rfl, ?_⟩
  obtain ⟨e1, h1, h2, h3, h4, hev⟩ : ∃ e1 : Int, start ≤ e1 ∧ e1 ≤ stop ∧ (∀ m, past = some m → e1 < m) ∧ (e1 = stop ∨ past = some (e1 + 1)) ∧ ∀ {σ : L2.St} {R : VK}, σ[5]? = some (some (optV past)) → σ[3]? = some (some (.int stop)) → R (.int e1) H →
      (tIf (tB (tIsN (tVar 5))) (tVar 3) (tCB (fun xs H Q => ∃ i j, xs = [.int i, .int j] ∧ Q (.int (if j < i then j else i)) H) (tCons (tVar 3) (tCons (tOp (rI0 fun i j => .int (i - j)) (tVar 5) (tC (.int 1))) tNil)))) σ H R := by
    cases past with
    | none => exact ⟨stop, hss, Int.le_refl _, fun m e => (by cases e), .inl rfl, fun {σ R} h5 h3 h => ⟨.non, h5, _, rfl, iteT ⟨.int stop, h3, h⟩⟩⟩
    | some m =>
      have hm := hsp m rfl
      by_cases c : m - 1 < stop
      · exact ⟨m - 1, by omega, by omega, fun m' e => (by cases e; omega), .inr (by rw [show m - 1 + 1 = m by omega]), fun {σ R} h5 h3 h => ⟨.int m, h5, _, rfl, iteF ⟨.int stop, h3, .int m, h5, m, 1, rfl, rfl, stop, m - 1, rfl, by rw [if_pos c]; exact h⟩⟩⟩
      · exact ⟨stop, hss, Int.le_refl _, fun m' e => (by cases e; omega), .inl rfl, fun {σ R} h5 h3 h => ⟨.int m, h5, _, rfl, iteF ⟨.int stop, h3, .int m, h5, m, 1, rfl, rfl, stop, m - 1, rfl, by rw [if_neg c]; exact h⟩⟩⟩
  refine hev rfl rfl ?_
  cases b with
  | none =>
    refine ⟨.non, rfl, _, rfl, iteT ⟨.int e1, rfl, q e1 H (Same.refl H) ⟨h1, h2, h3, fun m e => (by cases e), ?_⟩⟩⟩
    rcases h4 with h4 | h4
    · exact .inl h4
    · exact .inr (.inl h4)
  | some m =>
    refine ⟨.int m, rfl, _, rfl, iteF ?_⟩
    refine ⟨.ref t, rfl, t, rfl, ⟨zs, SqT.of ht⟩, fun D nD => ?_⟩
    refine lc_tup (xs := zs) (fun i H5 => H5 = upd H D (.lst ((fitsOf m (ts.take i)).map V.int))) rfl (fun i H5 _ e => by rw [e]; exact SqT.of (same_upd nD _ _ ht)) (fun i x H5 hx e => ?_) (fun H5 e => ?_)
    · subst e
      obtain ⟨d, hd, hR⟩ := hz.get hx
      have hl : ((fitsOf m (ts.take i)).map V.int).length < sizeLine := by
        rw [List.length_map]
        have h1 := List.length_filterMap_le (fun | PyData.int p => some (m - p) | _ => none) (ts.take i)
        have h2 : (ts.take i).length ≤ 8 := by rw [List.length_take]; omega
        have h3 : (fitsOf m (ts.take i)).length ≤ (ts.take i).length := h1
        omega
      rcases pat_val hR (hpat d (List.mem_of_getElem? hd)) with ⟨rfl, rfl⟩ | ⟨p, rfl, rfl, _, _⟩
      · refine ⟨rfl, .non, rfl, _, rfl, iteF ?_⟩
        rw [List.take_add_one, hd]
        unfold fitsOf
        rw [List.filterMap_append]
        show _ = upd H D (.lst ((_ ++ []).map V.int))
        rw [List.append_nil]
      · refine ⟨rfl, .int p, rfl, _, rfl, iteT ⟨.int m, rfl, .int p, rfl, m, p, rfl, rfl, _, upd_same, hl, ?_⟩⟩
        rw [upd_upd, List.take_add_one, hd]
        unfold fitsOf
        rw [List.filterMap_append, List.map_append]
        rfl
    · have lz : zs.length = ts.length := hz.length
      rw [lz, List.take_length] at e
      subst e
      have sD := same_upd (o := .lst ((fitsOf m ts).map V.int)) nD
      have eD : (upd H D (.lst ((fitsOf m ts).map V.int))) D = some (.lst ((fitsOf m ts).map V.int)) := upd_same
      generalize upd H D (.lst ((fitsOf m ts).map V.int)) = H2 at sD eD
      have hfl : (fitsOf m ts).length ≤ 8 := by
        have h1 := List.length_filterMap_le (fun | PyData.int p => some (m - p) | _ => none) ts
        have h3 : (fitsOf m ts).length ≤ ts.length := h1
        omega
      refine ⟨.int e1, rfl, small_le (by show 1 ≤ 1000; decide), fun L nL => ?_⟩
      have sL := same_upd (o := .lst [.int e1]) nL
      have eL : (upd H2 L (.lst [.int e1])) L = some (.lst [.int e1]) := upd_same
      generalize upd H2 L (.lst [.int e1]) = H3 at sL eL
      have eD3 := sL _ _ eD
      refine ⟨.ref D, rfl, D, rfl, ⟨_, SqL.of eD3⟩, fun D2 nD2 => ?_⟩
      refine lc_list (xs := (fitsOf m ts).map V.int) (fun i H5 => H5 = upd H3 D2 (.lst ((((fitsOf m ts).take i).filter fun x => decide (start ≤ x)).map V.int))) rfl (fun i H5 _ e => by rw [e]; exact SqL.of (same_upd nD2 _ _ eD3)) (fun i x H5 hx e => ?_) (fun H5 e => ?_)
      · subst e
        obtain ⟨y, hy, rfl⟩ : ∃ y, (fitsOf m ts)[i]? = some y ∧ x = .int y := by
          rw [List.getElem?_map] at hx
          cases z : (fitsOf m ts)[i]? with
          | none => rw [z] at hx; cases hx
          | some y => rw [z] at hx; cases hx; exact ⟨y, rfl, rfl⟩
        have hl : ((((fitsOf m ts).take i).filter fun x => decide (start ≤ x)).map V.int).length < sizeLine := by
          rw [List.length_map]
          have h1 := List.length_filter_le (fun x => decide (start ≤ x)) ((fitsOf m ts).take i)
          rw [List.length_take] at h1
          omega
        refine ⟨rfl, .int y, rfl, .int start, rfl, y, start, rfl, rfl, _, rfl, ?_⟩
        rw [List.take_add_one, hy, List.filter_append]
        by_cases c : start ≤ y
        · rw [decide_eq_true c]
          refine iteT ⟨.int y, rfl, _, upd_same, hl, ?_⟩
          rw [upd_upd]
          show _ = upd H3 D2 (.lst (((_ : List Int) ++ List.filter (fun x => decide (start ≤ x)) [y]).map V.int))
          rw [List.filter_cons, if_pos (by simpa using c), List.map_append]
          rfl
        · rw [decide_eq_false c]
          refine iteF ?_
          show _ = upd H3 D2 (.lst (((_ : List Int) ++ List.filter (fun x => decide (start ≤ x)) [y]).map V.int))
          rw [List.filter_cons, if_neg (by simpa using c)]
          show _ = upd H3 D2 (.lst (((_ : List Int) ++ []).map V.int))
          rw [List.append_nil]
      · have e' : H5 = upd H3 D2 (.lst (((fitsOf m ts).filter fun x => decide (start ≤ x)).map V.int)) := by rw [e, List.length_map, List.take_length]
        clear e
        subst e'
        have s4 := same_upd (o := .lst (((fitsOf m ts).filter fun x => decide (start ≤ x)).map V.int)) nD2
        have e4 : (upd H3 D2 (.lst (((fitsOf m ts).filter fun x => decide (start ≤ x)).map V.int))) D2 = some (.lst (((fitsOf m ts).filter fun x => decide (start ≤ x)).map V.int)) := upd_same
        generalize upd H3 D2 (.lst (((fitsOf m ts).filter fun x => decide (start ≤ x)).map V.int)) = H4 at s4 e4
        have hfl2 := List.length_filter_le (fun x => decide (start ≤ x)) (fitsOf m ts)
        refine ⟨L, D2, _, _, rfl, rfl, s4 _ _ eL, e4, by rw [List.length_map]; show 1 + _ ≤ sizeLine; omega, fun M nM => ?_⟩
        have s5 := same_upd (o := .lst ([.int e1] ++ ((fitsOf m ts).filter fun x => decide (start ≤ x)).map V.int)) nM
        have e5 : (upd H4 M (.lst ([.int e1] ++ ((fitsOf m ts).filter fun x => decide (start ≤ x)).map V.int))) M = some (.lst ((e1 :: (fitsOf m ts).filter fun x => decide (start ≤ x)).map V.int)) := upd_same
        generalize upd H4 M (.lst ([.int e1] ++ ((fitsOf m ts).filter fun x => decide (start ≤ x)).map V.int)) = H6 at s5 e5
        refine ⟨M, e1 :: (fitsOf m ts).filter (fun x => decide (start ≤ x)), rfl, SqL.of e5, Nat.succ_pos _, fun e hm hle => ?_⟩
        have hle1 : e ≤ e1 := hle e1 List.mem_cons_self
        refine q e H6 (((sD.trans sL).trans s4).trans s5) ⟨?_, by omega, fun m' e' => by have := h3 m' e'; omega, fun m' e' p hp hs => ?_, ?_⟩
        · rcases List.mem_cons.mp hm with rfl | hm
          · exact h1
          · simpa using (List.mem_filter.mp hm).2
        · cases e'
          exact hle (m - p) (List.mem_cons_of_mem _ (List.mem_filter.mpr ⟨mem_fits.mpr ⟨p, hp, rfl⟩, by simpa using hs⟩))
        · rcases List.mem_cons.mp hm with rfl | hm
          · rcases h4 with h4 | h4
            · exact .inl h4
            · exact .inr (.inl h4)
          · obtain ⟨p, hp, e'⟩ := mem_fits.mp (List.mem_filter.mp hm).1
            exact .inr (.inr ⟨m, p, rfl, hp, e'⟩)
end
end CL
set_option Elab.async false
set_option linter.all false
set_option pp.maxSteps 400
set_option maxRecDepth 100000
set_option maxHeartbeats 4000000
namespace CL
open PySem PySem.Spec PyProof.Rows L2 GE
abbrev sSteps : Stmt := topS 23
abbrev nSteps : List Str := ["piece", "start", "bound", "end", "first", "past", "turns", "widths", "steps", "met", "ahead", "turn"]
theorem scSteps : FnScope nSteps ["piece", "start", "bound", "end"] (defScope sSteps) := ⟨rfl, rfl, rfl, by decide +kernel, rfl, by decide +kernel, by decide +kernel⟩
theorem hu1 {k : Nat} {A : Around} (hr : Room k A) : A.units + 1 < cLine := by have := hr.un; omega
/-- whom a step meets, how many its window holds -/
abbrev StepT := Int × Int
def Pth (W : Int → Int → Prop) : Int → List StepT → Int → Prop
  | a, [], c => a = c
  | a, s :: ss, c => s.1 = a ∧ W s.1 s.2 ∧ Pth W (a + max s.2 1) ss c
theorem Pth.snoc {W : Int → Int → Prop} : ∀ {S : List StepT} {a x w : Int}, Pth W a S x → W x w → Pth W a (S ++ [(x, w)]) (x + max w 1)
  | [], a, x, w, h, hw => by
    obtain rfl : a = x := h
    exact ⟨rfl, hw, rfl⟩
  | s :: S, a, x, w, h, hw => ⟨h.1, h.2.1, Pth.snoc h.2.2 hw⟩
theorem Pth.split {W : Int → Int → Prop} : ∀ {S T : List StepT} {a c : Int}, Pth W a (S ++ T) c → ∃ m, Pth W a S m ∧ Pth W m T c
  | [], T, a, c, h => ⟨a, rfl, h⟩
  | s :: S, T, a, c, h => by
    obtain ⟨m, h1, h2⟩ := Pth.split h.2.2
    exact ⟨m, ⟨h.1, h.2.1, h1⟩, h2⟩
theorem Pth.le {W : Int → Int → Prop} : ∀ {S : List StepT} {a c : Int}, Pth W a S c → a + S.length ≤ c ∧ ∀ s ∈ S, a ≤ s.1 ∧ s.1 + max s.2 1 ≤ c ∧ W s.1 s.2
  | [], a, c, h => by
    obtain rfl : a = c := h
    exact ⟨by simp, fun s hs => nomatch hs⟩
  | s :: S, a, c, h => by
    obtain ⟨h1, h2⟩ := Pth.le h.2.2
    refine ⟨by rw [List.length_cons]; omega, fun x hx => ?_⟩
    rcases List.mem_cons.mp hx with rfl | hx
    · have := h.1
      exact ⟨by omega, by omega, h.2.1⟩
    · obtain ⟨a1, a2, a3⟩ := h2 x hx
      exact ⟨by omega, a2, a3⟩
/-- the place in the round -/
def tnI (f : Int) (L : Nat) (x : Int) : Int := (x - f) % (L : Int)
/-- on a stretch -/
def Wst (f : Int) (ts : List PyData) (b : Option Int) (start e : Int) (x w : Int) : Prop := x ≤ e ∧ ∃ t, ts[(tnI f ts.length x).toNat]? = some t ∧ w = wd b start t
structure Stp (f : Int) (ts : List PyData) (b : Option Int) (start e : Int) (once again : List StepT) (c : Int) : Prop where
  path : Pth (Wst f ts b start e) start (once ++ again) c
  ne : once ++ again ≠ []
  len : (once ++ again).length ≤ 8
  nil : again = [] → e < c
  rep : ∀ s T, again = s :: T → c ≤ e ∧ tnI f ts.length c = tnI f ts.length s.1
/-- steps that stand, as tuples -/
structure StAt (H : Hp) (vs : List V) (S : List StepT) : Prop where
  len : vs.length = S.length
  at_ : ∀ (i : Nat) (s : StepT), S[i]? = some s → ∃ b, vs[i]? = some (.ref b) ∧ H b = some (.tup [.int s.1, .int s.2])
/-- tuples stay -/
def KT (H H' : Hp) : Prop := ∀ b xs, H b = some (.tup xs) → H' b = some (.tup xs)
theorem KT.of {H H' : Hp} (s : Same H H') : KT H H' := fun b xs h => s b _ h
theorem KT.trans {H H1 H2 : Hp} (a : KT H H1) (b : KT H1 H2) : KT H H2 := fun c xs h => b c xs (a c xs h)
theorem KT.upd {H : Hp} {p : Addr} {o : HO} (n : ∀ xs, H p ≠ some (.tup xs)) : KT H (upd H p o) := fun b xs h => by
  rw [upd_ne (fun z => n xs (by rw [← z]; exact h))]
  exact h
theorem StAt.kt {H H' : Hp} {vs : List V} {S : List StepT} (h : StAt H vs S) (k : KT H H') : StAt H' vs S := ⟨h.len, fun i s hs => by
  obtain ⟨b, h1, h2⟩ := h.at_ i s hs
  exact ⟨b, h1, k _ _ h2⟩⟩
theorem StAt.snoc {H : Hp} {vs : List V} {S : List StepT} {b : Addr} {s : StepT} (h : StAt H vs S) (hb : H b = some (.tup [.int s.1, .int s.2])) : StAt H (vs ++ [.ref b]) (S ++ [s]) := ⟨by rw [List.length_append, List.length_append, h.len]; rfl, fun i x hx => by
  by_cases c : i < S.length
  · rw [List.getElem?_append_left c] at hx
    obtain ⟨b, h1, h2⟩ := h.at_ i x hx
    exact ⟨b, by rw [List.getElem?_append_left (by rw [h.len]; exact c)]; exact h1, h2⟩
  · have hi : i = S.length := by
      obtain ⟨l, _⟩ := List.getElem?_eq_some_iff.mp hx
      rw [List.length_append, List.length_singleton] at l
      omega
    subst hi
    rw [List.getElem?_concat_length] at hx
    cases hx
    exact ⟨b, by rw [← h.len]; exact List.getElem?_concat_length, hb⟩⟩
theorem StAt.take {H : Hp} {vs : List V} {S : List StepT} (k : Nat) (h : StAt H vs S) : StAt H (vs.take k) (S.take k) := ⟨by rw [List.length_take, List.length_take, h.len], fun i s hs => by
  rw [List.getElem?_take] at hs
  split at hs
  · obtain ⟨b, h1, h2⟩ := h.at_ i s hs
    exact ⟨b, by rw [List.getElem?_take, if_pos ‹_›]; exact h1, h2⟩
  · cases hs⟩
theorem StAt.drop {H : Hp} {vs : List V} {S : List StepT} (k : Nat) (h : StAt H vs S) : StAt H (vs.drop k) (S.drop k) := ⟨by rw [List.length_drop, List.length_drop, h.len], fun i s hs => by
  rw [List.getElem?_drop] at hs
  obtain ⟨b, h1, h2⟩ := h.at_ (k + i) s hs
  exact ⟨b, by rw [List.getElem?_drop]; exact h1, h2⟩⟩
theorem pig : ∀ (n : Nat) (l : List Int), l.Nodup → (∀ x ∈ l, 0 ≤ x ∧ x < (n : Int)) → l.length ≤ n
  | 0, [], _, _ => Nat.le_refl 0
  | 0, x :: l, _, h => by have := h x List.mem_cons_self; omega
  | n + 1, l, nd, h => by
    by_cases c : (n : Int) ∈ l
    · have e := List.length_erase_of_mem c
      have ih := pig n (l.erase (n : Int)) (nd.erase _) fun x hx => by
        have h1 := (nd.mem_erase_iff).mp hx
        have := h x h1.2
        have := h1.1
        omega
      omega
    · have ih := pig n l nd fun x hx => by
        have := h x hx
        have : x ≠ (n : Int) := fun z => c (by rw [← z]; exact hx)
        omega
      omega
def spSteps : Sp := fun vs H Q _ => ∃ a t ts, ∃ f start e : Int, ∃ b past : Option Int, vs = [.ref a, .int start, optV b, .int e] ∧ H a = some (.tup [.int f, optV past, .ref t]) ∧ TurnsAt H t ts ∧ start ≤ e ∧
  ∀ pr A B va vb once again c H', Same H H' → H A = none → H B = none → H' pr = some (.tup [.ref A, .ref B]) → H' A = some (.lst va) → H' B = some (.lst vb) → StAt H' va once → StAt H' vb again → Stp f ts b start e once again c → Q (.ref pr) H'
section
variable {P : Program} {w : World} {K : PySem.W.Frag} {mg : Str → Option Value} {base : Heap}
theorem ok_steps {f : Addr} {fd : FuncData} (F : Fun K "stretch_steps" "stretch_steps" sSteps f fd) (T : Nm mg) (hmax : mg "max" = none) (CW : Cal P w K mg base 1 "window_widths" ["turns", "start", "bound"] spWid) : FnOk P w K mg base CX0 2 f fd ["piece", "start", "bound", "end"] spSteps := by
  refine F.ok scSteps (fun vs H Q E ⟨a, t, ts, f, st0, e0, b, past, e, _⟩ => by rw [e]; rfl) (fun cdv A outer s H vs Q E hr h => ?_)
  obtain ⟨a, t, ts, ff, start, e, b, past, rfl, ha, hT, hse, q⟩ := h
  have nd := scSteps.nd
  have sz := sz5000
  have hu := hu1 hr
  refine ⟨_, (pss_cons (ps_asg (pv 0) (pg_tup rfl (pgs_cons (pg_name (i := 4) nd rfl (.inl rfl)) (pgs_cons (pg_name (i := 5) nd rfl (.inl rfl)) (pgs_cons (pg_name (i := 6) nd rfl (.inl rfl)) pgs_nil)))))
    (pss_cons (ps_set (i := 7) nd rfl (.inl rfl) (pe_cal (CW.mono (by decide)) hr (by rfl) (pa_cons (pv 6) (pa_cons (pv 1) (pa_cons (pv 2) pa_nil)))))
    (pss_cons (ps_set (i := 8) nd rfl (.inl rfl) (pe_lst pa_nil))
    (pss_cons (ps_set (i := 9) nd rfl (.inl rfl) pe_dnewK)
    (pss_cons (ps_set (i := 10) nd rfl (.inl rfl) (pv 1))
    (pss_cons (ps_while PassesOwn.never (pt_cmpR op_le (pv 10) (pv 3) (nomark _))
    (pss_cons (ps_set (i := 11) nd rfl (.inl rfl) (pe_op op_mod (pe_op op_sub (pv 10) (pv 4)) (pe_callB call_len_seq (by rfl) T.len PySem.boot_len (pa_cons (pv 6) pa_nil))))
    (pss_cons (ps_if (pt_cmp (pc_din hu (pv 11) (pv 9))) (pss_one (ps_ret (pe_tup (pa_cons (pe_slice sl_list (pv 8) po_none (po_some (pe_dget hu (pv 9) (pv 11) (fun _ _ => rfl)))) (pa_cons (pe_slice sl_list (pv 8) (po_some (pe_dget hu (pv 9) (pv 11) (fun _ _ => rfl))) po_none) pa_nil))))) pss_nil)
    (pss_cons (ps_dput hu (pv 9) (pv 11) (pe_callB call_len_seq (by rfl) T.len PySem.boot_len (pa_cons (pv 8) pa_nil)) rfl)
    (pss_cons (ps_expr (pe_bm PySem.F.plainAttrs_list PySem.F.slot_list_append PySem.F.type_list_append mt_append (pv 8) (pa_cons (pe_tup (pa_cons (pv 10) (pa_cons (pe_ix ix_list (pv 7) (pv 11) (fun _ _ => rfl)) pa_nil))) pa_nil)))
    (pss_one (ps_aug (i := 10) nd rfl (.inl rfl) (pe_callB (call_max2 rfl) (by rfl) hmax (by decide +kernel) (pa_cons (pe_ix ix_list (pv 7) (pv 11) (fun _ _ => rfl)) (pa_cons pe_int pa_nil))) ip_add)))))))
    (pss_one (ps_ret (pe_tup (pa_cons (pv 8) (pa_cons (pe_lst pa_nil) pa_nil))))))))))), ?_⟩
  refine ⟨.ref a, rfl, a, _, rfl, SqT.of ha, rfl, .int ff, _, rfl, optV past, _, rfl, .ref t, _, rfl, rfl, ?_⟩
  refine ⟨.ref t, rfl, .int start, rfl, optV b, rfl, t, ts, start, b, rfl, hT, fun wq H1 s1 n1 ew => ?_⟩
  refine ⟨Nat.zero_le _, fun Ls nL => ?_⟩
  have s2 := same_upd (o := .lst []) nL
  have eL : (upd H1 Ls (.lst [])) Ls = some (.lst []) := upd_same
  generalize upd H1 Ls (.lst []) = H2 at s2 eL
  intro M nM
  have s3 := same_upd (o := .dK []) nM
  have eM : (upd H2 M (.dK [])) M = some (.dK []) := upd_same
  generalize upd H2 M (.dK []) = H3 at s3 eM
  have nLH : H Ls = none := s1.free nL
  have nMH : H M = none := (s1.trans s2).free nM
  have nLM : Ls ≠ M := fun z => by rw [z] at eL; rw [eL] at nM; cases nM
  have nwL : wq ≠ Ls := fun z => by rw [z, nL] at ew; cases ew
  have nwM : wq ≠ M := fun z => by
    have := s2 _ _ ew
    rw [z, nM] at this
    cases this
  have lo := hT.lo
  have hi := hT.hi
  refine ⟨.int start, rfl, ?_⟩
  refine ⟨fun k σ H4 => ∃ vs S, ∃ kvs : List (Key × V), ∃ x : Int, ∃ y11, σ = [some (.ref a), some (.int start), some (optV b), some (.int e), some (.int ff), some (optV past), some (.ref t), some (.ref wq), some (.ref Ls), some (.ref M), some (.int x), y11] ∧ Same H H4 ∧ H4 wq = some (.lst ((ts.map (wd b start)).map V.int)) ∧
      H4 Ls = some (.lst vs) ∧ H4 M = some (.dK kvs) ∧ StAt H4 vs S ∧ Pth (Wst ff ts b start e) start S x ∧ (S.map fun s => tnI ff ts.length s.1).Nodup ∧ kvs.length ≤ S.length ∧ (∀ (i : Nat) (s : StepT), S[i]? = some s → valV kvs (Sum.inl (tnI ff ts.length s.1)) = some (.int (i : Int))) ∧
      (∀ n : Int, (∀ s ∈ S, tnI ff ts.length s.1 ≠ n) → valV kvs (Sum.inl n) = none) ∧ (S = [] → x = start) ∧ k = (e + 1 - x).toNat, ⟨_, [], [], [], start, none, rfl, (s1.trans s2).trans s3, s3 _ _ (s2 _ _ ew), s3 _ _ eL, eM, ⟨rfl, fun i s h => by cases i <;> cases h⟩, rfl, List.nodup_nil, Nat.le_refl 0, fun i s h => (by cases i <;> cases h), fun n _ => rfl, fun _ => rfl, rfl⟩, fun k σ H4 ⟨vs, S, kvs, x, y11, eσ, s4, ew4, eL4, eM4, hSt, hP, hnd, hkl, hm1, hm2, hS0, hk⟩ => ?_⟩
  subst eσ
  have hS8 : S.length ≤ 8 := by
    have h1 := pig ts.length (S.map fun s => tnI ff ts.length s.1) hnd fun y hy => by
      obtain ⟨s, _, rfl⟩ := List.mem_map.mp hy
      exact ⟨Int.emod_nonneg _ (by omega), Int.emod_lt_of_pos _ (by omega)⟩
    rw [List.length_map] at h1
    omega
  refine ⟨.int x, rfl, .int e, rfl, x, e, rfl, rfl, _, rfl, ?_⟩
  by_cases c : x ≤ e
  · rw [decide_eq_true c]
    refine iteT ⟨fun σ' H' => ∃ m', m' < k ∧ ∃ vs S, ∃ kvs : List (Key × V), ∃ x : Int, ∃ y11, σ' = [some (.ref a), some (.int start), some (optV b), some (.int e), some (.int ff), some (optV past), some (.ref t), some (.ref wq), some (.ref Ls), some (.ref M), some (.int x), y11] ∧ Same H H' ∧ H' wq = some (.lst ((ts.map (wd b start)).map V.int)) ∧
      H' Ls = some (.lst vs) ∧ H' M = some (.dK kvs) ∧ StAt H' vs S ∧ Pth (Wst ff ts b start e) start S x ∧ (S.map fun s => tnI ff ts.length s.1).Nodup ∧ kvs.length ≤ S.length ∧ (∀ (i : Nat) (s : StepT), S[i]? = some s → valV kvs (Sum.inl (tnI ff ts.length s.1)) = some (.int (i : Int))) ∧
      (∀ n : Int, (∀ s ∈ S, tnI ff ts.length s.1 ≠ n) → valV kvs (Sum.inl n) = none) ∧ (S = [] → x = start) ∧ m' = (e + 1 - x).toNat, fun σ' H' ⟨m', h1, h2⟩ => ⟨m', h1, h2⟩, ?_⟩
    obtain ⟨zs, ht, hz⟩ := hT.ex
    have lz : zs.length = ts.length := hz.length
    refine ⟨.int x, rfl, .int ff, rfl, x, ff, rfl, rfl, .ref t, rfl, t, zs, rfl, .inr (SqT.of (s4 _ _ ht)), x - ff, (zs.length : Int), rfl, rfl, by show (0 : Int) < (zs.length : Int); omega, ?_⟩
    dsimp only
    have etn : (x - ff) % (zs.length : Int) = tnI ff ts.length x := by rw [lz]; rfl
    rw [etn]
    have tn0 : 0 ≤ tnI ff ts.length x := Int.emod_nonneg _ (by omega)
    have tn1 : tnI ff ts.length x < (ts.length : Int) := Int.emod_lt_of_pos _ (by omega)
    refine ⟨.int (tnI ff ts.length x), rfl, .ref M, rfl, M, _, rfl, DGet.k (k := Sum.inl (tnI ff ts.length x)) eM4, _, rfl, ?_⟩
    cases hv : valV kvs (Sum.inl (tnI ff ts.length x)) with
    | some v =>
      -- it comes again
      obtain ⟨s, hs, hst⟩ : ∃ s ∈ S, tnI ff ts.length s.1 = tnI ff ts.length x := by
        by_cases h : ∃ s ∈ S, tnI ff ts.length s.1 = tnI ff ts.length x
        · exact h
        · rw [hm2 _ fun s hs z => h ⟨s, hs, z⟩] at hv
          cases hv
      obtain ⟨i, hi'⟩ := List.getElem?_of_mem hs
      have hvi := hm1 i s hi'
      rw [hst, hv] at hvi
      cases hvi
      have li : i < S.length := (List.getElem?_eq_some_iff.mp hi').1
      refine iteT ?_
      refine ⟨.ref Ls, rfl, .ref M, rfl, .int (tnI ff ts.length x), rfl, M, .int (i : Int), rfl, by rw [← hv]; exact DGet.k (k := Sum.inl (tnI ff ts.length x)) eM4, (i : Int), rfl, Ls, vs, rfl, SqL.of eL4, fun A1 nA => ?_⟩
      rw [cut_to]
      have s5 := same_upd (o := .lst (vs.take i)) nA
      have eA : (upd H4 A1 (.lst (vs.take i))) A1 = some (.lst (vs.take i)) := upd_same
      generalize upd H4 A1 (.lst (vs.take i)) = H5 at s5 eA
      refine ⟨.ref Ls, rfl, .ref M, rfl, .int (tnI ff ts.length x), rfl, M, .int (i : Int), rfl, by rw [← hv]; exact DGet.k (k := Sum.inl (tnI ff ts.length x)) (s5 _ _ eM4), (i : Int), rfl, Ls, vs, rfl, SqL.of (s5 _ _ eL4), fun B1 nB => ?_⟩
      rw [cut_from]
      have s6 := same_upd (o := .lst (vs.drop i)) nB
      have eB : (upd H5 B1 (.lst (vs.drop i))) B1 = some (.lst (vs.drop i)) := upd_same
      generalize upd H5 B1 (.lst (vs.drop i)) = H6 at s6 eB
      refine ⟨small_le (by show 2 ≤ 1000; decide), fun pr npr => ?_⟩
      have s7 := same_upd (o := .tup [.ref A1, .ref B1]) npr
      have s47 := (s5.trans s6).trans s7
      refine q pr A1 B1 (vs.take i) (vs.drop i) (S.take i) (S.drop i) x _ (s4.trans s47) (s4.free nA) ((s4.trans s5).free nB) upd_same (s7 _ _ (s6 _ _ eA)) (s7 _ _ eB) ((hSt.take i).kt (KT.of s47)) ((hSt.drop i).kt (KT.of s47)) ⟨?_, ?_, ?_, fun z => ?_, fun s' T' z => ?_⟩
      · rw [List.take_append_drop]; exact hP
      · rw [List.take_append_drop]
        intro z
        rw [z] at li
        exact absurd li (Nat.not_lt_zero _)
      · rw [List.take_append_drop]; exact hS8
      · have := congrArg List.length z
        rw [List.length_drop] at this
        simp at this
        omega
      · refine ⟨c, ?_⟩
        have h0 : (S.drop i)[0]? = some s' := by rw [z]; rfl
        rw [List.getElem?_drop, Nat.add_zero, hi'] at h0
        cases h0
        exact hst.symm
    | none =>
      refine iteF ?_
      obtain ⟨d, hd⟩ : ∃ d, ts[(tnI ff ts.length x).toNat]? = some d := ⟨_, List.getElem?_eq_getElem (by omega)⟩
      have hnew : ∀ s ∈ S, tnI ff ts.length s.1 ≠ tnI ff ts.length x := fun s hs z => by
        obtain ⟨i, hi'⟩ := List.getElem?_of_mem hs
        have := hm1 i s hi'
        rw [z, hv] at this
        cases this
      have hl := hSt.len
      -- met[turn] = len(steps)
      refine ⟨.ref Ls, rfl, Ls, vs, rfl, .inl (SqL.of eL4), .ref M, rfl, .int (tnI ff ts.length x), rfl, M, _, rfl, DPut.k (k := Sum.inl (tnI ff ts.length x)) eM4 (by omega), ?_⟩
      have eM5 : (upd H4 M (.dK (putK kvs (Sum.inl (tnI ff ts.length x)) (.int (vs.length : Int))))) M = some (.dK (putK kvs (Sum.inl (tnI ff ts.length x)) (.int (vs.length : Int)))) := upd_same
      have k45 : KT H4 (upd H4 M (.dK (putK kvs (Sum.inl (tnI ff ts.length x)) (.int (vs.length : Int))))) := KT.upd fun xs z => by rw [eM4] at z; cases z
      have s5 : Same H (upd H4 M (.dK (putK kvs (Sum.inl (tnI ff ts.length x)) (.int (vs.length : Int))))) := fun p o hp => by
        rw [upd_ne (fun z => by rw [z, nMH] at hp; cases hp)]
        exact s4 _ _ hp
      have eL5 : (upd H4 M (.dK (putK kvs (Sum.inl (tnI ff ts.length x)) (.int (vs.length : Int))))) Ls = some (.lst vs) := by rw [upd_ne nLM]; exact eL4
      have ew5 : (upd H4 M (.dK (putK kvs (Sum.inl (tnI ff ts.length x)) (.int (vs.length : Int))))) wq = some (.lst ((ts.map (wd b start)).map V.int)) := by rw [upd_ne nwM]; exact ew4
      generalize upd H4 M (.dK (putK kvs (Sum.inl (tnI ff ts.length x)) (.int (vs.length : Int)))) = H5 at eM5 k45 s5 eL5 ew5
      have hw : atI ((ts.map (wd b start)).map V.int) (tnI ff ts.length x) = some (.int (wd b start d)) := by
        have := atI_nat (xs := (ts.map (wd b start)).map V.int) (j := (tnI ff ts.length x).toNat) (v := .int (wd b start d)) (by rw [List.getElem?_map, List.getElem?_map, hd]; rfl)
        rw [Int.toNat_of_nonneg tn0] at this
        exact this
      refine ⟨.ref Ls, rfl, .inl ⟨rfl, _, SqL.of eL5⟩, .int x, rfl, .ref wq, rfl, .int (tnI ff ts.length x), rfl, wq, _, tnI ff ts.length x, .int (wd b start d), rfl, rfl, SqL.of ew5, hw, small_le (by show 2 ≤ 1000; decide), fun u nu => ?_⟩
      have s6 := same_upd (o := .tup [.int x, .int (wd b start d)]) nu
      have eu : (upd H5 u (.tup [.int x, .int (wd b start d)])) u = some (.tup [.int x, .int (wd b start d)]) := upd_same
      generalize upd H5 u (.tup [.int x, .int (wd b start d)]) = H6 at s6 eu
      have eL6 := s6 _ _ eL5
      refine ⟨Ls, _, _, rfl, rfl, eL6, by omega, ?_⟩
      have k67 : KT H6 (upd H6 Ls (.lst (vs ++ [.ref u]))) := KT.upd fun xs z => by rw [eL6] at z; cases z
      have ew7 : (upd H6 Ls (.lst (vs ++ [.ref u]))) wq = some (.lst ((ts.map (wd b start)).map V.int)) := by rw [upd_ne nwL]; exact s6 _ _ ew5
      have eM7 : (upd H6 Ls (.lst (vs ++ [.ref u]))) M = some (.dK (putK kvs (Sum.inl (tnI ff ts.length x)) (.int (vs.length : Int)))) := by rw [upd_ne (Ne.symm nLM)]; exact s6 _ _ eM5
      have s7 : Same H (upd H6 Ls (.lst (vs ++ [.ref u]))) := fun p o hp => by
        rw [upd_ne (fun z => by rw [z, nLH] at hp; cases hp)]
        exact s6 _ _ (s5 _ _ hp)
      refine ⟨.int x, rfl, .ref wq, rfl, .int (tnI ff ts.length x), rfl, wq, _, tnI ff ts.length x, .int (wd b start d), rfl, rfl, SqL.of ew7, hw, wd b start d, 1, rfl, x, _, rfl, rfl, ?_⟩
      have hmx : (if (1 : Int) > wd b start d then 1 else wd b start d) = max (wd b start d) 1 := by split <;> omega
      have hst7 := (hSt.kt ((k45.trans (KT.of s6)).trans k67)).snoc (b := u) (s := (x, wd b start d)) (k67 _ _ eu)
      refine ⟨(e + 1 - (x + max (wd b start d) 1)).toNat, by omega, vs ++ [.ref u], S ++ [(x, wd b start d)], _, x + max (wd b start d) 1, some (.int (tnI ff ts.length x)), by rw [hmx]; rfl, s7, ew7, upd_same, eM7, hst7, hP.snoc ⟨c, d, hd, rfl⟩, ?_, ?_, fun i s hs => ?_, fun n hn => ?_, fun z => by simp at z, rfl⟩
      · rw [List.map_append, List.nodup_append]
        refine ⟨hnd, List.pairwise_singleton _ _, fun y hy z hz => ?_⟩
        obtain ⟨s, hs, rfl⟩ := List.mem_map.mp hy
        have : z = tnI ff ts.length x := List.mem_singleton.mp hz
        rw [this]
        exact hnew s hs
      · rw [List.length_append, List.length_singleton]
        have : (putK kvs (Sum.inl (tnI ff ts.length x)) (V.int (vs.length : Int))).length ≤ kvs.length + 1 := by
          unfold putK
          split
          · rw [List.length_map]; exact Nat.le_succ _
          · rw [List.length_append]; exact Nat.le_refl _
        omega
      · rw [valV_put]
        by_cases c2 : i < S.length
        · rw [List.getElem?_append_left c2] at hs
          rw [if_neg (fun z => hnew s (List.mem_of_getElem? hs) (Sum.inl.inj z))]
          exact hm1 i s hs
        · have hi2 : i = S.length := by
            obtain ⟨l, _⟩ := List.getElem?_eq_some_iff.mp hs
            rw [List.length_append, List.length_singleton] at l
            omega
          subst hi2
          rw [List.getElem?_concat_length] at hs
          cases hs
          rw [if_pos rfl, hl]
      · rw [valV_put, if_neg (fun z => hn (x, wd b start d) (List.mem_append_right _ (List.mem_singleton.mpr rfl)) (Sum.inl.inj z).symm)]
        exact hm2 n fun s hs => hn s (List.mem_append_left _ hs)
  · rw [decide_eq_false c]
    refine iteF ?_
    refine ⟨.ref Ls, rfl, Nat.zero_le _, fun B1 nB => ?_⟩
    have s5 := same_upd (o := .lst []) nB
    have eB : (upd H4 B1 (.lst [])) B1 = some (.lst []) := upd_same
    generalize upd H4 B1 (.lst []) = H5 at s5 eB
    refine ⟨small_le (by show 2 ≤ 1000; decide), fun pr npr => ?_⟩
    have s6 := same_upd (o := .tup [.ref Ls, .ref B1]) npr
    have s46 := s5.trans s6
    refine q pr Ls B1 vs [] S [] x _ (s4.trans s46) nLH (s4.free nB) upd_same (s46 _ _ eL4) (s6 _ _ eB) (hSt.kt (KT.of s46)) ⟨rfl, fun i s h => by cases i <;> cases h⟩ ⟨?_, ?_, ?_, fun _ => by omega, fun s' T' z => by cases z⟩
    · rw [List.append_nil]; exact hP
    · rw [List.append_nil]
      intro z
      have := hS0 z
      omega
    · rw [List.append_nil]; exact hS8
end
end CL
set_option Elab.async false
set_option linter.all false
set_option pp.maxSteps 400
set_option maxRecDepth 100000
set_option maxHeartbeats 4000000
namespace CL
open PySem PySem.Spec PyProof.Rows L2 GE
abbrev sInit : Stmt := inClass (topS 19) 0
abbrev nInit : List Str := ["self", "steps", "room", "person", "width"]
theorem scInit : FnScope nInit ["self", "steps", "room"] (defScope sInit) := ⟨rfl, rfl, rfl, by decide +kernel, rfl, by decide +kernel, by decide +kernel⟩
abbrev sRuns : Stmt := topS 20
abbrev nRuns : List Str := ["pieces", "start", "bound", "stop", "runs", "ahead", "piece", "end", "once", "again"]
theorem scRuns : FnScope nRuns ["pieces", "start", "bound", "stop"] (defScope sRuns) := ⟨rfl, rfl, rfl, by decide +kernel, rfl, by decide +kernel, by decide +kernel⟩
/-! ### how far the steps go -/
def lenR (S : List StepT) : Int := (S.map fun s => max s.2 1).sum
def spareR (S : List StepT) : Nat := (S.filter fun s => decide (s.2 = 0)).length
theorem lenR_cons (s : StepT) (S : List StepT) : lenR (s :: S) = max s.2 1 + lenR S := rfl
theorem lenR_pos : ∀ S : List StepT, (S.length : Int) ≤ lenR S
  | [] => Int.le_refl 0
  | s :: S => by
    have := lenR_pos S
    rw [lenR_cons, List.length_cons]
    omega
theorem lenR_sum : ∀ S : List StepT, (∀ s ∈ S, 0 ≤ s.2) → (spareR S : Int) + (S.map (·.2)).sum = lenR S
  | [], _ => rfl
  | s :: S, h => by
    have ih := lenR_sum S fun x hx => h x (List.mem_cons_of_mem _ hx)
    have h0 := h s List.mem_cons_self
    rw [lenR_cons, List.map_cons, List.sum_cons]
    by_cases c : s.2 = 0
    · have e : spareR (s :: S) = spareR S + 1 := by unfold spareR; rw [List.filter_cons, if_pos (by simpa using c)]; rfl
      rw [e]
      omega
    · have e : spareR (s :: S) = spareR S := by unfold spareR; rw [List.filter_cons, if_neg (by simpa using c)]
      rw [e]
      omega
theorem lenR_le {m : Int} : ∀ S : List StepT, (∀ s ∈ S, s.2 ≤ m) → 1 ≤ m → lenR S ≤ S.length * m
  | [], _, _ => by simp [lenR]
  | s :: S, h, hm => by
    have ih := lenR_le S (fun x hx => h x (List.mem_cons_of_mem _ hx)) hm
    have h0 := h s List.mem_cons_self
    have e : ((s :: S).length : Int) * m = m + S.length * m := by
      rw [List.length_cons, Int.natCast_add, Int.add_mul]
      omega
    rw [lenR_cons, e]
    omega
theorem Pth.end_ {W : Int → Int → Prop} : ∀ {S : List StepT} {a c : Int}, Pth W a S c → c = a + lenR S
  | [], a, c, h => by
    obtain rfl : a = c := h
    exact (Int.add_zero a).symm
  | s :: S, a, c, h => by
    have := Pth.end_ h.2.2
    rw [lenR_cons]
    omega
def shift (d : Int) (S : List StepT) : List StepT := S.map fun s => (s.1 + d, s.2)
theorem Pth.shift {W W' : Int → Int → Prop} {d : Int} : ∀ {S : List StepT} {a c : Int}, Pth W a S c → (∀ s ∈ S, W s.1 s.2 → W' (s.1 + d) s.2) → Pth W' (a + d) (shift d S) (c + d)
  | [], a, c, h, _ => by
    obtain rfl : a = c := h
    exact rfl
  | s :: S, a, c, h, hw => by
    have ih := Pth.shift h.2.2 fun x hx => hw x (List.mem_cons_of_mem _ hx)
    refine ⟨by show s.1 + d = a + d; rw [h.1], hw s List.mem_cons_self h.2.1, ?_⟩
    rw [show a + d + max s.2 1 = a + max s.2 1 + d by omega]
    exact ih
theorem Pth.imp {W W' : Int → Int → Prop} : ∀ {S : List StepT} {a c : Int}, Pth W a S c → (∀ s ∈ S, W s.1 s.2 → W' s.1 s.2) → Pth W' a S c
  | [], a, c, h, _ => h
  | s :: S, a, c, h, hw => ⟨h.1, hw s List.mem_cons_self h.2.1, Pth.imp h.2.2 fun x hx => hw x (List.mem_cons_of_mem _ hx)⟩
/-! ### runs -/
structure RunT where
  steps : List StepT
  times : Nat
/-- the window of the one who comes at x -/
def WP (ps : List PieceT) (b : Option Int) (x w : Int) : Prop := ∃ pc t, ps.find? (comes x) = some pc ∧ pc.2.2[(tnI pc.1 pc.2.2.length x).toNat]? = some t ∧ w = wd b x t
def WS (ps : List PieceT) (b : Option Int) (stop x w : Int) : Prop := x ≤ stop ∧ WP ps b x w
structure RunOk (ps : List PieceT) (b : Option Int) (stop a : Int) (r : RunT) : Prop where
  ne : r.steps ≠ []
  times : 1 ≤ r.times
  len : r.steps.length ≤ 8
  path : ∀ k : Nat, k < r.times → Pth (WS ps b stop) (a + k * lenR r.steps) (shift (k * lenR r.steps) r.steps) (a + (k * lenR r.steps + lenR r.steps))
  rep : ∀ (y : Int) pc t, a ≤ y → y + lenR r.steps < a + r.times * lenR r.steps → ps.find? (comes y) = some pc → pc.2.2[(tnI pc.1 pc.2.2.length y).toNat]? = some t → ps.find? (comes (y + lenR r.steps)) = some pc ∧ pc.2.2[(tnI pc.1 pc.2.2.length (y + lenR r.steps)).toNat]? = some t
  repT : ∀ (y : Int) pc, a ≤ y → y + lenR r.steps < a + r.times * lenR r.steps → ps.find? (comes y) = some pc → ps.find? (comes (y + lenR r.steps)) = some pc ∧ tnI pc.1 pc.2.2.length (y + lenR r.steps) = tnI pc.1 pc.2.2.length y
def Lvl (ps : List PieceT) (b : Option Int) (stop : Int) : Int → List RunT → Int → Prop
  | a, [], c => a = c
  | a, r :: rs, c => RunOk ps b stop a r ∧ Lvl ps b stop (a + r.times * lenR r.steps) rs c
theorem Lvl.snoc {ps : List PieceT} {b : Option Int} {stop : Int} : ∀ {rs : List RunT} {a x : Int} {r : RunT}, Lvl ps b stop a rs x → RunOk ps b stop x r → Lvl ps b stop a (rs ++ [r]) (x + r.times * lenR r.steps)
  | [], a, x, r, h, hr => by
    obtain rfl : a = x := h
    exact ⟨hr, rfl⟩
  | s :: rs, a, x, r, h, hr => ⟨h.1, Lvl.snoc h.2 hr⟩
theorem comes_on {ps : List PieceT} {pc : PieceT} {x y : Int} (h : ps.find? (comes x) = some pc) (hxy : x ≤ y) (hp : ∀ m, pc.2.1 = some m → y < m) : ps.find? (comes y) = some pc := by
  rw [List.find?_eq_some_iff_append] at h ⊢
  obtain ⟨h1, as, bs, e, h2⟩ := h
  refine ⟨?_, as, bs, e, fun z hz => ?_⟩
  · unfold comes
    cases e2 : pc.2.1 with
    | none => rfl
    | some m => exact decide_eq_true (hp m e2)
  · have := h2 z hz
    unfold comes at this ⊢
    cases e2 : z.2.1 with
    | none => rw [e2] at this; cases this
    | some m =>
      rw [e2] at this
      have h3 : ¬ x < m := by simpa using this
      show (!decide (y < m)) = true
      rw [decide_eq_false (by omega)]
      rfl
theorem wd_on {past : Option Int} {ts : List PyData} {start x e stop : Int} {b : Option Int} (E : EndOk past ts start b stop e) {t : PyData} (ht : t ∈ ts) (h1 : start ≤ x) (h2 : x ≤ e) : wd b start t = wd b x t := by
  cases t with
  | int p =>
    cases b with
    | none => rfl
    | some m =>
      show (if start + p ≤ m then p + 1 else 0) = if x + p ≤ m then p + 1 else 0
      by_cases c : start + p ≤ m
      · have := E.fit m rfl p ht (by omega)
        rw [if_pos c, if_pos (by omega)]
      · rw [if_neg c, if_neg (by omega)]
  | _ => cases b <;> rfl
theorem wst_on {ps : List PieceT} {pc : PieceT} {start x e stop w : Int} {b : Option Int} (hf : ps.find? (comes start) = some pc) (E : EndOk pc.2.1 pc.2.2 start b stop e) (h1 : start ≤ x) (hw : Wst pc.1 pc.2.2 b start e x w) {d : Int} (h0 : 0 ≤ d) (h2 : x + d ≤ e) (hd : d % (pc.2.2.length : Int) = 0) : WS ps b stop (x + d) w := by
  obtain ⟨_, t, ht, rfl⟩ := hw
  have hi := E.hi
  refine ⟨by omega, pc, t, comes_on hf (by omega) fun m e2 => by have := E.pst m e2; omega, ?_, wd_on E (List.mem_of_getElem? ht) (by omega) h2⟩
  have e3 : tnI pc.1 pc.2.2.length (x + d) = tnI pc.1 pc.2.2.length x := by
    unfold tnI
    rw [show x + d - pc.1 = x - pc.1 + d by omega, Int.add_emod, hd, Int.add_zero, Int.emod_emod_of_dvd _ (Int.dvd_refl _)]
  rw [e3]
  exact ht
/-! ### how many runs there may be -/
def lgp (z : Int) : Nat := if z ≤ 0 then 0 else z.toNat.log2 + 1
theorem lgp_mono {a b : Int} (h : a ≤ b) : lgp a ≤ lgp b := by
  unfold lgp
  by_cases ha : a ≤ 0
  · rw [if_pos ha]; exact Nat.zero_le _
  · rw [if_neg ha, if_neg (by omega)]
    have h1 : 2 ^ a.toNat.log2 ≤ a.toNat := Nat.log2_self_le (by omega)
    have h2 : a.toNat.log2 ≤ b.toNat.log2 := (Nat.le_log2 (by omega)).mpr (Nat.le_trans h1 (by omega))
    omega
theorem lgp_half {a b : Int} (h : 2 * a < b) (hb : 0 < b) : lgp a < lgp b := by
  unfold lgp
  rw [if_neg (by omega : ¬ b ≤ 0)]
  by_cases ha : a ≤ 0
  · rw [if_pos ha]; omega
  · rw [if_neg ha]
    have h1 : 2 ^ a.toNat.log2 ≤ a.toNat := Nat.log2_self_le (by omega)
    have h2 : a.toNat.log2 + 1 ≤ b.toNat.log2 := (Nat.le_log2 (by omega)).mpr (by rw [Nat.pow_succ]; omega)
    omega
theorem lgp_le {z : Int} (h : z < 2 ^ 140) : lgp z ≤ 140 := by
  unfold lgp
  split
  · exact Nat.zero_le _
  · have : z.toNat.log2 < 140 := (Nat.log2_lt (by omega)).mpr (by omega)
    omega
def phi (B : List Int) (x : Int) : Nat := (B.map fun b => lgp (b + 1 - x)).sum
theorem phi_cons (b : Int) (B : List Int) (x : Int) : phi (b :: B) x = lgp (b + 1 - x) + phi B x := rfl
theorem phi_mono : ∀ (B : List Int) {x y : Int}, x ≤ y → phi B y ≤ phi B x
  | [], _, _, _ => Nat.le_refl 0
  | b :: B, x, y, h => by
    have h1 := phi_mono B h
    have h2 := lgp_mono (show b + 1 - y ≤ b + 1 - x by omega)
    rw [phi_cons, phi_cons]
    omega
theorem phi_less : ∀ (B : List Int) {e x y : Int}, e ∈ B → x ≤ y → lgp (e + 1 - y) < lgp (e + 1 - x) → phi B y < phi B x
  | b :: B, e, x, y, he, h, hl => by
    rw [phi_cons, phi_cons]
    rcases List.mem_cons.mp he with rfl | he
    · have := phi_mono B h
      omega
    · have h1 := phi_less B he h hl
      have h2 := lgp_mono (show b + 1 - y ≤ b + 1 - x by omega)
      omega
theorem phi_le : ∀ (B : List Int) {x : Int}, (∀ b ∈ B, b + 1 - x < 2 ^ 140) → phi B x ≤ 140 * B.length
  | [], _, _ => Nat.le_refl 0
  | b :: B, x, h => by
    have h1 := phi_le B fun y hy => h y (List.mem_cons_of_mem _ hy)
    have h2 := lgp_le (h b List.mem_cons_self)
    rw [phi_cons, List.length_cons]
    omega
/-- all numbers at which a stretch may end -/
def breaks (ps : List PieceT) (b : Option Int) (stop : Int) : List Int := stop :: ((ps.filterMap fun pc => pc.2.1.map fun m => m - 1) ++ match b with
  | some m => ps.flatMap fun pc => fitsOf m pc.2.2
  | none => [])
theorem mem_breaks {ps : List PieceT} {pc : PieceT} {start e stop : Int} {b : Option Int} (hm : pc ∈ ps) (E : EndOk pc.2.1 pc.2.2 start b stop e) : e ∈ breaks ps b stop := by
  unfold breaks
  rcases E.from_ with h | h | ⟨m, p, rfl, hp, rfl⟩
  · rw [h]; exact List.mem_cons_self
  · refine List.mem_cons_of_mem _ (List.mem_append_left _ (List.mem_filterMap.mpr ⟨pc, hm, ?_⟩))
    rw [h]
    show some (e + 1 - 1) = some e
    rw [Int.add_sub_cancel]
  · exact List.mem_cons_of_mem _ (List.mem_append_right _ (List.mem_flatMap.mpr ⟨pc, hm, mem_fits.mpr ⟨p, hp, rfl⟩⟩))
theorem fits_len (m : Int) (ts : List PyData) : (fitsOf m ts).length ≤ ts.length := List.length_filterMap_le _ ts
theorem breaks_len {ps : List PieceT} {b : Option Int} {stop : Int} (h8 : ps.length ≤ 8) (ht : ∀ pc ∈ ps, pc.2.2.length ≤ 8) : (breaks ps b stop).length ≤ 73 := by
  have h1 := List.length_filterMap_le (fun pc : PieceT => pc.2.1.map fun m => m - 1) ps
  have h2 : ∀ (m : Int) (ps : List PieceT), (∀ pc ∈ ps, pc.2.2.length ≤ 8) → (ps.flatMap fun pc => fitsOf m pc.2.2).length ≤ 8 * ps.length := fun m ps => by
    induction ps with
    | nil => intro _; exact Nat.le_refl 0
    | cons pc ps ih =>
      intro h
      have i1 := ih fun x hx => h x (List.mem_cons_of_mem _ hx)
      have i2 := fits_len m pc.2.2
      have i3 := h pc List.mem_cons_self
      rw [List.flatMap_cons, List.length_append, List.length_cons]
      omega
  unfold breaks
  rw [List.length_cons, List.length_append]
  cases b with
  | none => show _ + 0 + 1 ≤ 73; omega
  | some m =>
    have := h2 m ps ht
    show _ + (ps.flatMap fun pc => fitsOf m pc.2.2).length + 1 ≤ 73
    omega
/-- what the class of runs is -/
structure RunC (K : PySem.W.Frag) (mg : Str → Option Value) (C fI : Addr) : Prop where
  cl : Cls K C
  nSt : NoAttr K C "steps"
  nSp : NoAttr K C "spare"
  nLe : NoAttr K C "length"
  nTi : NoAttr K C "times"
  g : mg "Run" = some (.ref C)
  make : Mk K C fI
/-- what a run holds -/
def rf (p : Addr) (S : List StepT) (t : Int) : List (Str × V) := putF "times" (.int t) (putF "length" (.int (lenR S)) (putF "spare" (.int (spareR S : Nat)) (putF "steps" (.ref p) [])))
theorem putF_len (f : Str) (v : V) : ∀ fs : List (Str × V), (putF f v fs).length ≤ fs.length + 1
  | [] => Nat.le_refl _
  | (g, x) :: r => by
    have ih := putF_len f v r
    unfold putF
    split
    · exact Nat.le_succ _
    · rw [List.length_cons, List.length_cons]
      omega
theorem pl1 (f : Str) (v : V) : (putF f v []).length < 1000 := Nat.lt_of_le_of_lt (putF_len f v []) (by show 0 + 1 < 1000; decide)
theorem pl2 (f g : Str) (v y : V) : (putF f v (putF g y [])).length < 1000 := by
  have := putF_len f v (putF g y [])
  have := putF_len g y []
  simp at *
  omega
theorem pl3 (f g h : Str) (v y z : V) : (putF f v (putF g y (putF h z []))).length < 1000 := by
  have := putF_len f v (putF g y (putF h z []))
  have := putF_len g y (putF h z [])
  have := putF_len h z []
  simp at *
  omega
theorem rf_times (p : Addr) (S : List StepT) (t : Int) : (rf p S t).lookup ("times" : Str) = some (.int t) := by
  unfold rf
  rw [lookup_putF, if_pos rfl]
theorem rf_length (p : Addr) (S : List StepT) (t : Int) : (rf p S t).lookup ("length" : Str) = some (.int (lenR S)) := by
  unfold rf
  rw [lookup_putF, if_neg (by decide +kernel), lookup_putF, if_pos rfl]
theorem rf_spare (p : Addr) (S : List StepT) (t : Int) : (rf p S t).lookup ("spare" : Str) = some (.int (spareR S : Nat)) := by
  unfold rf
  rw [lookup_putF, if_neg (by decide +kernel), lookup_putF, if_neg (by decide +kernel), lookup_putF, if_pos rfl]
theorem rf_steps (p : Addr) (S : List StepT) (t : Int) : (rf p S t).lookup ("steps" : Str) = some (.ref p) := by
  unfold rf
  rw [lookup_putF, if_neg (by decide +kernel), lookup_putF, if_neg (by decide +kernel), lookup_putF, if_neg (by decide +kernel), lookup_putF, if_pos rfl]
def timesOf (S : List StepT) (room : Int) : Int := max 1 (room / lenR S)
def spInit (C : Addr) : Sp := fun vs H Q _ => ∃ x p dx vs' S, ∃ room : Int, vs = [.ref x, .ref p, .int room] ∧ H x = some (.ins C dx []) ∧ H p = some (.lst vs') ∧ StAt H vs' S ∧ S ≠ [] ∧ S.length ≤ 8 ∧ (∀ s ∈ S, 0 ≤ s.2 ∧ s.2 ≤ GREAT + 1) ∧ ∀ H' dx, (∀ c o, H c = some o → c ≠ x → H' c = some o) → H' x = some (.ins C dx (rf p S (timesOf S room))) → Q .non H'
section
variable {P : Program} {w : World} {K : PySem.W.Frag} {mg : Str → Option Value} {base : Heap}
theorem ok_init {f C : Addr} {fd : FuncData} (F : Fun K "__init__" "Run.__init__" sInit f fd) (T : Nm mg) (hmax : mg "max" = none) {fI : Addr} (TC : RunC K mg C fI) : FnOk P w K mg base CX0 1 f fd ["self", "steps", "room"] (spInit C) := by
  refine F.ok scInit (fun vs H Q E ⟨x, p, dx, vs', S, room, e, _⟩ => by rw [e]; rfl) (fun cdv A outer s H vs Q E hr h => ?_)
  obtain ⟨x, p, dx, vs', S, room, rfl, hx, hp, hSt, hne, h8, hw, q⟩ := h
  have nd := scInit.nd
  have sz := sz5000
  refine ⟨_, (pss_cons (ps_fld (pv 0) (pv 1) rfl)
    (pss_cons (ps_fld (pv 0) (pe_callB call_len_seq (by rfl) T.len PySem.boot_len (pa_cons (pe_lc (own := [("person", 3), ("width", 4)]) (g := gTup K 2 (gCons (gName 3) (gCons (gName 4) gNil)))  rfl nd (pi_list (pv 1)) (blkOk_by (N := nInit) (sc := defScope sInit) (by decide +kernel))
        (fun _ _ _ _ _ => pg_tup rfl (pgs_cons (pg_name (i := 3) nd rfl (.inl rfl) (.inr rfl)) (pgs_cons (pg_name (i := 4) nd rfl (.inl rfl) (.inr rfl)) pgs_nil))) (fun _ _ _ _ _ => pts_one (pt_cmpR op_eq (pv 4) pe_int (nomark _))) (fun _ _ _ _ _ => (pv 4))) pa_nil)) rfl)
    (pss_cons (ps_fld (pv 0) (pe_op op_add (pe_fld (pv 0) rfl) (pe_callB (cr_sum rfl) (by rfl) T.sum (by decide +kernel) (pa_cons (pe_lc (own := [("person", 3), ("width", 4)]) (g := gTup K 2 (gCons (gName 3) (gCons (gName 4) gNil))) (tt := tYes) rfl nd (pi_list (pv 1)) (blkOk_by (N := nInit) (sc := defScope sInit) (by decide +kernel))
        (fun _ _ _ _ _ => pg_tup rfl (pgs_cons (pg_name (i := 3) nd rfl (.inl rfl) (.inr rfl)) (pgs_cons (pg_name (i := 4) nd rfl (.inl rfl) (.inr rfl)) pgs_nil))) (fun _ _ _ _ _ => pts_nil) (fun _ _ _ _ _ => (pv 4))) pa_nil))) rfl)
    (pss_one (ps_fld (pv 0) (pe_callB (call_max2 rfl) (by rfl) hmax (by decide +kernel) (pa_cons pe_int (pa_cons (pe_op op_fdivW (pv 2) (pe_fld (pv 0) rfl)) pa_nil))) rfl))))), ?_⟩
  have npx : p ≠ x := fun z => by rw [z, hx] at hp; cases hp
  have lv := hSt.len
  -- self.steps = steps
  refine ⟨.ref p, rfl, .ref x, rfl, x, C, dx, [], rfl, hx, TC.cl, TC.nSt, by decide, ?_⟩
  have k1 : ∀ c o, H c = some o → c ≠ x → (upd H x (.ins C dx (putF "steps" (.ref p) []))) c = some o := fun c o h n => by rw [upd_ne n]; exact h
  have e1 : (upd H x (.ins C dx (putF "steps" (.ref p) []))) x = some (.ins C dx (putF "steps" (.ref p) [])) := upd_same
  generalize upd H x (.ins C dx (putF "steps" (.ref p) [])) = H1 at k1 e1
  have tupx : ∀ {c : Addr} {xs : List V}, H c = some (.tup xs) → c ≠ x := fun {c xs} h z => by rw [z, hx] at h; cases h
  have st1 : StAt H1 vs' S := hSt.kt fun c xs h => k1 c _ h (tupx h)
  have hp1 := k1 p _ hp npx
  -- the spare ones
  have comp : ∀ {H1 : Hp} {Qd : Hp → Prop} {D : Addr} {σ : L2.St}, H1 D = none → H1 p = some (.lst vs') → StAt H1 vs' S → True := fun _ _ _ => trivial
  refine ⟨.ref p, rfl, p, rfl, ⟨vs', SqL.of hp1⟩, fun D nD => ?_⟩
  refine lc_list (xs := vs') (fun i H5 => H5 = upd H1 D (.lst ((((S.take i).filter fun s => decide (s.2 = 0)).map (·.2)).map V.int))) rfl (fun i H5 _ e => by rw [e]; exact SqL.of (same_upd nD _ _ hp1)) (fun i v H5 hv e => ?_) (fun H5 e => ?_)
  · subst e
    have li : i < S.length := by rw [← lv]; exact (List.getElem?_eq_some_iff.mp hv).1
    obtain ⟨⟨a, w'⟩, hs⟩ : ∃ s, S[i]? = some s := ⟨_, List.getElem?_eq_getElem li⟩
    obtain ⟨b, hb1, hb2⟩ := st1.at_ i _ hs
    rw [hb1] at hv
    cases hv
    have hl : ((((S.take i).filter fun s => decide (s.2 = 0)).map (·.2)).map V.int).length < sizeLine := by
      rw [List.length_map, List.length_map]
      have h1 := List.length_filter_le (fun s : StepT => decide (s.2 = 0)) (S.take i)
      rw [List.length_take] at h1
      omega
    refine ⟨b, [.int a, .int w'], rfl, SqT.of (same_upd nD _ _ hb2), rfl, .int a, [.int w'], rfl, .int w', [], rfl, rfl, rfl, .int w', rfl, rfl, _, rfl, ?_⟩
    rw [List.take_add_one, hs, List.filter_append]
    by_cases c : w' = 0
    · rw [decide_eq_true (by rw [c])]
      refine iteT ⟨.int w', rfl, _, upd_same, hl, ?_⟩
      rw [upd_upd]
      show _ = upd H1 D (.lst ((((_ : List StepT) ++ List.filter (fun s : StepT => decide (s.2 = 0)) [(a, w')]).map (fun s : StepT => s.2)).map V.int))
      rw [List.filter_cons, if_pos (by simpa using c), List.map_append, List.map_append]
      rfl
    · rw [decide_eq_false (fun z => c (V.int.inj z))]
      refine iteF ?_
      show _ = upd H1 D (.lst ((((_ : List StepT) ++ List.filter (fun s : StepT => decide (s.2 = 0)) [(a, w')]).map (fun s : StepT => s.2)).map V.int))
      rw [List.filter_cons, if_neg (by simpa using c)]
      show _ = upd H1 D (.lst ((((_ : List StepT) ++ []).map (fun s : StepT => s.2)).map V.int))
      rw [List.append_nil]
  · have e' : H5 = upd H1 D (.lst (((S.filter fun s => decide (s.2 = 0)).map (·.2)).map V.int)) := by rw [e, lv, List.take_length]
    clear e
    subst e'
    have s2 := same_upd (o := .lst (((S.filter fun s => decide (s.2 = 0)).map (·.2)).map V.int)) nD
    have eD : (upd H1 D (.lst (((S.filter fun s => decide (s.2 = 0)).map (·.2)).map V.int))) D = some (.lst (((S.filter fun s => decide (s.2 = 0)).map (·.2)).map V.int)) := upd_same
    generalize upd H1 D (.lst (((S.filter fun s => decide (s.2 = 0)).map (·.2)).map V.int)) = H2 at s2 eD
    refine ⟨D, _, rfl, .inl (SqL.of eD), .ref x, rfl, x, C, dx, _, rfl, s2 _ _ e1, TC.cl, TC.nSp, pl1 _ _, ?_⟩
    have esp : ((((S.filter fun s => decide (s.2 = 0)).map (·.2)).map V.int).length : Int) = ((spareR S : Nat) : Int) := by
      rw [List.length_map, List.length_map]
      rfl
    rw [esp]
    have k3 : ∀ c o, H c = some o → c ≠ x → (upd H2 x (.ins C dx (putF "spare" (.int (spareR S : Nat)) (putF "steps" (.ref p) [])))) c = some o := fun c o h n => by rw [upd_ne n]; exact s2 _ _ (k1 c o h n)
    have e3 : (upd H2 x (.ins C dx (putF "spare" (.int (spareR S : Nat)) (putF "steps" (.ref p) [])))) x = some (.ins C dx (putF "spare" (.int (spareR S : Nat)) (putF "steps" (.ref p) []))) := upd_same
    generalize upd H2 x (.ins C dx (putF "spare" (.int (spareR S : Nat)) (putF "steps" (.ref p) []))) = H3 at k3 e3
    have hp3 := k3 p _ hp npx
    have st3 : StAt H3 vs' S := hSt.kt fun c xs h => k3 c _ h (tupx h)
    -- self.length
    refine ⟨.ref x, rfl, x, C, dx, _, .int ((spareR S : Nat) : Int), rfl, e3, TC.cl, TC.nSp, by rw [lookup_putF, if_pos rfl], ?_⟩
    refine ⟨.ref p, rfl, p, rfl, ⟨vs', SqL.of hp3⟩, fun D2 nD2 => ?_⟩
    refine lc_list (xs := vs') (fun i H5 => H5 = upd H3 D2 (.lst (((S.take i).map (·.2)).map V.int))) rfl (fun i H5 _ e => by rw [e]; exact SqL.of (same_upd nD2 _ _ hp3)) (fun i v H5 hv e => ?_) (fun H5 e => ?_)
    · subst e
      have li : i < S.length := by rw [← lv]; exact (List.getElem?_eq_some_iff.mp hv).1
      obtain ⟨⟨a, w'⟩, hs⟩ : ∃ s, S[i]? = some s := ⟨_, List.getElem?_eq_getElem li⟩
      obtain ⟨b, hb1, hb2⟩ := st3.at_ i _ hs
      rw [hb1] at hv
      cases hv
      refine ⟨b, [.int a, .int w'], rfl, SqT.of (same_upd nD2 _ _ hb2), rfl, .int a, [.int w'], rfl, .int w', [], rfl, rfl, rfl, yesT ⟨.int w', rfl, _, upd_same, by rw [List.length_map, List.length_map, List.length_take]; omega, ?_⟩⟩
      rw [upd_upd, List.take_add_one, hs, List.map_append, List.map_append]
      rfl
    · have e' : H5 = upd H3 D2 (.lst ((S.map (·.2)).map V.int)) := by rw [e, lv, List.take_length]
      clear e
      subst e'
      have s4 := same_upd (o := .lst ((S.map (·.2)).map V.int)) nD2
      have eD2 : (upd H3 D2 (.lst ((S.map (·.2)).map V.int))) D2 = some (.lst ((S.map (·.2)).map V.int)) := upd_same
      generalize upd H3 D2 (.lst ((S.map (·.2)).map V.int)) = H4 at s4 eD2
      refine ⟨D2, S.map (·.2), rfl, SqL.of eD2, ((spareR S : Nat) : Int), _, rfl, rfl, .ref x, rfl, x, C, dx, _, rfl, s4 _ _ e3, TC.cl, TC.nLe, pl2 _ _ _ _, ?_⟩
      have elen : ((spareR S : Nat) : Int) + (S.map (·.2)).sum = lenR S := lenR_sum S fun s hs => (hw s hs).1
      dsimp only
      rw [elen]
      have k5 : ∀ c o, H c = some o → c ≠ x → (upd H4 x (.ins C dx (putF "length" (.int (lenR S)) (putF "spare" (.int (spareR S : Nat)) (putF "steps" (.ref p) []))))) c = some o := fun c o h n => by rw [upd_ne n]; exact s4 _ _ (k3 c o h n)
      have e5 : (upd H4 x (.ins C dx (putF "length" (.int (lenR S)) (putF "spare" (.int (spareR S : Nat)) (putF "steps" (.ref p) []))))) x = some (.ins C dx (putF "length" (.int (lenR S)) (putF "spare" (.int (spareR S : Nat)) (putF "steps" (.ref p) [])))) := upd_same
      generalize upd H4 x (.ins C dx (putF "length" (.int (lenR S)) (putF "spare" (.int (spareR S : Nat)) (putF "steps" (.ref p) [])))) = H6 at k5 e5
      have hl1 : 1 ≤ lenR S := by
        have := lenR_pos S
        have : S.length ≠ 0 := fun z => hne (List.length_eq_zero_iff.mp z)
        omega
      have hl2 : lenR S < 2 ^ 140 := by
        have h1 := lenR_le (m := 1000000000000000000000000000001) S (fun s hs => (hw s hs).2) (by decide)
        have h2 : (S.length : Int) * 1000000000000000000000000000001 ≤ 8 * 1000000000000000000000000000001 := Int.mul_le_mul_of_nonneg_right (by omega) (by decide)
        omega
      refine ⟨.int room, rfl, .ref x, rfl, x, C, dx, _, .int (lenR S), rfl, e5, TC.cl, TC.nLe, by rw [lookup_putF, if_pos rfl], room, lenR S, rfl, rfl, wide_div (b := 140) (by omega) (by omega) (by decide) (by decide), 1, room / lenR S, rfl, .ref x, rfl, x, C, dx, _, rfl, e5, TC.cl, TC.nTi, pl3 _ _ _ _ _ _, ?_⟩
      have et : (if room / lenR S > 1 then room / lenR S else 1) = timesOf S room := by unfold timesOf; split <;> omega
      rw [et]
      exact q _ dx (fun c o h n => by rw [upd_ne n]; exact k5 c o h n) upd_same
end
end CL
set_option Elab.async false
set_option linter.all false
set_option pp.maxSteps 400
set_option maxRecDepth 100000
set_option maxHeartbeats 4000000
namespace CL
open PySem PySem.Spec PyProof.Rows L2 GE
theorem Int.dvd_sub_of_emod_eq' {a b n : Int} (h : a % n = b % n) : n ∣ a - b := Int.dvd_of_emod_eq_zero (by rw [Int.sub_emod, h, Int.sub_self, Int.zero_emod])
def RunAt (C D : Addr) (H : Hp) (v : V) (r : RunT) : Prop := ∃ x dx p vs, v = .ref x ∧ p ≠ D ∧ H x = some (.ins C dx (rf p r.steps (r.times : Int))) ∧ H p = some (.lst vs) ∧ StAt H vs r.steps
structure RunsAt (C D : Addr) (H : Hp) (vs : List V) (rs : List RunT) : Prop where
  len : vs.length = rs.length
  at_ : ∀ (i : Nat) (r : RunT), rs[i]? = some r → ∃ v, vs[i]? = some v ∧ RunAt C D H v r
theorem RunAt.kd {C D : Addr} {H H' : Hp} {v : V} {r : RunT} {ws : List V} (h : RunAt C D H v r) (hD : H D = some (.lst ws)) (k : ∀ b o, b ≠ D → H b = some o → H' b = some o) : RunAt C D H' v r := by
  obtain ⟨x, dx, p, vs, e, n, h1, h2, h3⟩ := h
  exact ⟨x, dx, p, vs, e, n, k _ _ (fun z => by rw [z, hD] at h1; cases h1) h1, k _ _ n h2, h3.kt fun b xs hb => k _ _ (fun z => by rw [z, hD] at hb; cases hb) hb⟩
theorem RunsAt.kd {C D : Addr} {H H' : Hp} {vs : List V} {rs : List RunT} {ws : List V} (h : RunsAt C D H vs rs) (hD : H D = some (.lst ws)) (k : ∀ b o, b ≠ D → H b = some o → H' b = some o) : RunsAt C D H' vs rs := ⟨h.len, fun i r hr => by
  obtain ⟨v, h1, h2⟩ := h.at_ i r hr
  exact ⟨v, h1, h2.kd hD k⟩⟩
theorem RunsAt.same {C D : Addr} {H H' : Hp} {vs : List V} {rs : List RunT} {ws : List V} (h : RunsAt C D H vs rs) (hD : H D = some (.lst ws)) (s : Same H H') : RunsAt C D H' vs rs := h.kd hD fun b o _ e => s b o e
theorem RunsAt.add {C D : Addr} {H H' : Hp} {vs : List V} {rs : List RunT} {v : V} {r : RunT} (h : RunsAt C D H vs rs) (s : Same H H') (hD' : H' D = some (.lst vs)) (hr : RunAt C D H' v r) : RunsAt C D (upd H' D (.lst (vs ++ [v]))) (vs ++ [v]) (rs ++ [r]) := by
  have k : ∀ b o, b ≠ D → H' b = some o → (upd H' D (.lst (vs ++ [v]))) b = some o := fun b o n e => by rw [upd_ne n]; exact e
  refine ⟨by rw [List.length_append, List.length_append, h.len]; rfl, fun i x hx => ?_⟩
  by_cases c : i < rs.length
  · rw [List.getElem?_append_left c] at hx
    obtain ⟨w, h1, x1, dx, p, ws, e, n, h2, h3, h4⟩ := h.at_ i x hx
    refine ⟨w, by rw [List.getElem?_append_left (by rw [h.len]; exact c)]; exact h1, RunAt.kd (ws := vs) ⟨x1, dx, p, ws, e, n, s _ _ h2, s _ _ h3, h4.kt (KT.of s)⟩ hD' k⟩
  · have hi : i = rs.length := by
      obtain ⟨l, _⟩ := List.getElem?_eq_some_iff.mp hx
      rw [List.length_append, List.length_singleton] at l
      omega
    subst hi
    rw [List.getElem?_concat_length] at hx
    cases hx
    exact ⟨v, by rw [← h.len]; exact List.getElem?_concat_length, hr.kd hD' k⟩
theorem runOk_of {ps : List PieceT} {pc : PieceT} {x a c e stop : Int} {b : Option Int} {S : List StepT} {T : Nat} (hf : ps.find? (comes x) = some pc) (E : EndOk pc.2.1 pc.2.2 x b stop e) (hxa : x ≤ a) (hP : Pth (Wst pc.1 pc.2.2 b x e) a S c) (hne : S ≠ []) (h8 : S.length ≤ 8) (hT : 1 ≤ T)
    (hd : T = 1 ∨ lenR S % (pc.2.2.length : Int) = 0) (hrp : T = 1 ∨ a + T * lenR S ≤ e + 1) (hle : ∀ s ∈ S, s.1 + ((T : Int) - 1) * lenR S ≤ e) : RunOk ps b stop a ⟨S, T⟩ := by
  have hl : 0 ≤ lenR S := by have := lenR_pos S; omega
  have key : ∀ (y : Int) pc', a ≤ y → y + lenR S < a + T * lenR S → ps.find? (comes y) = some pc' → ps.find? (comes (y + lenR S)) = some pc' ∧ tnI pc'.1 pc'.2.2.length (y + lenR S) = tnI pc'.1 pc'.2.2.length y := fun y pc' h1 h2 h3 => by
    rcases Nat.lt_or_ge 1 T with c | c
    · have hd' : lenR S % (pc.2.2.length : Int) = 0 := by
        rcases hd with z | z
        · omega
        · exact z
      have he : a + T * lenR S ≤ e + 1 := by
        rcases hrp with z | z
        · omega
        · exact z
      have f1 := comes_on hf (show x ≤ y by omega) fun m e2 => by have := E.pst m e2; omega
      have f2 := comes_on hf (show x ≤ y + lenR S by omega) fun m e2 => by have := E.pst m e2; omega
      rw [f1] at h3
      cases h3
      refine ⟨f2, ?_⟩
      unfold tnI
      rw [show y + lenR S - pc.1 = y - pc.1 + lenR S by omega, Int.add_emod, hd', Int.add_zero, Int.emod_emod_of_dvd _ (Int.dvd_refl _)]
    · have : T = 1 := by omega
      rw [this, show (((1 : Nat) : Int)) * lenR S = lenR S from Int.one_mul _] at h2
      omega
  refine ⟨hne, hT, h8, fun k hk => ?_, fun y pc' t h1 h2 h3 h4 => ?_, key⟩
  rotate_left
  · obtain ⟨k1, k2⟩ := key y pc' h1 h2 h3
    refine ⟨k1, ?_⟩
    show pc'.2.2[(tnI pc'.1 pc'.2.2.length (y + lenR S)).toNat]? = some t
    rw [k2]
    exact h4
  have hk' : k < T := hk
  have h0 : 0 ≤ (k : Int) * lenR S := Int.mul_nonneg (by omega) hl
  have hk1 : (k : Int) * lenR S ≤ ((T : Int) - 1) * lenR S := Int.mul_le_mul_of_nonneg_right (by omega) hl
  have hz : (k : Int) * lenR S % (pc.2.2.length : Int) = 0 := by
    rcases hd with h | h
    · have : k = 0 := by omega
      rw [this, show ((0 : Nat) : Int) * lenR S = 0 from Int.zero_mul _, Int.zero_emod]
    · rw [Int.mul_emod, h, Int.mul_zero, Int.zero_emod]
  have hend := hP.end_
  show Pth (WS ps b stop) (a + k * lenR S) (shift (k * lenR S) S) (a + (k * lenR S + lenR S))
  rw [show a + ((k : Int) * lenR S + lenR S) = c + k * lenR S by omega]
  refine hP.shift fun s hs hw => ?_
  have h1 := (hP.le.2 s hs).1
  have h2 := hle s hs
  exact wst_on hf E (by omega) hw h0 (by omega) hz
structure PsOk (ps : List PieceT) : Prop where
  len : ps.length ≤ 8
  turns : ∀ pc ∈ ps, 1 ≤ pc.2.2.length ∧ pc.2.2.length ≤ 8 ∧ ∀ t ∈ pc.2.2, isPatience t = true
def spRuns (C : Addr) : Sp := fun vs H Q _ => ∃ a ps, ∃ start stop : Int, ∃ b : Option Int, vs = [.ref a, .int start, optV b, .int stop] ∧ PcsAt H a ps ∧ PsOk ps ∧ 0 ≤ start ∧ (∀ x, start ≤ x → x ≤ stop → ∃ pc, ps.find? (comes x) = some pc) ∧ (∀ y ∈ breaks ps b stop, y < 2 ^ 139) ∧
  ∀ D ws rs c H', Same H H' → H D = none → H' D = some (.lst ws) → RunsAt C D H' ws rs → Lvl ps b stop start rs c → stop < c → rs.length ≤ 20440 → (rs = [] → stop < start) → Q (.ref D) H'
section
variable {P : Program} {w : World} {K : PySem.W.Frag} {mg : Str → Option Value} {base : Heap}
theorem ok_runs {f C fI : Addr} {fd fdI : FuncData} (F : Fun K "runs_on" "runs_on" sRuns f fd) (TC : RunC K mg C fI) (FI : FnOk P w K mg base CX0 1 fI fdI ["self", "steps", "room"] (spInit C)) (bI : Binds K fdI ["self", "steps", "room"] [])
    (CP : Cal P w K mg base 1 "piece_number" ["pieces", "person"] spPieceNo) (CE : Cal P w K mg base 1 "stretch_end" ["piece", "start", "bound", "stop"] spEnd) (CT : Cal P w K mg base 2 "stretch_steps" ["piece", "start", "bound", "end"] spSteps) : FnOk P w K mg base CX0 3 f fd ["pieces", "start", "bound", "stop"] (spRuns C) := by
  refine F.ok scRuns (fun vs H Q E ⟨a, ps, st0, stop, b, e, _⟩ => by rw [e]; rfl) (fun cdv A0 outer s H vs Q E hr h => ?_)
  obtain ⟨a, ps, start, stop, b, rfl, hp, hps, h0, hfind, hB, q⟩ := h
  have nd := scRuns.nd
  have sz : 30000 ≤ sizeLine := by decide
  refine ⟨_, (pss_cons (ps_set (i := 4) nd rfl (.inl rfl) (pe_lst pa_nil))
    (pss_cons (ps_set (i := 5) nd rfl (.inl rfl) (pv 1))
    (pss_cons (ps_while PassesOwn.never (pt_cmpR op_le (pv 5) (pv 3) (nomark _))
    (pss_cons (ps_set (i := 6) nd rfl (.inl rfl) (pe_ix ix_seq (pv 0) (pe_cal (CP.mono (by decide)) hr (by rfl) (pa_cons (pv 0) (pa_cons (pv 5) pa_nil))) (fun _ _ => rfl)))
    (pss_cons (ps_set (i := 7) nd rfl (.inl rfl) (pe_cal (CE.mono (by decide)) hr (by rfl) (pa_cons (pv 6) (pa_cons (pv 5) (pa_cons (pv 2) (pa_cons (pv 3) pa_nil))))))
    (pss_cons (ps_asg (pe_cal (CT.mono (by decide)) hr (by rfl) (pa_cons (pv 6) (pa_cons (pv 5) (pa_cons (pv 2) (pa_cons (pv 7) pa_nil))))) (pg_tup rfl (pgs_cons (pg_name (i := 8) nd rfl (.inl rfl)) (pgs_cons (pg_name (i := 9) nd rfl (.inl rfl)) pgs_nil))))
    (pss_cons (ps_if (pt_truth (pv 8) (by intro _; rfl)) (pss_cons (ps_expr (pe_bm PySem.F.plainAttrs_list PySem.F.slot_list_append PySem.F.type_list_append mt_append (pv 4) (pa_cons (pe_make TC.make FI hr (by rfl) TC.g bI .nil pass0 (pa_cons (pv 8) (pa_cons pe_int pa_nil))) pa_nil)))
    (pss_one (ps_aug (i := 5) nd rfl (.inl rfl) (pe_fld (pe_ix ix_list (pv 4) (pe_un un_neg pe_int) (fun _ _ => rfl)) rfl) ip_add))) pss_nil)
    (pss_one (ps_if (pt_truth (pv 9) (by intro _; rfl)) (pss_cons (ps_expr (pe_bm PySem.F.plainAttrs_list PySem.F.slot_list_append PySem.F.type_list_append mt_append (pv 4) (pa_cons (pe_make TC.make FI hr (by rfl) TC.g bI .nil pass0 (pa_cons (pv 9) (pa_cons (pe_op op_sub (pe_op op_add (pv 7) pe_int) (pv 5)) pa_nil))) pa_nil)))
    (pss_one (ps_aug (i := 5) nd rfl (.inl rfl) (pe_op op_mulW (pe_fld (pe_ix ix_list (pv 4) (pe_un un_neg pe_int) (fun _ _ => rfl)) rfl) (pe_fld (pe_ix ix_list (pv 4) (pe_un un_neg pe_int) (fun _ _ => rfl)) rfl)) ip_add))) pss_nil)))))))
    (pss_one (ps_ret (pv 4)))))), ?_⟩
  have hblen := breaks_len (b := b) (stop := stop) hps.len fun pc hpc => (hps.turns pc hpc).2.1
  have hphi0 : phi (breaks ps b stop) start ≤ 10220 := by
    have := phi_le (breaks ps b stop) (x := start) fun y hy => by have := hB y hy; omega
    omega
  refine ⟨Nat.zero_le _, fun D nDH => ?_⟩
  have s1 := same_upd (o := .lst []) nDH
  have e1D : (upd H D (.lst [])) D = some (.lst []) := upd_same
  generalize upd H D (.lst []) = H1 at s1 e1D
  refine ⟨.int start, rfl, ?_⟩
  refine ⟨fun k σ H4 => ∃ ws rs, ∃ x : Int, ∃ y6 y7 y8 y9, σ = [some (.ref a), some (.int start), some (optV b), some (.int stop), some (.ref D), some (.int x), y6, y7, y8, y9] ∧ Same H H4 ∧ H4 D = some (.lst ws) ∧ RunsAt C D H4 ws rs ∧ Lvl ps b stop start rs x ∧ start ≤ x ∧
      rs.length + 2 * phi (breaks ps b stop) x ≤ 2 * phi (breaks ps b stop) start ∧ (rs = [] → x = start) ∧ k = (stop + 1 - x).toNat, ⟨_, [], [], start, none, none, none, none, rfl, s1, e1D, ⟨rfl, fun i r h => by cases i <;> cases h⟩, rfl, Int.le_refl _, by show 0 + _ ≤ _; omega, fun _ => rfl, rfl⟩, fun k σ H4 ⟨ws, rs, x, y6, y7, y8, y9, eσ, s4, e4D, ra, lv, hsx, hlen, hr0, hk⟩ => ?_⟩
  subst eσ
  refine ⟨.int x, rfl, .int stop, rfl, x, stop, rfl, rfl, _, rfl, ?_⟩
  by_cases cx : x ≤ stop
  · rw [decide_eq_true cx]
    refine iteT ⟨fun σ' H' => ∃ m', m' < k ∧ ∃ ws rs, ∃ x : Int, ∃ y6 y7 y8 y9, σ' = [some (.ref a), some (.int start), some (optV b), some (.int stop), some (.ref D), some (.int x), y6, y7, y8, y9] ∧ Same H H' ∧ H' D = some (.lst ws) ∧ RunsAt C D H' ws rs ∧ Lvl ps b stop start rs x ∧ start ≤ x ∧
      rs.length + 2 * phi (breaks ps b stop) x ≤ 2 * phi (breaks ps b stop) start ∧ (rs = [] → x = start) ∧ m' = (stop + 1 - x).toNat, fun σ' H' ⟨m', h1, h2⟩ => ⟨m', h1, h2⟩, ?_⟩
    obtain ⟨pc, hfd⟩ := hfind x hsx cx
    have hmem := List.mem_of_find?_eq_some hfd
    obtain ⟨tl, th, tp⟩ := hps.turns pc hmem
    have hp4 : PcsAt H4 a ps := by
      obtain ⟨xs, h1, h2⟩ := hp.ex
      exact ⟨xs, s4 _ _ h1, RpAll.sm s4 h2⟩
    refine ⟨.ref a, rfl, .ref a, rfl, .int x, rfl, a, x, ps, pc, rfl, hp4, hfd, fun i hi => ?_⟩
    obtain ⟨xs, b0, t, zs, st, _, hxi, hb0, ht, hz⟩ := pc_at hp4 hi
    refine rix_of st hxi ?_
    have hT : TurnsAt H4 t pc.2.2 := ⟨⟨zs, ht, hz⟩, tp, tl, th⟩
    have hpast : ∀ m, pc.2.1 = some m → x < m := fun m e => by
      have := (List.find?_eq_some_iff_append.mp hfd).1
      unfold comes at this
      rw [e] at this
      exact of_decide_eq_true this
    refine ⟨.ref b0, rfl, .int x, rfl, optV b, rfl, .int stop, rfl, b0, t, pc.2.2, pc.1, x, stop, b, pc.2.1, rfl, hb0, hT, cx, hpast, fun e H5 s5 hE => ?_⟩
    refine ⟨.ref b0, rfl, .int x, rfl, optV b, rfl, .int e, rfl, b0, t, pc.2.2, pc.1, x, e, b, pc.2.1, rfl, s5 _ _ hb0, hT.same s5, hE.lo, fun pr A B va vb once again c H6 s6 nA nB epr eA eB stA stB hStp => ?_⟩
    refine ⟨pr, _, rfl, SqT.of epr, rfl, .ref A, _, rfl, .ref B, _, rfl, rfl, ?_⟩
    have s46 := s5.trans s6
    have s06 := s4.trans s46
    have e6D := s46 _ _ e4D
    have ra6 := ra.same e4D s46
    have nAD : A ≠ D := fun z => by rw [z, s5 _ _ e4D] at nA; cases nA
    have nBD : B ≠ D := fun z => by rw [z, s5 _ _ e4D] at nB; cases nB
    have hbr := mem_breaks hmem hE
    have hlo := hE.lo
    have hhi := hE.hi
    have hwid : ∀ s ∈ once ++ again, 0 ≤ s.2 ∧ s.2 ≤ GREAT + 1 := fun s hs => by
      obtain ⟨_, t', ht', hw'⟩ := (hStp.path.le.2 s hs).2.2
      have hpt := tp t' (List.mem_of_getElem? ht')
      rw [hw']
      refine ⟨wd_nn hpt, ?_⟩
      rcases pat_cases hpt with rfl | ⟨p, rfl, h1, h2⟩
      · show (0 : Int) ≤ GREAT + 1; decide
      · cases b with
        | none => show p + 1 ≤ GREAT + 1; omega
        | some m =>
          show (if x + p ≤ m then p + 1 else 0) ≤ GREAT + 1
          have : (0 : Int) ≤ GREAT := by decide
          split <;> omega
    by_cases hon : once = []
    · have hva : va = [] := List.length_eq_zero_iff.mp (by rw [stA.len, hon]; rfl)
      refine ⟨.ref A, rfl, false, .inl ⟨va, SqL.of eA, by rw [hva]; rfl⟩, iteF ?_⟩
      have hlen6 : rs.length + 2 * phi (breaks ps b stop) x ≤ 2 * phi (breaks ps b stop) start := hlen
      have hm6 : rs = [] → x = x := fun _ => rfl
      have k66 : ∀ c o, c ≠ D → H6 c = some o → H6 c = some o := fun _ _ _ h => h
      by_cases hag : again = []
      · exact absurd (by rw [hon, hag]; rfl) hStp.ne
      · -- some of them again and again
        have hvb : vb.isEmpty = false := by
          cases vb with
          | nil => exact absurd (List.length_eq_zero_iff.mp (by rw [← stB.len]; rfl)) hag
          | cons _ _ => rfl
        obtain ⟨s0, T0, eag⟩ : ∃ s0 T0, again = s0 :: T0 := by
          cases again with
          | nil => exact absurd rfl hag
          | cons s0 T0 => exact ⟨s0, T0, rfl⟩
        obtain ⟨hce, htn⟩ := hStp.rep s0 T0 eag
        obtain ⟨m2, hp1, hp2⟩ := hStp.path.split
        have hm2 : m2 = x := by
          have e := hp1.end_
          first | exact e | (rw [e, hon]; exact Int.add_zero x)
        rw [hm2] at hp1 hp2
        have hc2 := hp2.end_
        have hs0 : s0.1 = x := by
          rw [eag] at hp2
          exact hp2.1
        have hl1 : 1 ≤ lenR again := by
          have := lenR_pos again
          have : again.length ≠ 0 := fun z => hag (List.length_eq_zero_iff.mp z)
          omega
        have hdiv : lenR again % (pc.2.2.length : Int) = 0 := by
          have h1 : (c - pc.1) % (pc.2.2.length : Int) = (s0.1 - pc.1) % (pc.2.2.length : Int) := htn
          have h2 : lenR again = (c - pc.1) - (s0.1 - pc.1) := by omega
          rw [h2]
          exact Int.emod_eq_zero_of_dvd (Int.dvd_sub_of_emod_eq' h1)
        have hroom : lenR again < e + 1 - x := by omega
        generalize hrm : e + 1 - x = room at hroom
        have hT1 : 1 ≤ room / lenR again := Int.le_ediv_of_mul_le (by omega) (by omega)
        have hT2 : room / lenR again * lenR again ≤ room := Int.ediv_mul_le _ (by omega)
        have hT3 : room - room / lenR again * lenR again < lenR again := by
          have h1 := Int.emod_lt_of_pos room (show 0 < lenR again by omega)
          have h2 := Int.emod_add_mul_ediv room (lenR again)
          have h3 : lenR again * (room / lenR again) = room / lenR again * lenR again := Int.mul_comm _ _
          omega
        have hTt : timesOf again room = room / lenR again := by unfold timesOf; omega
        obtain ⟨tn, htn2⟩ : ∃ tn : Nat, room / lenR again = (tn : Int) := ⟨(room / lenR again).toNat, by omega⟩
        rw [htn2] at hT1 hT2 hT3
        have hTl : lenR again ≤ (tn : Int) * lenR again := by
          have := Int.mul_le_mul_of_nonneg_right hT1 (show 0 ≤ lenR again by omega)
          rw [Int.one_mul] at this
          exact this
        have hok : RunOk ps b stop (x) ⟨again, tn⟩ := runOk_of hfd hE (show x ≤ x by omega) hp2 hag (by have := hStp.len; rw [List.length_append] at this; omega) (by omega) (.inr hdiv) (.inr (by omega)) fun s hs => by
          have h1 := (hp2.le.2 s hs).2.1
          have h2 : ((tn : Int) - 1) * lenR again = (tn : Int) * lenR again - lenR again := by rw [Int.sub_mul, Int.one_mul]
          rw [h2]
          omega
        have hwb : ∀ s ∈ again, 0 ≤ s.2 ∧ s.2 ≤ GREAT + 1 := fun s hs => hwid s (List.mem_append_right _ hs)
        refine ⟨.ref B, rfl, true, .inl ⟨vb, SqL.of (k66 _ _ nBD eB), by rw [hvb]; rfl⟩, iteT ?_⟩
        refine ⟨.ref D, rfl, .inl ⟨rfl, _, SqL.of e6D⟩, .ref B, rfl, .int e, rfl, e, 1, rfl, rfl, .int (x), rfl, e + 1, x, rfl, rfl, fun x2 dx2 nx2 ndx2 nex2 => ?_⟩
        dsimp only
        rw [hrm]
        have nDx : D ≠ x2 := fun z => by rw [← z, e6D] at nx2; cases nx2
        have nDd : D ≠ dx2 := fun z => by rw [← z, e6D] at ndx2; cases ndx2
        have nBx : B ≠ x2 := fun z => by rw [← z, k66 _ _ nBD eB] at nx2; cases nx2
        have sx : Same H6 (upd (upd H6 dx2 (.own x2)) x2 (.ins C dx2 [])) := fun p o hp => by
          rw [upd_ne (fun z => by rw [z, nx2] at hp; cases hp), upd_ne (fun z => by rw [z, ndx2] at hp; cases hp)]
          exact hp
        refine ⟨x2, B, dx2, vb, again, room, rfl, upd_same, sx _ _ (k66 _ _ nBD eB), (stB.kt fun p o hp => k66 _ _ (fun z => by rw [z, e6D] at hp; cases hp) hp).kt (KT.of sx), hag, by have := hStp.len; rw [List.length_append] at this; omega, hwb, fun H10 dx3 k10 e10 => ⟨rfl, ?_⟩⟩
        rw [hTt, htn2] at e10
        have s10 : Same H6 H10 := fun p o hp => k10 p o (sx _ _ hp) (fun z => by rw [z, nx2] at hp; cases hp)
        have eD10 := s10 _ _ e6D
        refine ⟨D, _, .ref x2, rfl, rfl, eD10, by rw [ra6 |>.len]; have := hlen6; omega, ?_⟩
        have ra11 : RunsAt C D (upd H10 D (.lst (ws ++ [.ref x2]))) (ws ++ [.ref x2]) (rs ++ [⟨again, tn⟩]) := (ra6).add s10 eD10 ⟨x2, dx3, B, vb, rfl, nBD, e10, s10 _ _ (k66 _ _ nBD eB), (stB.kt fun p o hp => k66 _ _ (fun z => by rw [z, e6D] at hp; cases hp) hp).kt (KT.of s10)⟩
        have s11 : Same H (upd H10 D (.lst (ws ++ [.ref x2]))) := fun p o hp => by
          rw [upd_ne (fun z => by rw [z, nDH] at hp; cases hp)]
          exact s10 _ _ (s06 _ _ hp)
        have e11x : (upd H10 D (.lst (ws ++ [.ref x2]))) x2 = some (.ins C dx3 (rf B again (tn : Int))) := by rw [upd_ne (Ne.symm nDx)]; exact e10
        have e11D : (upd H10 D (.lst (ws ++ [.ref x2]))) D = some (.lst (ws ++ [.ref x2])) := upd_same
        generalize upd H10 D (.lst (ws ++ [.ref x2])) = H11 at ra11 s11 e11x e11D
        have hw2 := lenR_le (m := 1000000000000000000000000000001) again (fun s hs => (hwb s hs).2) (by decide)
        have hw3 : (again.length : Int) * 1000000000000000000000000000001 ≤ 8 * 1000000000000000000000000000001 := Int.mul_le_mul_of_nonneg_right (by have := hStp.len; rw [List.length_append] at this; omega) (by decide)
        have htr : (tn : Int) ≤ room := by
          have := Int.mul_le_mul_of_nonneg_left hl1 (show (0 : Int) ≤ (tn : Int) by omega)
          rw [Int.mul_one] at this
          omega
        have hbe := hB _ hbr
        refine ⟨.int (x), rfl, .ref D, rfl, 1, rfl, D, _, -1, .ref x2, rfl, rfl, SqL.of e11D, atI_last _ _, x2, C, dx3, _, .int (tn : Int), rfl, e11x, TC.cl, TC.nTi, rf_times _ _ _, .ref D, rfl, 1, rfl, D, _, -1, .ref x2, rfl, rfl, SqL.of e11D, atI_last _ _, x2, C, dx3, _, .int (lenR again), rfl, e11x, TC.cl, TC.nLe, rf_length _ _ _, (tn : Int), lenR again, rfl, rfl, wide_mul (a := 140) (b := 140) (by omega) (by omega) (by decide) (by decide) (by decide), x, (tn : Int) * lenR again, rfl, rfl, ?_⟩
        refine ⟨(stop + 1 - (x + (tn : Int) * lenR again)).toNat, by omega, _, _, x + (tn : Int) * lenR again, _, _, _, _, rfl, s11, e11D, ra11, Lvl.snoc lv hok, by omega, ?_, fun z => by simp at z, rfl⟩
        have hphi := phi_less (breaks ps b stop) hbr (show x ≤ x + (tn : Int) * lenR again by omega) (lgp_half (by omega) (by omega))
        have := hlen6
        rw [List.length_append, List.length_singleton]
        omega
    · have hva : va.isEmpty = false := by
        cases va with
        | nil => exact absurd (List.length_eq_zero_iff.mp (by rw [← stA.len]; rfl)) hon
        | cons _ _ => rfl
      obtain ⟨m0, hq1, _⟩ := hStp.path.split
      have ho1 : 1 ≤ lenR once := by
        have := lenR_pos once
        have : once.length ≠ 0 := fun z => hon (List.length_eq_zero_iff.mp z)
        omega
      have hwa : ∀ s ∈ once, 0 ≤ s.2 ∧ s.2 ≤ GREAT + 1 := fun s hs => hwid s (List.mem_append_left _ hs)
      have hto : timesOf once 0 = 1 := by unfold timesOf; rw [Int.zero_ediv]; rfl
      have hok1 : RunOk ps b stop x ⟨once, 1⟩ := runOk_of hfd hE (Int.le_refl _) hq1 hon (by have := hStp.len; rw [List.length_append] at this; omega) (Nat.le_refl 1) (.inl rfl) (.inl rfl) fun s hs => by
        have h1 := (hq1.le.2 s hs).2.2.1
        rw [show (((1 : Nat) : Int) - 1) * lenR once = 0 from Int.zero_mul _]
        omega
      refine ⟨.ref A, rfl, true, .inl ⟨va, SqL.of eA, by rw [hva]; rfl⟩, iteT ?_⟩
      refine ⟨.ref D, rfl, .inl ⟨rfl, _, SqL.of e6D⟩, .ref A, rfl, fun x1 dx1 nx1 ndx1 nex1 => ?_⟩
      have nDx1 : D ≠ x1 := fun z => by rw [← z, e6D] at nx1; cases nx1
      have sx1 : Same H6 (upd (upd H6 dx1 (.own x1)) x1 (.ins C dx1 [])) := fun p o hp => by
        rw [upd_ne (fun z => by rw [z, nx1] at hp; cases hp), upd_ne (fun z => by rw [z, ndx1] at hp; cases hp)]
        exact hp
      refine ⟨x1, A, dx1, va, once, 0, rfl, upd_same, sx1 _ _ eA, stA.kt (KT.of sx1), hon, by have := hStp.len; rw [List.length_append] at this; omega, hwa, fun H8 dx3 k8 e8 => ⟨rfl, ?_⟩⟩
      rw [hto] at e8
      have s8 : Same H6 H8 := fun p o hp => k8 p o (sx1 _ _ hp) (fun z => by rw [z, nx1] at hp; cases hp)
      have e8D := s8 _ _ e6D
      refine ⟨D, _, .ref x1, rfl, rfl, e8D, by rw [ra6.len]; omega, ?_⟩
      have ra9 : RunsAt C D (upd H8 D (.lst (ws ++ [.ref x1]))) (ws ++ [.ref x1]) (rs ++ [⟨once, 1⟩]) := ra6.add s8 e8D ⟨x1, dx3, A, va, rfl, nAD, e8, s8 _ _ eA, stA.kt (KT.of s8)⟩
      have s9 : Same H (upd H8 D (.lst (ws ++ [.ref x1]))) := fun p o hp => by
        rw [upd_ne (fun z => by rw [z, nDH] at hp; cases hp)]
        exact s8 _ _ (s06 _ _ hp)
      have k69 : ∀ c o, c ≠ D → H6 c = some o → (upd H8 D (.lst (ws ++ [.ref x1]))) c = some o := fun c o n h => by rw [upd_ne n]; exact s8 _ _ h
      have e9x : (upd H8 D (.lst (ws ++ [.ref x1]))) x1 = some (.ins C dx3 (rf A once 1)) := by rw [upd_ne (Ne.symm nDx1)]; exact e8
      have e9D : (upd H8 D (.lst (ws ++ [.ref x1]))) D = some (.lst (ws ++ [.ref x1])) := upd_same
      generalize upd H8 D (.lst (ws ++ [.ref x1])) = H9 at ra9 s9 k69 e9x e9D
      refine ⟨.int x, rfl, .ref D, rfl, 1, rfl, D, _, -1, .ref x1, rfl, rfl, SqL.of e9D, atI_last _ _, x1, C, dx3, _, .int (lenR once), rfl, e9x, TC.cl, TC.nLe, rf_length _ _ _, x, lenR once, rfl, rfl, ?_⟩
      have lv9 : Lvl ps b stop start (rs ++ [⟨once, 1⟩]) (x + lenR once) := by
        have := lv.snoc hok1
        rw [show (((⟨once, 1⟩ : RunT).times : Nat) : Int) * lenR (⟨once, 1⟩ : RunT).steps = lenR once from Int.one_mul _] at this
        exact this
      have hlen9 : (rs ++ [(⟨once, 1⟩ : RunT)]).length + 2 * phi (breaks ps b stop) x ≤ 2 * phi (breaks ps b stop) start + 1 := by rw [List.length_append, List.length_singleton]; omega
      have hm9 : rs ++ [(⟨once, 1⟩ : RunT)] = [] → x + lenR once = x := fun z => by simp at z
      by_cases hag : again = []
      · -- none of them again
        have hvb : vb = [] := List.length_eq_zero_iff.mp (by rw [stB.len, hag]; rfl)
        refine ⟨.ref B, rfl, false, .inl ⟨vb, SqL.of (k69 _ _ nBD eB), by rw [hvb]; rfl⟩, iteF ?_⟩
        have hc := hStp.nil hag
        have hcm : c = (x + lenR once) := by
          have e1 := hStp.path.end_
          rw [hag, List.append_nil] at e1
          exact e1
        refine ⟨(stop + 1 - (x + lenR once)).toNat, by omega, (ws ++ [.ref x1]), (rs ++ [⟨once, 1⟩]), (x + lenR once), _, _, _, _, rfl, s9, e9D, ra9, lv9, by omega, ?_, fun z => ?_, rfl⟩
        · have hphi := phi_less (breaks ps b stop) hbr (show x ≤ (x + lenR once) by omega) (by
            unfold lgp
            rw [if_pos (by omega), if_neg (by omega)]
            omega)
          have := hlen9
          omega
        · exact absurd (show c = x by rw [hcm]; exact hm9 z) (by omega)
      · -- some of them again and again
        have hvb : vb.isEmpty = false := by
          cases vb with
          | nil => exact absurd (List.length_eq_zero_iff.mp (by rw [← stB.len]; rfl)) hag
          | cons _ _ => rfl
        obtain ⟨s0, T0, eag⟩ : ∃ s0 T0, again = s0 :: T0 := by
          cases again with
          | nil => exact absurd rfl hag
          | cons s0 T0 => exact ⟨s0, T0, rfl⟩
        obtain ⟨hce, htn⟩ := hStp.rep s0 T0 eag
        obtain ⟨m2, hp1, hp2⟩ := hStp.path.split
        have hm2 : m2 = (x + lenR once) := by
          have e := hp1.end_
          first | exact e | (rw [e, hon]; exact Int.add_zero x)
        rw [hm2] at hp1 hp2
        have hc2 := hp2.end_
        have hs0 : s0.1 = (x + lenR once) := by
          rw [eag] at hp2
          exact hp2.1
        have hl1 : 1 ≤ lenR again := by
          have := lenR_pos again
          have : again.length ≠ 0 := fun z => hag (List.length_eq_zero_iff.mp z)
          omega
        have hdiv : lenR again % (pc.2.2.length : Int) = 0 := by
          have h1 : (c - pc.1) % (pc.2.2.length : Int) = (s0.1 - pc.1) % (pc.2.2.length : Int) := htn
          have h2 : lenR again = (c - pc.1) - (s0.1 - pc.1) := by omega
          rw [h2]
          exact Int.emod_eq_zero_of_dvd (Int.dvd_sub_of_emod_eq' h1)
        have hroom : lenR again < e + 1 - (x + lenR once) := by omega
        generalize hrm : e + 1 - (x + lenR once) = room at hroom
        have hT1 : 1 ≤ room / lenR again := Int.le_ediv_of_mul_le (by omega) (by omega)
        have hT2 : room / lenR again * lenR again ≤ room := Int.ediv_mul_le _ (by omega)
        have hT3 : room - room / lenR again * lenR again < lenR again := by
          have h1 := Int.emod_lt_of_pos room (show 0 < lenR again by omega)
          have h2 := Int.emod_add_mul_ediv room (lenR again)
          have h3 : lenR again * (room / lenR again) = room / lenR again * lenR again := Int.mul_comm _ _
          omega
        have hTt : timesOf again room = room / lenR again := by unfold timesOf; omega
        obtain ⟨tn, htn2⟩ : ∃ tn : Nat, room / lenR again = (tn : Int) := ⟨(room / lenR again).toNat, by omega⟩
        rw [htn2] at hT1 hT2 hT3
        have hTl : lenR again ≤ (tn : Int) * lenR again := by
          have := Int.mul_le_mul_of_nonneg_right hT1 (show 0 ≤ lenR again by omega)
          rw [Int.one_mul] at this
          exact this
        have hok : RunOk ps b stop ((x + lenR once)) ⟨again, tn⟩ := runOk_of hfd hE (show x ≤ (x + lenR once) by omega) hp2 hag (by have := hStp.len; rw [List.length_append] at this; omega) (by omega) (.inr hdiv) (.inr (by omega)) fun s hs => by
          have h1 := (hp2.le.2 s hs).2.1
          have h2 : ((tn : Int) - 1) * lenR again = (tn : Int) * lenR again - lenR again := by rw [Int.sub_mul, Int.one_mul]
          rw [h2]
          omega
        have hwb : ∀ s ∈ again, 0 ≤ s.2 ∧ s.2 ≤ GREAT + 1 := fun s hs => hwid s (List.mem_append_right _ hs)
        refine ⟨.ref B, rfl, true, .inl ⟨vb, SqL.of (k69 _ _ nBD eB), by rw [hvb]; rfl⟩, iteT ?_⟩
        refine ⟨.ref D, rfl, .inl ⟨rfl, _, SqL.of e9D⟩, .ref B, rfl, .int e, rfl, e, 1, rfl, rfl, .int ((x + lenR once)), rfl, e + 1, (x + lenR once), rfl, rfl, fun x2 dx2 nx2 ndx2 nex2 => ?_⟩
        dsimp only
        rw [hrm]
        have nDx : D ≠ x2 := fun z => by rw [← z, e9D] at nx2; cases nx2
        have nDd : D ≠ dx2 := fun z => by rw [← z, e9D] at ndx2; cases ndx2
        have nBx : B ≠ x2 := fun z => by rw [← z, k69 _ _ nBD eB] at nx2; cases nx2
        have sx : Same H9 (upd (upd H9 dx2 (.own x2)) x2 (.ins C dx2 [])) := fun p o hp => by
          rw [upd_ne (fun z => by rw [z, nx2] at hp; cases hp), upd_ne (fun z => by rw [z, ndx2] at hp; cases hp)]
          exact hp
        refine ⟨x2, B, dx2, vb, again, room, rfl, upd_same, sx _ _ (k69 _ _ nBD eB), (stB.kt fun p o hp => k69 _ _ (fun z => by rw [z, e6D] at hp; cases hp) hp).kt (KT.of sx), hag, by have := hStp.len; rw [List.length_append] at this; omega, hwb, fun H10 dx3 k10 e10 => ⟨rfl, ?_⟩⟩
        rw [hTt, htn2] at e10
        have s10 : Same H9 H10 := fun p o hp => k10 p o (sx _ _ hp) (fun z => by rw [z, nx2] at hp; cases hp)
        have eD10 := s10 _ _ e9D
        refine ⟨D, _, .ref x2, rfl, rfl, eD10, by rw [ra9 |>.len]; have := hlen9; omega, ?_⟩
        have ra11 : RunsAt C D (upd H10 D (.lst ((ws ++ [.ref x1]) ++ [.ref x2]))) ((ws ++ [.ref x1]) ++ [.ref x2]) ((rs ++ [⟨once, 1⟩]) ++ [⟨again, tn⟩]) := (ra9).add s10 eD10 ⟨x2, dx3, B, vb, rfl, nBD, e10, s10 _ _ (k69 _ _ nBD eB), (stB.kt fun p o hp => k69 _ _ (fun z => by rw [z, e6D] at hp; cases hp) hp).kt (KT.of s10)⟩
        have s11 : Same H (upd H10 D (.lst ((ws ++ [.ref x1]) ++ [.ref x2]))) := fun p o hp => by
          rw [upd_ne (fun z => by rw [z, nDH] at hp; cases hp)]
          exact s10 _ _ (s9 _ _ hp)
        have e11x : (upd H10 D (.lst ((ws ++ [.ref x1]) ++ [.ref x2]))) x2 = some (.ins C dx3 (rf B again (tn : Int))) := by rw [upd_ne (Ne.symm nDx)]; exact e10
        have e11D : (upd H10 D (.lst ((ws ++ [.ref x1]) ++ [.ref x2]))) D = some (.lst ((ws ++ [.ref x1]) ++ [.ref x2])) := upd_same
        generalize upd H10 D (.lst ((ws ++ [.ref x1]) ++ [.ref x2])) = H11 at ra11 s11 e11x e11D
        have hw2 := lenR_le (m := 1000000000000000000000000000001) again (fun s hs => (hwb s hs).2) (by decide)
        have hw3 : (again.length : Int) * 1000000000000000000000000000001 ≤ 8 * 1000000000000000000000000000001 := Int.mul_le_mul_of_nonneg_right (by have := hStp.len; rw [List.length_append] at this; omega) (by decide)
        have htr : (tn : Int) ≤ room := by
          have := Int.mul_le_mul_of_nonneg_left hl1 (show (0 : Int) ≤ (tn : Int) by omega)
          rw [Int.mul_one] at this
          omega
        have hbe := hB _ hbr
        refine ⟨.int ((x + lenR once)), rfl, .ref D, rfl, 1, rfl, D, _, -1, .ref x2, rfl, rfl, SqL.of e11D, atI_last _ _, x2, C, dx3, _, .int (tn : Int), rfl, e11x, TC.cl, TC.nTi, rf_times _ _ _, .ref D, rfl, 1, rfl, D, _, -1, .ref x2, rfl, rfl, SqL.of e11D, atI_last _ _, x2, C, dx3, _, .int (lenR again), rfl, e11x, TC.cl, TC.nLe, rf_length _ _ _, (tn : Int), lenR again, rfl, rfl, wide_mul (a := 140) (b := 140) (by omega) (by omega) (by decide) (by decide) (by decide), (x + lenR once), (tn : Int) * lenR again, rfl, rfl, ?_⟩
        refine ⟨(stop + 1 - ((x + lenR once) + (tn : Int) * lenR again)).toNat, by omega, _, _, (x + lenR once) + (tn : Int) * lenR again, _, _, _, _, rfl, s11, e11D, ra11, Lvl.snoc lv9 hok, by omega, ?_, fun z => by simp at z, rfl⟩
        have hphi := phi_less (breaks ps b stop) hbr (show x ≤ (x + lenR once) + (tn : Int) * lenR again by omega) (lgp_half (by omega) (by omega))
        have := hlen9
        rw [List.length_append, List.length_singleton]
        omega
  · rw [decide_eq_false cx]
    exact iteF ⟨.ref D, rfl, q D ws rs x H4 s4 nDH e4D ra lv (by omega) (by omega) fun z => by have := hr0 z; omega⟩
end
end CL
set_option Elab.async false
set_option linter.all false
set_option pp.maxSteps 400
set_option maxRecDepth 100000
set_option maxHeartbeats 4000000
namespace CL
open PySem PySem.Spec PyProof.Rows L2 GE
/-! ### walks along one level, and the last of a person -/
/-- met on the level that begins at s -/
inductive Rch (ps : List PieceT) (b : Option Int) : Int → Int → Prop
  | here (x : Int) : Rch ps b x x
  | on {s x w : Int} : WP ps b s w → Rch ps b (s + max w 1) x → Rch ps b s x
/-- met there, and left over -/
inductive SpR (ps : List PieceT) (b : Option Int) : Int → Int → Prop
  | here {x : Int} : WP ps b x 0 → SpR ps b x x
  | on {s x w : Int} : WP ps b s w → s + max w 1 ≤ x → SpR ps b (s + max w 1) x → SpR ps b s x
/-- the last one that goes past x, where s is on the level of that bound -/
inductive Las (ps : List PieceT) : Option Int → Int → Int → Option Int → Prop
  | spare {b : Option Int} {x : Int} : WP ps b x 0 → Las ps b x x b
  | own {b : Option Int} {x w : Int} : WP ps b x w → 0 < w → Las ps b x x (some (x + w - 1))
  | inn {b l : Option Int} {s x w : Int} : WP ps b s w → s < x → x < s + w → Las ps (some (s + w - 1)) (s + 1) x l → Las ps b s x l
  | skip {b l : Option Int} {s x w : Int} : WP ps b s w → s + max w 1 ≤ x → Las ps b (s + max w 1) x l → Las ps b s x l
/-- the patience of one that comes -/
def Pt (ps : List PieceT) (x : Int) (t : PyData) : Prop := ∃ pc, ps.find? (comes x) = some pc ∧ pc.2.2[(tnI pc.1 pc.2.2.length x).toNat]? = some t
theorem pt_uniq {ps : List PieceT} {x : Int} {t t' : PyData} (h : Pt ps x t) (h' : Pt ps x t') : t = t' := by
  obtain ⟨pc, h1, h2⟩ := h
  obtain ⟨pc', h3, h4⟩ := h'
  rw [h1] at h3
  cases h3
  rw [h2] at h4
  exact Option.some.inj h4
theorem wp_pt {ps : List PieceT} {b : Option Int} {x w : Int} (h : WP ps b x w) : ∃ t, Pt ps x t ∧ w = wd b x t := by
  obtain ⟨pc, t, h1, h2, h3⟩ := h
  exact ⟨t, ⟨pc, h1, h2⟩, h3⟩
theorem pt_wp {ps : List PieceT} (b : Option Int) {x : Int} {t : PyData} (h : Pt ps x t) : WP ps b x (wd b x t) := by
  obtain ⟨pc, h1, h2⟩ := h
  exact ⟨pc, t, h1, h2, rfl⟩
theorem wp_uniq {ps : List PieceT} {b : Option Int} {x w w' : Int} (h : WP ps b x w) (h' : WP ps b x w') : w = w' := by
  obtain ⟨t, h1, rfl⟩ := wp_pt h
  obtain ⟨t', h2, rfl⟩ := wp_pt h'
  rw [pt_uniq h1 h2]
theorem rch_le {ps : List PieceT} {b : Option Int} {s x : Int} (h : Rch ps b s x) : s ≤ x := by
  induction h with
  | here => omega
  | on _ _ ih => omega
theorem rch_trans {ps : List PieceT} {b : Option Int} {s x y : Int} (h : Rch ps b s x) (h' : Rch ps b x y) : Rch ps b s y := by
  induction h with
  | here => exact h'
  | on h1 _ ih => exact .on h1 (ih h')
theorem spr_le {ps : List PieceT} {b : Option Int} {s x : Int} (h : SpR ps b s x) : s ≤ x := by
  induction h with
  | here => omega
  | on _ _ _ ih => omega
theorem spr_wp {ps : List PieceT} {b : Option Int} {s x : Int} (h : SpR ps b s x) : WP ps b x 0 := by
  induction h with
  | here h => exact h
  | on _ _ _ ih => exact ih
theorem spr_of {ps : List PieceT} {b : Option Int} {s y x : Int} (h : Rch ps b s y) (h' : SpR ps b y x) : SpR ps b s x := by
  induction h with
  | here => exact h'
  | on h1 _ ih => exact .on h1 (spr_le (ih h')) (ih h')
theorem las_ge {ps : List PieceT} {b l : Option Int} {s x : Int} (h : Las ps b s x l) : s ≤ x := by
  induction h with
  | spare => omega
  | own => omega
  | inn => omega
  | skip => omega
theorem las_of {ps : List PieceT} {b l : Option Int} {s y x : Int} (h : Rch ps b s y) (h' : Las ps b y x l) : Las ps b s x l := by
  induction h with
  | here => exact h'
  | on h1 _ ih => exact .skip h1 (las_ge (ih h')) (ih h')
theorem spr_las {ps : List PieceT} {b : Option Int} {s x : Int} (h : SpR ps b s x) : Las ps b s x b := by
  induction h with
  | here h => exact .spare h
  | on h1 h2 _ ih => exact .skip h1 h2 ih
/-! ### steps and runs -/
theorem pth_rch {ps : List PieceT} {b : Option Int} {stop : Int} : ∀ {S : List StepT} {a c : Int}, Pth (WS ps b stop) a S c → Rch ps b a c
  | [], a, c, h => by
    obtain rfl : a = c := h
    exact .here _
  | s :: S, a, c, h => by
    have e : s.1 = a := h.1
    exact .on (e ▸ h.2.1.2) (pth_rch h.2.2)
theorem pth_zero {ps : List PieceT} {b : Option Int} {stop : Int} : ∀ {S : List StepT} {a c : Int}, Pth (WS ps b stop) a S c → (∀ s ∈ S, s.2 = 0) → ∀ x, a ≤ x → x < c → SpR ps b a x
  | [], a, c, h, _, x, h1, h2 => by
    obtain rfl : a = c := h
    omega
  | s :: S, a, c, h, hz, x, h1, h2 => by
    have e : s.1 = a := h.1
    have e0 := hz s List.mem_cons_self
    have hw : WP ps b a 0 := by
      have := h.2.1.2
      rw [e, e0] at this
      exact this
    rcases Int.lt_or_eq_of_le h1 with c1 | c1
    · have h3 := h.2.2
      rw [e0] at h3
      exact .on hw (by omega) (pth_zero h3 (fun y hy => hz y (List.mem_cons_of_mem _ hy)) x (by omega) h2)
    · rw [← c1]
      exact .here hw
theorem shift_zero {d : Int} {S : List StepT} (h : ∀ s ∈ S, s.2 = 0) : ∀ s ∈ shift d S, s.2 = 0 := fun s hs => by
  obtain ⟨t, h1, rfl⟩ := List.mem_map.mp hs
  exact h t h1
theorem run_rch {ps : List PieceT} {b : Option Int} {stop a : Int} {r : RunT} (h : RunOk ps b stop a r) : ∀ k : Nat, k ≤ r.times → Rch ps b a (a + k * lenR r.steps)
  | 0, _ => by
    rw [show a + ((0 : Nat) : Int) * lenR r.steps = a by rw [show ((0 : Nat) : Int) = 0 from rfl, Int.zero_mul, Int.add_zero]]
    exact .here _
  | k + 1, hk => by
    have h1 := run_rch h k (by omega)
    have h2 := pth_rch (h.path k (by omega))
    have e : a + ((k + 1 : Nat) : Int) * lenR r.steps = a + ((k : Int) * lenR r.steps + lenR r.steps) := by
      rw [Int.natCast_add, Int.add_mul, show ((1 : Nat) : Int) = 1 from rfl, Int.one_mul]
    rw [e]
    exact rch_trans h1 h2
theorem run_zero {ps : List PieceT} {b : Option Int} {stop a : Int} {r : RunT} (h : RunOk ps b stop a r) (hz : ∀ s ∈ r.steps, s.2 = 0) : ∀ k : Nat, k ≤ r.times → ∀ x, a ≤ x → x < a + k * lenR r.steps → SpR ps b a x
  | 0, _, x, h1, h2 => by
    rw [show ((0 : Nat) : Int) = 0 from rfl, Int.zero_mul] at h2
    omega
  | k + 1, hk, x, h1, h2 => by
    have e : a + ((k + 1 : Nat) : Int) * lenR r.steps = a + ((k : Int) * lenR r.steps + lenR r.steps) := by
      rw [Int.natCast_add, Int.add_mul, show ((1 : Nat) : Int) = 1 from rfl, Int.one_mul]
    rw [e] at h2
    by_cases c : x < a + k * lenR r.steps
    · exact run_zero h hz k (by omega) x h1 c
    · exact spr_of (run_rch h k (by omega)) (pth_zero (h.path k (by omega)) (shift_zero hz) x (by omega) h2)
theorem lvl_rch {ps : List PieceT} {b : Option Int} {stop : Int} : ∀ {rs : List RunT} {a c : Int}, Lvl ps b stop a rs c → Rch ps b a c
  | [], a, c, h => by
    obtain rfl : a = c := h
    exact .here _
  | r :: rs, a, c, h => rch_trans (run_rch h.1 r.times (Nat.le_refl _)) (lvl_rch h.2)
theorem lvl_zero {ps : List PieceT} {b : Option Int} {stop : Int} : ∀ {rs : List RunT} {a c : Int}, Lvl ps b stop a rs c → (∀ r ∈ rs, ∀ s ∈ r.steps, s.2 = 0) → ∀ x, a ≤ x → x < c → SpR ps b a x
  | [], a, c, h, _, x, h1, h2 => by
    obtain rfl : a = c := h
    omega
  | r :: rs, a, c, h, hz, x, h1, h2 => by
    by_cases c : x < a + r.times * lenR r.steps
    · exact run_zero h.1 (hz r List.mem_cons_self) r.times (Nat.le_refl _) x h1 c
    · exact spr_of (run_rch h.1 r.times (Nat.le_refl _)) (lvl_zero h.2 (fun y hy => hz y (List.mem_cons_of_mem _ hy)) x (by omega) h2)
theorem lvl_split {ps : List PieceT} {b : Option Int} {stop : Int} : ∀ {rs ts : List RunT} {a c : Int}, Lvl ps b stop a (rs ++ ts) c → ∃ m, Lvl ps b stop a rs m ∧ Lvl ps b stop m ts c
  | [], ts, a, c, h => ⟨a, rfl, h⟩
  | r :: rs, ts, a, c, h => by
    obtain ⟨m, h1, h2⟩ := lvl_split h.2
    exact ⟨m, ⟨h.1, h1⟩, h2⟩
/-- the last opener of a level, with those left over behind its window -/
theorem lvl_opener {ps : List PieceT} {b : Option Int} {stop a c : Int} {rs ts : List RunT} {r : RunT} {S1 S2 : List StepT} {s : StepT} (h : Lvl ps b stop a (rs ++ r :: ts) c) (eS : r.steps = S1 ++ s :: S2) (h0 : 0 < s.2) (hz : ∀ x ∈ S2, x.2 = 0) (hzz : ∀ r ∈ ts, ∀ s ∈ r.steps, s.2 = 0) :
    Rch ps b a (s.1 + ((r.times : Int) - 1) * lenR r.steps) ∧ WS ps b stop (s.1 + ((r.times : Int) - 1) * lenR r.steps) s.2 ∧ (∀ x, s.1 + ((r.times : Int) - 1) * lenR r.steps + s.2 ≤ x → x < c → SpR ps b a x) ∧ s.1 + ((r.times : Int) - 1) * lenR r.steps + s.2 ≤ c := by
  obtain ⟨m, h1, h2, h3⟩ := lvl_split h
  have ht := h2.times
  have hk := h2.path (r.times - 1) (by omega)
  have e1 : ((r.times - 1 : Nat) : Int) = (r.times : Int) - 1 := by omega
  have hr := run_rch h2 (r.times - 1) (by omega)
  rw [e1] at hk hr
  have e5 : ((r.times : Int) - 1) * lenR r.steps + lenR r.steps = (r.times : Int) * lenR r.steps := by rw [Int.sub_mul, Int.one_mul]; omega
  rw [e5] at hk
  generalize hd : ((r.times : Int) - 1) * lenR r.steps = d at hk hr ⊢
  have es : shift d r.steps = shift d S1 ++ (s.1 + d, s.2) :: shift d S2 := by rw [eS]; unfold shift; rw [List.map_append]; rfl
  rw [es] at hk
  obtain ⟨m2, k1, k2, k3, k4⟩ := hk.split
  have k2' : s.1 + d = m2 := k2
  have k3' : WS ps b stop (s.1 + d) s.2 := k3
  have k4' : Pth (WS ps b stop) (m2 + max s.2 1) (shift d S2) (m + r.times * lenR r.steps) := k4
  have r1 : Rch ps b a (s.1 + d) := by
    rw [k2']
    exact rch_trans (lvl_rch h1) (rch_trans hr (pth_rch k1))
  have r2 : Rch ps b a (m2 + max s.2 1) := rch_trans r1 (.on k3'.2 (by rw [k2']; exact .here _))
  have r3 : Rch ps b a (m + r.times * lenR r.steps) := rch_trans r2 (pth_rch k4')
  have l1 := rch_le (pth_rch k4')
  have l2 := rch_le (lvl_rch h3)
  refine ⟨r1, k3', fun x hx hc => ?_, by omega⟩
  by_cases cx : x < m + r.times * lenR r.steps
  · exact spr_of r2 (pth_zero k4' (shift_zero hz) x (by omega) cx)
  · exact spr_of r3 (lvl_zero h3 hzz x (by omega) hc)
/-- the last step of a level is met there -/
theorem lvl_lastR {ps : List PieceT} {b : Option Int} {stop a c : Int} {rs : List RunT} {r : RunT} {S1 : List StepT} {s : StepT} (h : Lvl ps b stop a (rs ++ [r]) c) (eS : r.steps = S1 ++ [s]) : Rch ps b a (s.1 + ((r.times : Int) - 1) * lenR r.steps) := by
  obtain ⟨m, h1, h2, h3⟩ := lvl_split h
  have ht := h2.times
  have hk := h2.path (r.times - 1) (by omega)
  have e1 : ((r.times - 1 : Nat) : Int) = (r.times : Int) - 1 := by omega
  have hr := run_rch h2 (r.times - 1) (by omega)
  rw [e1] at hk hr
  generalize ((r.times : Int) - 1) * lenR r.steps = d at hk hr ⊢
  have es : shift d r.steps = shift d S1 ++ [(s.1 + d, s.2)] := by rw [eS]; unfold shift; rw [List.map_append]; rfl
  rw [es] at hk
  obtain ⟨m2, k1, k2, k3⟩ := hk.split
  have k2' : s.1 + d = m2 := k2
  rw [k2']
  exact rch_trans (lvl_rch h1) (rch_trans hr (pth_rch k1))
end CL
set_option Elab.async false
set_option linter.all false
set_option pp.maxSteps 400
set_option maxRecDepth 100000
set_option maxHeartbeats 4000000
namespace CL
open PySem PySem.Spec PyProof.Rows L2 GE
/-! ### the windows around a person -/
/-- the last of the innermost window around, or the bound -/
def lastB (b : Option Int) (S : List StepT) : Option Int := match S.getLast? with
  | none => b
  | some s => some s.2
theorem lastB_add (b : Option Int) (S : List StepT) (s : StepT) : lastB b (S ++ [s]) = some s.2 := by unfold lastB; rw [List.getLast?_concat]
/-- the windows around x, the outermost first, where s is on the level of that bound -/
inductive Road (ps : List PieceT) : Option Int → Int → Int → List StepT → Prop
  | spare {b : Option Int} {x : Int} : WP ps b x 0 → Road ps b x x []
  | own {b : Option Int} {x w : Int} : WP ps b x w → 0 < w → Road ps b x x [(x, x + w - 1)]
  | inn {b : Option Int} {s x w : Int} {S : List StepT} : WP ps b s w → s < x → x < s + w → Road ps (some (s + w - 1)) (s + 1) x S → Road ps b s x ((s, s + w - 1) :: S)
  | skip {b : Option Int} {s x w : Int} {S : List StepT} : WP ps b s w → s + max w 1 ≤ x → Road ps b (s + max w 1) x S → Road ps b s x S
theorem road_ge {ps : List PieceT} {b : Option Int} {s x : Int} {S : List StepT} (h : Road ps b s x S) : s ≤ x := by
  induction h with
  | spare => omega
  | own => omega
  | inn => omega
  | skip => omega
theorem road_of {ps : List PieceT} {b : Option Int} {s y x : Int} {S : List StepT} (h : Rch ps b s y) (h' : Road ps b y x S) : Road ps b s x S := by
  induction h with
  | here => exact h'
  | on h1 _ ih => exact .skip h1 (road_ge (ih h')) (ih h')
theorem road_uniq {ps : List PieceT} {b : Option Int} {s x : Int} {S : List StepT} (h : Road ps b s x S) : ∀ {S' : List StepT}, Road ps b s x S' → S = S' := by
  induction h with
  | spare h =>
    intro S' h'
    cases h' with
    | spare => rfl
    | own h2 h3 => have := wp_uniq h h2; omega
    | inn h2 h3 => omega
    | skip h2 h3 => omega
  | own h h0 =>
    intro S' h'
    cases h' with
    | spare h2 => have := wp_uniq h h2; omega
    | own h2 h3 => rw [wp_uniq h h2]
    | inn h2 h3 => omega
    | skip h2 h3 => omega
  | inn h h0 h1 _ ih =>
    intro S' h'
    cases h' with
    | spare h2 => omega
    | own h2 h3 => omega
    | inn h2 h3 h4 h5 => have e := wp_uniq h h2; subst e; rw [ih h5]
    | skip h2 h3 => have := wp_uniq h h2; omega
  | skip h h0 _ ih =>
    intro S' h'
    cases h' with
    | spare h2 => omega
    | own h2 h3 => omega
    | inn h2 h3 h4 => have := wp_uniq h h2; omega
    | skip h2 h3 h4 => have e := wp_uniq h h2; subst e; exact ih h4
theorem lastB_cons (b : Option Int) (s : StepT) (S : List StepT) : lastB b (s :: S) = lastB (some s.2) S := by
  unfold lastB
  cases S with
  | nil => rfl
  | cons t S => rw [List.getLast?_cons_cons]; cases h : (t :: S).getLast? with
    | none => simp at h
    | some z => rfl
theorem las_road {ps : List PieceT} {b : Option Int} {s x : Int} {S : List StepT} (h : Road ps b s x S) : Las ps b s x (lastB b S) := by
  induction h with
  | spare h => exact .spare h
  | own h h0 => exact .own h h0
  | inn h h0 h1 _ ih => rw [lastB_cons]; exact .inn h h0 h1 ih
  | skip h h0 _ ih => exact .skip h h0 ih
theorem road_in {ps : List PieceT} {b : Option Int} {s x : Int} {S : List StepT} (h : Road ps b s x S) : ∀ z ∈ S, s ≤ z.1 ∧ z.1 ≤ x := by
  induction h with
  | spare h => intro z hz; cases hz
  | own h h0 => intro z hz; rw [List.mem_singleton.mp hz]; exact ⟨Int.le_refl _, Int.le_refl _⟩
  | inn h h0 h1 _ ih =>
    intro z hz
    rcases List.mem_cons.mp hz with rfl | hz
    · exact ⟨Int.le_refl _, by show _ ≤ _; omega⟩
    · have := ih z hz; omega
  | skip h h0 _ ih =>
    intro z hz
    have := ih z hz
    omega
end CL
set_option Elab.async false
set_option linter.all false
set_option pp.maxSteps 400
set_option maxRecDepth 100000
set_option maxHeartbeats 4000000
namespace CL
open PySem PySem.Spec PyProof.Rows L2 GE
theorem turns_ok {d : PyData} (h : isPiece d = true) : 1 ≤ (turnsD d).length ∧ ∀ x ∈ turnsD d, isPatience x = true := by
  obtain ⟨t, m, e, ht, _⟩ := piece_parts h
  unfold turnsD
  rw [e]
  show 1 ≤ ((rowsD t).getD []).length ∧ ∀ x ∈ (rowsD t).getD [], isPatience x = true
  unfold isTurns at ht
  cases z : rowsD t with
  | none => rw [z] at ht; cases ht
  | some ts =>
    rw [z] at ht
    simp only [Bool.and_eq_true, decide_eq_true_eq, List.all_eq_true] at ht
    exact ⟨ht.1.1, ht.2⟩
theorem find_pcs (n : Int) : ∀ (ds : List PyData) (f : Int), ds.all isPiece = true → (ds.take (ds.length - 1)).any (fun d => isNone (sndD d)) = false → ∀ ps pc, pcs f ds = ps ++ [pc] → under pc.2.1 n = true → ∃ pp, (pcs f ds).find? (comes n) = some pp ∧ ∃ d ∈ ds, pp.2.2 = turnsD d
  | [], f, _, _, ps, pc, e, _ => by
    have := congrArg List.length e
    simp [pcs] at this
  | d :: ds, f, ha, hn, ps, pc, e, hu => by
    have hd : isPiece d = true := by
      simp only [List.all_cons, Bool.and_eq_true] at ha
      exact ha.1
    have hds : ds.all isPiece = true := by
      simp only [List.all_cons, Bool.and_eq_true] at ha
      exact ha.2
    have ec : pcs f (d :: ds) = (f, pastO f (sndD d), turnsD d) :: pcs (f + worth (sndD d)) ds := rfl
    rw [ec, List.find?_cons]
    cases hc : comes n (f, pastO f (sndD d), turnsD d) with
    | true => exact ⟨_, rfl, d, List.mem_cons_self, rfl⟩
    | false =>
      cases ds with
      | nil =>
        have e2 : [(f, pastO f (sndD d), turnsD d)] = ps ++ [pc] := e
        have e3 : pc = (f, pastO f (sndD d), turnsD d) := by
          cases ps with
          | nil => exact (List.cons.inj e2).1.symm
          | cons x xs =>
            have := congrArg List.length e2
            simp at this
        rw [e3] at hu
        exfalso
        unfold comes at hc
        cases hp : pastO f (sndD d) with
        | none => simp [hp] at hc
        | some m =>
          simp only [hp] at hc
          rw [hp] at hu
          have h1 : decide (n < m) = true := hu
          rw [h1] at hc
          cases hc
      | cons d2 ds2 =>
        obtain ⟨ps', e4⟩ : ∃ ps', pcs (f + worth (sndD d)) (d2 :: ds2) = ps' ++ [pc] := by
          cases ps with
          | nil =>
            have := congrArg List.length e
            simp [pcs] at this
          | cons x xs => exact ⟨xs, (List.cons.inj e).2⟩
        have hn2 : ((d2 :: ds2).take ((d2 :: ds2).length - 1)).any (fun d => isNone (sndD d)) = false := by
          have : (d :: d2 :: ds2).take ((d :: d2 :: ds2).length - 1) = d :: (d2 :: ds2).take ((d2 :: ds2).length - 1) := rfl
          rw [this, List.any_cons, Bool.or_eq_false_iff] at hn
          exact hn.2
        obtain ⟨pp, h1, d', h2, h3⟩ := find_pcs n (d2 :: ds2) _ hds hn2 ps' pc e4 hu
        exact ⟨pp, h1, d', List.mem_cons_of_mem _ h2, h3⟩
theorem plan_parts {d : PyData} (h : isPlan d = true) : ∃ ds, rowsD d = some ds ∧ piecesOf d = pcs 0 ds ∧ 1 ≤ ds.length ∧ ds.length ≤ 8 ∧ ds.all isPiece = true ∧ (ds.take (ds.length - 1)).any (fun d => isNone (sndD d)) = false ∧ sumSnd ds ≤ GREAT := by
  cases z : rowsD d with
  | none => unfold isPlan at h; rw [z] at h; cases h
  | some ds =>
    have e : isPlan d = isPlanL ds := by unfold isPlan; rw [z]
    rw [e] at h
    unfold isPlanL at h
    simp only [Bool.and_eq_true, decide_eq_true_eq, Bool.not_eq_true'] at h
    obtain ⟨⟨⟨⟨l1, l8⟩, hpc⟩, hno⟩, hsum⟩ := h
    exact ⟨ds, rfl, by unfold piecesOf; rw [z]; rfl, l1, l8, hpc, hno, hsum⟩
theorem pcs_len : ∀ (f : Int) (ds : List PyData), (pcs f ds).length = ds.length
  | _, [] => rfl
  | f, d :: ds => congrArg (· + 1) (pcs_len _ ds)
theorem plan_last {d : PyData} (h : isPlan d = true) : ∃ ps pc, piecesOf d = ps ++ [pc] := by
  obtain ⟨ds, _, e, l1, _⟩ := plan_parts h
  have hl : (piecesOf d).length = ds.length := by rw [e, pcs_len]
  have ne : piecesOf d ≠ [] := fun z => by rw [z] at hl; simp at hl; omega
  exact ⟨_, _, (List.dropLast_concat_getLast ne).symm⟩
abbrev sBnd : Stmt := topS 24
theorem scBnd : FnScope ["pieces", "many"] ["pieces"] (defScope sBnd) := ⟨rfl, rfl, rfl, by decide +kernel, rfl, by decide +kernel, by decide +kernel⟩
abbrev sLstStep : Stmt := topS 25
theorem scLstStep : FnScope ["runs", "run", "person", "width"] ["runs"] (defScope sLstStep) := ⟨rfl, rfl, rfl, by decide +kernel, rfl, by decide +kernel, by decide +kernel⟩
theorem fld_blk {X : Cx} {s : Shared} {H : Hp} {scope : Scope} {cenv : Env} {fp : List Addr} {e : Expr} {f : Str} {pos : Pos} {ta : TE} (he : PE (X.blk s H scope cenv fp) e ta) (hb : attributeBase e f (X.blk s H scope cenv fp).env (eval e (X.blk s H scope cenv fp).env) = eval e (X.blk s H scope cenv fp).env) : PE (X.blk s H scope cenv fp) (.Attribute e f pos) (tFld X.K ta f) := pe_fld he hb
/-! ### each run of a level -/
theorem lvl_le {ps : List PieceT} {b : Option Int} {stop : Int} : ∀ {rs : List RunT} {a c : Int}, Lvl ps b stop a rs c → a ≤ c ∧ ∀ r ∈ rs, ∃ a', a ≤ a' ∧ RunOk ps b stop a' r
  | [], a, c, h => by
    obtain rfl : a = c := h
    exact ⟨Int.le_refl _, fun r hr => nomatch hr⟩
  | r :: rs, a, c, h => by
    obtain ⟨h1, h2⟩ := lvl_le h.2
    have hl := lenR_pos r.steps
    have h0 : 0 ≤ (r.times : Int) * lenR r.steps := Int.mul_nonneg (by omega) (by omega)
    refine ⟨by omega, fun x hx => ?_⟩
    rcases List.mem_cons.mp hx with rfl | hx
    · exact ⟨a, Int.le_refl _, h.1⟩
    · obtain ⟨a', h3, h4⟩ := h2 x hx
      exact ⟨a', by omega, h4⟩
theorem lvl_last {ps : List PieceT} {b : Option Int} {stop : Int} : ∀ {rs : List RunT} {r : RunT} {a c : Int}, Lvl ps b stop a (rs ++ [r]) c → ∃ a', a ≤ a' ∧ RunOk ps b stop a' r ∧ c = a' + r.times * lenR r.steps
  | [], r, a, c, h => ⟨a, Int.le_refl _, h.1, (show a + r.times * lenR r.steps = c from h.2).symm⟩
  | s :: rs, r, a, c, h => by
    obtain ⟨a', h1, h2, h3⟩ := lvl_last h.2
    have hl := lenR_pos s.steps
    have h0 : 0 ≤ (s.times : Int) * lenR s.steps := Int.mul_nonneg (by omega) (by omega)
    exact ⟨a', by omega, h2, h3⟩
theorem shift_len (d : Int) (S : List StepT) : (shift d S).length = S.length := List.length_map ..
theorem wp_le {ps : List PieceT} {b : Option Int} {x w : Int} (hp : PsOk ps) (h : WP ps b x w) : 0 ≤ w ∧ w ≤ GREAT + 1 ∧ (w ≠ 0 → ∃ pc p, pc ∈ ps ∧ PyData.int p ∈ pc.2.2 ∧ w = p + 1 ∧ 0 ≤ p ∧ p ≤ GREAT ∧ ∀ m, b = some m → x + p ≤ m) := by
  obtain ⟨pc, t, hf, ht, rfl⟩ := h
  have hm := List.mem_of_find?_eq_some hf
  have htm := List.mem_of_getElem? ht
  have hpt := (hp.turns pc hm).2.2 t htm
  refine ⟨wd_nn hpt, ?_⟩
  rcases pat_cases hpt with rfl | ⟨p, rfl, h1, h2⟩
  · exact ⟨by show (0 : Int) ≤ GREAT + 1; decide, fun z => absurd rfl z⟩
  · cases b with
    | none => exact ⟨by show p + 1 ≤ GREAT + 1; omega, fun _ => ⟨pc, p, hm, htm, rfl, h1, h2, fun m e => by cases e⟩⟩
    | some m =>
      by_cases c : x + p ≤ m
      · have e : wd (some m) x (.int p) = p + 1 := if_pos c
        rw [e]
        exact ⟨by omega, fun _ => ⟨pc, p, hm, htm, rfl, h1, h2, fun m' e => by cases e; exact c⟩⟩
      · have e : wd (some m) x (.int p) = 0 := if_neg c
        rw [e]
        exact ⟨by show (0 : Int) ≤ GREAT + 1; decide, fun z => absurd rfl z⟩
/-- how far a run may go -/
theorem runOk_le {ps : List PieceT} {b : Option Int} {stop a : Int} {r : RunT} (hp : PsOk ps) (h : RunOk ps b stop a r) (h0 : 0 ≤ a) (hs : stop < 2 ^ 139) : 1 ≤ lenR r.steps ∧ lenR r.steps < 2 ^ 140 ∧ ((r.times : Int) - 1) * lenR r.steps ≤ stop - a ∧ (r.times : Int) < 2 ^ 140 := by
  have hne : r.steps.length ≠ 0 := fun z => h.ne (List.length_eq_zero_iff.mp z)
  have hl := lenR_pos r.steps
  have ht := h.times
  have hP0 := h.path 0 (by omega)
  have hw : ∀ s ∈ r.steps, s.2 ≤ GREAT + 1 := fun s hs' => by
    have := (hP0.le.2 (s.1 + (0 : Nat) * lenR r.steps, s.2) (List.mem_map.mpr ⟨s, hs', rfl⟩)).2.2.2
    exact (wp_le hp this).2.1
  have hl2 := lenR_le (m := 1000000000000000000000000000001) r.steps hw (by decide)
  have hl3 : (r.steps.length : Int) * 1000000000000000000000000000001 ≤ 8 * 1000000000000000000000000000001 := Int.mul_le_mul_of_nonneg_right (by have := h.len; omega) (by decide)
  obtain ⟨s0, S0, e0⟩ : ∃ s0 S0, r.steps = s0 :: S0 := by
    cases e : r.steps with
    | nil => exact absurd e h.ne
    | cons s0 S0 => exact ⟨s0, S0, rfl⟩
  have hk := h.path (r.times - 1) (by omega)
  have h1 : a + ((r.times - 1 : Nat) : Int) * lenR r.steps ≤ stop := by
    rw [e0] at hk
    have h2 := hk.1
    have h3 := hk.2.1.1
    rw [e0]
    have h4 : s0.1 + ((r.times - 1 : Nat) : Int) * lenR (s0 :: S0) = a + ((r.times - 1 : Nat) : Int) * lenR (s0 :: S0) := h2
    have h5 : s0.1 + ((r.times - 1 : Nat) : Int) * lenR (s0 :: S0) ≤ stop := h3
    omega
  have e1 : ((r.times - 1 : Nat) : Int) = (r.times : Int) - 1 := by omega
  rw [e1] at h1
  refine ⟨by omega, by omega, by omega, ?_⟩
  have h2 : ((r.times : Int) - 1) * 1 ≤ ((r.times : Int) - 1) * lenR r.steps := Int.mul_le_mul_of_nonneg_left (by omega) (by omega)
  omega
def spBnd : Sp := fun vs H Q _ => ∃ a ps pc, vs = [.ref a] ∧ PcsAt H a (ps ++ [pc]) ∧ Q (optV (pc.2.1.map (· - 1))) H
def spLast (C : Addr) : Sp := fun vs H Q _ => ∃ D ws ps b, ∃ start stop c : Int, ∃ rs, vs = [.ref D] ∧ H D = some (.lst ws) ∧ RunsAt C D H ws rs ∧ rs ≠ [] ∧ Lvl ps b stop start rs c ∧ PsOk ps ∧ 0 ≤ start ∧ stop < 2 ^ 139 ∧
  ∀ x w p H', Same H H' → H' p = some (.tup [.int x, .int w]) → Rch ps b start x → start ≤ x → WS ps b stop x w → x + max w 1 = c → Q (.ref p) H'
def spWins : Sp := fun vs H Q _ => ∃ a ps pc, ∃ person : Int, vs = [.ref a, .int person] ∧ PcsAt H a (ps ++ [pc]) ∧ PsOk (ps ++ [pc]) ∧ 0 ≤ person ∧ person < 2 ^ 138 ∧ (∀ x, 0 ≤ x → x ≤ person → ∃ pc', (ps ++ [pc]).find? (comes x) = some pc') ∧ (∀ q ∈ ps ++ [pc], ∀ m, q.2.1 = some m → m ≤ 2 ^ 138) ∧
  ∀ D ws S H', Same H H' → H' D = some (.lst ws) → StAt H' ws S → Road (ps ++ [pc]) (pc.2.1.map (· - 1)) 0 person S → S.length ≤ 64 → Q (.ref D) H'
def spSpareOn (C : Addr) : Sp := fun vs H Q _ => ∃ D ws ps b, ∃ start stop c : Int, ∃ rs, vs = [.ref D] ∧ H D = some (.lst ws) ∧ RunsAt C D H ws rs ∧ rs.length ≤ 20440 ∧ Lvl ps b stop start rs c ∧ PsOk ps ∧ 0 ≤ start ∧ stop < 2 ^ 139 ∧ ∀ H', Same H H' → Q (.int (rs.map fun r => (r.times : Int) * (spareR r.steps : Nat)).sum) H'
section
variable {P : Program} {w : World} {K : PySem.W.Frag} {mg : Str → Option Value} {base : Heap}
theorem ok_bnd {f : Addr} {fd : FuncData} (F : Fun K "outer_bound" "outer_bound" sBnd f fd) (CM : Cal P w K mg base 1 "many_in" ["pieces"] spMany) : FnOk P w K mg base CX0 2 f fd ["pieces"] spBnd := by
  refine F.ok scBnd (fun vs H Q E ⟨a, ps, pc, e, _⟩ => by rw [e]; rfl) (fun cdv A0 outer s H vs Q E hr h => ?_)
  obtain ⟨a, ps, pc, rfl, hp, q⟩ := h
  have nd := scBnd.nd
  refine ⟨_, (pss_cons (ps_set (i := 1) nd rfl (.inl rfl) (pe_cal (CM.mono (by decide)) hr (by rfl) (pa_cons (pv 0) pa_nil)))
    (pss_one (ps_ret (pe_ifExp (pt_cmp (pc_isN (pv 1))) pe_non (pe_op op_sub (pv 1) pe_int))))), ?_⟩
  refine ⟨.ref a, rfl, a, ps, pc, rfl, hp, ?_⟩
  cases e : pc.2.1 with
  | none => rw [e] at q; exact ⟨.non, rfl, _, rfl, iteT q⟩
  | some m => rw [e] at q; exact ⟨.int m, rfl, _, rfl, iteF ⟨.int m, rfl, m, 1, rfl, rfl, q⟩⟩
theorem ok_last {f C fI : Addr} {fd : FuncData} (F : Fun K "last_step" "last_step" sLstStep f fd) (TC : RunC K mg C fI) : FnOk P w K mg base CX0 1 f fd ["runs"] (spLast C) := by
  refine F.ok scLstStep (fun vs H Q E ⟨D, ws, ps, b, st0, stop, c, rs, e, _⟩ => by rw [e]; rfl) (fun cdv A0 outer s H vs Q E hr h => ?_)
  obtain ⟨D, ws, ps, b, start, stop, c, rs, rfl, hD, hra, hne, hlv, hps, h0, hst, q⟩ := h
  have nd := scLstStep.nd
  refine ⟨_, (pss_cons (ps_set (i := 1) nd rfl (.inl rfl) (pe_ix ix_list (pv 0) (pe_un un_neg pe_int) (fun _ _ => rfl)))
    (pss_cons (ps_asg (pe_ix ix_list (pe_fld (pv 1) rfl) (pe_un un_neg pe_int) (fun _ _ => rfl)) (pg_tup rfl (pgs_cons (pg_name (i := 2) nd rfl (.inl rfl)) (pgs_cons (pg_name (i := 3) nd rfl (.inl rfl)) pgs_nil))))
    (pss_one (ps_ret (pe_tup (pa_cons (pe_op op_add (pv 2) (pe_op op_mulW (pe_op op_sub (pe_fld (pv 1) rfl) pe_int) (pe_fld (pv 1) rfl))) (pa_cons (pv 3) pa_nil))))))), ?_⟩
  obtain ⟨rs', r, rfl⟩ : ∃ rs' r, rs = rs' ++ [r] := ⟨rs.dropLast, rs.getLast hne, (List.dropLast_concat_getLast hne).symm⟩
  obtain ⟨a', ha', hok, hc⟩ := lvl_last hlv
  obtain ⟨b1, b2, b3, b4⟩ := runOk_le hps hok (by omega) hst
  obtain ⟨v, hv, x, dx, p, vs', rfl, npD, hx, hp, hS⟩ := hra.at_ rs'.length r (by simp)
  have hl := hra.len
  obtain ⟨ws', v', rfl⟩ : ∃ ws' v', ws = ws' ++ [v'] := by
    have : ws ≠ [] := fun z => by rw [z] at hl; simp at hl
    exact ⟨ws.dropLast, ws.getLast this, (List.dropLast_concat_getLast this).symm⟩
  have hl' : ws'.length = rs'.length := by simpa using hl
  obtain rfl : v' = .ref x := by
    rw [← hl', List.getElem?_concat_length] at hv
    exact Option.some.inj hv
  obtain ⟨S', s, eS⟩ : ∃ S' s, r.steps = S' ++ [s] := ⟨r.steps.dropLast, r.steps.getLast hok.ne, (List.dropLast_concat_getLast hok.ne).symm⟩
  obtain ⟨bb, hbb, htb⟩ := hS.at_ S'.length s (by rw [eS]; simp)
  obtain ⟨vs2, v2, rfl⟩ : ∃ ws' v', vs' = ws' ++ [v'] := by
    have : vs' ≠ [] := fun z => by rw [z] at hbb; simp at hbb
    exact ⟨vs'.dropLast, vs'.getLast this, (List.dropLast_concat_getLast this).symm⟩
  have hl2 : vs2.length = S'.length := by
    have := hS.len
    rw [eS] at this
    simpa using this
  obtain rfl : v2 = .ref bb := by
    rw [← hl2, List.getElem?_concat_length] at hbb
    exact Option.some.inj hbb
  refine ⟨.ref D, rfl, 1, rfl, D, _, -1, .ref x, rfl, rfl, SqL.of hD, atI_last _ _, ?_⟩
  refine ⟨.ref x, rfl, x, C, dx, _, .ref p, rfl, hx, TC.cl, TC.nSt, rf_steps _ _ _, 1, rfl, p, _, -1, .ref bb, rfl, rfl, SqL.of hp, atI_last _ _, bb, _, rfl, SqT.of htb, rfl, .int s.1, _, rfl, .int s.2, _, rfl, rfl, ?_⟩
  refine ⟨.int s.1, rfl, .ref x, rfl, x, C, dx, _, .int (r.times : Int), rfl, hx, TC.cl, TC.nTi, rf_times _ _ _, (r.times : Int), 1, rfl, rfl, .ref x, rfl, x, C, dx, _, .int (lenR r.steps), rfl, hx, TC.cl, TC.nLe, rf_length _ _ _, (r.times : Int) - 1, lenR r.steps, rfl, rfl, wide_mul (a := 140) (b := 140) (by have := hok.times; omega) (by omega) (by decide) (by decide) (by decide), s.1, ((r.times : Int) - 1) * lenR r.steps, rfl, rfl, .int s.2, rfl, small_le (by show 2 ≤ 1000; decide), fun pr npr => ?_⟩
  have hk := hok.path (r.times - 1) (by have := hok.times; omega)
  have e1 : ((r.times - 1 : Nat) : Int) = (r.times : Int) - 1 := by have := hok.times; omega
  rw [e1] at hk
  have hm := hk.le.2 (s.1 + ((r.times : Int) - 1) * lenR r.steps, s.2) (List.mem_map.mpr ⟨s, by rw [eS]; exact List.mem_append_right _ (List.mem_singleton.mpr rfl), rfl⟩)
  have h00 : 0 ≤ ((r.times : Int) - 1) * lenR r.steps := Int.mul_nonneg (by have := hok.times; omega) (by omega)
  refine q _ _ pr _ (same_upd npr) upd_same (lvl_lastR hlv eS) (by have := hm.1; omega) hm.2.2 ?_
  -- where the last step leads
  have hsp : Pth (WS ps b stop) (a' + ((r.times : Int) - 1) * lenR r.steps) (shift (((r.times : Int) - 1) * lenR r.steps) S' ++ [(s.1 + ((r.times : Int) - 1) * lenR r.steps, s.2)]) (a' + (((r.times : Int) - 1) * lenR r.steps + lenR r.steps)) := by
    have : shift (((r.times : Int) - 1) * lenR r.steps) r.steps = shift (((r.times : Int) - 1) * lenR r.steps) S' ++ [(s.1 + ((r.times : Int) - 1) * lenR r.steps, s.2)] := by
      conv => lhs; rw [show shift (((r.times : Int) - 1) * lenR r.steps) r.steps = shift (((r.times : Int) - 1) * lenR r.steps) (S' ++ [s]) by rw [← eS]]
      unfold shift
      rw [List.map_append]
      rfl
    rw [← this]
    exact hk
  obtain ⟨m, _, h2⟩ := hsp.split
  have h3 : m + max s.2 1 = a' + (((r.times : Int) - 1) * lenR r.steps + lenR r.steps) := h2.2.2
  have h4 : s.1 + ((r.times : Int) - 1) * lenR r.steps = m := h2.1
  have h5 : (r.times : Int) * lenR r.steps = ((r.times : Int) - 1) * lenR r.steps + lenR r.steps := by rw [Int.sub_mul, Int.one_mul]; omega
  omega
end
end CL
set_option Elab.async false
set_option linter.all false
set_option pp.maxSteps 400
set_option maxRecDepth 100000
set_option maxHeartbeats 4000000
namespace CL
open PySem PySem.Spec PyProof.Rows L2 GE
theorem wd_pos {b : Option Int} {x : Int} {t : PyData} (h : 0 < wd b x t) : ∃ p, t = .int p ∧ wd b x t = p + 1 ∧ ∀ m, b = some m → x + p ≤ m := by
  cases t with
  | int p =>
    cases b with
    | none => exact ⟨p, rfl, rfl, fun m e => by cases e⟩
    | some m =>
      by_cases c : x + p ≤ m
      · have e : wd (some m) x (.int p) = p + 1 := if_pos c
        exact ⟨p, rfl, e, fun m' e' => by cases e'; exact c⟩
      · have e : wd (some m) x (.int p) = 0 := if_neg c
        rw [e] at h
        omega
  | _ => cases b <;> exact absurd h (Int.lt_irrefl 0)
theorem pt_ok {ps : List PieceT} (hp : PsOk ps) {x : Int} {t : PyData} (h : Pt ps x t) : isPatience t = true := by
  obtain ⟨pc, h1, h2⟩ := h
  exact (hp.turns pc (List.mem_of_find?_eq_some h1)).2.2 t (List.mem_of_getElem? h2)
theorem wp_pos {ps : List PieceT} {b : Option Int} {x w : Int} (h : WP ps b x w) (h0 : 0 < w) : ∃ p, Pt ps x (.int p) ∧ w = p + 1 ∧ ∀ m, b = some m → x + p ≤ m := by
  obtain ⟨t, h1, rfl⟩ := wp_pt h
  obtain ⟨p, rfl, h2, h3⟩ := wd_pos h0
  exact ⟨p, h1, h2, h3⟩
theorem wp_zero {ps : List PieceT} (hp : PsOk ps) {b : Option Int} {x : Int} {t : PyData} (h : WP ps b x 0) (ht : Pt ps x t) : t = .none ∨ ∃ p m : Int, t = .int p ∧ b = some m ∧ m < x + p := by
  obtain ⟨t', h1, h2⟩ := wp_pt h
  obtain rfl := pt_uniq ht h1
  rcases pat_cases (pt_ok hp ht) with rfl | ⟨p, rfl, h3, h4⟩
  · exact .inl rfl
  · cases b with
    | none => exact absurd (show (0 : Int) = p + 1 from h2) (by omega)
    | some m =>
      refine .inr ⟨p, m, rfl, rfl, ?_⟩
      by_cases c : x + p ≤ m
      · have e : wd (some m) x (.int p) = p + 1 := if_pos c
        omega
      · omega
theorem cut_in {ps : List PieceT} {b : Option Int} {x w c : Int} (h : WP ps b x w) (h0 : 0 < w) (hc : x + w - 1 ≤ c) : WP ps (some c) x w := by
  obtain ⟨p, h1, h2, _⟩ := wp_pos h h0
  have := pt_wp (some c) h1
  rw [show wd (some c) x (.int p) = p + 1 from if_pos (by omega), ← h2] at this
  exact this
theorem cut_zero {ps : List PieceT} (hp : PsOk ps) {b : Option Int} {x c : Int} (h : WP ps b x 0) (hb : ∀ m, b = some m → c < m) : WP ps (some c) x 0 := by
  obtain ⟨t, h1, h2⟩ := wp_pt h
  have := pt_wp (some c) h1
  have e : wd (some c) x t = 0 := by
    rcases wp_zero hp h h1 with rfl | ⟨p, m, rfl, hm, hlt⟩
    · rfl
    · have := hb m hm
      exact if_neg (by omega)
  rw [e] at this
  exact this
theorem cut_out {ps : List PieceT} {b : Option Int} {x w c : Int} (h : WP ps b x w) (h0 : 0 < w) (hc : c < x + w - 1) : WP ps (some c) x 0 := by
  obtain ⟨p, h1, h2, _⟩ := wp_pos h h0
  have := pt_wp (some c) h1
  rw [show wd (some c) x (.int p) = 0 from if_neg (by omega)] at this
  exact this
theorem wp_nn {ps : List PieceT} (hp : PsOk ps) {b : Option Int} {x w : Int} (h : WP ps b x w) : 0 ≤ w := (wp_le hp h).1
/-- between the person and the bound -/
theorem las_le {ps : List PieceT} {b l : Option Int} {s x : Int} (h : Las ps b s x l) : (∀ m, b = some m → x ≤ m) → (∀ k, l = some k → x ≤ k ∧ ∀ m, b = some m → k ≤ m) ∧ (l = none → b = none) := by
  induction h with
  | spare h => exact fun hb => ⟨fun k e => ⟨hb k e, fun m e' => (by rw [e] at e'; cases e'; omega)⟩, fun e => e⟩
  | own h h0 =>
    obtain ⟨p, _, h2, h3⟩ := wp_pos h h0
    exact fun hb => ⟨fun k e => by cases e; exact ⟨by omega, fun m e => (by have := h3 m e; omega)⟩, fun e => absurd e (by simp)⟩
  | inn h h1 h2 _ ih =>
    obtain ⟨p, _, h3, h4⟩ := wp_pos h (by omega)
    obtain ⟨i1, i2⟩ := ih fun m e => by cases e; omega
    refine fun hb => ⟨fun k e => ?_, fun e => absurd (i2 e) (by simp)⟩
    obtain ⟨j1, j2⟩ := i1 k e
    exact ⟨j1, fun m e => by have := h4 m e; have := j2 _ rfl; omega⟩
  | skip h h1 _ ih => exact ih
/-- no farther than the patience -/
theorem las_pat {ps : List PieceT} (hp : PsOk ps) {b l : Option Int} {s x : Int} {t : PyData} (h : Las ps b s x l) : Pt ps x t → (l = none → t = .none) ∧ ∀ k p : Int, l = some k → t = .int p → k ≤ x + p := by
  induction h with
  | spare h =>
    intro ht
    refine ⟨fun e => ?_, fun k p e e2 => ?_⟩
    · rcases wp_zero hp h ht with h1 | ⟨p, m, h1, h2, h3⟩
      · exact h1
      · rw [e] at h2; cases h2
    · rcases wp_zero hp h ht with h1 | ⟨p', m, h1, h2, h3⟩
      · rw [h1] at e2; cases e2
      · rw [e] at h2; cases h2; rw [h1] at e2; cases e2; omega
  | own h h0 =>
    intro ht
    refine ⟨fun e => absurd e (by simp), fun k p e e2 => ?_⟩
    obtain ⟨p', h1, h2, h3⟩ := wp_pos h h0
    have := pt_uniq ht h1
    rw [e2] at this
    cases this
    cases e
    omega
  | inn h h1 h2 _ ih => exact ih
  | skip h h1 _ ih => exact ih
theorem las_uniq {ps : List PieceT} {b l : Option Int} {s x : Int} (h : Las ps b s x l) : ∀ l', Las ps b s x l' → l = l' := by
  induction h with
  | spare h =>
    intro l' h'
    cases h' with
    | spare _ => rfl
    | own k k0 => have := wp_uniq h k; omega
    | inn k k1 => omega
    | skip k k1 => omega
  | own h h0 =>
    intro l' h'
    cases h' with
    | spare k => have := wp_uniq h k; omega
    | own k k0 => rw [wp_uniq h k]
    | inn k k1 => omega
    | skip k k1 => omega
  | inn h h1 h2 _ ih =>
    intro l' h'
    cases h' with
    | spare k => omega
    | own k k0 => omega
    | inn k k1 k2 k3 => have e := wp_uniq h k; subst e; exact ih _ k3
    | skip k k1 => have e := wp_uniq h k; subst e; omega
  | skip h h1 _ ih =>
    intro l' h'
    cases h' with
    | spare k => omega
    | own k k0 => omega
    | inn k k1 k2 => have e := wp_uniq h k; subst e; omega
    | skip k k1 k2 => have e := wp_uniq h k; subst e; exact ih _ k2
/-- whoever comes up to a last has a last no farther -/
theorem las_nest {ps : List PieceT} {b l : Option Int} {s x : Int} (h : Las ps b s x l) : ∀ (k y : Int) (t : Option Int), l = some k → x < y → y ≤ k → (∀ m, b = some m → x ≤ m) → Las ps b s y t → ∃ j, t = some j ∧ j ≤ k := by
  induction h with
  | spare h =>
    intro k y t e hy hk hb h'
    obtain ⟨i1, i2⟩ := las_le h' fun m e' => by rw [e] at e'; cases e'; omega
    cases t with
    | none => rw [i2 rfl] at e; cases e
    | some j => exact ⟨j, rfl, (i1 j rfl).2 k e⟩
  | own h h0 =>
    intro k y t e hy hk hb h'
    cases e
    cases h' with
    | spare k => omega
    | own k k0 => omega
    | inn k k1 k2 k3 =>
      have e := wp_uniq h k
      subst e
      obtain ⟨i1, i2⟩ := las_le k3 fun m e' => by cases e'; omega
      cases t with
      | none => cases i2 rfl
      | some j => exact ⟨j, rfl, (i1 j rfl).2 _ rfl⟩
    | skip k k1 => have e := wp_uniq h k; subst e; omega
  | inn h h1 h2 h3 ih =>
    intro k y t e hy hk hb h'
    have l1 := ((las_le h3 fun m e' => by cases e'; omega).1 k e).2 _ rfl
    cases h' with
    | spare k => omega
    | own k k0 => omega
    | inn k' k1 k2 k3 => have e' := wp_uniq h k'; subst e'; exact ih k y t e hy hk (fun m e' => by cases e'; omega) k3
    | skip k' k1 => have e' := wp_uniq h k'; subst e'; omega
  | skip h h1 _ ih =>
    intro k y t e hy hk hb h'
    cases h' with
    | spare k => omega
    | own k k0 => omega
    | inn k' k1 k2 => have e' := wp_uniq h k'; subst e'; omega
    | skip k' k1 k2 => have e' := wp_uniq h k'; subst e'; exact ih k y t e hy hk hb k2
/-- a bound before the other one: who is left over there has a last beyond it, whoever isn't has the same last -/
theorem las_cut {ps : List PieceT} (hp : PsOk ps) {b l : Option Int} {s x c : Int} (h : Las ps b s x l) : x ≤ c → (∀ m, b = some m → c < m) →
    (SpR ps (some c) s x ∧ ∀ k, l = some k → c < k) ∨ (¬ SpR ps (some c) s x ∧ ∃ k, l = some k ∧ k ≤ c ∧ Las ps (some c) s x (some k)) := by
  induction h with
  | spare h => exact fun hx hb => .inl ⟨.here (cut_zero hp h hb), hb⟩
  | @own b x w h h0 =>
    intro hx hb
    by_cases cx : x + w - 1 ≤ c
    · have h1 := cut_in h h0 cx
      exact .inr ⟨fun z => by have := wp_uniq (spr_wp z) h1; omega, _, rfl, cx, .own h1 h0⟩
    · exact .inl ⟨.here (cut_out h h0 (by omega)), fun k e => by cases e; omega⟩
  | @inn b l s x w h h1 h2 h3 ih =>
    intro hx hb
    by_cases cx : s + w - 1 ≤ c
    · have k1 := cut_in h (by omega) cx
      obtain ⟨i1, i2⟩ := las_le h3 fun m e' => by cases e'; omega
      refine .inr ⟨fun z => ?_, ?_⟩
      · cases z with
        | here z => omega
        | on z z1 => have e := wp_uniq k1 z; subst e; omega
      · cases l with
        | none => cases i2 rfl
        | some j => exact ⟨j, rfl, by have := (i1 j rfl).2 _ rfl; omega, .inn k1 h1 h2 h3⟩
    · have k1 := cut_out h (by omega) (show c < s + w - 1 by omega)
      have e1 : s + max (0 : Int) 1 = s + 1 := by omega
      rcases ih hx (fun m e => by cases e; omega) with ⟨i1, i2⟩ | ⟨i1, k, i2, i3, i4⟩
      · exact .inl ⟨.on k1 (by omega) (by rw [e1]; exact i1), i2⟩
      · refine .inr ⟨fun z => ?_, k, i2, i3, .skip k1 (by omega) (by rw [e1]; exact i4)⟩
        cases z with
        | here z => omega
        | on z z1 z2 => have e := wp_uniq k1 z; subst e; rw [e1] at z2; exact i1 z2
  | @skip b l s x w h h1 h3 ih =>
    intro hx hb
    have k1 : WP ps (some c) s w := by
      have := wp_nn hp h
      by_cases cw : w = 0
      · subst cw; exact cut_zero hp h hb
      · exact cut_in h (by omega) (by omega)
    rcases ih hx hb with ⟨i1, i2⟩ | ⟨i1, k, i2, i3, i4⟩
    · exact .inl ⟨.on k1 h1 i1, i2⟩
    · refine .inr ⟨fun z => ?_, k, i2, i3, .skip k1 h1 i4⟩
      cases z with
      | here z => omega
      | on z z1 z2 => have e := wp_uniq k1 z; subst e; exact i1 z2
/-- ahead of one that is met, and not left over: the last is ahead of it too -/
theorem las_before {ps : List PieceT} {b : Option Int} {s y : Int} (h : Rch ps b s y) : ∀ (x : Int) (l : Option Int), x < y → Las ps b s x l → ¬ SpR ps b s x → ∃ k, l = some k ∧ k < y := by
  induction h with
  | here => intro x l hx h'; have := las_ge h'; omega
  | on h1 h2 ih =>
    intro x l hx h' hn
    have hy := rch_le h2
    cases h' with
    | spare k => exact absurd (.here k) hn
    | own k k0 => have e := wp_uniq h1 k; subst e; exact ⟨_, rfl, by omega⟩
    | inn k k1 k2 k3 =>
      have e := wp_uniq h1 k
      subst e
      obtain ⟨i1, i2⟩ := las_le k3 fun m e' => by cases e'; omega
      cases l with
      | none => cases i2 rfl
      | some j => exact ⟨j, rfl, by have := (i1 j rfl).2 _ rfl; omega⟩
    | skip k k1 k2 => have e := wp_uniq h1 k; subst e; exact ih x l hx k2 fun z => hn (.on h1 k1 z)
/-! ### how many are left over -/
theorem pth_hi {ps : List PieceT} {bd : Int} (hp : PsOk ps) : ∀ {S : List StepT} {a c : Int}, Pth (WS ps (some bd) bd) a S c → a ≤ bd + 1 → c ≤ bd + 1
  | [], a, c, h, h1 => by
    obtain rfl : a = c := h
    exact h1
  | s :: S, a, c, h, h1 => by
    have e : s.1 = a := h.1
    refine pth_hi hp h.2.2 ?_
    have h2 := h.2.1.1
    by_cases c0 : 0 < s.2
    · obtain ⟨p, _, h3, h4⟩ := wp_pos h.2.1.2 c0
      have := h4 bd rfl
      omega
    · have := wp_nn hp h.2.1.2
      omega
theorem run_hi {ps : List PieceT} {bd a : Int} {r : RunT} (hp : PsOk ps) (h : RunOk ps (some bd) bd a r) (ha : a ≤ bd + 1) : a + (r.times : Int) * lenR r.steps ≤ bd + 1 := by
  have : ∀ k : Nat, k ≤ r.times → a + (k : Int) * lenR r.steps ≤ bd + 1 := fun k => by
    induction k with
    | zero => intro _; rw [show ((0 : Nat) : Int) = 0 from rfl, Int.zero_mul]; omega
    | succ k ih =>
      intro hk
      have := pth_hi hp (h.path k (by omega)) (ih (by omega))
      have e : ((k + 1 : Nat) : Int) * lenR r.steps = (k : Int) * lenR r.steps + lenR r.steps := by
        rw [Int.natCast_add, Int.add_mul, show ((1 : Nat) : Int) = 1 from rfl, Int.one_mul]
      rw [e]
      exact this
  exact this r.times (Nat.le_refl _)
theorem lvl_hi {ps : List PieceT} {bd : Int} (hp : PsOk ps) : ∀ {rs : List RunT} {a c : Int}, Lvl ps (some bd) bd a rs c → a ≤ bd + 1 → c ≤ bd + 1
  | [], a, c, h, h1 => by
    obtain rfl : a = c := h
    exact h1
  | r :: rs, a, c, h, h1 => lvl_hi hp h.2 (run_hi hp h.1 h1)
theorem run_wid {ps : List PieceT} {b : Option Int} {stop a : Int} {r : RunT} (hp : PsOk ps) (h : RunOk ps b stop a r) : ∀ s ∈ r.steps, 0 ≤ s.2 := fun s hs => by
  have hk := h.path 0 (by have := h.times; omega)
  have := (hk.le.2 (s.1 + ((0 : Nat) : Int) * lenR r.steps, s.2) (List.mem_map.mpr ⟨s, hs, rfl⟩)).2.2.2
  exact wp_nn hp this
def spT (rs : List RunT) : Int := (rs.map fun r => (r.times : Int) * (spareR r.steps : Nat)).sum
theorem sum_zero : ∀ {S : List StepT}, (∀ s ∈ S, s.2 = 0) → (S.map (·.2)).sum = 0
  | [], _ => rfl
  | s :: S, h => by
    rw [List.map_cons, List.sum_cons, sum_zero fun x hx => h x (List.mem_cons_of_mem _ hx), h s List.mem_cons_self]
    rfl
theorem sum_nn : ∀ {S : List StepT}, (∀ s ∈ S, 0 ≤ s.2) → 0 ≤ (S.map (·.2)).sum
  | [], _ => Int.le_refl 0
  | s :: S, h => by
    have h1 := sum_nn fun x hx => h x (List.mem_cons_of_mem _ hx)
    have h2 := h s List.mem_cons_self
    rw [List.map_cons, List.sum_cons]
    omega
theorem sum_pos : ∀ {S : List StepT} {s : StepT}, (∀ s ∈ S, 0 ≤ s.2) → s ∈ S → 0 < s.2 → 0 < (S.map (·.2)).sum
  | t :: S, s, h, hs, h0 => by
    have h2 := h t List.mem_cons_self
    rw [List.map_cons, List.sum_cons]
    rcases List.mem_cons.mp hs with rfl | hs
    · have h1 := sum_nn fun x hx => h x (List.mem_cons_of_mem _ hx)
      omega
    · have := sum_pos (fun x hx => h x (List.mem_cons_of_mem _ hx)) hs h0
      omega
theorem spT_cons (r : RunT) (rs : List RunT) : spT (r :: rs) = (r.times : Int) * (spareR r.steps : Nat) + spT rs := by unfold spT; rw [List.map_cons, List.sum_cons]
theorem spT_le {ps : List PieceT} {b : Option Int} {stop : Int} (hp : PsOk ps) : ∀ {rs : List RunT} {a c : Int}, Lvl ps b stop a rs c → spT rs ≤ c - a ∧ ((∀ r ∈ rs, ∀ s ∈ r.steps, s.2 = 0) → spT rs = c - a) ∧ ∀ r ∈ rs, ∀ s ∈ r.steps, 0 < s.2 → spT rs < c - a
  | [], a, c, h => by
    obtain rfl : a = c := h
    exact ⟨by show (0 : Int) ≤ a - a; omega, fun _ => by show (0 : Int) = a - a; omega, fun r hr => nomatch hr⟩
  | r :: rs, a, c, h => by
    obtain ⟨i1, i2, i3⟩ := spT_le hp h.2
    have hw := run_wid hp h.1
    have hs := lenR_sum r.steps hw
    have ht := h.1.times
    have s0 := sum_nn hw
    have e : (r.times : Int) * lenR r.steps = (r.times : Int) * (spareR r.steps : Nat) + (r.times : Int) * (r.steps.map (·.2)).sum := by rw [← hs, Int.mul_add]
    have m0 : 0 ≤ (r.times : Int) * (r.steps.map (·.2)).sum := Int.mul_nonneg (by omega) s0
    rw [spT_cons]
    refine ⟨by omega, fun hz => ?_, fun q hq s hs0 h0 => ?_⟩
    · have z := sum_zero (hz r List.mem_cons_self)
      have := i2 fun q hq => hz q (List.mem_cons_of_mem _ hq)
      rw [z, Int.mul_zero] at e
      omega
    · rcases List.mem_cons.mp hq with rfl | hq
      · have p := sum_pos hw hs0 h0
        have : 0 < (q.times : Int) * (q.steps.map (·.2)).sum := Int.mul_pos (by omega) p
        omega
      · have := i3 q hq s hs0 h0
        omega
end CL
set_option Elab.async false
set_option linter.all false
set_option pp.maxSteps 400
set_option maxRecDepth 100000
set_option maxHeartbeats 4000000
namespace CL
open PySem PySem.Spec PyProof.Rows L2 GE
abbrev sWinKind : Stmt := topS 26
theorem scWinKind : FnScope ["pieces", "opener", "last", "at", "turn", "past"] ["pieces", "opener", "last"] (defScope sWinKind) := ⟨rfl, rfl, rfl, by decide +kernel, rfl, by decide +kernel, by decide +kernel⟩
theorem PcsAt.smK {H H' : Hp} {a : Addr} {ps : List PieceT} (hp : PcsAt H a ps) (s : Same H H') : PcsAt H' a ps := by
  obtain ⟨xs, h1, h2⟩ := hp.ex
  exact ⟨xs, s _ _ h1, RpAll.sm s h2⟩
theorem RunsAt.smK {C D : Addr} {H H' : Hp} {vs : List V} {rs : List RunT} {ws : List V} (h : RunsAt C D H vs rs) (hD : H D = some (.lst ws)) (s : Same H H') : RunsAt C D H' vs rs := h.kd hD fun b o _ e => s b o e
theorem find_ix {ps : List PieceT} {n : Int} {pc : PieceT} (h : ps.find? (comes n) = some pc) : ∃ i : Nat, ps[i]? = some pc ∧ i < ps.length := by
  obtain ⟨i, hi, e⟩ := List.getElem_of_mem (List.mem_of_find?_eq_some h)
  exact ⟨i, by rw [List.getElem?_eq_getElem hi, e], hi⟩
def spKind : Sp := fun vs H Q _ => ∃ a n l ps pc, vs = [.ref a, .int n, .int l] ∧ PcsAt H a ps ∧ PsOk ps ∧ ps.find? (comes n) = some pc ∧ ∀ (i : Nat) ks p H', ps[i]? = some pc → Same H H' → H' p = some (.tup (ks.map kV)) →
  ((ks = [Sum.inl (i : Int), Sum.inl (tnI pc.1 pc.2.2.length n)] ∧ ∀ m, pc.2.1 = some m → l < m) ∨ (ks = [Sum.inl n] ∧ ∃ m, pc.2.1 = some m ∧ m ≤ l)) → Q (.ref p) H'
section
variable {P : Program} {w : World} {K : PySem.W.Frag} {mg : Str → Option Value} {base : Heap}
theorem ok_kind {f : Addr} {fd : FuncData} (F : Fun K "window_kind" "window_kind" sWinKind f fd) (CN : Cal P w K mg base 2 "turn_at" ["pieces", "person"] spTurnAt) : FnOk P w K mg base CX0 3 f fd ["pieces", "opener", "last"] spKind := by
  refine F.ok scWinKind (fun vs H Q E ⟨a, n, l, ps, pc, e, _⟩ => by rw [e]; rfl) (fun cdv A outer s H vs Q E hr h => ?_)
  obtain ⟨a, n, l, ps, pc, rfl, hp, hps, hf, q⟩ := h
  have nd := scWinKind.nd
  refine ⟨_, (pss_cons (ps_asg (pe_cal (CN.mono (by decide)) hr (by rfl) (pa_cons (pv 0) (pa_cons (pv 1) pa_nil))) (pg_tup rfl (pgs_cons (pg_name (i := 3) nd rfl (.inl rfl)) (pgs_cons (pg_name (i := 4) nd rfl (.inl rfl)) pgs_nil))))
    (pss_cons (ps_set (i := 5) nd rfl (.inl rfl) (pe_ix ix_seq (pe_ix ix_seq (pv 0) (pv 3) (fun _ _ => rfl)) pe_int (fun _ _ => rfl)))
    (pss_one (ps_ret (pe_ifExp (PW.pt (pw_or (pt_cmp (pc_isN (pv 5))) (pw_or1 (pt_cmpR op_lt (pv 2) (pv 5) (nomark _))))) (pe_tup (pa_cons (pv 3) (pa_cons (pv 4) pa_nil))) (pe_tup (pa_cons (pv 1) pa_nil))))))), ?_⟩
  refine ⟨.ref a, rfl, .int n, rfl, a, n, ps, pc, rfl, hp, hf, (hps.turns pc (List.mem_of_find?_eq_some hf)).1, fun i p H1 hi s1 e1 => ?_⟩
  refine ⟨p, _, rfl, SqT.of e1, rfl, .int (i : Int), _, rfl, .int (tnI pc.1 pc.2.2.length n), _, rfl, rfl, ?_⟩
  obtain ⟨xs, b, t, zs, st, hl, hx, hb, ht, hz⟩ := pc_at (hp.smK s1) hi
  refine ⟨.ref a, rfl, .int (i : Int), rfl, rix_of (i := i) st hx (rix_of (i := 1) ⟨.inr hb⟩ rfl ?_)⟩
  have two : (∀ m, pc.2.1 = some m → l < m) → ∀ p2, H1 p2 = none → Q (.ref p2) (upd H1 p2 (.tup [.int (i : Int), .int (tnI pc.1 pc.2.2.length n)])) := fun st2 p2 n2 => q i [Sum.inl (i : Int), Sum.inl (tnI pc.1 pc.2.2.length n)] p2 _ hi (s1.trans (same_upd n2)) upd_same (.inl ⟨rfl, st2⟩)
  cases e : pc.2.1 with
  | none => exact ⟨.non, rfl, _, rfl, iteT ⟨.int (i : Int), rfl, .int (tnI pc.1 pc.2.2.length n), rfl, small_le (by show 2 ≤ 1000; decide), two (fun m z => by rw [e] at z; cases z)⟩⟩
  | some m =>
    refine ⟨.int m, rfl, _, rfl, iteF ⟨.int l, rfl, .int m, rfl, l, m, rfl, rfl, _, rfl, ite2 (fun c => ?_) (fun c => ?_)⟩⟩
    · exact ⟨.int (i : Int), rfl, .int (tnI pc.1 pc.2.2.length n), rfl, small_le (by show 2 ≤ 1000; decide), two (fun m' z => by rw [e] at z; cases z; exact of_decide_eq_true c)⟩
    · have : ¬ l < m := fun z => c (decide_eq_true z)
      exact ⟨.int n, rfl, small_le (by show 1 ≤ 1000; decide), fun p2 n2 => q i [Sum.inl n] p2 _ hi (s1.trans (same_upd n2)) upd_same (.inr ⟨rfl, m, e, by omega⟩)⟩
end
end CL
set_option Elab.async false
set_option linter.all false
set_option pp.maxSteps 900
set_option maxRecDepth 100000
set_option maxHeartbeats 4000000
namespace CL
open PySem PySem.Spec PyProof.Rows L2 GE
/-! ### how often somebody goes past somebody: the mathematics -/
/-- all together on a level with such a bound, from s on -/
inductive Pas (ps : List PieceT) : Int → Int → Int → Prop
  | done {b s : Int} : b < s → Pas ps b s 0
  | spare {b s t : Int} : s ≤ b → WP ps (some b) s 0 → Pas ps b (s + 1) t → Pas ps b s (b - s + t)
  | win {b s w u t : Int} : s ≤ b → WP ps (some b) s w → 0 < w → Pas ps (s + w - 1) (s + 1) u → Pas ps b (s + w) t → Pas ps b s (w - 1 + u + t)
theorem pas_uniq {ps : List PieceT} {b s t : Int} (h : Pas ps b s t) : ∀ {t' : Int}, Pas ps b s t' → t = t' := by
  induction h with
  | done h =>
    intro t' h'
    cases h' with
    | done => rfl
    | spare h2 => omega
    | win h2 => omega
  | spare h1 h2 _ ih =>
    intro t' h'
    cases h' with
    | done => omega
    | spare _ _ h3 => rw [ih h3]
    | win _ h3 h4 => have := wp_uniq h2 h3; omega
  | win h1 h2 h3 _ _ ih1 ih2 =>
    intro t' h'
    cases h' with
    | done => omega
    | spare _ h4 => have := wp_uniq h2 h4; omega
    | win _ h4 _ h5 h6 =>
      have e := wp_uniq h2 h4
      subst e
      rw [ih1 h5, ih2 h6]
theorem wp_in {ps : List PieceT} {b x w : Int} (h : WP ps (some b) x w) (h0 : 0 < w) : ∃ p : Int, Pt ps x (.int p) ∧ w = p + 1 ∧ x + p ≤ b := by
  obtain ⟨t, ht, e⟩ := wp_pt h
  cases t with
  | int p =>
    have e : w = if x + p ≤ b then p + 1 else 0 := e
    by_cases c : x + p ≤ b
    · rw [if_pos c] at e
      exact ⟨p, ht, e, c⟩
    · rw [if_neg c] at e
      omega
  | _ => have e : w = 0 := e; omega
theorem wp_shift {ps : List PieceT} {b s w d : Int} (h : WP ps (some b) s w) (hp : ∀ τ, Pt ps s τ → Pt ps (s + d) τ) : WP ps (some (b + d)) (s + d) w := by
  obtain ⟨t, ht, e⟩ := wp_pt h
  have h2 := pt_wp (some (b + d)) (hp t ht)
  have e2 : wd (some (b + d)) (s + d) t = wd (some b) s t := by
    cases t with
    | int p =>
      show (if s + d + p ≤ b + d then p + 1 else 0) = if s + p ≤ b then p + 1 else 0
      by_cases c : s + p ≤ b
      · rw [if_pos c, if_pos (by omega)]
      · rw [if_neg c, if_neg (by omega)]
    | _ => rfl
  rw [e2, ← e] at h2
  exact h2
theorem pas_shift {ps : List PieceT} {d b s t : Int} (h : Pas ps b s t) : (∀ y τ, s ≤ y → y ≤ b → Pt ps y τ → Pt ps (y + d) τ) → Pas ps (b + d) (s + d) t := by
  induction h with
  | done h => intro _; exact .done (by omega)
  | @spare b s t h1 h2 _ ih =>
    intro hp
    have i := ih fun y τ g1 g2 => hp y τ (by omega) g2
    rw [show b - s + t = (b + d) - (s + d) + t by omega]
    refine .spare (by omega) (wp_shift h2 fun τ => hp s τ (Int.le_refl _) h1) ?_
    rw [show s + d + 1 = s + 1 + d by omega]
    exact i
  | @win b s w u t h1 h2 h3 _ _ ih1 ih2 =>
    intro hp
    obtain ⟨p, _, e, hf⟩ := wp_in h2 h3
    have i1 := ih1 fun y τ g1 g2 => hp y τ (by omega) (by omega)
    have i2 := ih2 fun y τ g1 g2 => hp y τ (by omega) g2
    refine .win (by omega) (wp_shift h2 fun τ => hp s τ (Int.le_refl _) h1) h3 ?_ ?_
    · rw [show s + d + w - 1 = s + w - 1 + d by omega, show s + d + 1 = s + 1 + d by omega]
      exact i1
    · rw [show s + d + w = s + w + d by omega]
      exact i2
/-! ### the steps of a run -/
/-- what each step of one round brings, the first time -/
inductive ValsP (ps : List PieceT) (bd : Int) : List StepT → List Int → Prop
  | nil : ValsP ps bd [] []
  | spare {x : Int} {S : List StepT} {V : List Int} : ValsP ps bd S V → ValsP ps bd ((x, 0) :: S) ((bd - x) :: V)
  | win {x w u : Int} {S : List StepT} {V : List Int} : 0 < w → Pas ps (x + w - 1) (x + 1) u → ValsP ps bd S V → ValsP ps bd ((x, w) :: S) ((w - 1 + u) :: V)
theorem ValsP.snoc0 {ps : List PieceT} {bd x : Int} {S : List StepT} {V : List Int} (h : ValsP ps bd S V) : ValsP ps bd (S ++ [(x, 0)]) (V ++ [bd - x]) := by
  induction h with
  | nil => exact .spare .nil
  | spare _ ih => exact .spare ih
  | win h1 h2 _ ih => exact .win h1 h2 ih
theorem ValsP.snocW {ps : List PieceT} {bd x w u : Int} {S : List StepT} {V : List Int} (h : ValsP ps bd S V) (h0 : 0 < w) (hu : Pas ps (x + w - 1) (x + 1) u) : ValsP ps bd (S ++ [(x, w)]) (V ++ [w - 1 + u]) := by
  induction h with
  | nil => exact .win h0 hu .nil
  | spare _ ih => exact .spare ih
  | win h1 h2 _ ih => exact .win h1 h2 ih
/-- what a round brings that many on -/
def rndV (d : Int) : List StepT → List Int → Int
  | s :: S, v :: V => (if s.2 = 0 then v - d else v) + rndV d S V
  | _, _ => 0
/-- what so many rounds bring -/
def allV (T f : Int) : List StepT → List Int → Int
  | s :: S, v :: V => (if s.2 = 0 then T * v - f else T * v) + allV T f S V
  | _, _ => 0
theorem allV_snoc {T f : Int} {s : StepT} {v : Int} : ∀ {S : List StepT} {V : List Int}, S.length = V.length → allV T f (S ++ [s]) (V ++ [v]) = allV T f S V + (if s.2 = 0 then T * v - f else T * v)
  | [], [], _ => by show _ + (0 : Int) = 0 + _; omega
  | [], _ :: _, h => nomatch h
  | _ :: _, [], h => nomatch h
  | a :: S, b :: V, h => by
    have ih := allV_snoc (T := T) (f := f) (s := s) (v := v) (S := S) (V := V) (Nat.succ.inj h)
    show _ + allV T f (S ++ [s]) (V ++ [v]) = _ + allV T f S V + _
    rw [ih]
    omega
theorem ValsP.len {ps : List PieceT} {bd : Int} {S : List StepT} {V : List Int} (h : ValsP ps bd S V) : S.length = V.length := by
  induction h with
  | nil => rfl
  | spare _ ih => rw [List.length_cons, List.length_cons, ih]
  | win _ _ _ ih => rw [List.length_cons, List.length_cons, ih]
/-- one round: so many on -/
theorem vals_round {ps : List PieceT} {bd d e : Int} : ∀ {S : List StepT} {V : List Int} {a c : Int}, ValsP ps bd S V → Pth (WS ps (some bd) bd) a S c → Pth (WS ps (some bd) bd) (a + d) (shift d S) (c + d) → (∀ y τ, a ≤ y → y < e → Pt ps y τ → Pt ps (y + d) τ) → c ≤ e → ∀ {t : Int}, Pas ps bd (c + d) t → Pas ps bd (a + d) (rndV d S V + t)
  | [], _, a, c, .nil, h1, _, _, _, t, ht => by
    have e : a = c := h1
    rw [e, show rndV d [] [] + t = t from Int.zero_add t]
    exact ht
  | (x, w) :: S, _, a, c, hv, h1, h2, hp, hce, t, ht => by
    have e1 : x = a := h1.1
    have hw2 : WS ps (some bd) bd (x + d) w := h2.2.1
    have ha1 := h1.2.2
    have ha2 : Pth (WS ps (some bd) bd) (a + d + max w 1) (shift d S) (c + d) := h2.2.2
    subst e1
    have hle2 : x + d ≤ bd := hw2.1
    have hpth := ha1.le.1
    cases hv with
    | @spare _ _ V hv =>
      have ha1' : Pth (WS ps (some bd) bd) (x + 1) S c := ha1
      have ha2' : Pth (WS ps (some bd) bd) (x + 1 + d) (shift d S) (c + d) := by
        rw [show x + 1 + d = x + d + max 0 1 by omega]
        exact ha2
      have ih := vals_round hv ha1' ha2' (fun y τ g1 g2 => hp y τ (by omega) g2) hce ht
      have r : Pas ps bd (x + d) (bd - (x + d) + (rndV d S V + t)) := .spare hle2 hw2.2 (by rw [show x + d + 1 = x + 1 + d by omega]; exact ih)
      rw [show rndV d ((x, 0) :: S) ((bd - x) :: V) = (bd - x - d) + rndV d S V from by show (if (0 : Int) = 0 then _ else _) + _ = _; rw [if_pos rfl]]
      rw [show bd - x - d + rndV d S V + t = bd - (x + d) + (rndV d S V + t) by omega]
      exact r
    | @win _ _ u _ V h0 hu hv =>
      have hm : max w 1 = w := by omega
      rw [hm] at ha1 ha2
      have ha2' : Pth (WS ps (some bd) bd) (x + w + d) (shift d S) (c + d) := by
        rw [show x + w + d = x + d + w by omega]
        exact ha2
      have hcw : x + w ≤ c := by have := hpth; rw [hm] at this; omega
      have ih := vals_round hv ha1 ha2' (fun y τ g1 g2 => hp y τ (by omega) g2) hce ht
      have hu2 := pas_shift (d := d) hu fun y τ g1 g2 => hp y τ (by omega) (by omega)
      have r : Pas ps bd (x + d) (w - 1 + u + (rndV d S V + t)) := .win hle2 hw2.2 h0 (by rw [show x + d + w - 1 = x + w - 1 + d by omega, show x + d + 1 = x + 1 + d by omega]; exact hu2) (by rw [show x + d + w = x + w + d by omega]; exact ih)
      rw [show rndV d ((x, w) :: S) ((w - 1 + u) :: V) = (w - 1 + u) + rndV d S V from by show (if w = 0 then _ else _) + _ = _; rw [if_neg (by omega)]]
      rw [show w - 1 + u + rndV d S V + t = w - 1 + u + (rndV d S V + t) by omega]
      exact r
/-- the rounds together -/
def sumR (L : Int) (S : List StepT) (V : List Int) : Nat → Int
  | 0 => 0
  | k + 1 => sumR L S V k + rndV (k * L) S V
theorem sumR_all {L : Int} : ∀ (S : List StepT) (V : List Int) (k : Nat), 2 * sumR L S V k = allV (2 * k) (L * (k * (k - 1))) S V
  | S, V, 0 => by
    show (2 : Int) * 0 = _
    induction S generalizing V with
    | nil => rfl
    | cons s S ih =>
      cases V with
      | nil => rfl
      | cons v V =>
        show _ = (if s.2 = 0 then _ else _) + allV _ _ S V
        rw [← ih V]
        split <;> simp
  | S, V, k + 1 => by
    have h := sumR_all (L := L) S V k
    have step : ∀ (S : List StepT) (V : List Int), allV (2 * ((k + 1 : Nat) : Int)) (L * (((k + 1 : Nat) : Int) * (((k + 1 : Nat) : Int) - 1))) S V = allV (2 * (k : Int)) (L * ((k : Int) * ((k : Int) - 1))) S V + 2 * rndV ((k : Int) * L) S V := fun S => by
      induction S with
      | nil => intro V; rfl
      | cons s S ih =>
        intro V
        cases V with
        | nil => rfl
        | cons v V =>
          show (if s.2 = 0 then _ else _) + allV _ _ S V = (if s.2 = 0 then _ else _) + allV _ _ S V + 2 * ((if s.2 = 0 then _ else _) + rndV _ S V)
          rw [ih V]
          have e1 : 2 * ((k + 1 : Nat) : Int) * v = 2 * (k : Int) * v + 2 * v := by push_cast; rw [Int.mul_add, Int.add_mul]; omega
          have e2 : L * (((k + 1 : Nat) : Int) * (((k + 1 : Nat) : Int) - 1)) = L * ((k : Int) * ((k : Int) - 1)) + 2 * ((k : Int) * L) := by
            push_cast
            rw [show ((k : Int) + 1) * ((k : Int) + 1 - 1) = (k : Int) * ((k : Int) - 1) + 2 * k by
              rw [show (k : Int) + 1 - 1 = k by omega, Int.add_mul, Int.mul_sub]; omega, Int.mul_add, show L * (2 * (k : Int)) = 2 * ((k : Int) * L) by rw [Int.mul_comm, Int.mul_assoc]]
          rw [e1, e2]
          split <;> rw [Int.mul_add] <;> omega
    rw [step, ← h]
    show 2 * (sumR L S V k + rndV _ S V) = _
    rw [Int.mul_add]
theorem allV_two {T f : Int} : ∀ (S : List StepT) (V : List Int), allV (2 * T) (2 * f) S V = 2 * allV T f S V
  | [], _ => rfl
  | _ :: _, [] => rfl
  | s :: S, v :: V => by
    show (if s.2 = 0 then _ else _) + allV _ _ S V = 2 * ((if s.2 = 0 then _ else _) + allV _ _ S V)
    rw [allV_two S V, Int.mul_assoc 2 T v]
    split <;> omega
theorem even_k : ∀ k : Nat, ∃ m : Int, (k : Int) * ((k : Int) - 1) = 2 * m
  | 0 => ⟨0, by simp⟩
  | k + 1 => by
    obtain ⟨m, hm⟩ := even_k k
    refine ⟨m + k, ?_⟩
    push_cast
    rw [show ((k : Int) + 1) * ((k : Int) + 1 - 1) = (k : Int) * ((k : Int) - 1) + 2 * k by
      rw [show (k : Int) + 1 - 1 = k by omega, Int.add_mul, Int.mul_sub]; omega, hm]
    omega
theorem sumR_val {L : Int} (S : List StepT) (V : List Int) (k : Nat) : sumR L S V k = allV k (L * ((k : Int) * ((k : Int) - 1) / 2)) S V := by
  have h := sumR_all (L := L) S V k
  obtain ⟨m, hm⟩ := even_k k
  have e : (k : Int) * ((k : Int) - 1) / 2 = m := by omega
  rw [e]
  rw [hm, show L * (2 * m) = 2 * (L * m) by rw [← Int.mul_assoc, Int.mul_comm L 2, Int.mul_assoc], allV_two] at h
  omega
theorem rep_iter {ps : List PieceT} {b : Option Int} {stop a : Int} {r : RunT} (h : RunOk ps b stop a r) : ∀ k : Nat, k < r.times → ∀ y τ, a ≤ y → y < a + lenR r.steps → Pt ps y τ → Pt ps (y + k * lenR r.steps) τ
  | 0, _, y, τ, _, _, hp => by
    rw [show ((0 : Nat) : Int) * lenR r.steps = 0 from Int.zero_mul _, Int.add_zero]
    exact hp
  | k + 1, hk, y, τ, h1, h2, hp => by
    have hl : 0 ≤ lenR r.steps := by have := lenR_pos r.steps; omega
    have h0 : 0 ≤ (k : Int) * lenR r.steps := Int.mul_nonneg (by omega) hl
    obtain ⟨pc, g1, g2⟩ := rep_iter h k (by omega) y τ h1 h2 hp
    have hkT : ((k : Int) + 2) * lenR r.steps ≤ (r.times : Int) * lenR r.steps := Int.mul_le_mul_of_nonneg_right (by omega) hl
    rw [Int.add_mul] at hkT
    have h3 := h.rep (y + k * lenR r.steps) pc τ (by omega) (by omega) g1 g2
    rw [show y + ((k + 1 : Nat) : Int) * lenR r.steps = y + k * lenR r.steps + lenR r.steps by push_cast; rw [Int.add_mul]; omega]
    exact ⟨pc, h3⟩
/-- the whole run -/
theorem vals_all {ps : List PieceT} {bd a : Int} {r : RunT} (h : RunOk ps (some bd) bd a r) {V : List Int} (hv : ValsP ps bd r.steps V) {t : Int} (ht : Pas ps bd (a + r.times * lenR r.steps) t) : Pas ps bd a (allV r.times (lenR r.steps * ((r.times : Int) * ((r.times : Int) - 1) / 2)) r.steps V + t) := by
  rw [← sumR_val]
  have hp0 : Pth (WS ps (some bd) bd) a r.steps (a + lenR r.steps) := by
    have z := h.path 0 h.times
    have e0 : ((0 : Nat) : Int) * lenR r.steps = 0 := Int.zero_mul _
    rw [e0, Int.add_zero, Int.zero_add] at z
    have e1 : shift 0 r.steps = r.steps := by
      unfold shift
      have : (fun s : StepT => (s.1 + 0, s.2)) = id := by
        funext s
        rw [Int.add_zero]
        rfl
      rw [this, List.map_id]
    rw [e1] at z
    exact z
  have go : ∀ (k : Nat), k ≤ r.times → ∀ t, Pas ps bd (a + k * lenR r.steps) t → Pas ps bd a (sumR (lenR r.steps) r.steps V k + t) := fun k => by
    induction k with
    | zero =>
      intro _ t ht
      rw [show ((0 : Nat) : Int) * lenR r.steps = 0 from Int.zero_mul _, Int.add_zero] at ht
      rw [show sumR (lenR r.steps) r.steps V 0 + t = t from Int.zero_add t]
      exact ht
    | succ k ih =>
      intro hk t ht
      have e : a + ((k + 1 : Nat) : Int) * lenR r.steps = a + lenR r.steps + k * lenR r.steps := by push_cast; rw [Int.add_mul]; omega
      rw [e] at ht
      have hp2 := h.path k (by omega)
      rw [show a + ((k : Int) * lenR r.steps + lenR r.steps) = a + lenR r.steps + k * lenR r.steps by omega] at hp2
      have h1 := vals_round hv hp0 hp2 (rep_iter h k (by omega)) (Int.le_refl _) ht
      have h2 := ih (by omega) _ h1
      rw [← Int.add_assoc] at h2
      exact h2
  exact go r.times (Nat.le_refl _) t ht
/-! ### as a sum over people -/
def sumZ (f : Int → Int) (s : Int) : Nat → Int
  | 0 => 0
  | n + 1 => f s + sumZ f (s + 1) n
theorem sumZ_add (f : Int → Int) : ∀ (m n : Nat) (s : Int), sumZ f s (m + n) = sumZ f s m + sumZ f (s + m) n
  | 0, n, s => by rw [Nat.zero_add, show s + ((0 : Nat) : Int) = s by omega]; exact (Int.zero_add _).symm
  | m + 1, n, s => by
    rw [show m + 1 + n = (m + n) + 1 by omega]
    show f s + sumZ f (s + 1) (m + n) = f s + sumZ f (s + 1) m + _
    rw [sumZ_add f m n (s + 1), show s + 1 + (m : Int) = s + ((m + 1 : Nat) : Int) by push_cast; omega]
    omega
theorem sumZ_congr {f g : Int → Int} : ∀ (n : Nat) (s : Int), (∀ x, s ≤ x → x < s + n → f x = g x) → sumZ f s n = sumZ g s n
  | 0, _, _ => rfl
  | n + 1, s, h => by
    show f s + sumZ f (s + 1) n = g s + sumZ g (s + 1) n
    rw [h s (Int.le_refl _) (by push_cast; omega), sumZ_congr n (s + 1) fun x h1 h2 => h x (by omega) (by push_cast; omega)]
theorem pas_sum {ps : List PieceT} {b s t : Int} (h : Pas ps b s t) : ∀ {Lf : Int → Int}, (∀ x l, s ≤ x → x ≤ b → Las ps (some b) s x (some l) → Lf x = l) → t = sumZ (fun x => Lf x - x) s (b + 1 - s).toNat := by
  induction h with
  | @done b s h =>
    intro Lf _
    rw [show (b + 1 - s).toNat = 0 by omega]
    rfl
  | @spare b s t h1 h2 _ ih =>
    intro Lf hL
    have i := ih (Lf := Lf) fun x l g1 g2 hl => hL x l (by omega) g2 (.skip h2 (by omega) (by rw [show s + max (0 : Int) 1 = s + 1 by omega]; exact hl))
    rw [show (b + 1 - s).toNat = (b + 1 - (s + 1)).toNat + 1 by omega]
    show _ = (Lf s - s) + sumZ _ (s + 1) _
    rw [← i, hL s b (Int.le_refl _) h1 (.spare h2)]
  | @win b s w u t h1 h2 h3 _ _ ih1 ih2 =>
    intro Lf hL
    obtain ⟨p, _, e, hf⟩ := wp_in h2 h3
    have i1 := ih1 (Lf := Lf) fun x l g1 g2 hl => hL x l (by omega) (by omega) (.inn h2 (by omega) (by omega) hl)
    have i2 := ih2 (Lf := Lf) fun x l g1 g2 hl => hL x l (by omega) g2 (.skip h2 (by omega) (by rw [show s + max w 1 = s + w by omega]; exact hl))
    rw [show (b + 1 - s).toNat = ((s + w - 1 + 1 - (s + 1)).toNat + (b + 1 - (s + w)).toNat) + 1 by omega]
    show _ = (Lf s - s) + sumZ _ (s + 1) _
    rw [sumZ_add, ← i1, hL s (s + w - 1) (Int.le_refl _) h1 (.own h2 h3)]
    rw [show s + 1 + ((s + w - 1 + 1 - (s + 1)).toNat : Int) = s + w by omega, ← i2]
    omega
end CL
set_option Elab.async false
set_option linter.all false
set_option pp.maxSteps 400
set_option maxRecDepth 100000
set_option maxHeartbeats 4000000
namespace CL
open PySem PySem.Spec PyProof.Rows L2 GE
/-! ### how often a window may reach beyond a piece -/
def inB (lo hi : Int) (pc : PieceT) : Bool := match pc.2.1 with
  | some m => decide (lo < m) && decide (m ≤ hi)
  | none => false
def Bnd (ps : List PieceT) (lo hi : Int) : Nat := (ps.filter (inB lo hi)).length
theorem bnd_cons (pc : PieceT) (ps : List PieceT) (lo hi : Int) : Bnd (pc :: ps) lo hi = (if inB lo hi pc = true then 1 else 0) + Bnd ps lo hi := by
  unfold Bnd
  rw [List.filter_cons]
  by_cases c : inB lo hi pc = true
  · rw [if_pos c, if_pos c, List.length_cons]; omega
  · rw [if_neg c, if_neg c]; omega
theorem inB_le {lo lo' hi hi' : Int} {pc : PieceT} (h1 : lo ≤ lo') (h2 : hi' ≤ hi) (h : inB lo' hi' pc = true) : inB lo hi pc = true := by
  unfold inB at h ⊢
  cases e : pc.2.1 with
  | none => rw [e] at h; cases h
  | some m =>
    rw [e] at h
    simp only [Bool.and_eq_true, decide_eq_true_eq] at h ⊢
    omega
theorem bnd_le {lo lo' hi hi' : Int} (h1 : lo ≤ lo') (h2 : hi' ≤ hi) : ∀ ps : List PieceT, Bnd ps lo' hi' ≤ Bnd ps lo hi
  | [] => Nat.le_refl _
  | pc :: ps => by
    have ih := bnd_le h1 h2 ps
    rw [bnd_cons, bnd_cons]
    by_cases c : inB lo' hi' pc = true
    · rw [if_pos c, if_pos (inB_le h1 h2 c)]; omega
    · rw [if_neg c]; split <;> omega
theorem bnd_two {x l y hi : Int} (h1 : x ≤ y) (h2 : l ≤ y) (h3 : l ≤ hi) : ∀ ps : List PieceT, Bnd ps x l + Bnd ps y hi ≤ Bnd ps x hi
  | [] => Nat.le_refl _
  | pc :: ps => by
    have ih := bnd_two h1 h2 h3 ps
    rw [bnd_cons, bnd_cons, bnd_cons]
    by_cases c : inB x l pc = true
    · have n2 : ¬ inB y hi pc = true := fun z => by
        unfold inB at c z
        cases e : pc.2.1 with
        | none => rw [e] at c; cases c
        | some m =>
          rw [e] at c z
          simp only [Bool.and_eq_true, decide_eq_true_eq] at c z
          omega
      rw [if_pos c, if_neg n2, if_pos (inB_le (Int.le_refl _) h3 c)]; omega
    · rw [if_neg c]
      by_cases d : inB y hi pc = true
      · rw [if_pos d, if_pos (inB_le h1 (Int.le_refl _) d)]; omega
      · rw [if_neg d]; split <;> omega
theorem bnd_len (ps : List PieceT) (lo hi : Int) : Bnd ps lo hi ≤ ps.length := List.length_filter_le _ _
theorem bnd_one {ps : List PieceT} {pc : PieceT} {x l m : Int} (hm : pc ∈ ps) (e : pc.2.1 = some m) (h1 : x < m) (h2 : m ≤ l) : 1 ≤ Bnd ps x l := by
  unfold Bnd
  have : pc ∈ ps.filter (inB x l) := List.mem_filter.mpr ⟨hm, by unfold inB; rw [e]; simp only [Bool.and_eq_true, decide_eq_true_eq]; exact ⟨h1, h2⟩⟩
  exact List.length_pos_iff.mpr fun z => by rw [z] at this; cases this
/-! ### which kinds are not known yet -/
def codes : List (List Key) := (List.range 8).flatMap fun i => (List.range 8).map fun t => [Sum.inl ((i : Nat) : Int), Sum.inl ((t : Nat) : Int)]
theorem codes_in {i t : Nat} (hi : i < 8) (ht : t < 8) : [Sum.inl ((i : Nat) : Int), Sum.inl ((t : Nat) : Int)] ∈ codes := List.mem_flatMap.mpr ⟨i, List.mem_range.mpr hi, List.mem_map.mpr ⟨t, List.mem_range.mpr ht, rfl⟩⟩
def U (kvs : List (List Key × V)) : Nat := (codes.filter fun k => (valV kvs k).isNone).length
theorem filt_le {α : Type} {p q : α → Bool} : ∀ l : List α, (∀ x ∈ l, q x = true → p x = true) → (l.filter q).length ≤ (l.filter p).length
  | [], _ => Nat.le_refl _
  | x :: l, h => by
    have ih := filt_le l fun y hy => h y (List.mem_cons_of_mem _ hy)
    rw [List.filter_cons, List.filter_cons]
    by_cases c : q x = true
    · rw [if_pos c, if_pos (h x List.mem_cons_self c), List.length_cons, List.length_cons]; omega
    · rw [if_neg c]; split <;> (try rw [List.length_cons]) <;> omega
theorem filt_lt {α : Type} {p q : α → Bool} {a : α} : ∀ l : List α, (∀ x ∈ l, q x = true → p x = true) → a ∈ l → p a = true → q a = false → (l.filter q).length < (l.filter p).length
  | x :: l, h, ha, hp, hq => by
    have hl := fun y hy => h y (List.mem_cons_of_mem x hy)
    rw [List.filter_cons, List.filter_cons]
    rcases List.mem_cons.mp ha with rfl | ha
    · have := filt_le l hl
      rw [if_pos hp, hq, if_neg Bool.false_ne_true, List.length_cons]; omega
    · have := filt_lt l hl ha hp hq
      by_cases c : q x = true
      · rw [if_pos c, if_pos (h x List.mem_cons_self c), List.length_cons, List.length_cons]; omega
      · rw [if_neg c]; split <;> (try rw [List.length_cons]) <;> omega
theorem U_le (kvs : List (List Key × V)) (k : List Key) (v : V) : U (putK kvs k v) ≤ U kvs := by
  refine filt_le codes fun x _ h => ?_
  rw [valV_put] at h
  by_cases c : x = k
  · rw [if_pos c] at h; cases h
  · rw [if_neg c] at h; exact h
theorem U_lt {kvs : List (List Key × V)} {k : List Key} {v : V} (hk : k ∈ codes) (hn : valV kvs k = none) : U (putK kvs k v) < U kvs := by
  refine filt_lt (a := k) codes (fun x _ h => ?_) hk (by rw [hn]; rfl) (by rw [valV_put, if_pos rfl]; rfl)
  rw [valV_put] at h
  by_cases c : x = k
  · rw [if_pos c] at h; cases h
  · rw [if_neg c] at h; exact h
theorem U_nil : U [] = 64 := by decide +kernel
/-! ### how great what is known may be -/
def MM (L : Nat) : Nat := 2 ^ (600 * (L + 1))
theorem MM_mono {L L' : Nat} (h : L ≤ L') : MM L ≤ MM L' := Nat.pow_le_pow_right (by decide) (Nat.mul_le_mul_left 600 (by omega))
theorem MM_succ (L : Nat) : MM (L + 1) = MM L * 2 ^ 600 := by
  unfold MM
  rw [← Nat.pow_add]
  congr 1
theorem MM_low (L : Nat) : 2 ^ 600 ≤ MM L := Nat.pow_le_pow_right (by decide) (by omega)
structure KnOk (kvs : List (List Key × V)) (L : Nat) : Prop where
  len : kvs.length ≤ L
  vals : ∀ k v, valV kvs k = some v → ∃ i : Int, v = .int i ∧ i.natAbs < MM L
theorem KnOk.put {kvs : List (List Key × V)} {L : Nat} (h : KnOk kvs L) {k : List Key} {i : Int} (hi : i.natAbs < MM (L + 1)) : KnOk (putK kvs k (.int i)) (L + 1) := by
  refine ⟨?_, fun j v e => ?_⟩
  · have := length_putK kvs k (.int i)
    have := h.len
    omega
  · rw [valV_put] at e
    by_cases c : j = k
    · rw [if_pos c] at e
      cases e
      exact ⟨i, rfl, hi⟩
    · rw [if_neg c] at e
      obtain ⟨x, e1, e2⟩ := h.vals j v e
      exact ⟨x, e1, Nat.lt_of_lt_of_le e2 (MM_mono (Nat.le_succ L))⟩
theorem KnOk.nil : KnOk [] 0 := ⟨Nat.le_refl 0, fun k v e => by cases e⟩
/-- a window's worth -/
theorem new_val {L : Nat} {l x t : Int} (h0 : 0 ≤ x) (h1 : x ≤ l) (h2 : l < 2 ^ 138) (ht : t.natAbs < MM L * 2 ^ 200) : (l - x + t).natAbs < MM (L + 1) := by
  rw [MM_succ]
  have hm := MM_low L
  have a1 : (l - x + t).natAbs ≤ (l - x).natAbs + t.natAbs := Int.natAbs_add_le _ _
  have a2 : (l - x).natAbs < 2 ^ 138 := by omega
  have a3 : (2 : Nat) ^ 138 ≤ 2 ^ 600 := by decide +kernel
  have a4 : MM L * 2 ^ 201 ≤ MM L * 2 ^ 600 := Nat.mul_le_mul_left _ (by decide +kernel)
  have a5 : MM L * 2 ^ 201 = MM L * 2 ^ 200 + MM L * 2 ^ 200 := by rw [show (2 : Nat) ^ 201 = 2 ^ 200 + 2 ^ 200 by decide +kernel, Nat.mul_add]
  have a6 : MM L ≤ MM L * 2 ^ 200 := Nat.le_mul_of_pos_right _ (by decide +kernel)
  omega
/-- so many steps' worth -/
def Tot (N L : Nat) : Nat := N * (2 ^ 150 * MM L)
theorem tot_mono {N L L' : Nat} (h : L ≤ L') : Tot N L ≤ Tot N L' := Nat.mul_le_mul_left _ (Nat.mul_le_mul_left _ (MM_mono h))
theorem tot_add {N L : Nat} {t d : Int} (ht : t.natAbs ≤ Tot N L) (hd : d.natAbs ≤ 2 ^ 150 * MM L) : (t + d).natAbs ≤ Tot (N + 1) L := by
  have a1 : (t + d).natAbs ≤ t.natAbs + d.natAbs := Int.natAbs_add_le _ _
  unfold Tot at ht ⊢
  rw [Nat.add_mul, Nat.one_mul]
  omega
theorem tot_le {N N' L : Nat} (h : N ≤ N') : Tot N L ≤ Tot N' L := Nat.mul_le_mul_right _ h
theorem tot_end {N L : Nat} {t : Int} (hN : N ≤ 163520) (ht : t.natAbs ≤ Tot N L) : t.natAbs < MM L * 2 ^ 200 := by
  have hm : 0 < MM L := Nat.lt_of_lt_of_le (by decide +kernel) (MM_low L)
  have a1 : Tot N L ≤ 163520 * (2 ^ 150 * MM L) := Nat.mul_le_mul_right _ hN
  have a2 : 163520 * (2 ^ 150 * MM L) = MM L * (163520 * 2 ^ 150) := by rw [← Nat.mul_assoc, Nat.mul_comm]
  have a3 : MM L * (163520 * 2 ^ 150) < MM L * 2 ^ 200 := Nat.mul_lt_mul_of_pos_left (by decide +kernel) hm
  omega
/-- what one that is left over brings -/
theorem spare_val {L : Nat} {t b x f : Int} (ht : t.natAbs < 2 ^ 140) (hb : (b - x).natAbs < 2 ^ 140) (hf : f.natAbs < 2 ^ 420) : (t * (b - x) - f).natAbs ≤ 2 ^ 150 * MM L := by
  have a1 : (t * (b - x) - f).natAbs ≤ (t * (b - x)).natAbs + f.natAbs := by
    have := Int.natAbs_add_le (t * (b - x)) (-f)
    rw [Int.natAbs_neg] at this
    exact this
  have a2 : (t * (b - x)).natAbs ≤ 2 ^ 140 * 2 ^ 140 := by
    rw [Int.natAbs_mul]
    exact Nat.mul_le_mul (by omega) (by omega)
  have a3 : 2 ^ 140 * 2 ^ 140 + 2 ^ 420 ≤ 2 ^ 600 := by decide +kernel
  have a4 := MM_low L
  have a5 : MM L ≤ 2 ^ 150 * MM L := Nat.le_mul_of_pos_left _ (by decide +kernel)
  omega
theorem win_val {L : Nat} {t r : Int} (ht : t.natAbs < 2 ^ 140) (hr : r.natAbs < MM L) : (t * r).natAbs ≤ 2 ^ 150 * MM L := by
  rw [Int.natAbs_mul]
  exact Nat.mul_le_mul (Nat.le_trans (Nat.le_of_lt ht) (by decide +kernel)) (Nat.le_of_lt hr)
theorem fewer_val {l t : Int} (hl : l.natAbs < 2 ^ 140) (h0 : 0 ≤ t) (ht : t < 2 ^ 140) : (t * (t - 1)).natAbs < 2 ^ 280 ∧ (t * (t - 1) / 2).natAbs < 2 ^ 280 ∧ (l * (t * (t - 1) / 2)).natAbs < 2 ^ 420 := by
  have a1 : (t * (t - 1)).natAbs < 2 ^ 280 := by
    rw [Int.natAbs_mul]
    have b1 : t.natAbs < 2 ^ 140 := by omega
    have b2 : (t - 1).natAbs ≤ 2 ^ 140 - 1 := by omega
    have b3 : t.natAbs * (t - 1).natAbs ≤ 2 ^ 140 * (2 ^ 140 - 1) := Nat.mul_le_mul (Nat.le_of_lt b1) b2
    exact Nat.lt_of_le_of_lt b3 (by decide +kernel)
  have a2 : (t * (t - 1) / 2).natAbs ≤ (t * (t - 1)).natAbs := by
    have hnn : 0 ≤ t * (t - 1) := by
      rcases (by omega : t = 0 ∨ 1 ≤ t) with z | z
      · rw [z]; decide
      · exact Int.mul_nonneg h0 (by omega)
    omega
  refine ⟨a1, Nat.lt_of_le_of_lt a2 a1, ?_⟩
  rw [Int.natAbs_mul]
  have b4 : l.natAbs * (t * (t - 1) / 2).natAbs ≤ (2 ^ 140 - 1) * 2 ^ 280 := Nat.mul_le_mul (by omega) (by omega)
  exact Nat.lt_of_le_of_lt b4 (by decide +kernel)
/-! ### one object changes -/
def Kp (D : Addr) (H H' : Hp) : Prop := ∀ b o, b ≠ D → H b = some o → H' b = some o
theorem Kp.refl (D : Addr) (H : Hp) : Kp D H H := fun _ _ _ e => e
theorem Kp.of {D : Addr} {H H' : Hp} (s : Same H H') : Kp D H H' := fun b o _ e => s b o e
theorem Kp.trans {D : Addr} {H H1 H2 : Hp} (a : Kp D H H1) (b : Kp D H1 H2) : Kp D H H2 := fun c o n e => b c o n (a c o n e)
theorem Kp.upd {D : Addr} {H : Hp} {o : HO} : Kp D H (upd H D o) := fun b _ n e => by rw [upd_ne n]; exact e
theorem Kp.hw {D : Addr} {H H' : Hp} (k : Kp D H H') : Same (Hw (fun b => b = D) H) (Hw (fun b => b = D) H') := fun b o e => by
  have n := Hw.ne e
  rw [Hw.at (W := fun b => b = D) n]
  exact k b o n (Hw.sub _ _ _ _ e)
theorem PcsAt.kp {D : Addr} {H H' : Hp} {a : Addr} {ps : List PieceT} (h : PcsAt (Hw (fun b => b = D) H) a ps) (k : Kp D H H') : PcsAt (Hw (fun b => b = D) H') a ps := h.smK k.hw
theorem PcsAt.full {D : Addr} {H : Hp} {a : Addr} {ps : List PieceT} (h : PcsAt (Hw (fun b => b = D) H) a ps) : PcsAt H a ps := h.smK (Hw.sub _ _)
theorem RunsAt.kp {C D2 D : Addr} {H H' : Hp} {ws : List V} {rs : List RunT} {kvs : List (List Key × V)} (h : RunsAt C D2 H ws rs) (hD : H D = some (.dT kvs)) (k : Kp D H H') : RunsAt C D2 H' ws rs := ⟨h.len, fun i r hi => by
  obtain ⟨v, h1, x, dx, p, vs, e, n, hx, hp, hS⟩ := h.at_ i r hi
  exact ⟨v, h1, x, dx, p, vs, e, n, k _ _ (fun z => by rw [z, hD] at hx; cases hx) hx, k _ _ (fun z => by rw [z, hD] at hp; cases hp) hp, hS.kt fun b xs hb => k _ _ (fun z => by rw [z, hD] at hb; cases hb) hb⟩⟩
theorem drop_atK {α : Type} {xs : List α} {i : Nat} {x : α} (h : xs[i]? = some x) : xs.drop i = x :: xs.drop (i + 1) := by
  obtain ⟨hl, e⟩ := List.getElem?_eq_some_iff.mp h
  rw [List.drop_eq_getElem_cons hl, e]
theorem run_path0 {ps : List PieceT} {b : Option Int} {stop a : Int} {r : RunT} (h : RunOk ps b stop a r) : Pth (WS ps b stop) a r.steps (a + lenR r.steps) := by
  have z := h.path 0 h.times
  have e0 : ((0 : Nat) : Int) * lenR r.steps = 0 := Int.zero_mul _
  rw [e0, Int.add_zero, Int.zero_add] at z
  have e1 : shift 0 r.steps = r.steps := by
    unfold shift
    have : (fun s : StepT => (s.1 + 0, s.2)) = id := by
      funext s
      rw [Int.add_zero]
      rfl
    rw [this, List.map_id]
  rw [e1] at z
  exact z
/-- that key, with such a patience -/
def PatK (ps : List PieceT) (ks : List Key) (p : Int) : Prop := ∃ (i t : Nat) (pc : PieceT), ks = [Sum.inl (i : Int), Sum.inl (t : Int)] ∧ ps[i]? = some pc ∧ pc.2.2[t]? = some (.int p)
theorem PatK.uniq {ps : List PieceT} {ks : List Key} {p q : Int} (a : PatK ps ks p) (b : PatK ps ks q) : p = q := by
  obtain ⟨i, t, pc, e1, e2, e3⟩ := a
  obtain ⟨i', t', pc', f1, f2, f3⟩ := b
  rw [e1] at f1
  simp only [List.cons.injEq, Sum.inl.injEq] at f1
  obtain rfl : i = i' := by omega
  obtain rfl : t = t' := by omega
  rw [e2] at f2
  cases f2
  rw [e3] at f3
  cases f3
  rfl
end CL
set_option Elab.async false
set_option linter.all false
set_option pp.maxSteps 400
set_option maxRecDepth 100000
set_option maxHeartbeats 4000000
namespace CL
open PySem PySem.Spec PyProof.Rows L2 GE
/-! ### what is noted -/
/-- the greater of two uses; none is without end -/
def noteO : Option Int → Option Int → Option Int
  | some a, some b => some (max a b)
  | _, _ => none
/-- what one uses that is met on a level -/
def useO (b : Option Int) (x w : Int) : Option Int := if 0 < w then some (w - 1) else b.map fun m => m - x
def ixP (ps : List PieceT) (x : Int) : Nat := ps.findIdx (comes x)
def tnP (ps : List PieceT) (x : Int) : Nat := match ps.find? (comes x) with
  | some pc => (tnI pc.1 pc.2.2.length x).toNat
  | none => 0
abbrev UsT := List (List (Option Int))
def noteAt (ps : List PieceT) (b : Option Int) (us : UsT) (s : StepT) : UsT := us.modify (ixP ps s.1) fun u => u.modify (tnP ps s.1) fun o => noteO o (useO b s.1 s.2)
def noteAll (ps : List PieceT) (b : Option Int) (us : UsT) (S : List StepT) : UsT := S.foldl (noteAt ps b) us
def winsOf (S : List StepT) : List StepT := (S.filter fun s => decide (0 < s.2)).map fun s => (s.1, s.1 + s.2 - 1)
def stepsOf (rs : List RunT) : List StepT := rs.flatMap fun r => r.steps
def IxOk (ps : List PieceT) : Prop := ∀ (i : Nat) (x : Int) pc, 0 ≤ x → ps.find? (comes x) = some pc → ps[i]? = some pc → i = ixP ps x
structure ShpU (ps : List PieceT) (us : UsT) : Prop where
  len : us.length = ps.length
  row : ∀ (i : Nat) u pc, us[i]? = some u → ps[i]? = some pc → u.length = pc.2.2.length
theorem noteAll_snoc (ps : List PieceT) (b : Option Int) (us : UsT) (S : List StepT) (s : StepT) : noteAll ps b us (S ++ [s]) = noteAt ps b (noteAll ps b us S) s := by
  unfold noteAll
  rw [List.foldl_append]
  rfl
theorem noteAll_app (ps : List PieceT) (b : Option Int) (us : UsT) (S T : List StepT) : noteAll ps b us (S ++ T) = noteAll ps b (noteAll ps b us S) T := by
  unfold noteAll
  rw [List.foldl_append]
theorem winsOf_snoc (S : List StepT) (s : StepT) : winsOf (S ++ [s]) = winsOf S ++ (if 0 < s.2 then [(s.1, s.1 + s.2 - 1)] else []) := by
  unfold winsOf
  rw [List.filter_append, List.map_append]
  congr 1
  by_cases c : 0 < s.2
  · rw [List.filter_cons, if_pos (by simpa using c), if_pos c]; rfl
  · rw [List.filter_cons, if_neg (by simpa using c), if_neg c]; rfl
theorem winsOf_app (S T : List StepT) : winsOf (S ++ T) = winsOf S ++ winsOf T := by
  unfold winsOf
  rw [List.filter_append, List.map_append]
theorem winsOf_len (S : List StepT) : (winsOf S).length ≤ S.length := by
  unfold winsOf
  rw [List.length_map]
  exact List.length_filter_le _ _
theorem stepsOf_snoc (rs : List RunT) (r : RunT) : stepsOf (rs ++ [r]) = stepsOf rs ++ r.steps := by
  unfold stepsOf
  rw [List.flatMap_append]
  simp
theorem ShpU.at_ {ps : List PieceT} {b : Option Int} {us : UsT} (h : ShpU ps us) (s : StepT) : ShpU ps (noteAt ps b us s) := by
  refine ⟨by unfold noteAt; rw [List.length_modify]; exact h.len, fun i u pc hu hp => ?_⟩
  unfold noteAt at hu
  rw [List.getElem?_modify] at hu
  cases e : us[i]? with
  | none => rw [e] at hu; cases hu
  | some u0 =>
    rw [e] at hu
    have h0 := h.row i u0 pc e hp
    obtain rfl : (if ixP ps s.1 = i then u0.modify (tnP ps s.1) (fun o => noteO o (useO b s.1 s.2)) else u0) = u := by
      simpa using hu
    split
    · rw [List.length_modify]; exact h0
    · exact h0
theorem find_ixP {ps : List PieceT} {x : Int} {pc : PieceT} (h : ps.find? (comes x) = some pc) : ps[ixP ps x]? = some pc := by
  unfold ixP
  obtain ⟨i, hi, e⟩ := List.getElem_of_mem (List.mem_of_find?_eq_some h)
  have hp := List.find?_some h
  have hlt : ps.findIdx (comes x) < ps.length := List.findIdx_lt_length_of_exists ⟨pc, List.mem_of_find?_eq_some h, hp⟩
  rw [List.getElem?_eq_getElem hlt]
  have h2 := List.find?_eq_some_iff_getElem.mp h
  obtain ⟨_, j, hj, e2, h3⟩ := h2
  have : ps.findIdx (comes x) = j := by
    rw [List.findIdx_eq hj]
    exact ⟨by rw [e2]; exact hp, fun k hk => by have := h3 k hk; simpa using this⟩
  simp only [this, e2]
theorem tnP_of {ps : List PieceT} {x : Int} {pc : PieceT} (h : ps.find? (comes x) = some pc) : tnP ps x = (tnI pc.1 pc.2.2.length x).toNat := by
  unfold tnP
  rw [h]
/-! ### how it stands -/
def Kq (W : Addr → Prop) (H H' : Hp) : Prop := ∀ b o, ¬ W b → H b = some o → H' b = some o
section
variable {W : Addr → Prop} {H H' H1 H2 : Hp}
theorem Kq.refl : Kq W H H := fun _ _ _ e => e
theorem Kq.of (s : Same H H') : Kq W H H' := fun b o _ e => s b o e
theorem Kq.trans (a : Kq W H H1) (b : Kq W H1 H2) : Kq W H H2 := fun c o n e => b c o n (a c o n e)
theorem Kq.upd {D : Addr} {o : HO} (h : W D) : Kq W H (upd H D o) := fun b _ n e => by rw [upd_ne fun z => n (by rw [z]; exact h)]; exact e
theorem Kq.imp {W' : Addr → Prop} (a : Kq W H H') (h : ∀ b, W b → W' b) : Kq W' H H' := fun b o n e => a b o (fun z => n (h b z)) e
theorem Kq.hw (k : Kq W H H') : Same (Hw W H) (Hw W H') := fun b o e => by
  have n := Hw.ne e
  rw [Hw.at n]
  exact k b o n (Hw.sub _ _ _ _ e)
theorem PcsAt.kq {a : Addr} {ps : List PieceT} (h : PcsAt (Hw W H) a ps) (k : Kq W H H') : PcsAt (Hw W H') a ps := h.smK k.hw
theorem PcsAt.fullW {a : Addr} {ps : List PieceT} (h : PcsAt (Hw W H) a ps) : PcsAt H a ps := h.smK (Hw.sub _ _)
/-- what is hidden are lists with no objects -/
def Flt (W : Addr → Prop) (H : Hp) : Prop := ∀ b, W b → ∃ xs, H b = some (.lst xs) ∧ ∀ v ∈ xs, ∀ q : Addr, v ≠ .ref q
theorem RunsAt.kq {C D : Addr} {ws : List V} {rs : List RunT} (h : RunsAt C D H ws rs) (hn : ∀ r ∈ rs, r.steps ≠ []) (hW : Flt W H) (k : Kq W H H') : RunsAt C D H' ws rs := ⟨h.len, fun i r hi => by
  obtain ⟨v, h1, x, dx, p, vs, e, n, hx, hp, hS⟩ := h.at_ i r hi
  have nl : ∀ {b : Addr} {xs : List V}, H b = some (.lst xs) → (∃ v ∈ xs, ∃ q : Addr, v = .ref q) → ¬ W b := fun {b xs} hb hv z => by
    obtain ⟨xs2, e2, h2⟩ := hW b z
    rw [hb] at e2
    cases e2
    obtain ⟨v, hv, q, e⟩ := hv
    exact h2 v hv q e
  have hne : r.steps ≠ [] := hn r (List.mem_of_getElem? hi)
  refine ⟨v, h1, x, dx, p, vs, e, n, k _ _ (fun z => ?_) hx, k _ _ (nl hp ?_) hp, hS.kt fun b xs hb => k _ _ (fun z => ?_) hb⟩
  · obtain ⟨_, e2, _⟩ := hW x z
    rw [hx] at e2
    cases e2
  · obtain ⟨s, hs⟩ : ∃ s, r.steps[0]? = some s := ⟨_, List.getElem?_eq_getElem (List.length_pos_iff.mpr hne)⟩
    obtain ⟨b, hb, _⟩ := hS.at_ 0 s hs
    exact ⟨_, List.mem_of_getElem? hb, b, rfl⟩
  · obtain ⟨_, e2, _⟩ := hW b z
    rw [hb] at e2
    cases e2⟩
end
structure UsAt (H : Hp) (A : Addr) (bs : List Addr) (us : UsT) : Prop where
  lst : H A = some (.lst (bs.map V.ref))
  len : bs.length = us.length
  row : ∀ (i : Nat) (b : Addr) u, bs[i]? = some b → us[i]? = some u → H b = some (.lst (u.map optV))
  nd : bs.Nodup
  nA : A ∉ bs
theorem optV_ref (o : Option Int) (q : Addr) : optV o ≠ .ref q := by cases o <;> intro h <;> cases h
theorem UsAt.flt {H : Hp} {A : Addr} {bs : List Addr} {us : UsT} (h : UsAt H A bs us) : Flt (fun b => b ∈ bs) H := fun b hb => by
  obtain ⟨i, hi, e⟩ := List.getElem_of_mem hb
  obtain ⟨u, hu⟩ : ∃ u, us[i]? = some u := ⟨_, List.getElem?_eq_getElem (by rw [← h.len]; exact hi)⟩
  refine ⟨_, h.row i b u (by rw [List.getElem?_eq_getElem hi, e]) hu, fun v hv q => ?_⟩
  obtain ⟨o, _, rfl⟩ := List.mem_map.mp hv
  exact optV_ref o q
theorem UsAt.same {H H' : Hp} {A : Addr} {bs : List Addr} {us : UsT} (h : UsAt H A bs us) (s : Same H H') : UsAt H' A bs us := ⟨s _ _ h.lst, h.len, fun i b u h1 h2 => s _ _ (h.row i b u h1 h2), h.nd, h.nA⟩
theorem UsAt.keep {H H' : Hp} {A : Addr} {bs : List Addr} {us : UsT} (h : UsAt H A bs us) (s : ∀ b xs, (b = A ∨ b ∈ bs) → H b = some (.lst xs) → H' b = some (.lst xs)) : UsAt H' A bs us := ⟨s _ _ (.inl rfl) h.lst, h.len, fun i b u h1 h2 => s _ _ (.inr (List.mem_of_getElem? h1)) (h.row i b u h1 h2), h.nd, h.nA⟩
theorem UsAt.get {H : Hp} {A : Addr} {bs : List Addr} {us : UsT} (h : UsAt H A bs us) {i : Nat} {u : List (Option Int)} (hu : us[i]? = some u) : ∃ b, bs[i]? = some b ∧ b ∈ bs ∧ H b = some (.lst (u.map optV)) := by
  have hi : i < bs.length := by rw [h.len]; exact (List.getElem?_eq_some_iff.mp hu).1
  exact ⟨bs[i], List.getElem?_eq_getElem hi, List.getElem_mem hi, h.row i _ u (List.getElem?_eq_getElem hi) hu⟩
theorem UsAt.put {H : Hp} {A : Addr} {bs : List Addr} {us : UsT} (h : UsAt H A bs us) {i : Nat} {b : Addr} (hb : bs[i]? = some b) (f : List (Option Int) → List (Option Int)) {u : List (Option Int)} (hu : us[i]? = some u) : UsAt (upd H b (.lst ((f u).map optV))) A bs (us.modify i f) := by
  refine ⟨by rw [upd_ne fun z => h.nA (by rw [z]; exact List.mem_of_getElem? hb)]; exact h.lst, by rw [List.length_modify]; exact h.len, fun j c v hc hv => ?_, h.nd, h.nA⟩
  rw [List.getElem?_modify] at hv
  by_cases e : i = j
  · subst e
    rw [hb] at hc
    cases hc
    rw [hu] at hv
    have : f u = v := by simpa using hv
    rw [← this, upd_same]
  · have nc : c ≠ b := fun z => e (by
      obtain ⟨l1, e1⟩ := List.getElem?_eq_some_iff.mp hb
      obtain ⟨l2, e2⟩ := List.getElem?_eq_some_iff.mp hc
      exact (List.getElem_inj h.nd).mp (by rw [e1, e2, z]))
    rw [upd_ne nc]
    cases hj : us[j]? with
    | none => rw [hj] at hv; cases hv
    | some v0 =>
      rw [hj] at hv
      have : v0 = v := by simpa [e] using hv
      rw [← this]
      exact h.row j c v0 hc hj
theorem set_mod {u : List (Option Int)} {t : Nat} {f : Option Int → Option Int} {o : Option Int} (h : u[t]? = some o) : (u.map optV).set t (optV (f o)) = (u.modify t f).map optV := by
  apply List.ext_getElem?
  intro j
  rw [List.getElem?_set, List.getElem?_map, List.getElem?_map, List.getElem?_modify]
  by_cases e : t = j
  · subst e
    obtain ⟨l, _⟩ := List.getElem?_eq_some_iff.mp h
    rw [if_pos rfl, if_pos (by rw [List.length_map]; exact l), h]
    simp
  · rw [if_neg e]
    cases u[j]? with
    | none => rfl
    | some v => simp [e]
end CL
set_option Elab.async false
set_option linter.all false
set_option pp.maxSteps 900
set_option maxRecDepth 100000
set_option maxHeartbeats 4000000
namespace CL
open PySem PySem.Spec PyProof.Rows L2 GE
abbrev sNote : Stmt := topS 32
abbrev sLevel : Stmt := topS 31
abbrev nNote : List Str := ["used", "turn", "many"]
theorem scNote : FnScope nNote ["used", "turn", "many"] (defScope sNote) := ⟨rfl, rfl, rfl, by decide +kernel, rfl, by decide +kernel, by decide +kernel⟩
abbrev nLevel : List Str := ["pieces", "start", "bound", "stop", "used", "windows", "run", "person", "width", "at", "turn"]
theorem scLevel : FnScope nLevel ["pieces", "start", "bound", "stop", "used"] (defScope sLevel) := ⟨rfl, rfl, rfl, by decide +kernel, rfl, by decide +kernel, by decide +kernel⟩
theorem ixN_nat {n j : Nat} (h : j < n) : ixN n (j : Int) = some j := by
  unfold ixN
  simp
  omega
def spNote : Sp := fun vs H Q _ => ∃ b, ∃ t : Nat, ∃ u : List (Option Int), ∃ m : Option Int, vs = [.ref b, .int (t : Int), optV m] ∧ H b = some (.lst (u.map optV)) ∧ t < u.length ∧ Q .non (upd H b (.lst ((u.modify t fun o => noteO o m).map optV)))
theorem lvl_mem {ps : List PieceT} {b : Option Int} {stop : Int} : ∀ {rs : List RunT} {a c : Int}, Lvl ps b stop a rs c → ∀ r ∈ rs, ∃ y, a ≤ y ∧ RunOk ps b stop y r
  | [], _, _, _, _, h => nomatch h
  | r :: rs, a, c, h, q, hq => by
    rcases List.mem_cons.mp hq with rfl | hq
    · exact ⟨a, Int.le_refl _, h.1⟩
    · obtain ⟨y, h1, h2⟩ := lvl_mem h.2 q hq
      refine ⟨y, ?_, h2⟩
      have := lenR_pos r.steps
      have : 0 ≤ (r.times : Int) * lenR r.steps := Int.mul_nonneg (by omega) (by omega)
      omega
/-- each step of a run is one of the level -/
theorem step_mem {ps : List PieceT} {b : Option Int} {stop a : Int} {r : RunT} (h : RunOk ps b stop a r) : ∀ s ∈ r.steps, a ≤ s.1 ∧ s.1 ≤ stop ∧ WP ps b s.1 s.2 := fun s hs => by
  obtain ⟨h1, _, h2, h3⟩ := (run_path0 h).le.2 s hs
  exact ⟨h1, h2, h3⟩
def spLevel (C : Addr) : Sp := fun vs H Q _ => ∃ a ps, ∃ start stop : Int, ∃ b : Option Int, ∃ A bs us, vs = [.ref a, .int start, optV b, .int stop, .ref A] ∧ PcsAt (Hw (fun x => x ∈ bs) H) a ps ∧ PsOk ps ∧ IxOk ps ∧ 0 ≤ start ∧ (∀ x, start ≤ x → x ≤ stop → ∃ pc, ps.find? (comes x) = some pc) ∧ (∀ y ∈ breaks ps b stop, y < 2 ^ 139) ∧
  UsAt H A bs us ∧ ShpU ps us ∧ ∀ D vs rs c H', Lvl ps b stop start rs c → stop < c → rs.length ≤ 20440 → UsAt H' A bs (noteAll ps b us (stepsOf rs)) → ShpU ps (noteAll ps b us (stepsOf rs)) → Kq (fun x => x ∈ bs) H H' → H D = none → H' D = some (.lst vs) → StAt H' vs (winsOf (stepsOf rs)) → Q (.ref D) H'
section
variable {P : Program} {w : World} {K : PySem.W.Frag} {mg : Str → Option Value} {base : Heap}
theorem ok_note {f : Addr} {fd : FuncData} (F : Fun K "note_use" "note_use" sNote f fd) (hmax : mg "max" = none) : FnOk P w K mg base CX0 1 f fd nNote spNote := by
  refine F.ok scNote (fun vs H Q E ⟨b, t, u, m, e, _⟩ => by rw [e]; rfl) (fun cdv A outer s H vs Q E hr h => ?_)
  obtain ⟨b, t, u, m, rfl, hb, ht, q⟩ := h
  have nd := scNote.nd
  refine ⟨_, (pss_one (ps_if (PW.pt (pw_or (pt_cmp (pc_isN (pv 2))) (pw_or1 (pt_cmp (pc_isN (pe_ix ix_list (pv 0) (pv 1) (fun _ _ => rfl))))))) (pss_one (ps_asg pe_non (pg_sub (pv 0) (pv 1) set_list))) (pss_one (ps_asg (pe_callB (call_max2 rfl) (by rfl) hmax (by decide +kernel) (pa_cons (pe_ix ix_list (pv 0) (pv 1) (fun _ _ => rfl)) (pa_cons (pv 2) pa_nil))) (pg_sub (pv 0) (pv 1) set_list))))), ?_⟩
  obtain ⟨o, ho⟩ : ∃ o, u[t]? = some o := ⟨_, List.getElem?_eq_getElem ht⟩
  have hv : (u.map optV)[t]? = some (optV o) := by rw [List.getElem?_map, ho]; rfl
  have hs : ∀ {y : Option Int}, noteO o m = y → (u.map optV).set t (optV y) = (u.modify t fun o => noteO o m).map optV := fun {y} e => by
    rw [← e]
    exact set_mod (f := fun o => noteO o m) ho
  cases m with
  | none =>
    refine ⟨.non, rfl, _, rfl, iteT ⟨.ref b, rfl, .int (t : Int), rfl, b, _, (t : Int), t, rfl, rfl, hb, ixN_nat (by rw [List.length_map]; exact ht), ?_⟩⟩
    show Q .non (upd H b (.lst ((u.map optV).set t (optV none))))
    rw [hs (by cases o <;> rfl)]
    exact q
  | some m =>
    refine ⟨.int m, rfl, _, rfl, iteF ⟨.ref b, rfl, .int (t : Int), rfl, b, _, (t : Int), optV o, rfl, rfl, SqL.of hb, atI_nat hv, ?_⟩⟩
    cases o with
    | none =>
      refine ⟨_, rfl, iteT ⟨.ref b, rfl, .int (t : Int), rfl, b, _, (t : Int), t, rfl, rfl, hb, ixN_nat (by rw [List.length_map]; exact ht), ?_⟩⟩
      show Q .non (upd H b (.lst ((u.map optV).set t (optV none))))
      rw [hs (y := none) rfl]
      exact q
    | some o =>
      refine ⟨_, rfl, iteF ⟨.ref b, rfl, .int (t : Int), rfl, b, _, (t : Int), .int o, rfl, rfl, SqL.of hb, atI_nat hv, .int m, rfl, o, m, rfl, .ref b, rfl, .int (t : Int), rfl, b, _, (t : Int), t, rfl, rfl, hb, ixN_nat (by rw [List.length_map]; exact ht), ?_⟩⟩
      have : (if m > o then m else o) = max o m := by split <;> omega
      rw [this]
      show Q .non (upd H b (.lst ((u.map optV).set t (optV (some (max o m))))))
      rw [hs (y := some (max o m)) rfl]
      exact q
theorem ok_level {f C fI : Addr} {fd : FuncData} (F : Fun K "use_level" "use_level" sLevel f fd) (TC : RunC K mg C fI) (CRn : Cal P w K mg base 3 "runs_on" ["pieces", "start", "bound", "stop"] (spRuns C)) (CTa : Cal P w K mg base 2 "turn_at" ["pieces", "person"] spTurnAt) (CNu : Cal P w K mg base 1 "note_use" nNote spNote) :
    FnOk P w K mg base CX0 4 f fd ["pieces", "start", "bound", "stop", "used"] (spLevel C) := by
  refine F.ok scLevel (fun vs H Q E ⟨a, ps, st0, sp0, b, A, bs, us, e, _⟩ => by rw [e]; rfl) (fun cdv A0 outer s H vs Q E hr h => ?_)
  obtain ⟨a, ps, start, stop, b, A, bs, us, rfl, hp, hps, hix, h0, hfind, hB, hU, hS, q⟩ := h
  have nd := scLevel.nd
  refine ⟨_, (pss_cons (ps_set (i := 5) nd rfl (.inl rfl) (pe_lst pa_nil))
      (pss_cons (ps_for PassesOwn.never rfl (pi_list (pe_cal (CRn.mono (by decide)) hr (by rfl) (pa_cons (pv 0) (pa_cons (pv 1) (pa_cons (pv 2) (pa_cons (pv 3) pa_nil)))))) (pg_name (i := 6) nd rfl (.inl rfl)) (pss_one (ps_for PassesOwn.never rfl (pi_list (pe_fld (pv 6) rfl)) (pg_tup rfl (pgs_cons (pg_name (i := 7) nd rfl (.inl rfl)) (pgs_cons (pg_name (i := 8) nd rfl (.inl rfl)) pgs_nil))) (pss_cons (ps_asg (pe_cal (CTa.mono (by decide)) hr (by rfl) (pa_cons (pv 0) (pa_cons (pv 7) pa_nil))) (pg_tup rfl (pgs_cons (pg_name (i := 9) nd rfl (.inl rfl)) (pgs_cons (pg_name (i := 10) nd rfl (.inl rfl)) pgs_nil))))
      (pss_one (ps_if (pt_cmpR op_gt (pv 8) pe_int (nomark _)) (pss_cons (ps_expr (pe_bm PySem.F.plainAttrs_list PySem.F.slot_list_append PySem.F.type_list_append mt_append (pv 5) (pa_cons (pe_tup (pa_cons (pv 7) (pa_cons (pe_op op_sub (pe_op op_add (pv 7) (pv 8)) pe_int) pa_nil))) pa_nil)))
      (pss_one (ps_expr (pe_cal (CNu.mono (by decide)) hr (by rfl) (pa_cons (pe_ix ix_list (pv 4) (pv 9) (fun _ _ => rfl)) (pa_cons (pv 10) (pa_cons (pe_op op_sub (pv 8) pe_int) pa_nil))))))) (pss_one (ps_expr (pe_cal (CNu.mono (by decide)) hr (by rfl) (pa_cons (pe_ix ix_list (pv 4) (pv 9) (fun _ _ => rfl)) (pa_cons (pv 10) (pa_cons (pe_ifExp (pt_cmp (pc_isN (pv 2))) pe_non (pe_op op_sub (pv 2) (pv 7))) pa_nil))))))))))))
      (pss_one (ps_ret (pv 5))))), ?_⟩
  have sz : 170000 ≤ sizeLine := by decide
  refine ⟨Nat.zero_le _, fun D nD => ?_⟩
  have s1 := same_upd (o := .lst []) nD
  have e1D : (upd H D (.lst [])) D = some (.lst []) := upd_same
  generalize upd H D (.lst []) = H1 at s1 e1D
  have nbD : D ∉ bs := fun z => by
    obtain ⟨xs, e, _⟩ := hU.flt D z
    rw [nD] at e
    cases e
  refine ⟨.ref a, rfl, .int start, rfl, optV b, rfl, .int stop, rfl, a, ps, start, stop, b, rfl, (hp.kq (Kq.of s1)).fullW, hps, h0, hfind, hB, fun DR ws rs c H2 s2 nR eR ra lv hc hlr _ => ?_⟩
  have hlw := ra.len
  have hU2 := (hU.same s1).same s2
  have e2D := s2 _ _ e1D
  have hp2 := hp.kq (Kq.of (s1.trans s2))
  have nbR : DR ∉ bs := fun z => by
    obtain ⟨xs, e, _⟩ := hU2.flt DR z
    obtain ⟨xs2, e2, _⟩ := (hU.same s1).flt DR z
    rw [nR] at e2
    cases e2
  have nRD : DR ≠ D := fun z => by rw [z, e1D] at nR; cases nR
  have hne : ∀ r ∈ rs, r.steps ≠ [] := fun r hr => by
    obtain ⟨y, _, h⟩ := lvl_mem lv r hr
    exact h.ne
  have flt2 : Flt (fun x => x ∈ bs ∨ x = D) H2 := fun x hx => by
    rcases hx with hx | rfl
    · exact hU2.flt x hx
    · exact ⟨_, e2D, fun v hv => nomatch hv⟩
  refine ⟨DR, rfl, ⟨ws, SqL.of eR⟩, for_list (xs := ws) (fun j σ H3 => ∃ vs y6 y7 y8 y9 y10, σ = [some (.ref a), some (.int start), some (optV b), some (.int stop), some (.ref A), some (.ref D), y6, y7, y8, y9, y10] ∧ Kq (fun x => x ∈ bs ∨ x = D) H2 H3 ∧ H3 D = some (.lst vs) ∧ StAt H3 vs (winsOf (stepsOf (rs.take j))) ∧ vs.length ≤ 8 * j ∧ UsAt H3 A bs (noteAll ps b us (stepsOf (rs.take j))) ∧ ShpU ps (noteAll ps b us (stepsOf (rs.take j))))
    ⟨[], none, none, none, none, none, rfl, Kq.refl, e2D, ⟨rfl, fun i s h => by cases i <;> cases h⟩, Nat.zero_le _, hU2, hS⟩
    (fun j σ H3 _ ⟨_, _, _, _, _, _, _, k3, _⟩ => SqL.of (k3 _ _ (fun z => by rcases z with z | z; exact nbR z; exact nRD z) eR)) (fun j v σ H3 hxj hP => ?_) (fun σ H3 hP => ?_)⟩
  · obtain ⟨vs, y6, y7, y8, y9, y10, rfl, k3, e3D, st3, hvl, hU3, hS3⟩ := hP
    have hj : j < rs.length := by rw [← hlw]; exact (List.getElem?_eq_some_iff.mp hxj).1
    obtain ⟨r, hrj⟩ : ∃ r, rs[j]? = some r := ⟨_, List.getElem?_eq_getElem hj⟩
    obtain ⟨v', hv', x, dx, p, vs', rfl, npD, hx, hp2', hS'⟩ := (ra.kq hne flt2 k3).at_ j r hrj
    rw [hv'] at hxj
    cases hxj
    obtain ⟨y, hy0, hok⟩ := lvl_mem lv r (List.mem_of_getElem? hrj)
    have h8 := hok.len
    have hlS := hS'.len
    have htj : stepsOf (rs.take (j + 1)) = stepsOf (rs.take j) ++ r.steps := by
      rw [List.take_add_one, hrj]
      exact stepsOf_snoc _ _
    have flt3 : Flt (fun x => x ∈ bs ∨ x = D) H3 → True := fun _ => trivial
    have npb : ¬ (p ∈ bs ∨ p = D) := fun z => by
      have hne1 := hok.ne
      obtain ⟨s0, hs0⟩ : ∃ s, r.steps[0]? = some s := ⟨_, List.getElem?_eq_getElem (List.length_pos_iff.mpr hne1)⟩
      obtain ⟨v2, hv2, x2, dx2, p2, vs2, e2, _, hx2, hp22, hS2⟩ := ra.at_ j r hrj
      rw [hv'] at hv2
      cases hv2
      cases e2
      have hx3 := k3 _ _ (fun z => by
        obtain ⟨xs, e, _⟩ := flt2 x z
        rw [hx2] at e
        cases e) hx2
      rw [hx] at hx3
      cases hx3
      obtain ⟨b1, hb1, _⟩ := hS2.at_ 0 s0 hs0
      obtain ⟨xs, e, hf⟩ := flt2 p z
      rw [hp22] at e
      cases e
      exact hf _ (List.mem_of_getElem? hb1) b1 rfl
    refine ⟨.ref x, rfl, x, C, dx, _, .ref p, rfl, hx, TC.cl, TC.nSt, rf_steps _ _ _, p, rfl, ⟨vs', SqL.of hp2'⟩, for_list (xs := vs') (fun i σ H4 => ∃ vs y7 y8 y9 y10, σ = [some (.ref a), some (.int start), some (optV b), some (.int stop), some (.ref A), some (.ref D), some (.ref x), y7, y8, y9, y10] ∧ Kq (fun x => x ∈ bs ∨ x = D) H3 H4 ∧ H4 D = some (.lst vs) ∧ StAt H4 vs (winsOf (stepsOf (rs.take j) ++ r.steps.take i)) ∧ vs.length ≤ 8 * j + i ∧ UsAt H4 A bs (noteAll ps b us (stepsOf (rs.take j) ++ r.steps.take i)) ∧ ShpU ps (noteAll ps b us (stepsOf (rs.take j) ++ r.steps.take i)))
      ⟨vs, y7, y8, y9, y10, rfl, Kq.refl, e3D, by rw [List.take_zero, List.append_nil]; exact st3, hvl, by rw [List.take_zero, List.append_nil]; exact hU3, by rw [List.take_zero, List.append_nil]; exact hS3⟩
      (fun i σ H4 _ ⟨_, _, _, _, _, _, k4, _⟩ => SqL.of (k4 _ _ npb hp2')) (fun i v σ H4 hxi hP => ?_) (fun σ H4 hP => ?_)⟩
    · obtain ⟨vs, y7, y8, y9, y10, rfl, k4, e4D, st4, hvl, hU4, hS4⟩ := hP
      have hi : i < r.steps.length := by rw [← hlS]; exact (List.getElem?_eq_some_iff.mp hxi).1
      obtain ⟨⟨a1, wd1⟩, hs⟩ : ∃ s, r.steps[i]? = some s := ⟨_, List.getElem?_eq_getElem hi⟩
      obtain ⟨bb, hb1', hb2⟩ := hS'.at_ i _ hs
      rw [hb1'] at hxi
      cases hxi
      have htk : stepsOf (rs.take j) ++ r.steps.take (i + 1) = (stepsOf (rs.take j) ++ r.steps.take i) ++ [(a1, wd1)] := by rw [List.take_add_one, hs, ← List.append_assoc]; rfl
      obtain ⟨ha1, hle, hwp⟩ := step_mem hok _ (List.mem_of_getElem? hs)
      have ha1 : y ≤ a1 := ha1
      have hle : a1 ≤ stop := hle
      obtain ⟨pcx, tp, hfx, htx, hwx⟩ := hwp
      have hfx : ps.find? (comes a1) = some pcx := hfx
      obtain ⟨t1, t8, _⟩ := hps.turns pcx (List.mem_of_find?_eq_some hfx)
      have tup : ∀ {c : Addr} {xs : List V}, H3 c = some (.tup xs) → ¬ (c ∈ bs ∨ c = D) := fun {c xs} hc z => by
        rcases z with z | rfl
        · obtain ⟨_, e, _⟩ := hU3.flt c z
          rw [hc] at e
          cases e
        · rw [hc] at e3D
          cases e3D
      have hbb4 := k4 _ _ (tup hb2) hb2
      have hp4 : PcsAt H4 a ps := by
        have k24 := k3.trans k4
        obtain ⟨xs, h1, h2⟩ := hp2.ex
        have hpD : PcsAt (Hw (fun x => x ∈ bs ∨ x = D) H2) a ps := by
          have hh := hp.kq (W := fun x => x ∈ bs) (Kq.of s1)
          have : Same (Hw (fun x => x ∈ bs) H) (Hw (fun x => x ∈ bs ∨ x = D) H2) := fun c o e => by
            have n := Hw.ne e
            have e0 := Hw.sub _ _ _ _ e
            rw [Hw.at (fun z => by rcases z with z | z; exact n z; rw [z, nD] at e0; cases e0)]
            exact s2 _ _ (s1 _ _ e0)
          exact hp.smK this
        exact (hpD.kq k24).fullW
      refine ⟨bb, _, rfl, SqT.of hbb4, rfl, .int a1, _, rfl, .int wd1, _, rfl, rfl, ?_⟩
      refine ⟨.ref a, rfl, .int a1, rfl, a, a1, ps, pcx, rfl, hp4, hfx, t1, fun ii pp H5 hii s5 epp => ?_⟩
      obtain rfl : ii = ixP ps a1 := hix ii a1 pcx (by omega) hfx hii
      have etn : (a1 - pcx.1) % (pcx.2.2.length : Int) = ((tnP ps a1 : Nat) : Int) := by
        rw [tnP_of hfx]
        have : 0 ≤ tnI pcx.1 pcx.2.2.length a1 := Int.emod_nonneg _ (by omega)
        show tnI pcx.1 pcx.2.2.length a1 = _
        omega
      have etl : tnP ps a1 < pcx.2.2.length := by
        have h1 : (a1 - pcx.1) % (pcx.2.2.length : Int) < (pcx.2.2.length : Int) := Int.emod_lt_of_pos _ (by omega)
        omega
      rw [etn] at epp
      have e5D := s5 _ _ e4D
      have hU5 := hU4.same s5
      refine ⟨pp, _, rfl, SqT.of epp, rfl, .int (ixP ps a1 : Nat), _, rfl, .int ((tnP ps a1 : Nat) : Int), _, rfl, rfl, ?_⟩
      refine ⟨.int wd1, rfl, wd1, 0, rfl, rfl, _, rfl, ?_⟩
      -- what is noted
      have note : ∀ (H6 : Hp) (vs6 : List V), UsAt H6 A bs (noteAll ps b us (stepsOf (rs.take j) ++ r.steps.take i)) → Kq (fun x => x ∈ bs ∨ x = D) H3 H6 → H6 D = some (.lst vs6) → StAt H6 vs6 (winsOf (stepsOf (rs.take j) ++ r.steps.take (i + 1))) → vs6.length ≤ 8 * j + (i + 1) →
          ∃ b6, ∃ u6 : List (Option Int), H6 A = some (.lst (bs.map V.ref)) ∧ (bs.map V.ref)[ixP ps a1]? = some (.ref b6) ∧ H6 b6 = some (.lst (u6.map optV)) ∧ tnP ps a1 < u6.length ∧ ∃ H7, H7 = upd H6 b6 (.lst ((u6.modify (tnP ps a1) fun o => noteO o (useO b a1 wd1)).map optV)) ∧ Kq (fun x => x ∈ bs ∨ x = D) H3 H7 ∧ H7 D = some (.lst vs6) ∧ StAt H7 vs6 (winsOf (stepsOf (rs.take j) ++ r.steps.take (i + 1))) ∧ vs6.length ≤ 8 * j + (i + 1) ∧ UsAt H7 A bs (noteAll ps b us (stepsOf (rs.take j) ++ r.steps.take (i + 1))) ∧ ShpU ps (noteAll ps b us (stepsOf (rs.take j) ++ r.steps.take (i + 1))) := fun H6 vs6 hU6 k6 e6 st6 hl6 => by
        have hpi := find_ixP hfx
        have hil : ixP ps a1 < ps.length := (List.getElem?_eq_some_iff.mp hpi).1
        obtain ⟨u6, hu6⟩ : ∃ u6, (noteAll ps b us (stepsOf (rs.take j) ++ r.steps.take i))[ixP ps a1]? = some u6 := ⟨_, List.getElem?_eq_getElem (by rw [hS4.len]; exact hil)⟩
        obtain ⟨b6, hb6, hm6, hv6⟩ := hU6.get hu6
        have hlu := hS4.row _ u6 pcx hu6 hpi
        refine ⟨b6, u6, hU6.lst, by rw [List.getElem?_map, hb6]; rfl, hv6, by omega, _, rfl, k6.trans (Kq.upd (.inl hm6)), by rw [upd_ne fun z => nbD (by rw [z]; exact hm6)]; exact e6, st6.kt fun c xs hc => by rw [upd_ne fun z => by rw [z, hv6] at hc; cases hc]; exact hc, hl6, ?_, ?_⟩
        · rw [htk, noteAll_snoc]
          exact hU6.put hb6 (fun u => u.modify (tnP ps a1) fun o => noteO o (useO b a1 wd1)) hu6
        · rw [htk, noteAll_snoc]
          exact hS4.at_ _
      refine ite2 (fun e => ?_) (fun e => ?_)
      · have hw : 0 < wd1 := of_decide_eq_true e
        refine ⟨.ref D, rfl, .inl ⟨rfl, _, SqL.of e5D⟩, .int a1, rfl, .int a1, rfl, .int wd1, rfl, a1, wd1, rfl, rfl, a1 + wd1, 1, rfl, rfl, small_le (by show 2 ≤ 1000; decide), fun pt npt => ?_⟩
        have s6 := same_upd (o := .tup [.int a1, .int (a1 + wd1 - 1)]) npt
        have e6p : (upd H5 pt (.tup [.int a1, .int (a1 + wd1 - 1)])) pt = some (.tup [.int a1, .int (a1 + wd1 - 1)]) := upd_same
        generalize upd H5 pt (.tup [.int a1, .int (a1 + wd1 - 1)]) = H6 at s6 e6p
        have e6D := s6 _ _ e5D
        refine ⟨D, vs, .ref pt, rfl, rfl, e6D, by omega, ?_⟩
        have e7D : (upd H6 D (.lst (vs ++ [.ref pt]))) D = some (.lst (vs ++ [.ref pt])) := upd_same
        have k7 : Kq (fun x => x = D) H6 (upd H6 D (.lst (vs ++ [.ref pt]))) := Kq.upd rfl
        generalize upd H6 D (.lst (vs ++ [.ref pt])) = H7 at e7D k7
        have nb7 : ∀ {c : Addr} {o : HO}, H6 c = some o → c ≠ D → H7 c = some o := fun h n => k7 _ _ n h
        have hU7 : UsAt H7 A bs (noteAll ps b us (stepsOf (rs.take j) ++ r.steps.take i)) := (hU5.same s6).keep fun c xs hc hh => by
          refine nb7 hh fun z => ?_
          rcases hc with hc | hc
          · have h9 := hU.lst
            rw [← hc, z, nD] at h9
            cases h9
          · rw [z] at hc; exact nbD hc
        have st7 : StAt H7 (vs ++ [.ref pt]) (winsOf (stepsOf (rs.take j) ++ r.steps.take (i + 1))) := by
          rw [htk, winsOf_snoc, if_pos (show 0 < ((a1, wd1) : StepT).2 from hw)]
          refine (((st4.kt (KT.of (s5.trans s6))).snoc (b := pt) (s := (a1, a1 + wd1 - 1)) e6p)).kt fun c xs hc => nb7 hc fun z => by rw [z, e6D] at hc; cases hc
        obtain ⟨b6, u6, g1, g2, g3, g4, H8, e8, g5⟩ := note H7 _ hU7 (k4.trans ((Kq.of (s5.trans s6)).trans (k7.imp fun c z => .inr z))) e7D st7 (by rw [List.length_append, List.length_singleton]; omega)
        refine ⟨.ref A, rfl, .int (ixP ps a1 : Nat), rfl, A, _, (ixP ps a1 : Nat), .ref b6, rfl, rfl, SqL.of g1, atI_nat g2, .int ((tnP ps a1 : Nat) : Int), rfl, .int wd1, rfl, wd1, 1, rfl, rfl, b6, tnP ps a1, u6, some (wd1 - 1), rfl, g3, g4, ?_⟩
        rw [show useO b a1 wd1 = some (wd1 - 1) from if_pos hw] at e8
        rw [← e8]
        exact ⟨_, _, _, _, _, rfl, g5⟩
      · have hw : ¬ 0 < wd1 := fun z => e (decide_eq_true z)
        have st7 : StAt H5 vs (winsOf (stepsOf (rs.take j) ++ r.steps.take (i + 1))) := by
          rw [htk, winsOf_snoc, if_neg (show ¬ 0 < ((a1, wd1) : StepT).2 from hw), List.append_nil]
          exact st4.kt (KT.of s5)
        obtain ⟨b6, u6, g1, g2, g3, g4, H8, e8, g5⟩ := note H5 _ hU5 (k4.trans (Kq.of s5)) e5D st7 (by omega)
        rw [show useO b a1 wd1 = b.map (fun m => m - a1) from if_neg hw] at e8
        refine ⟨.ref A, rfl, .int (ixP ps a1 : Nat), rfl, A, _, (ixP ps a1 : Nat), .ref b6, rfl, rfl, SqL.of g1, atI_nat g2, .int ((tnP ps a1 : Nat) : Int), rfl, ?_⟩
        cases b with
        | none =>
          refine ⟨.non, rfl, _, rfl, iteT ⟨b6, tnP ps a1, u6, none, rfl, g3, g4, ?_⟩⟩
          rw [show (none : Option Int) = (none : Option Int).map (fun m => m - a1) from rfl, ← e8]
          exact ⟨_, _, _, _, _, rfl, g5⟩
        | some m =>
          refine ⟨.int m, rfl, _, rfl, iteF ⟨.int m, rfl, .int a1, rfl, m, a1, rfl, rfl, b6, tnP ps a1, u6, some (m - a1), rfl, g3, g4, ?_⟩⟩
          rw [show some (m - a1) = (some m).map (fun m => m - a1) from rfl, ← e8]
          exact ⟨_, _, _, _, _, rfl, g5⟩
    · obtain ⟨vs, y7, y8, y9, y10, rfl, k4, e4D, st4, hvl, hU4, hS4⟩ := hP
      rw [hlS, List.take_length, ← htj] at st4 hU4 hS4
      exact ⟨vs, _, _, _, _, _, rfl, k3.trans k4, e4D, st4, by omega, hU4, hS4⟩
  · obtain ⟨vs, y6, y7, y8, y9, y10, rfl, k3, e3D, st3, hvl, hU3, hS3⟩ := hP
    rw [hlw, List.take_length] at st3 hU3 hS3
    refine ⟨.ref D, rfl, q D vs rs c H3 lv hc hlr hU3 hS3 (fun x o n e => ?_) nD e3D st3⟩
    exact k3 _ _ (fun z => by rcases z with z | z; exact n z; rw [z, nD] at e; cases e) (s2 _ _ (s1 _ _ e))
end
end CL
set_option Elab.async false
set_option linter.all false
set_option pp.maxSteps 900
set_option maxRecDepth 100000
set_option maxHeartbeats 4000000
namespace CL
open PySem PySem.Spec PyProof.Rows L2 GE
/-! ### how many windows may lie within one another -/
def below (q : Int) : PyData → Bool
  | .int p => decide (p < q)
  | _ => false
def cnt (V : List PyData) (q : Int) : Nat := (V.filter (below q)).length
theorem cnt_mono : ∀ (V : List PyData) {p q : Int}, p ≤ q → cnt V p ≤ cnt V q
  | [], _, _, _ => Nat.le_refl 0
  | t :: V, p, q, h => by
    have ih := cnt_mono V h
    unfold cnt at ih ⊢
    rw [List.filter_cons, List.filter_cons]
    by_cases c : below p t = true
    · have c2 : below q t = true := by
        cases t with
        | int x => exact decide_eq_true (by have : x < p := of_decide_eq_true c; omega)
        | _ => cases c
      rw [if_pos c, if_pos c2, List.length_cons, List.length_cons]
      omega
    · rw [if_neg c]
      split
      · rw [List.length_cons]; omega
      · exact ih
theorem cnt_less : ∀ (V : List PyData) {p q : Int}, PyData.int p ∈ V → p < q → cnt V p < cnt V q
  | t :: V, p, q, hm, h => by
    have mono := cnt_mono V (show p ≤ q by omega)
    unfold cnt at mono ⊢
    rw [List.filter_cons, List.filter_cons]
    rcases List.mem_cons.mp hm with e | hm
    · subst e
      rw [if_neg (by show ¬ decide (p < p) = true; simp), if_pos (show below q (PyData.int p) = true from decide_eq_true h), List.length_cons]
      omega
    · have ih := cnt_less V hm h
      unfold cnt at ih
      by_cases c : below p t = true
      · have c2 : below q t = true := by
          cases t with
          | int x => exact decide_eq_true (by have : x < p := of_decide_eq_true c; omega)
          | _ => cases c
        rw [if_pos c, if_pos c2, List.length_cons, List.length_cons]
        omega
      · rw [if_neg c]
        split
        · rw [List.length_cons]; omega
        · exact ih
theorem breaks_lt {ps : List PieceT} {b : Option Int} {stop : Int} (hp : PsOk ps) (hm : ∀ q ∈ ps, ∀ m, q.2.1 = some m → m ≤ 2 ^ 138) (hs : stop < 2 ^ 139) (hb : ∀ m, b = some m → m < 2 ^ 139) : ∀ y ∈ breaks ps b stop, y < 2 ^ 139 := fun y hy => by
  unfold breaks at hy
  rcases List.mem_cons.mp hy with rfl | hy
  · exact hs
  · rcases List.mem_append.mp hy with hy | hy
    · obtain ⟨pc, h1, h2⟩ := List.mem_filterMap.mp hy
      cases e : pc.2.1 with
      | none => rw [e] at h2; cases h2
      | some m =>
        rw [e] at h2
        have e2 : m - 1 = y := Option.some.inj h2
        have := hm pc h1 m e
        omega
    · cases b with
      | none => cases hy
      | some m =>
        obtain ⟨pc, h1, h2⟩ := List.mem_flatMap.mp hy
        obtain ⟨p, h3, rfl⟩ := mem_fits.mp h2
        have h4 := (hp.turns pc h1).2.2 _ h3
        have h5 : (decide (0 ≤ p) && decide (p ≤ GREAT)) = true := h4
        simp only [Bool.and_eq_true, decide_eq_true_eq] at h5
        have := hb m rfl
        omega
/-! ### who is noted -/
def uget (us : UsT) (i t : Nat) : Option (Option Int) := us[i]?.bind fun u => u[t]?
def leO (u o : Option Int) : Prop := ∀ m, o = some m → ∃ a, u = some a ∧ a ≤ m
/-- that one's use is noted, or a greater one -/
def Cv (ps : List PieceT) (us : UsT) (x : Int) (u : Option Int) : Prop := ∃ o, uget us (ixP ps x) (tnP ps x) = some o ∧ leO u o
def Att (us : UsT) (R : Nat → Nat → Option Int → Prop) : Prop := ∀ i t o, uget us i t = some o → o = some 0 ∨ R i t o
theorem uget_at (ps : List PieceT) (b : Option Int) (us : UsT) (s : StepT) (i t : Nat) : uget (noteAt ps b us s) i t = if ixP ps s.1 = i ∧ tnP ps s.1 = t then (uget us i t).map fun o => noteO o (useO b s.1 s.2) else uget us i t := by
  unfold uget noteAt
  rw [List.getElem?_modify]
  cases us[i]? with
  | none => simp
  | some u =>
    by_cases c : ixP ps s.1 = i
    · by_cases d : tnP ps s.1 = t
      · rw [if_pos ⟨c, d⟩]
        simp [c, d, List.getElem?_modify]
      · rw [if_neg fun z => d z.2]
        simp [c, d, List.getElem?_modify]
    · rw [if_neg fun z => c z.1]
      simp [c]
theorem leO_note1 {u o v : Option Int} (h : leO u o) : leO u (noteO o v) := fun m e => by
  cases o with
  | none => cases e
  | some a =>
    cases v with
    | none => cases e
    | some c =>
      have e : max a c = m := Option.some.inj e
      obtain ⟨x, e1, e2⟩ := h a rfl
      exact ⟨x, e1, by omega⟩
theorem leO_note2 {o v : Option Int} : leO v (noteO o v) := fun m e => by
  cases o with
  | none => cases e
  | some a =>
    cases v with
    | none => cases e
    | some c =>
      have e : max a c = m := Option.some.inj e
      exact ⟨c, rfl, by omega⟩
theorem Cv.at_ {ps : List PieceT} {b : Option Int} {us : UsT} {x : Int} {u : Option Int} (h : Cv ps us x u) (s : StepT) : Cv ps (noteAt ps b us s) x u := by
  obtain ⟨o, e, l⟩ := h
  by_cases c : ixP ps s.1 = ixP ps x ∧ tnP ps s.1 = tnP ps x
  · exact ⟨_, by rw [uget_at, if_pos c, e]; rfl, leO_note1 l⟩
  · exact ⟨o, by rw [uget_at, if_neg c, e], l⟩
theorem Cv.all {ps : List PieceT} {b : Option Int} {x : Int} {u : Option Int} : ∀ {S : List StepT} {us : UsT}, Cv ps us x u → Cv ps (noteAll ps b us S) x u
  | [], _, h => h
  | s :: S, us, h => Cv.all (S := S) (h.at_ s)
theorem Cv.le {ps : List PieceT} {us : UsT} {x y : Int} {u v : Option Int} (h : Cv ps us x u) (hi : ixP ps y = ixP ps x) (ht : tnP ps y = tnP ps x) (hl : leO v u ∨ (∀ m, u = some m → ∃ a, v = some a ∧ a ≤ m)) : Cv ps us y v := by
  obtain ⟨o, e, l⟩ := h
  refine ⟨o, by rw [hi, ht]; exact e, fun m em => ?_⟩
  obtain ⟨a, e1, e2⟩ := l m em
  have : ∃ c, v = some c ∧ c ≤ a := by
    rcases hl with h | h
    · exact h a e1
    · exact h a e1
  obtain ⟨c, e3, e4⟩ := this
  exact ⟨c, e3, by omega⟩
theorem ShpU.in_ {ps : List PieceT} {us : UsT} (h : ShpU ps us) (hp : PsOk ps) {x : Int} {pc : PieceT} (hf : ps.find? (comes x) = some pc) : ∃ o, uget us (ixP ps x) (tnP ps x) = some o := by
  have hi := find_ixP hf
  have hl : ixP ps x < ps.length := (List.getElem?_eq_some_iff.mp hi).1
  obtain ⟨u, hu⟩ : ∃ u, us[ixP ps x]? = some u := ⟨_, List.getElem?_eq_getElem (by rw [h.len]; exact hl)⟩
  have hr := h.row _ u pc hu hi
  obtain ⟨t1, _, _⟩ := hp.turns pc (List.mem_of_find?_eq_some hf)
  have ht : tnP ps x < u.length := by
    rw [tnP_of hf, hr]
    have h1 : tnI pc.1 pc.2.2.length x < (pc.2.2.length : Int) := Int.emod_lt_of_pos _ (by omega)
    have h2 : 0 ≤ tnI pc.1 pc.2.2.length x := Int.emod_nonneg _ (by omega)
    omega
  exact ⟨u[tnP ps x], by unfold uget; rw [hu]; exact List.getElem?_eq_getElem ht⟩
theorem ShpU.all {ps : List PieceT} {b : Option Int} : ∀ {S : List StepT} {us : UsT}, ShpU ps us → ShpU ps (noteAll ps b us S)
  | [], _, h => h
  | s :: S, us, h => ShpU.all (S := S) (h.at_ s)
theorem cv_new {ps : List PieceT} {b : Option Int} (hp : PsOk ps) : ∀ {S : List StepT} {us : UsT}, ShpU ps us → ∀ s ∈ S, (∃ pc, ps.find? (comes s.1) = some pc) → Cv ps (noteAll ps b us S) s.1 (useO b s.1 s.2)
  | a :: S, us, h, s, hs, ⟨pc, hf⟩ => by
    rcases List.mem_cons.mp hs with rfl | hs
    · obtain ⟨o, ho⟩ := h.in_ hp hf
      have : Cv ps (noteAt ps b us s) s.1 (useO b s.1 s.2) := ⟨_, by rw [uget_at, if_pos ⟨rfl, rfl⟩, ho]; rfl, leO_note2⟩
      exact this.all (S := S)
    · exact cv_new hp (h.at_ a) s hs ⟨pc, hf⟩
theorem att_all {ps : List PieceT} {b : Option Int} {R : Nat → Nat → Option Int → Prop} : ∀ {S : List StepT} {us : UsT}, Att us R → (∀ s ∈ S, R (ixP ps s.1) (tnP ps s.1) (useO b s.1 s.2)) → Att (noteAll ps b us S) R
  | [], _, h, _ => h
  | s :: S, us, h, hR => by
    refine att_all (S := S) (us := noteAt ps b us s) (fun i t o e => ?_) fun x hx => hR x (List.mem_cons_of_mem _ hx)
    rw [uget_at] at e
    split at e
    · rename_i c
      obtain ⟨c1, c2⟩ := c
      cases e0 : uget us i t with
      | none => rw [e0] at e; cases e
      | some o0 =>
        rw [e0] at e
        have e : noteO o0 (useO b s.1 s.2) = o := Option.some.inj e
        have h0 := h i t o0 e0
        have h1 := hR s List.mem_cons_self
        rw [c1, c2] at h1
        cases o0 with
        | none =>
          have : o = none := by rw [← e]; rfl
          rw [this]
          exact h0
        | some a =>
          generalize useO b s.1 s.2 = v at e h1
          cases v with
          | none =>
            have : o = none := by rw [← e]; rfl
            rw [this]
            exact .inr h1
          | some c =>
            have : o = some (max a c) := by rw [← e]; rfl
            rw [this]
            rcases (by omega : max a c = a ∨ max a c = c) with z | z
            · rw [z]; exact h0
            · rw [z]; exact .inr h1
    · exact h i t o e
/-! ### whoever is met is met in some round of a run -/
theorem pth_at {ps : List PieceT} {b : Option Int} {stop : Int} : ∀ {S : List StepT} {a c x : Int}, Pth (WS ps b stop) a S c → Rch ps b a x → (x < c → ∃ s ∈ S, s.1 = x) ∧ (c ≤ x → Rch ps b c x)
  | [], a, c, x, h, hr => by
    obtain rfl : a = c := h
    have := rch_le hr
    exact ⟨fun z => by omega, fun _ => hr⟩
  | s :: S, a, c, x, h, hr => by
    have e : s.1 = a := h.1
    cases hr with
    | here =>
      have := h.2.2.le.1
      refine ⟨fun _ => ⟨s, List.mem_cons_self, e⟩, fun z => ?_⟩
      have : a + max s.2 1 + (S.length : Int) ≤ c := this
      omega
    | on h1 h2 =>
      have hw : WP ps b s.1 s.2 := h.2.1.2
      rw [e] at hw
      rw [wp_uniq h1 hw] at h2
      obtain ⟨g1, g2⟩ := pth_at h.2.2 h2
      exact ⟨fun z => by obtain ⟨t, ht, e⟩ := g1 z; exact ⟨t, List.mem_cons_of_mem _ ht, e⟩, g2⟩
theorem run_at {ps : List PieceT} {b : Option Int} {stop a x : Int} {r : RunT} (h : RunOk ps b stop a r) (hr : Rch ps b a x) : ∀ k : Nat, k ≤ r.times → (∃ j : Nat, j < k ∧ ∃ s ∈ r.steps, s.1 + j * lenR r.steps = x) ∨ (a + k * lenR r.steps ≤ x ∧ Rch ps b (a + k * lenR r.steps) x)
  | 0, _ => by
    have := rch_le hr
    refine .inr ?_
    rw [show a + ((0 : Nat) : Int) * lenR r.steps = a by rw [show ((0 : Nat) : Int) = 0 from rfl, Int.zero_mul, Int.add_zero]]
    exact ⟨this, hr⟩
  | k + 1, hk => by
    rcases run_at h hr k (by omega) with ⟨j, h1, h2⟩ | ⟨h1, h2⟩
    · exact .inl ⟨j, by omega, h2⟩
    · obtain ⟨g1, g2⟩ := pth_at (h.path k (by omega)) h2
      have e : a + ((k + 1 : Nat) : Int) * lenR r.steps = a + ((k : Int) * lenR r.steps + lenR r.steps) := by
        rw [Int.natCast_add, Int.add_mul, show ((1 : Nat) : Int) = 1 from rfl, Int.one_mul]
      rw [e]
      by_cases c : x < a + ((k : Int) * lenR r.steps + lenR r.steps)
      · obtain ⟨s, hs, es⟩ := g1 c
        obtain ⟨t, ht, rfl⟩ := List.mem_map.mp hs
        exact .inl ⟨k, by omega, t, ht, es⟩
      · exact .inr ⟨by omega, g2 (by omega)⟩
/-- a run of a level begins at one that is met -/
theorem lvl_at {ps : List PieceT} {b : Option Int} {stop : Int} : ∀ {rs : List RunT} {a c x : Int}, Lvl ps b stop a rs c → Rch ps b a x → x < c → ∃ r ∈ rs, ∃ y, a ≤ y ∧ RunOk ps b stop y r ∧ ∃ j : Nat, j < r.times ∧ ∃ s ∈ r.steps, s.1 + j * lenR r.steps = x
  | [], a, c, x, h, hr, hx => by
    obtain rfl : a = c := h
    have := rch_le hr
    omega
  | r :: rs, a, c, x, h, hr, hx => by
    rcases run_at h.1 hr r.times (Nat.le_refl _) with ⟨j, h1, h2⟩ | ⟨h1, h2⟩
    · exact ⟨r, List.mem_cons_self, a, Int.le_refl _, h.1, j, h1, h2⟩
    · obtain ⟨q, hq, y, g1, g2⟩ := lvl_at h.2 h2 hx
      have := lenR_pos r.steps
      have : 0 ≤ (r.times : Int) * lenR r.steps := Int.mul_nonneg (by omega) (by omega)
      exact ⟨q, List.mem_cons_of_mem _ hq, y, by omega, g2⟩
theorem pth_met {ps : List PieceT} {b : Option Int} {stop : Int} : ∀ {S : List StepT} {a c : Int}, Pth (WS ps b stop) a S c → ∀ s ∈ S, Rch ps b a s.1
  | t :: S, a, c, h, s, hs => by
    have e : t.1 = a := h.1
    rcases List.mem_cons.mp hs with rfl | hs
    · rw [e]; exact .here _
    · have hw : WP ps b t.1 t.2 := h.2.1.2
      rw [e] at hw
      exact .on hw (pth_met h.2.2 s hs)
theorem lvl_met {ps : List PieceT} {b : Option Int} {stop : Int} : ∀ {rs : List RunT} {a c : Int}, Lvl ps b stop a rs c → ∀ s ∈ stepsOf rs, Rch ps b a s.1 ∧ a ≤ s.1 ∧ s.1 ≤ stop ∧ WP ps b s.1 s.2
  | [], a, c, _, s, hs => nomatch hs
  | r :: rs, a, c, h, s, hs => by
    have hs : s ∈ r.steps ++ stepsOf rs := hs
    rcases List.mem_append.mp hs with hs | hs
    · obtain ⟨g1, g2, g3⟩ := step_mem h.1 s hs
      exact ⟨pth_met (run_path0 h.1) s hs, g1, g2, g3⟩
    · obtain ⟨g1, g2, g3⟩ := lvl_met h.2 s hs
      have g0 := run_rch h.1 r.times (Nat.le_refl _)
      exact ⟨rch_trans g0 g1, by have := rch_le g0; omega, g3⟩
theorem repT_iter {ps : List PieceT} {b : Option Int} {stop a : Int} {r : RunT} (h : RunOk ps b stop a r) : ∀ k : Nat, k < r.times → ∀ y pc, a ≤ y → y < a + lenR r.steps → ps.find? (comes y) = some pc → ps.find? (comes (y + k * lenR r.steps)) = some pc ∧ tnI pc.1 pc.2.2.length (y + k * lenR r.steps) = tnI pc.1 pc.2.2.length y
  | 0, _, y, pc, _, _, hp => by
    rw [show ((0 : Nat) : Int) * lenR r.steps = 0 from Int.zero_mul _, Int.add_zero]
    exact ⟨hp, rfl⟩
  | k + 1, hk, y, pc, h1, h2, hp => by
    have hl : 0 ≤ lenR r.steps := by have := lenR_pos r.steps; omega
    have h0 : 0 ≤ (k : Int) * lenR r.steps := Int.mul_nonneg (by omega) hl
    obtain ⟨g1, g2⟩ := repT_iter h k (by omega) y pc h1 h2 hp
    have hkT : ((k : Int) + 2) * lenR r.steps ≤ (r.times : Int) * lenR r.steps := Int.mul_le_mul_of_nonneg_right (by omega) hl
    rw [Int.add_mul] at hkT
    have h3 := h.repT (y + k * lenR r.steps) pc (by omega) (by omega) g1
    rw [show y + ((k + 1 : Nat) : Int) * lenR r.steps = y + k * lenR r.steps + lenR r.steps by push_cast; rw [Int.add_mul]; omega]
    exact ⟨h3.1, h3.2.trans g2⟩
/-! ### kinds of windows -/
def kdF (ps : List PieceT) (x l : Int) : List Key := match ps.find? (comes x) with
  | some pc => if comes l pc = true then [Sum.inl ((ixP ps x : Nat) : Int), Sum.inl ((tnP ps x : Nat) : Int)] else [Sum.inl x]
  | none => [Sum.inl x]
theorem comes_le {pc : PieceT} {x y : Int} (h : comes y pc = true) (hxy : x ≤ y) : comes x pc = true := by
  unfold comes at h ⊢
  cases e : pc.2.1 with
  | none => rfl
  | some m =>
    rw [e] at h
    have : y < m := of_decide_eq_true h
    exact decide_eq_true (by omega)
theorem comes_lt {pc : PieceT} {y : Int} (h : comes y pc = true) : ∀ m, pc.2.1 = some m → y < m := fun m e => by
  unfold comes at h
  rw [e] at h
  exact of_decide_eq_true h
theorem find_on {ps : List PieceT} {pc : PieceT} {x y : Int} (h : ps.find? (comes x) = some pc) (hxy : x ≤ y) (hc : comes y pc = true) : ps.find? (comes y) = some pc := comes_on h hxy (comes_lt hc)
/-- a step of a later round: the same turn, and a window of the same kind -/
theorem step_again {ps : List PieceT} {b : Option Int} {stop a : Int} {r : RunT} (h : RunOk ps b stop a r) (hx : IxOk ps) (ha : 0 ≤ a) {s : StepT} (hs : s ∈ r.steps) {k : Nat} (hk : k < r.times) :
    ixP ps (s.1 + k * lenR r.steps) = ixP ps s.1 ∧ tnP ps (s.1 + k * lenR r.steps) = tnP ps s.1 ∧ WP ps b (s.1 + k * lenR r.steps) s.2 ∧ (0 < s.2 → kdF ps (s.1 + k * lenR r.steps) (s.1 + k * lenR r.steps + s.2 - 1) = kdF ps s.1 (s.1 + s.2 - 1)) := by
  obtain ⟨g1, _, g3⟩ := step_mem h s hs
  obtain ⟨pc, t, hf, _⟩ := g3
  have hl : 0 ≤ lenR r.steps := by have := lenR_pos r.steps; omega
  have h0 : 0 ≤ (k : Int) * lenR r.steps := Int.mul_nonneg (by omega) hl
  obtain ⟨_, hle⟩ := (run_path0 h).le
  obtain ⟨_, hse, _⟩ := hle s hs
  obtain ⟨r1, r2⟩ := repT_iter h k hk s.1 pc g1 (by omega) hf
  have ei : ixP ps (s.1 + k * lenR r.steps) = ixP ps s.1 := (hx (ixP ps s.1) _ pc (by omega) r1 (find_ixP hf)).symm
  have et : tnP ps (s.1 + k * lenR r.steps) = tnP ps s.1 := by rw [tnP_of r1, tnP_of hf, r2]
  refine ⟨ei, et, ?_, fun hw => ?_⟩
  · have hp := (h.path k hk).le.2 (s.1 + k * lenR r.steps, s.2) (List.mem_map.mpr ⟨s, hs, rfl⟩)
    exact hp.2.2.2
  · by_cases k0 : k = 0
    · subst k0
      rw [show ((0 : Nat) : Int) * lenR r.steps = 0 from Int.zero_mul _, Int.add_zero]
    · have hT : 1 < r.times := by omega
      have h2T : (2 : Int) * lenR r.steps ≤ (r.times : Int) * lenR r.steps := Int.mul_le_mul_of_nonneg_right (by omega) hl
      obtain ⟨r3, _⟩ := repT_iter h 1 hT s.1 pc g1 (by omega) hf
      rw [show s.1 + ((1 : Nat) : Int) * lenR r.steps = s.1 + lenR r.steps by rw [show ((1 : Nat) : Int) = 1 from rfl, Int.one_mul]] at r3
      have c1 : comes (s.1 + s.2 - 1) pc = true := comes_le (List.find?_some r3) (by omega)
      have f1 := find_on hf (show s.1 ≤ s.1 + s.2 - 1 by omega) c1
      obtain ⟨r4, _⟩ := repT_iter h k hk (s.1 + s.2 - 1) pc (by omega) (by omega) f1
      have c2 := List.find?_some r4
      unfold kdF
      rw [r1, hf]
      dsimp only
      rw [show s.1 + ↑k * lenR r.steps + s.2 - 1 = s.1 + s.2 - 1 + k * lenR r.steps by omega, if_pos c2, if_pos c1, ei, et]
/-- windows of one kind are shifted copies -/
theorem kind_shift {ps : List PieceT} {x x' p p' : Int} (hk : kdF ps x (x + p) = kdF ps x' (x' + p')) (h : Pt ps x (.int p)) (h' : Pt ps x' (.int p')) (hp : 0 ≤ p) (hp' : 0 ≤ p') (hx : 0 ≤ x) (hx' : 0 ≤ x') (hix : IxOk ps) (hps : PsOk ps) :
    p = p' ∧ ∀ y, x ≤ y → y ≤ x + p → ixP ps (y + (x' - x)) = ixP ps y ∧ tnP ps (y + (x' - x)) = tnP ps y ∧ ∀ τ, Pt ps y τ → Pt ps (y + (x' - x)) τ := by
  obtain ⟨pc, f1, t1⟩ := h
  obtain ⟨pc', f2, t2⟩ := h'
  unfold kdF at hk
  rw [f1, f2] at hk
  dsimp only at hk
  by_cases c1 : comes (x + p) pc = true
  · by_cases c2 : comes (x' + p') pc' = true
    · rw [if_pos c1, if_pos c2] at hk
      simp only [List.cons.injEq, Sum.inl.injEq] at hk
      obtain ⟨e1, e2, _⟩ := hk
      have e1 : ixP ps x = ixP ps x' := by omega
      have e2 : tnP ps x = tnP ps x' := by omega
      have i1 := find_ixP f1
      have i2 := find_ixP f2
      rw [e1, i2] at i1
      cases i1
      rw [tnP_of f1, tnP_of f2] at e2
      rw [e2, t2] at t1
      cases t1
      obtain ⟨l1, _, _⟩ := hps.turns pc (List.mem_of_find?_eq_some f1)
      have n1 : 0 ≤ tnI pc.1 pc.2.2.length x := Int.emod_nonneg _ (by omega)
      have n2 : 0 ≤ tnI pc.1 pc.2.2.length x' := Int.emod_nonneg _ (by omega)
      have e3 : (x - pc.1) % (pc.2.2.length : Int) = (x' - pc.1) % (pc.2.2.length : Int) := by
        have : tnI pc.1 pc.2.2.length x = tnI pc.1 pc.2.2.length x' := by omega
        exact this
      refine ⟨rfl, fun y h1 h2 => ?_⟩
      have g1 := find_on f1 h1 (comes_le c1 h2)
      have g2 := find_on f2 (show x' ≤ y + (x' - x) by omega) (comes_le c2 (by omega))
      have e4 : tnI pc.1 pc.2.2.length (y + (x' - x)) = tnI pc.1 pc.2.2.length y := by
        unfold tnI
        rw [show y + (x' - x) - pc.1 = (y - x) + (x' - pc.1) by omega, show y - pc.1 = (y - x) + (x - pc.1) by omega, Int.add_emod, ← e3, ← Int.add_emod]
      refine ⟨(hix (ixP ps y) _ pc (by omega) g2 (find_ixP g1)).symm, by rw [tnP_of g2, tnP_of g1, e4], fun τ hτ => ?_⟩
      obtain ⟨pc2, k1, k2⟩ := hτ
      rw [g1] at k1
      cases k1
      exact ⟨_, g2, by rw [e4]; exact k2⟩
    · rw [if_pos c1, if_neg c2] at hk
      simp at hk
  · by_cases c2 : comes (x' + p') pc' = true
    · rw [if_neg c1, if_pos c2] at hk
      simp at hk
    · rw [if_neg c1, if_neg c2] at hk
      simp only [List.cons.injEq, Sum.inl.injEq] at hk
      obtain ⟨rfl, _⟩ := hk
      rw [f1] at f2
      cases f2
      rw [t1] at t2
      cases t2
      refine ⟨rfl, fun y _ _ => ?_⟩
      rw [show y + (x - x) = y by omega]
      exact ⟨rfl, rfl, fun τ h => h⟩
theorem las_shift {ps : List PieceT} {d : Int} {b l : Option Int} {s x : Int} (h : Las ps b s x l) : ∀ m, b = some m → x ≤ m → (∀ y τ, s ≤ y → y ≤ m → Pt ps y τ → Pt ps (y + d) τ) → Las ps (some (m + d)) (s + d) (x + d) (l.map fun z => z + d) := by
  induction h with
  | @spare b x hw =>
    intro m e hx hp
    subst e
    exact .spare (wp_shift hw fun τ => hp x τ (Int.le_refl _) hx)
  | @own b x w hw h0 =>
    intro m e hx hp
    subst e
    have := Las.own (wp_shift hw fun τ => hp x τ (Int.le_refl _) hx) h0
    rw [show x + d + w - 1 = x + w - 1 + d by omega] at this
    exact this
  | @inn b l s x w hw h1 h2 _ ih =>
    intro m e hx hp
    subst e
    obtain ⟨p, _, ew, hle⟩ := wp_in hw (by omega)
    have i := ih (s + w - 1) rfl (by omega) fun y τ g1 g2 => hp y τ (by omega) (by omega)
    rw [show s + 1 + d = s + d + 1 by omega, show s + w - 1 + d = s + d + w - 1 by omega] at i
    exact .inn (wp_shift hw fun τ => hp s τ (Int.le_refl _) (by omega)) (by omega) (by omega) i
  | @skip b l s x w hw h1 _ ih =>
    intro m e hx hp
    subst e
    have i := ih m rfl hx fun y τ g1 g2 => hp y τ (by omega) g2
    rw [show s + max w 1 + d = s + d + max w 1 by omega] at i
    exact .skip (wp_shift hw fun τ => hp s τ (Int.le_refl _) (by omega)) (by omega) i
/-! ### all is noted -/
/-- whoever is met on that level is noted, and the windows there are of kinds of K -/
def Closed (ps : List PieceT) (us : UsT) (Kd : List Key → Prop) (bd s : Int) : Prop := ∀ x w, Rch ps (some bd) s x → WP ps (some bd) x w → x ≤ bd → Cv ps us x (useO (some bd) x w) ∧ (0 < w → Kd (kdF ps x (x + w - 1)))
theorem closed_of {ps : List PieceT} (hp : PsOk ps) (hix : IxOk ps) {bd s c : Int} {rs : List RunT} (h : Lvl ps (some bd) bd s rs c) (hc : bd < c) (h0 : 0 ≤ s) {us : UsT} (hu : ShpU ps us) {Kd : List Key → Prop} (hK : ∀ w ∈ winsOf (stepsOf rs), Kd (kdF ps w.1 w.2)) : Closed ps (noteAll ps (some bd) us (stepsOf rs)) Kd bd s := fun x w hr hw hx => by
  obtain ⟨r, hr1, y, hy, hok, j, hj, st, hs, rfl⟩ := lvl_at h hr (by omega)
  obtain ⟨e1, e2, e3, e4⟩ := step_again hok hix (by omega) hs hj
  obtain rfl := wp_uniq hw e3
  have hm : st ∈ stepsOf rs := List.mem_flatMap.mpr ⟨r, hr1, hs⟩
  obtain ⟨g1, _, g3⟩ := step_mem hok st hs
  obtain ⟨pc, t, hf, _⟩ := g3
  have hcv := cv_new (b := some bd) hp hu st hm ⟨pc, hf⟩
  have hl : 0 ≤ lenR r.steps := by have := lenR_pos r.steps; omega
  have hj0 : 0 ≤ (j : Int) * lenR r.steps := Int.mul_nonneg (by omega) hl
  refine ⟨hcv.le e1 e2 (.inr fun m em => ?_), fun h0 => ?_⟩
  · unfold useO at em ⊢
    by_cases z : 0 < st.2
    · rw [if_pos z] at em ⊢
      exact ⟨_, em, Int.le_refl _⟩
    · rw [if_neg z] at em ⊢
      have em : bd - st.1 = m := Option.some.inj em
      exact ⟨bd - (st.1 + j * lenR r.steps), rfl, by omega⟩
  · rw [e4 h0]
    exact hK (st.1, st.1 + st.2 - 1) (List.mem_map.mpr ⟨st, List.mem_filter.mpr ⟨hm, decide_eq_true h0⟩, rfl⟩)
theorem Closed.mono {ps : List PieceT} {us us' : UsT} {K1 K2 : List Key → Prop} {bd s : Int} (h : Closed ps us K1 bd s) (hu : ∀ x u, Cv ps us x u → Cv ps us' x u) (hK : ∀ k, K1 k → K2 k) : Closed ps us' K2 bd s := fun x w h1 h2 h3 => ⟨hu _ _ (h x w h1 h2 h3).1, fun z => hK _ ((h x w h1 h2 h3).2 z)⟩
def Repd (ps : List PieceT) (us : UsT) (Kd : List Key → Prop) (k : List Key) : Prop := ∃ o p : Int, 0 ≤ o ∧ 0 ≤ p ∧ Pt ps o (.int p) ∧ kdF ps o (o + p) = k ∧ Closed ps us Kd (o + p) (o + 1)
theorem cover_in {ps : List PieceT} {us : UsT} {Kd : List Key → Prop} (hp : PsOk ps) (hix : IxOk ps) (hK : ∀ k, Kd k → Repd ps us Kd k) : ∀ (n : Nat) (s0 bd : Int), (bd + 1 - s0).toNat ≤ n → 0 ≤ s0 → Closed ps us Kd bd s0 → ∀ x l, Las ps (some bd) s0 x l → x ≤ bd → Cv ps us x (l.map fun z => z - x) := by
  intro n
  induction n with
  | zero =>
    intro s0 bd hn h0 _ x l hl hx
    have := las_ge hl
    omega
  | succ n ihn =>
    intro s0 bd hn h0 hC x l hl hx
    have go : ∀ {b : Option Int} {s : Int}, Las ps b s x l → b = some bd → Rch ps (some bd) s0 s → Cv ps us x (l.map fun z => z - x) := by
      intro b s h
      induction h with
      | @spare b x hw =>
        intro e hr
        subst e
        have := (hC x 0 hr hw hx).1
        exact this
      | @own b x w hw hw0 =>
        intro e hr
        subst e
        have := (hC x w hr hw hx).1
        unfold useO at this
        rw [if_pos hw0] at this
        show Cv ps us x (some (x + w - 1 - x))
        rw [show x + w - 1 - x = w - 1 by omega]
        exact this
      | @inn b l s x w hw h1 h2 hin _ =>
        intro e hr
        subst e
        have hr0 := rch_le hr
        obtain ⟨_, hk⟩ := hC s w hr hw (by omega)
        obtain ⟨o, p, o0, p0, hpt, hkd, hcl⟩ := hK _ (hk (by omega))
        obtain ⟨p', hpt', ew, hle⟩ := wp_in hw (by omega)
        rw [show s + w - 1 = s + p' by omega] at hkd hin
        obtain ⟨rfl, hsh⟩ := kind_shift hkd.symm hpt' hpt (by omega) p0 (by omega) o0 hix hp
        have hin2 := las_shift (d := o - s) hin (s + p') rfl (by omega) fun y τ g1 g2 => (hsh y (by omega) g2).2.2 τ
        rw [show s + p' + (o - s) = o + p' by omega, show s + 1 + (o - s) = o + 1 by omega] at hin2
        have i := ihn (o + 1) (o + p') (by omega) (by omega) hcl _ _ hin2 (by omega)
        obtain ⟨q1, q2, _⟩ := hsh x (by omega) (by omega)
        have e3 : (Option.map (fun z => z + (o - s)) l).map (fun z => z - (x + (o - s))) = l.map fun z => z - x := by
          cases l with
          | none => rfl
          | some z => show some (z + (o - s) - (x + (o - s))) = some (z - x); congr 1; omega
        rw [e3] at i
        exact i.le q1.symm q2.symm (.inr fun m em => ⟨m, em, Int.le_refl _⟩)
      | @skip b l s x w hw h1 _ ih =>
        intro e hr
        subst e
        exact ih hl hx rfl (rch_trans hr (.on hw (.here _)))
    exact go hl rfl (.here _)
end CL
set_option Elab.async false
set_option linter.all false
set_option pp.maxSteps 900
set_option maxRecDepth 100000
set_option maxHeartbeats 4000000
namespace CL
open PySem PySem.Spec PyProof.Rows L2 GE
theorem turns_hi {d : PyData} (h : isPiece d = true) : (turnsD d).length ≤ 8 := by
  unfold isPiece at h
  unfold turnsD
  cases e : rowsD d with
  | none => exact Nat.zero_le _
  | some xs =>
    rw [e] at h
    match xs, h with
    | [t, m], h =>
      simp only [Bool.and_eq_true] at h
      have h1 := h.1
      unfold isTurns at h1
      cases e2 : rowsD t with
      | none => rw [e2] at h1; cases h1
      | some ts =>
        rw [e2] at h1
        simp only [Bool.and_eq_true, decide_eq_true_eq] at h1
        show ((rowsD t).getD []).length ≤ 8
        rw [e2]
        exact h1.1.2
theorem worth_snd {d : PyData} (h : isPiece d = true) : 0 ≤ worth (sndD d) := by
  unfold isPiece at h
  unfold sndD
  cases e : rowsD d with
  | none => exact Int.le_refl 0
  | some xs =>
    rw [e] at h
    match xs, h with
    | [t, m], h =>
      simp only [Bool.and_eq_true] at h
      show 0 ≤ worth m
      cases m with
      | int i => exact of_decide_eq_true h.2
      | _ => exact Int.le_refl 0
theorem pcs_past : ∀ (f : Int) (ds : List PyData), ds.all isPiece = true → ∀ q ∈ pcs f ds, ∀ m, q.2.1 = some m → m ≤ f + sumSnd ds
  | _, [], _, q, hq, _, _ => nomatch hq
  | f, d :: ds, h, q, hq, m, e => by
    rw [List.all_cons, Bool.and_eq_true] at h
    have h0 := worth_snd h.1
    have es : sumSnd (d :: ds) = worth (sndD d) + sumSnd ds := rfl
    have hs : 0 ≤ sumSnd ds := by
      have z : ∀ ds : List PyData, ds.all isPiece = true → 0 ≤ sumSnd ds := fun ds => by
        induction ds with
        | nil => intro _; exact Int.le_refl 0
        | cons d ds ih =>
          intro h
          rw [List.all_cons, Bool.and_eq_true] at h
          have := ih h.2
          have := worth_snd h.1
          show 0 ≤ worth (sndD d) + sumSnd ds
          omega
      exact z ds h.2
    have hq' : q ∈ (f, pastO f (sndD d), turnsD d) :: pcs (f + worth (sndD d)) ds := hq
    rcases List.mem_cons.mp hq' with rfl | hq'
    · have e2 : pastO f (sndD d) = some m := e
      cases e3 : sndD d with
      | int i =>
        rw [e3] at e2 h0
        have e4 : f + i = m := Option.some.inj e2
        rw [es, e3]
        show m ≤ f + (i + sumSnd ds)
        omega
      | _ => rw [e3] at e2; cases e2
    · have := pcs_past (f + worth (sndD d)) ds h.2 q hq' m e
      rw [es]
      omega
structure PlOk (ps : List PieceT) (pc : PieceT) : Prop where
  ok : PsOk (ps ++ [pc])
  find : ∀ x : Int, under pc.2.1 x = true → ∃ pc', (ps ++ [pc]).find? (comes x) = some pc'
  past : ∀ q ∈ ps ++ [pc], ∀ m, q.2.1 = some m → m ≤ 2 ^ 138
theorem plOk {d : PyData} (h : isPlan d = true) {ps : List PieceT} {pc : PieceT} (e : piecesOf d = ps ++ [pc]) : PlOk ps pc := by
  obtain ⟨ds, _, e2, l1, l8, hpc, hno, hsum⟩ := plan_parts h
  rw [e2] at e
  have hall := List.all_eq_true.mp hpc
  have k1 : PsOk (pcs 0 ds) := ⟨by rw [pcs_len]; exact l8, fun q hq => by
    have z : ∀ (f : Int) (ds : List PyData), (∀ d ∈ ds, isPiece d = true) → ∀ q ∈ pcs f ds, ∃ d, isPiece d = true ∧ q.2.2 = turnsD d := fun f ds => by
      induction ds generalizing f with
      | nil => intro _ q hq; cases hq
      | cons d ds ih =>
        intro h q hq
        have hq' : q ∈ (f, pastO f (sndD d), turnsD d) :: pcs (f + worth (sndD d)) ds := hq
        rcases List.mem_cons.mp hq' with rfl | hq'
        · exact ⟨d, h d List.mem_cons_self, rfl⟩
        · exact ih _ (fun y hy => h y (List.mem_cons_of_mem _ hy)) q hq'
    obtain ⟨d', h1, h2⟩ := z 0 ds hall q hq
    obtain ⟨t1, t2⟩ := turns_ok h1
    rw [h2]
    exact ⟨t1, turns_hi h1, t2⟩⟩
  have k2 : ∀ x : Int, under pc.2.1 x = true → ∃ pc', (pcs 0 ds).find? (comes x) = some pc' := fun x hx => by
    obtain ⟨pp, h1, _⟩ := find_pcs x ds 0 hpc hno ps pc e hx
    exact ⟨pp, h1⟩
  have k3 : ∀ q ∈ pcs 0 ds, ∀ m, q.2.1 = some m → m ≤ 2 ^ 138 := fun q hq m em => by
    have := pcs_past 0 ds hpc q hq m em
    have h3 : sumSnd ds ≤ 1000000000000000000000000000000 := hsum
    omega
  rw [e] at k1 k2 k3
  exact ⟨k1, k2, k3⟩
theorem under_le {o : Option Int} {x y : Int} (h : under o y = true) (hxy : x ≤ y) : under o x = true := by
  cases o with
  | none => rfl
  | some m =>
    have : y < m := of_decide_eq_true h
    exact decide_eq_true (by omega)
/-! ### pieces stand once -/
theorem pcs_first : ∀ (f : Int) (ds : List PyData), (∀ d ∈ ds, isPiece d = true) → ∀ q ∈ pcs f ds, f ≤ q.1
  | _, [], _, q, h => nomatch h
  | f, d :: ds, hd, q, h => by
    have h : q ∈ (f, pastO f (sndD d), turnsD d) :: pcs (f + worth (sndD d)) ds := h
    rcases List.mem_cons.mp h with rfl | h
    · exact Int.le_refl _
    · have h1 := pcs_first _ ds (fun y hy => hd y (List.mem_cons_of_mem _ hy)) q h
      have h2 := worth_snd (hd d List.mem_cons_self)
      omega
theorem ix_pcs {x : Int} {pc : PieceT} : ∀ (f : Int) (ds : List PyData) (i : Nat), (∀ d ∈ ds, isPiece d = true) → (ds.take (ds.length - 1)).any (fun d => isNone (sndD d)) = false → f ≤ x → (pcs f ds).find? (comes x) = some pc → (pcs f ds)[i]? = some pc → i = (pcs f ds).findIdx (comes x)
  | f, [], i, _, _, _, h, _ => nomatch h
  | f, d :: ds, i, hd, hno, hx, h, hi => by
    have ec : pcs f (d :: ds) = (f, pastO f (sndD d), turnsD d) :: pcs (f + worth (sndD d)) ds := rfl
    have hd' := fun y hy => hd y (List.mem_cons_of_mem d hy)
    have hw := worth_snd (hd d List.mem_cons_self)
    rw [ec] at h hi ⊢
    rw [List.find?_cons] at h
    rw [List.findIdx_cons]
    cases hc : comes x (f, pastO f (sndD d), turnsD d) with
    | true =>
      rw [hc] at h
      have h := Option.some.inj h
      rw [cond_true]
      cases i with
      | zero => rfl
      | succ i =>
        rw [List.getElem?_cons_succ] at hi
        have hm := List.mem_of_getElem? hi
        have h1 := pcs_first _ ds hd' pc hm
        rw [← h] at h1
        have h1 : f + worth (sndD d) ≤ f := h1
        have hne : ds ≠ [] := fun z => by rw [z] at hm; cases hm
        have hnn : isNone (sndD d) = false := by
          obtain ⟨d2, ds2, rfl⟩ := List.exists_cons_of_ne_nil hne
          have : (d :: d2 :: ds2).take ((d :: d2 :: ds2).length - 1) = d :: (d2 :: ds2).take ds2.length := by
            rw [List.length_cons, List.length_cons]
            rfl
          rw [this, List.any_cons] at hno
          exact (Bool.or_eq_false_iff.mp hno).1
        exfalso
        have hm2 : isMany (sndD d) = true := by
          obtain ⟨t, m, e, _, h2⟩ := piece_parts (hd d List.mem_cons_self)
          have : sndD d = m := by unfold sndD; rw [e]
          rw [this]
          exact h2
        cases hs : sndD d with
        | int k =>
          rw [hs] at hc h1 hm2
          have hc : decide (x < f + k) = true := hc
          have := of_decide_eq_true hc
          have h1 : f + k ≤ f := h1
          omega
        | none => rw [hs] at hnn; cases hnn
        | _ => rw [hs] at hm2; cases hm2
    | false =>
      rw [hc] at h
      rw [cond_false]
      have hx2 : f + worth (sndD d) ≤ x := by
        cases hs : sndD d with
        | int k =>
          rw [hs] at hc
          have hc : decide (x < f + k) = false := hc
          have := of_decide_eq_false hc
          show f + k ≤ x
          omega
        | _ => rw [hs] at hc; cases hc
      have hno2 : (ds.take (ds.length - 1)).any (fun d => isNone (sndD d)) = false := by
        cases ds with
        | nil => rfl
        | cons d2 ds2 =>
          have : (d :: d2 :: ds2).take ((d :: d2 :: ds2).length - 1) = d :: (d2 :: ds2).take ds2.length := by
            rw [List.length_cons, List.length_cons]
            rfl
          rw [this, List.any_cons] at hno
          exact (Bool.or_eq_false_iff.mp hno).2
      cases i with
      | zero =>
        have hi : (f, pastO f (sndD d), turnsD d) = pc := Option.some.inj hi
        have := List.find?_some h
        rw [← hi, hc] at this
        cases this
      | succ i =>
        rw [List.getElem?_cons_succ] at hi
        rw [ix_pcs _ ds i hd' hno2 hx2 h hi]
theorem ixOk {d : PyData} (h : isPlan d = true) : IxOk (piecesOf d) := fun i x pc h0 hf hi => by
  obtain ⟨ds, _, e2, l1, l8, hpc, hno, hsum⟩ := plan_parts h
  rw [e2] at hf hi ⊢
  exact ix_pcs 0 ds i (List.all_eq_true.mp hpc) hno h0 hf hi
/-! ### what is known, and what waits -/
def kindsN (N : Nat) : List (List Key) := codes ++ (List.range N).map fun x => [Sum.inl ((x : Nat) : Int)]
def UF (N : Nat) (kvs : List (List Key × V)) : Nat := ((kindsN N).filter fun k => (valV kvs k).isNone).length
theorem UF_lt {N : Nat} {kvs : List (List Key × V)} {k : List Key} {v : V} (hk : k ∈ kindsN N) (hn : valV kvs k = none) : UF N (putK kvs k v) < UF N kvs := by
  refine filt_lt (a := k) (kindsN N) (fun x _ h => ?_) hk (by rw [hn]; rfl) (by rw [valV_put, if_pos rfl]; rfl)
  rw [valV_put] at h
  by_cases c : x = k
  · rw [if_pos c] at h; cases h
  · rw [if_neg c] at h; exact h
theorem UF_le (N : Nat) (kvs : List (List Key × V)) : UF N kvs ≤ 64 + N := by
  refine Nat.le_trans (List.length_filter_le _ _) ?_
  unfold kindsN
  rw [List.length_append, List.length_map, List.length_range, show codes.length = 64 by decide +kernel]
  exact Nat.le_refl _
def Pend (ps : List PieceT) (kvs : List (List Key × V)) (S : List StepT) (k : List Key) : Prop := valV kvs k ≠ none ∨ ∃ w ∈ S, kdF ps w.1 w.2 = k
structure GWin (ps : List PieceT) (B : Int) (w : StepT) : Prop where
  lo : 0 ≤ w.1
  hi : w.2 ≤ B
  pt : ∃ p : Int, 0 ≤ p ∧ Pt ps w.1 (.int p) ∧ w.2 = w.1 + p
  emb : ∀ x m, Las ps (some w.2) (w.1 + 1) x m → x ≤ w.2 → Las ps (some B) 0 x m
def Real (ps : List PieceT) (B : Int) (i t : Nat) (o : Option Int) : Prop := ∃ x l, 0 ≤ x ∧ x ≤ B ∧ Las ps (some B) 0 x l ∧ i = ixP ps x ∧ t = tnP ps x ∧ o = l.map fun z => z - x
theorem lvl_wins {ps : List PieceT} (hp : PsOk ps) {B bd s c : Int} {rs : List RunT} (h : Lvl ps (some bd) bd s rs c) (h0 : 0 ≤ s) (hB : bd ≤ B) (he : ∀ x m, Las ps (some bd) s x m → x ≤ bd → Las ps (some B) 0 x m) : ∀ w ∈ winsOf (stepsOf rs), GWin ps B w := fun w hw => by
  obtain ⟨st, hs, rfl⟩ := List.mem_map.mp hw
  obtain ⟨hs, hpos⟩ := List.mem_filter.mp hs
  have hpos : 0 < st.2 := of_decide_eq_true hpos
  obtain ⟨g1, g2, g3, g4⟩ := lvl_met h st hs
  obtain ⟨p, hpt, ew, hle⟩ := wp_in g4 hpos
  exact ⟨by show 0 ≤ st.1; omega, by show st.1 + st.2 - 1 ≤ B; omega, ⟨p, by omega, hpt, by show st.1 + st.2 - 1 = st.1 + p; omega⟩, fun x m hl hx => by
    have hl : Las ps (some (st.1 + st.2 - 1)) (st.1 + 1) x m := hl
    have hx : x ≤ st.1 + st.2 - 1 := hx
    have hge := las_ge hl
    exact he x m (las_of g1 (.inn g4 (by omega) (by omega) hl)) (by omega)⟩
theorem lvl_att {ps : List PieceT} (hp : PsOk ps) {B bd s c : Int} {rs : List RunT} (h : Lvl ps (some bd) bd s rs c) (h0 : 0 ≤ s) (hB : bd ≤ B) (he : ∀ x m, Las ps (some bd) s x m → x ≤ bd → Las ps (some B) 0 x m) {us : UsT} (ha : Att us (Real ps B)) : Att (noteAll ps (some bd) us (stepsOf rs)) (Real ps B) := by
  refine att_all ha fun st hs => ?_
  obtain ⟨g1, g2, g3, g4⟩ := lvl_met h st hs
  have hnn := wp_nn hp g4
  unfold useO
  by_cases c : 0 < st.2
  · rw [if_pos c]
    refine ⟨st.1, some (st.1 + st.2 - 1), by omega, by omega, he _ _ (las_of g1 (.own g4 c)) g3, rfl, rfl, ?_⟩
    show some (st.2 - 1) = some (st.1 + st.2 - 1 - st.1)
    congr 1
    omega
  · rw [if_neg c]
    have e0 : st.2 = 0 := by omega
    rw [e0] at g4
    exact ⟨st.1, some bd, by omega, by omega, he _ _ (las_of g1 (.spare g4)) g3, rfl, rfl, rfl⟩
theorem pth_few {ps : List PieceT} {b : Option Int} {stop : Int} : ∀ {S : List StepT} {a c : Int}, Pth (WS ps b stop) a S c → S.length + (stop + 1 - c).toNat ≤ (stop + 1 - a).toNat
  | [], a, c, h => by
    obtain rfl : a = c := h
    simp
  | s :: S, a, c, h => by
    have ih := pth_few h.2.2
    have e : s.1 = a := h.1
    have hs : s.1 ≤ stop := h.2.1.1
    rw [List.length_cons]
    omega
theorem lvl_few {ps : List PieceT} {b : Option Int} {stop : Int} : ∀ {rs : List RunT} {a c : Int}, Lvl ps b stop a rs c → (stepsOf rs).length ≤ (stop + 1 - a).toNat
  | [], _, _, _ => Nat.zero_le _
  | r :: rs, a, c, h => by
    have ih := lvl_few h.2
    have h1 := pth_few (run_path0 h.1)
    have ht := h.1.times
    have hl : 0 ≤ lenR r.steps := by have := lenR_pos r.steps; omega
    have h2 : 1 * lenR r.steps ≤ (r.times : Int) * lenR r.steps := Int.mul_le_mul_of_nonneg_right (by omega) hl
    rw [Int.one_mul] at h2
    show (r.steps ++ stepsOf rs).length ≤ _
    rw [List.length_append]
    omega
structure PInv (ps : List PieceT) (B : Int) (N : Nat) (us : UsT) (kvs : List (List Key × V)) (S : List StepT) : Prop where
  room : S.length + UF N kvs * N ≤ (64 + N) * N + N
  klen : kvs.length + UF N kvs ≤ 64 + N
  shp : ShpU ps us
  root : Closed ps us (Pend ps kvs S) B 0
  reps : ∀ k, valV kvs k ≠ none → Repd ps us (Pend ps kvs S) k
  wins : ∀ w ∈ S, GWin ps B w
  att : Att us (Real ps B)
structure UsesR (ps : List PieceT) (B : Int) (us : UsT) : Prop where
  shp : ShpU ps us
  cov : ∀ x l, Las ps (some B) 0 x l → x ≤ B → Cv ps us x (l.map fun z => z - x)
  att : Att us (Real ps B)
theorem Repd.mono {ps : List PieceT} {us us' : UsT} {K1 K2 : List Key → Prop} {k : List Key} (h : Repd ps us K1 k) (hu : ∀ x u, Cv ps us x u → Cv ps us' x u) (hK : ∀ k, K1 k → K2 k) : Repd ps us' K2 k := by
  obtain ⟨o, p, h1, h2, h3, h4, h5⟩ := h
  exact ⟨o, p, h1, h2, h3, h4, h5.mono hu hK⟩
section
variable {ps : List PieceT} {B : Int} {N : Nat} {us : UsT} {kvs : List (List Key × V)} {S : List StepT} {w : StepT}
theorem PInv.init (hp : PsOk ps) (hix : IxOk ps) (hN : (N : Int) = B + 1) {rs : List RunT} {c : Int} (h : Lvl ps (some B) B 0 rs c) (hc : B < c) (hu : ShpU ps us) (ha : Att us (Real ps B)) : PInv ps B N (noteAll ps (some B) us (stepsOf rs)) [] (winsOf (stepsOf rs)) := by
  have h1 := lvl_few h
  have h2 := winsOf_len (stepsOf rs)
  have h3 := UF_le N []
  have h4 : UF N [] * N ≤ (64 + N) * N := Nat.mul_le_mul_right N h3
  exact ⟨by omega, by rw [List.length_nil, Nat.zero_add]; exact h3, hu.all, closed_of hp hix h hc (Int.le_refl 0) hu fun w hw => .inr ⟨w, hw, rfl⟩, fun k hk => absurd rfl hk, lvl_wins hp h (Int.le_refl 0) (Int.le_refl B) fun x m hl _ => hl, lvl_att hp h (Int.le_refl 0) (Int.le_refl B) (fun x m hl _ => hl) ha⟩
theorem PInv.known (h : PInv ps B N us kvs (S ++ [w])) (hk : valV kvs (kdF ps w.1 w.2) ≠ none) : PInv ps B N us kvs S := by
  have hr := h.room
  rw [List.length_append, List.length_singleton] at hr
  have hK : ∀ k, Pend ps kvs (S ++ [w]) k → Pend ps kvs S k := fun k hh => by
    rcases hh with hh | ⟨w', hw, rfl⟩
    · exact .inl hh
    · rcases List.mem_append.mp hw with hw | hw
      · exact .inr ⟨w', hw, rfl⟩
      · obtain rfl := List.mem_singleton.mp hw
        exact .inl hk
  exact ⟨by omega, h.klen, h.shp, h.root.mono (fun _ _ z => z) hK, fun k hh => (h.reps k hh).mono (fun _ _ z => z) hK, fun w' hw => h.wins w' (List.mem_append_left _ hw), h.att⟩
theorem kd_in (hp : PsOk ps) (hN : (N : Int) = B + 1) (g : GWin ps B w) : kdF ps w.1 w.2 ∈ kindsN N := by
  obtain ⟨p, p0, ⟨pc, hf, _⟩, e⟩ := g.pt
  have h1 := g.lo
  have h2 := g.hi
  have hone : [Sum.inl w.1] ∈ kindsN N := List.mem_append_right _ (List.mem_map.mpr ⟨w.1.toNat, List.mem_range.mpr (by omega), by rw [show ((w.1.toNat : Nat) : Int) = w.1 by omega]⟩)
  unfold kdF
  rw [hf]
  dsimp only
  split
  · have hi := find_ixP hf
    have hl : ixP ps w.1 < ps.length := (List.getElem?_eq_some_iff.mp hi).1
    have l8 := hp.len
    obtain ⟨t1, t8, _⟩ := hp.turns pc (List.mem_of_find?_eq_some hf)
    have ht : tnP ps w.1 < 8 := by
      rw [tnP_of hf]
      have h1 : tnI pc.1 pc.2.2.length w.1 < (pc.2.2.length : Int) := Int.emod_lt_of_pos _ (by omega)
      omega
    exact List.mem_append_left _ (codes_in (by omega) ht)
  · exact hone
theorem PInv.new (hp : PsOk ps) (hix : IxOk ps) (hN : (N : Int) = B + 1) (h : PInv ps B N us kvs (S ++ [w])) (hk : valV kvs (kdF ps w.1 w.2) = none) {rs : List RunT} {c : Int} (hl : Lvl ps (some w.2) w.2 (w.1 + 1) rs c) (hc : w.2 < c) {v : V} :
    PInv ps B N (noteAll ps (some w.2) us (stepsOf rs)) (putK kvs (kdF ps w.1 w.2) v) (S ++ winsOf (stepsOf rs)) ∧ UF N (putK kvs (kdF ps w.1 w.2) v) < UF N kvs := by
  have g := h.wins w (List.mem_append_right _ List.mem_cons_self)
  have hlt := UF_lt (v := v) (kd_in hp hN g) hk
  have hr := h.room
  have hkl := h.klen
  rw [List.length_append, List.length_singleton] at hr
  have h1 := lvl_few hl
  have h2 := winsOf_len (stepsOf rs)
  have g1 := g.lo
  have g2 := g.hi
  have h3 := length_putK kvs (kdF ps w.1 w.2) v
  have h4 : (UF N (putK kvs (kdF ps w.1 w.2) v) + 1) * N ≤ UF N kvs * N := Nat.mul_le_mul_right N (by omega)
  rw [Nat.add_mul, Nat.one_mul] at h4
  have hK : ∀ k, Pend ps kvs (S ++ [w]) k → Pend ps (putK kvs (kdF ps w.1 w.2) v) (S ++ winsOf (stepsOf rs)) k := fun k hh => by
    by_cases ck : k = kdF ps w.1 w.2
    · exact .inl (by rw [valV_put, if_pos ck]; simp)
    rcases hh with hh | ⟨w', hw, rfl⟩
    · exact .inl (by rw [valV_put, if_neg ck]; exact hh)
    · rcases List.mem_append.mp hw with hw | hw
      · exact .inr ⟨w', List.mem_append_left _ hw, rfl⟩
      · obtain rfl := List.mem_singleton.mp hw
        exact absurd rfl ck
  have hu : ∀ x u, Cv ps us x u → Cv ps (noteAll ps (some w.2) us (stepsOf rs)) x u := fun x u z => z.all
  obtain ⟨p, p0, hpt, e⟩ := g.pt
  refine ⟨⟨by rw [List.length_append]; omega, by omega, h.shp.all, h.root.mono hu hK, fun k hh => ?_, fun w' hw => ?_, lvl_att hp hl (by omega) g2 g.emb h.att⟩, hlt⟩
  · by_cases ck : k = kdF ps w.1 w.2
    · refine ⟨w.1, p, g1, p0, hpt, by rw [ck, e], ?_⟩
      rw [← e]
      exact closed_of hp hix hl hc (by omega) h.shp fun w' hw => .inr ⟨w', List.mem_append_right _ hw, rfl⟩
    · rw [valV_put, if_neg ck] at hh
      exact (h.reps k hh).mono hu hK
  · rcases List.mem_append.mp hw with hw | hw
    · exact h.wins w' (List.mem_append_left _ hw)
    · exact lvl_wins hp hl (by omega) g2 g.emb w' hw
theorem PInv.fin (hp : PsOk ps) (hix : IxOk ps) (h : PInv ps B N us kvs []) : UsesR ps B us := by
  refine ⟨h.shp, fun x l hl hx => cover_in hp hix (Kd := Pend ps kvs []) (fun k hk => ?_) _ 0 B (Nat.le_refl _) (Int.le_refl 0) h.root x l hl hx, h.att⟩
  rcases hk with hk | ⟨w', hw, _⟩
  · exact h.reps k hk
  · cases hw
end
end CL
set_option Elab.async false
set_option linter.all false
set_option pp.maxSteps 900
set_option maxRecDepth 100000
set_option maxHeartbeats 4000000
namespace CL
open PySem PySem.Spec PyProof.Rows L2 GE
/-! ### rounds -/
def trn (f n x : Int) : Int := (x - f) % n
/-- hop by hop with nothing around, from somebody on, behind these: the first one whose turn comes again, and how much later -/
inductive Rnd (ps : List PieceT) (f n : Int) : List Int → Int → Int × Int → Prop
  | done {met : List Int} {x y : Int} : y ∈ met → trn f n y = trn f n x → Rnd ps f n met x (y, x - y)
  | on {met : List Int} {x w : Int} {r : Int × Int} : (∀ y ∈ met, trn f n y ≠ trn f n x) → WP ps none x w → Rnd ps f n (met ++ [x]) (x + max w 1) r → Rnd ps f n met x r
theorem pw_inj {f n : Int} : ∀ {met : List Int}, met.Pairwise (fun a b => trn f n a ≠ trn f n b) → ∀ {y z : Int}, y ∈ met → z ∈ met → trn f n y = trn f n z → y = z
  | [], _, y, z, hy, _, _ => nomatch hy
  | a :: met, h, y, z, hy, hz, e => by
    obtain ⟨h1, h2⟩ := List.pairwise_cons.mp h
    rcases List.mem_cons.mp hy with e1 | hy
    · rcases List.mem_cons.mp hz with e2 | hz
      · rw [e1, e2]
      · rw [e1] at e
        exact absurd e (h1 z hz)
    · rcases List.mem_cons.mp hz with e2 | hz
      · rw [e2] at e
        exact absurd e.symm (h1 y hy)
      · exact pw_inj h2 hy hz e
theorem Rnd.uniq {ps : List PieceT} {f n : Int} {met : List Int} {x : Int} {r : Int × Int} (h : Rnd ps f n met x r) : met.Pairwise (fun a b => trn f n a ≠ trn f n b) → ∀ {r' : Int × Int}, Rnd ps f n met x r' → r = r' := by
  induction h with
  | done hy e =>
    intro hp r' h'
    cases h' with
    | done hy' e' => rw [pw_inj hp hy hy' (e.trans e'.symm)]
    | on hn _ _ => exact absurd e (hn _ hy)
  | on hn hw _ ih =>
    intro hp r' h'
    cases h' with
    | done hy' e' => exact absurd e' (hn _ hy')
    | on hn' hw' h2 =>
      have := wp_uniq hw hw'
      subst this
      refine ih (List.pairwise_append.mpr ⟨hp, List.pairwise_singleton _ _, fun a ha b hb => ?_⟩) h2
      rw [List.mem_singleton.mp hb]
      exact hn a ha
/-- the first one from there on that has nothing around -/
def Fst (ps : List PieceT) (f x : Int) : Prop := Rch ps none 0 x ∧ f ≤ x ∧ ∀ h, Rch ps none 0 h → f ≤ h → x ≤ h
theorem fst_uniq {ps : List PieceT} {f x y : Int} (h : Fst ps f x) (h' : Fst ps f y) : x = y := by
  have := h.2.2 y h'.1 h'.2.1
  have := h'.2.2 x h.1 h.2.1
  omega
theorem fst_zero {ps : List PieceT} : Fst ps 0 0 := ⟨.here 0, Int.le_refl _, fun h hr _ => rch_le hr⟩
theorem rch_snoc {ps : List PieceT} {b : Option Int} {s x w : Int} (h : Rch ps b s x) : WP ps b x w → Rch ps b s (x + max w 1) := by
  induction h with
  | here x => exact fun hw => .on hw (.here _)
  | on a _ ih => exact fun hw => .on a (ih hw)
theorem rch_skip {ps : List PieceT} {b : Option Int} {s x : Int} (h : Rch ps b s x) : ∀ {y w : Int}, Rch ps b s y → x < y → WP ps b x w → x + max w 1 ≤ y := by
  induction h with
  | here x =>
    intro y w hy hlt hw
    cases hy with
    | here => omega
    | on h1 h2 =>
      have := wp_uniq h1 hw
      subst this
      exact rch_le h2
  | on a hr ih =>
    intro y w hy hlt hw
    have := rch_le hr
    cases hy with
    | here => omega
    | on h1 h2 =>
      have := wp_uniq a h1
      subst this
      exact ih h2 hlt hw
theorem fst_step {ps : List PieceT} {f h w : Int} (hr : Rch ps none 0 h) (hw : WP ps none h w) (h1 : h < f) (h2 : f ≤ h + max w 1) : Fst ps f (h + max w 1) :=
  ⟨rch_snoc hr hw, h2, fun y hy hfy => rch_skip hr hy (by omega) hw⟩
/-- the round: from the first one on that comes by the last piece -/
def RndR (ps : List PieceT) (f n : Int) (r : Int × Int) : Prop := ∃ x0, Fst ps f x0 ∧ Rnd ps f n [] x0 r
theorem RndR.uniq {ps : List PieceT} {f n : Int} {r r' : Int × Int} (h : RndR ps f n r) (h' : RndR ps f n r') : r = r' := by
  obtain ⟨x, h1, h2⟩ := h
  obtain ⟨y, h3, h4⟩ := h'
  have := fst_uniq h1 h3
  subst this
  exact h2.uniq .nil h4
/-! ### the level with nothing around, up to somebody -/
def ClosedN (ps : List PieceT) (us : UsT) (Kd : List Key → Prop) (stop : Int) : Prop := ∀ x w, Rch ps none 0 x → WP ps none x w → x ≤ stop → Cv ps us x (useO none x w) ∧ (0 < w → Kd (kdF ps x (x + w - 1)))
theorem closed_ofN {ps : List PieceT} (hp : PsOk ps) (hix : IxOk ps) {stop c : Int} {rs : List RunT} (h : Lvl ps none stop 0 rs c) (hc : stop < c) {us : UsT} (hu : ShpU ps us) {Kd : List Key → Prop} (hK : ∀ w ∈ winsOf (stepsOf rs), Kd (kdF ps w.1 w.2)) : ClosedN ps (noteAll ps none us (stepsOf rs)) Kd stop := fun x w hr hw hx => by
  obtain ⟨r, hr1, y, hy, hok, j, hj, st, hs, rfl⟩ := lvl_at h hr (by omega)
  obtain ⟨e1, e2, e3, e4⟩ := step_again hok hix (by omega) hs hj
  obtain rfl := wp_uniq hw e3
  have hm : st ∈ stepsOf rs := List.mem_flatMap.mpr ⟨r, hr1, hs⟩
  obtain ⟨g1, _, g3⟩ := step_mem hok st hs
  obtain ⟨pc, t, hf, _⟩ := g3
  have hcv := cv_new (b := none) hp hu st hm ⟨pc, hf⟩
  refine ⟨hcv.le e1 e2 (.inr fun m em => ?_), fun h0 => ?_⟩
  · unfold useO at em ⊢
    by_cases z : 0 < st.2
    · rw [if_pos z] at em ⊢
      exact ⟨_, em, Int.le_refl _⟩
    · rw [if_neg z] at em
      cases em
  · rw [e4 h0]
    exact hK (st.1, st.1 + st.2 - 1) (List.mem_map.mpr ⟨st, List.mem_filter.mpr ⟨hm, decide_eq_true h0⟩, rfl⟩)
theorem ClosedN.mono {ps : List PieceT} {us us' : UsT} {K1 K2 : List Key → Prop} {stop : Int} (h : ClosedN ps us K1 stop) (hu : ∀ x u, Cv ps us x u → Cv ps us' x u) (hK : ∀ k, K1 k → K2 k) : ClosedN ps us' K2 stop := fun x w h1 h2 h3 => ⟨hu _ _ (h x w h1 h2 h3).1, fun z => hK _ ((h x w h1 h2 h3).2 z)⟩
/-- whoever comes up to there is noted -/
theorem cover_root {ps : List PieceT} {us : UsT} {Kd : List Key → Prop} (hp : PsOk ps) (hix : IxOk ps) (hK : ∀ k, Kd k → Repd ps us Kd k) {stop : Int} (hC : ClosedN ps us Kd stop) : ∀ x l, Las ps none 0 x l → x ≤ stop → Cv ps us x (l.map fun z => z - x) := by
  intro x l hl hx
  have go : ∀ {b : Option Int} {s : Int}, Las ps b s x l → b = none → Rch ps none 0 s → Cv ps us x (l.map fun z => z - x) := by
    intro b s h
    induction h with
    | @spare b x hw =>
      intro e hr
      subst e
      exact (hC x 0 hr hw hx).1
    | @own b x w hw hw0 =>
      intro e hr
      subst e
      have := (hC x w hr hw hx).1
      unfold useO at this
      rw [if_pos hw0] at this
      show Cv ps us x (some (x + w - 1 - x))
      rw [show x + w - 1 - x = w - 1 by omega]
      exact this
    | @inn b l s x w hw h1 h2 hin _ =>
      intro e hr
      subst e
      have hr0 := rch_le hr
      obtain ⟨_, hk⟩ := hC s w hr hw (by omega)
      obtain ⟨o, p, o0, p0, hpt, hkd, hcl⟩ := hK _ (hk (by omega))
      obtain ⟨p', hpt', ew, _⟩ := wp_pos hw (by omega)
      rw [show s + w - 1 = s + p' by omega] at hkd hin
      obtain ⟨rfl, hsh⟩ := kind_shift hkd.symm hpt' hpt (by omega) p0 (by omega) o0 hix hp
      have hin2 := las_shift (d := o - s) hin (s + p') rfl (by omega) fun y τ g1 g2 => (hsh y (by omega) g2).2.2 τ
      rw [show s + p' + (o - s) = o + p' by omega, show s + 1 + (o - s) = o + 1 by omega] at hin2
      have i := cover_in hp hix hK _ (o + 1) (o + p') (Nat.le_refl _) (by omega) hcl _ _ hin2 (by omega)
      obtain ⟨q1, q2, _⟩ := hsh x (by omega) (by omega)
      have e3 : (Option.map (fun z => z + (o - s)) l).map (fun z => z - (x + (o - s))) = l.map fun z => z - x := by
        cases l with
        | none => rfl
        | some z => show some (z + (o - s) - (x + (o - s))) = some (z - x); congr 1; omega
      rw [e3] at i
      exact i.le q1.symm q2.symm (.inr fun m em => ⟨m, em, Int.le_refl _⟩)
    | @skip b l s x w hw h1 _ ih =>
      intro e hr
      subst e
      exact ih hl hx rfl (rch_trans hr (.on hw (.here _)))
  exact go hl rfl (.here _)
/-! ### round by round -/
theorem las_shiftN {ps : List PieceT} {d f : Int} {b l : Option Int} {s x : Int} (h : Las ps b s x l) : f ≤ s → (∀ y τ, f ≤ y → Pt ps y τ → Pt ps (y + d) τ) → Las ps (b.map fun z => z + d) (s + d) (x + d) (l.map fun z => z + d) := by
  have wps : ∀ {b : Option Int} {s w : Int}, (∀ y τ, f ≤ y → Pt ps y τ → Pt ps (y + d) τ) → f ≤ s → WP ps b s w → WP ps (b.map fun z => z + d) (s + d) w := fun {b s w} hp hs hw => by
    obtain ⟨t, ht, e⟩ := wp_pt hw
    have h2 := pt_wp (b.map fun z => z + d) (hp s t hs ht)
    have e2 : wd (b.map fun z => z + d) (s + d) t = wd b s t := by
      cases b with
      | none => cases t <;> rfl
      | some m =>
        cases t with
        | int p =>
          show (if s + d + p ≤ m + d then p + 1 else 0) = if s + p ≤ m then p + 1 else 0
          by_cases c : s + p ≤ m
          · rw [if_pos c, if_pos (by omega)]
          · rw [if_neg c, if_neg (by omega)]
        | _ => rfl
    rw [e2, ← e] at h2
    exact h2
  induction h with
  | @spare b x hw =>
    intro hs hp
    exact .spare (wps hp hs hw)
  | @own b x w hw h0 =>
    intro hs hp
    have := Las.own (wps hp hs hw) h0
    rw [show x + d + w - 1 = x + w - 1 + d by omega] at this
    exact this
  | @inn b l s x w hw h1 h2 _ ih =>
    intro hs hp
    have i := ih (by omega) hp
    rw [show s + 1 + d = s + d + 1 by omega] at i
    have i : Las ps (some (s + w - 1 + d)) (s + d + 1) (x + d) (l.map fun z => z + d) := i
    rw [show s + w - 1 + d = s + d + w - 1 by omega] at i
    exact .inn (wps hp hs hw) (by omega) (by omega) i
  | @skip b l s x w hw h1 _ ih =>
    intro hs hp
    have i := ih (by omega) hp
    rw [show s + max w 1 + d = s + d + max w 1 by omega] at i
    exact .skip (wps hp hs hw) (by omega) i
theorem las_from {ps : List PieceT} {b l : Option Int} {s y : Int} (h : Rch ps b s y) : ∀ {x : Int}, Las ps b s x l → y ≤ x → Las ps b y x l := by
  induction h with
  | here => exact fun h _ => h
  | on h1 h2 ih =>
    intro x hl hy
    have hle := rch_le h2
    cases hl with
    | spare k => have e := wp_uniq h1 k; subst e; omega
    | own k k0 => have e := wp_uniq h1 k; subst e; omega
    | inn k k1 k2 k3 => have e := wp_uniq h1 k; subst e; omega
    | skip k k1 k2 => have e := wp_uniq h1 k; subst e; exact ih k2 hy
/-- what a round of a plan without an end is -/
structure RoundOk (ps : List PieceT) (f F m : Int) : Prop where
  f0 : 0 ≤ f
  fF : f ≤ F
  m1 : 1 ≤ m
  rF : Rch ps none 0 F
  rm : Rch ps none F (F + m)
  pt : ∀ y τ, f ≤ y → (Pt ps (y + m) τ ↔ Pt ps y τ)
  ix : ∀ y, f ≤ y → ixP ps (y + m) = ixP ps y
  tn : ∀ y, f ≤ y → tnP ps (y + m) = tnP ps y
/-- whoever comes stands as one within the first round -/
theorem RoundOk.back {ps : List PieceT} {f F m : Int} (h : RoundOk ps f F m) : ∀ (k : Nat) (x : Int) l, (x - F).toNat ≤ k → Las ps none 0 x l → ∃ y l', 0 ≤ y ∧ y < F + m ∧ Las ps none 0 y l' ∧ ixP ps y = ixP ps x ∧ tnP ps y = tnP ps x ∧ (l'.map fun z => z - y) = l.map fun z => z - x := by
  intro k
  induction k with
  | zero =>
    intro x l hk hl
    have := las_ge hl
    have := h.m1
    exact ⟨x, l, by omega, by omega, hl, rfl, rfl, rfl⟩
  | succ k ih =>
    intro x l hk hl
    have h0 := las_ge hl
    have m1 := h.m1
    have fF := h.fF
    by_cases c : x < F + m
    · exact ⟨x, l, by omega, c, hl, rfl, rfl, rfl⟩
    · have h1 := las_from h.rm (las_from h.rF hl (by omega)) (by omega)
      have h2 := las_shiftN (d := -m) (f := F + m) h1 (Int.le_refl _) fun y τ hy hpt => by
        have := (h.pt (y - m) τ (by omega)).mp (by rw [show y - m + m = y by omega]; exact hpt)
        rw [show y + -m = y - m by omega]
        exact this
      have h2 : Las ps none (F + m + -m) (x + -m) (l.map fun z => z + -m) := h2
      rw [show F + m + -m = F by omega, show x + -m = x - m by omega] at h2
      have h3 := las_of h.rF h2
      obtain ⟨y, l', g1, g2, g3, g4, g5, g6⟩ := ih (x - m) _ (by omega) h3
      have i1 := h.ix (x - m) (by omega)
      have i2 := h.tn (x - m) (by omega)
      rw [show x - m + m = x by omega] at i1 i2
      refine ⟨y, l', g1, g2, g3, g4.trans i1.symm, g5.trans i2.symm, g6.trans ?_⟩
      cases l with
      | none => rfl
      | some z => show some (z + -m - (x - m)) = some (z - x); congr 1; omega
end CL
set_option Elab.async false
set_option linter.all false
set_option pp.maxSteps 900
set_option maxRecDepth 100000
set_option maxHeartbeats 4000000
namespace CL
open PySem PySem.Spec PyProof.Rows L2 GE
/-! ### what is known and what waits, with nothing around -/
structure GWinN (ps : List PieceT) (B : Int) (w : StepT) : Prop where
  lo : 0 ≤ w.1
  hi : w.2 ≤ B
  pt : ∃ p : Int, 0 ≤ p ∧ Pt ps w.1 (.int p) ∧ w.2 = w.1 + p
  emb : ∀ x m, Las ps (some w.2) (w.1 + 1) x m → x ≤ w.2 → Las ps none 0 x m
def RealN (ps : List PieceT) (i t : Nat) (o : Option Int) : Prop := ∃ x l, 0 ≤ x ∧ Las ps none 0 x l ∧ i = ixP ps x ∧ t = tnP ps x ∧ o = l.map fun z => z - x
theorem lvl_winsN {ps : List PieceT} (hp : PsOk ps) {B bd s c : Int} {rs : List RunT} (h : Lvl ps (some bd) bd s rs c) (h0 : 0 ≤ s) (hB : bd ≤ B) (he : ∀ x m, Las ps (some bd) s x m → x ≤ bd → Las ps none 0 x m) : ∀ w ∈ winsOf (stepsOf rs), GWinN ps B w := fun w hw => by
  obtain ⟨st, hs, rfl⟩ := List.mem_map.mp hw
  obtain ⟨hs, hpos⟩ := List.mem_filter.mp hs
  have hpos : 0 < st.2 := of_decide_eq_true hpos
  obtain ⟨g1, g2, g3, g4⟩ := lvl_met h st hs
  obtain ⟨p, hpt, ew, hle⟩ := wp_in g4 hpos
  exact ⟨by show 0 ≤ st.1; omega, by show st.1 + st.2 - 1 ≤ B; omega, ⟨p, by omega, hpt, by show st.1 + st.2 - 1 = st.1 + p; omega⟩, fun x m hl hx => by
    have hl : Las ps (some (st.1 + st.2 - 1)) (st.1 + 1) x m := hl
    have hx : x ≤ st.1 + st.2 - 1 := hx
    have hge := las_ge hl
    exact he x m (las_of g1 (.inn g4 (by omega) (by omega) hl)) (by omega)⟩
theorem root_winsN {ps : List PieceT} (hp : PsOk ps) {stop c M : Int} {rs : List RunT} (h : Lvl ps none stop 0 rs c) (hM : ∀ x p : Int, Pt ps x (.int p) → p ≤ M) : ∀ w ∈ winsOf (stepsOf rs), GWinN ps (stop + M) w := fun w hw => by
  obtain ⟨st, hs, rfl⟩ := List.mem_map.mp hw
  obtain ⟨hs, hpos⟩ := List.mem_filter.mp hs
  have hpos : 0 < st.2 := of_decide_eq_true hpos
  obtain ⟨g1, g2, g3, g4⟩ := lvl_met h st hs
  obtain ⟨p, hpt, ew, _⟩ := wp_pos g4 hpos
  have hpM := hM _ p hpt
  exact ⟨by show 0 ≤ st.1; omega, by show st.1 + st.2 - 1 ≤ stop + M; omega, ⟨p, by omega, hpt, by show st.1 + st.2 - 1 = st.1 + p; omega⟩, fun x m hl hx => by
    have hl : Las ps (some (st.1 + st.2 - 1)) (st.1 + 1) x m := hl
    have hx : x ≤ st.1 + st.2 - 1 := hx
    have hge := las_ge hl
    exact las_of g1 (.inn g4 (by omega) (by omega) hl)⟩
theorem lvl_attN {ps : List PieceT} (hp : PsOk ps) {bd s c : Int} {rs : List RunT} (h : Lvl ps (some bd) bd s rs c) (h0 : 0 ≤ s) (he : ∀ x m, Las ps (some bd) s x m → x ≤ bd → Las ps none 0 x m) {us : UsT} (ha : Att us (RealN ps)) : Att (noteAll ps (some bd) us (stepsOf rs)) (RealN ps) := by
  refine att_all ha fun st hs => ?_
  obtain ⟨g1, g2, g3, g4⟩ := lvl_met h st hs
  have hnn := wp_nn hp g4
  unfold useO
  by_cases c : 0 < st.2
  · rw [if_pos c]
    refine ⟨st.1, some (st.1 + st.2 - 1), by omega, he _ _ (las_of g1 (.own g4 c)) g3, rfl, rfl, ?_⟩
    show some (st.2 - 1) = some (st.1 + st.2 - 1 - st.1)
    congr 1
    omega
  · rw [if_neg c]
    have e0 : st.2 = 0 := by omega
    rw [e0] at g4
    exact ⟨st.1, some bd, by omega, he _ _ (las_of g1 (.spare g4)) g3, rfl, rfl, rfl⟩
theorem root_attN {ps : List PieceT} (hp : PsOk ps) {stop c : Int} {rs : List RunT} (h : Lvl ps none stop 0 rs c) {us : UsT} (ha : Att us (RealN ps)) : Att (noteAll ps none us (stepsOf rs)) (RealN ps) := by
  refine att_all ha fun st hs => ?_
  obtain ⟨g1, g2, g3, g4⟩ := lvl_met h st hs
  have hnn := wp_nn hp g4
  unfold useO
  by_cases c : 0 < st.2
  · rw [if_pos c]
    refine ⟨st.1, some (st.1 + st.2 - 1), by omega, las_of g1 (.own g4 c), rfl, rfl, ?_⟩
    show some (st.2 - 1) = some (st.1 + st.2 - 1 - st.1)
    congr 1
    omega
  · rw [if_neg c]
    have e0 : st.2 = 0 := by omega
    rw [e0] at g4
    exact ⟨st.1, none, by omega, las_of g1 (.spare g4), rfl, rfl, rfl⟩
structure PInvN (ps : List PieceT) (stop B : Int) (N : Nat) (us : UsT) (kvs : List (List Key × V)) (S : List StepT) : Prop where
  room : S.length + UF N kvs * N ≤ (64 + N) * N + N
  klen : kvs.length + UF N kvs ≤ 64 + N
  shp : ShpU ps us
  root : ClosedN ps us (Pend ps kvs S) stop
  reps : ∀ k, valV kvs k ≠ none → Repd ps us (Pend ps kvs S) k
  wins : ∀ w ∈ S, GWinN ps B w
  att : Att us (RealN ps)
/-- the uses of a plan without an end -/
structure UsesN (ps : List PieceT) (us : UsT) : Prop where
  shp : ShpU ps us
  cov : ∀ x l, Las ps none 0 x l → Cv ps us x (l.map fun z => z - x)
  att : Att us (RealN ps)
section
variable {ps : List PieceT} {stop B : Int} {N : Nat} {us : UsT} {kvs : List (List Key × V)} {S : List StepT} {w : StepT}
theorem PInvN.init (hp : PsOk ps) (hix : IxOk ps) {M : Int} (hM : ∀ x p : Int, Pt ps x (.int p) → p ≤ M) (hN : stop + 1 ≤ (N : Int)) {rs : List RunT} {c : Int} (h : Lvl ps none stop 0 rs c) (hc : stop < c) (hu : ShpU ps us) (ha : Att us (RealN ps)) : PInvN ps stop (stop + M) N (noteAll ps none us (stepsOf rs)) [] (winsOf (stepsOf rs)) := by
  have h1 := lvl_few h
  have h2 := winsOf_len (stepsOf rs)
  have h3 := UF_le N []
  have h4 : UF N [] * N ≤ (64 + N) * N := Nat.mul_le_mul_right N h3
  exact ⟨by omega, by rw [List.length_nil, Nat.zero_add]; exact h3, hu.all, closed_ofN hp hix h hc hu fun w hw => .inr ⟨w, hw, rfl⟩, fun k hk => absurd rfl hk, root_winsN hp h hM, root_attN hp h ha⟩
theorem PInvN.known (h : PInvN ps stop B N us kvs (S ++ [w])) (hk : valV kvs (kdF ps w.1 w.2) ≠ none) : PInvN ps stop B N us kvs S := by
  have hr := h.room
  rw [List.length_append, List.length_singleton] at hr
  have hK : ∀ k, Pend ps kvs (S ++ [w]) k → Pend ps kvs S k := fun k hh => by
    rcases hh with hh | ⟨w', hw, rfl⟩
    · exact .inl hh
    · rcases List.mem_append.mp hw with hw | hw
      · exact .inr ⟨w', hw, rfl⟩
      · obtain rfl := List.mem_singleton.mp hw
        exact .inl hk
  exact ⟨by omega, h.klen, h.shp, h.root.mono (fun _ _ z => z) hK, fun k hh => (h.reps k hh).mono (fun _ _ z => z) hK, fun w' hw => h.wins w' (List.mem_append_left _ hw), h.att⟩
theorem kd_inN (hp : PsOk ps) (hN : (N : Int) = B + 1) (g : GWinN ps B w) : kdF ps w.1 w.2 ∈ kindsN N := by
  obtain ⟨p, p0, ⟨pc, hf, _⟩, e⟩ := g.pt
  have h1 := g.lo
  have h2 := g.hi
  have hone : [Sum.inl w.1] ∈ kindsN N := List.mem_append_right _ (List.mem_map.mpr ⟨w.1.toNat, List.mem_range.mpr (by omega), by rw [show ((w.1.toNat : Nat) : Int) = w.1 by omega]⟩)
  unfold kdF
  rw [hf]
  dsimp only
  split
  · have hi := find_ixP hf
    have hl : ixP ps w.1 < ps.length := (List.getElem?_eq_some_iff.mp hi).1
    have l8 := hp.len
    obtain ⟨t1, t8, _⟩ := hp.turns pc (List.mem_of_find?_eq_some hf)
    have ht : tnP ps w.1 < 8 := by
      rw [tnP_of hf]
      have h1 : tnI pc.1 pc.2.2.length w.1 < (pc.2.2.length : Int) := Int.emod_lt_of_pos _ (by omega)
      omega
    exact List.mem_append_left _ (codes_in (by omega) ht)
  · exact hone
theorem PInvN.new (hp : PsOk ps) (hix : IxOk ps) (hN : (N : Int) = B + 1) (h : PInvN ps stop B N us kvs (S ++ [w])) (hk : valV kvs (kdF ps w.1 w.2) = none) {rs : List RunT} {c : Int} (hl : Lvl ps (some w.2) w.2 (w.1 + 1) rs c) (hc : w.2 < c) {v : V} :
    PInvN ps stop B N (noteAll ps (some w.2) us (stepsOf rs)) (putK kvs (kdF ps w.1 w.2) v) (S ++ winsOf (stepsOf rs)) ∧ UF N (putK kvs (kdF ps w.1 w.2) v) < UF N kvs := by
  have g := h.wins w (List.mem_append_right _ List.mem_cons_self)
  have hlt := UF_lt (v := v) (kd_inN hp hN g) hk
  have hr := h.room
  have hkl := h.klen
  rw [List.length_append, List.length_singleton] at hr
  have h1 := lvl_few hl
  have h2 := winsOf_len (stepsOf rs)
  have g1 := g.lo
  have g2 := g.hi
  have h3 := length_putK kvs (kdF ps w.1 w.2) v
  have h4 : (UF N (putK kvs (kdF ps w.1 w.2) v) + 1) * N ≤ UF N kvs * N := Nat.mul_le_mul_right N (by omega)
  rw [Nat.add_mul, Nat.one_mul] at h4
  have hK : ∀ k, Pend ps kvs (S ++ [w]) k → Pend ps (putK kvs (kdF ps w.1 w.2) v) (S ++ winsOf (stepsOf rs)) k := fun k hh => by
    by_cases ck : k = kdF ps w.1 w.2
    · exact .inl (by rw [valV_put, if_pos ck]; simp)
    rcases hh with hh | ⟨w', hw, rfl⟩
    · exact .inl (by rw [valV_put, if_neg ck]; exact hh)
    · rcases List.mem_append.mp hw with hw | hw
      · exact .inr ⟨w', List.mem_append_left _ hw, rfl⟩
      · obtain rfl := List.mem_singleton.mp hw
        exact absurd rfl ck
  have hu : ∀ x u, Cv ps us x u → Cv ps (noteAll ps (some w.2) us (stepsOf rs)) x u := fun x u z => z.all
  obtain ⟨p, p0, hpt, e⟩ := g.pt
  refine ⟨⟨by rw [List.length_append]; omega, by omega, h.shp.all, h.root.mono hu hK, fun k hh => ?_, fun w' hw => ?_, lvl_attN hp hl (by omega) g.emb h.att⟩, hlt⟩
  · by_cases ck : k = kdF ps w.1 w.2
    · refine ⟨w.1, p, g1, p0, hpt, by rw [ck, e], ?_⟩
      rw [← e]
      exact closed_of hp hix hl hc (by omega) h.shp fun w' hw => .inr ⟨w', List.mem_append_right _ hw, rfl⟩
    · rw [valV_put, if_neg ck] at hh
      exact (h.reps k hh).mono hu hK
  · rcases List.mem_append.mp hw with hw | hw
    · exact h.wins w' (List.mem_append_left _ hw)
    · exact lvl_winsN hp hl (by omega) g2 g.emb w' hw
theorem PInvN.fin (hp : PsOk ps) (hix : IxOk ps) {f F m : Int} (hr : RoundOk ps f F m) (hs : stop = F + m - 1) (h : PInvN ps stop B N us kvs []) : UsesN ps us := by
  have hK : ∀ k, Pend ps kvs [] k → Repd ps us (Pend ps kvs []) k := fun k hk => by
    rcases hk with hk | ⟨w', hw, _⟩
    · exact h.reps k hk
    · cases hw
  refine ⟨h.shp, fun x l hl => ?_, h.att⟩
  obtain ⟨y, l', g1, g2, g3, g4, g5, g6⟩ := hr.back _ x l (Nat.le_refl _) hl
  have hc := cover_root hp hix hK h.root y l' g3 (by omega)
  rw [g6] at hc
  exact hc.le g4.symm g5.symm (.inr fun m em => ⟨m, em, Int.le_refl _⟩)
end
/-! ### the round that round_in tells -/
theorem rnd_rch {ps : List PieceT} {f n : Int} {met : List Int} {x : Int} {r : Int × Int} (h : Rnd ps f n met x r) : ∀ x0 : Int, (∀ y ∈ met, Rch ps none x0 y ∧ Rch ps none y x ∧ y < x) → Rch ps none x0 x → Rch ps none x0 r.1 ∧ Rch ps none r.1 (r.1 + r.2) ∧ 1 ≤ r.2 ∧ trn f n r.1 = trn f n (r.1 + r.2) := by
  induction h with
  | @done met x y hy e =>
    intro x0 hm _
    obtain ⟨h1, h2, h3⟩ := hm y hy
    refine ⟨h1, ?_, by show 1 ≤ x - y; omega, ?_⟩
    · show Rch ps none y (y + (x - y))
      rw [show y + (x - y) = x by omega]
      exact h2
    · show trn f n y = trn f n (y + (x - y))
      rw [show y + (x - y) = x by omega]
      exact e
  | @on met x w r hn hw _ ih =>
    intro x0 hm hx
    refine ih x0 (fun y hy => ?_) (rch_trans hx (.on hw (.here _)))
    rcases List.mem_append.mp hy with hy | hy
    · obtain ⟨h1, h2, h3⟩ := hm y hy
      exact ⟨h1, rch_trans h2 (.on hw (.here _)), by omega⟩
    · rw [List.mem_singleton.mp hy]
      exact ⟨hx, .on hw (.here _), by omega⟩
theorem rnd_hi {ps : List PieceT} {f n M : Int} {met : List Int} {x : Int} {r : Int × Int} (hw : ∀ y w, WP ps none y w → max w 1 ≤ M) (h : Rnd ps f n met x r) : (met.map (trn f n)).Nodup → (∀ y ∈ met, 0 ≤ trn f n y ∧ trn f n y < n) → 1 ≤ M → 0 < n → r.1 + r.2 ≤ x + M * (n - met.length) := by
  induction h with
  | @done met x y hy e =>
    intro hd hb hM hn
    have hp := pig n.toNat _ hd fun z hz => by
      obtain ⟨y, hy, rfl⟩ := List.mem_map.mp hz
      have := hb y hy
      omega
    rw [List.length_map] at hp
    have : 0 ≤ M * (n - met.length) := Int.mul_nonneg (by omega) (by omega)
    show y + (x - y) ≤ _
    omega
  | @on met x w r hne hwx _ ih =>
    intro hd hb hM hn
    have hwM := hw x w hwx
    have i := ih (by
      rw [List.map_append, List.nodup_append]
      refine ⟨hd, by simp, fun a ha b hb2 e => ?_⟩
      obtain ⟨y, hy, rfl⟩ := List.mem_map.mp ha
      rw [List.map_cons, List.map_nil, List.mem_singleton] at hb2
      exact hne y hy (by rw [e, hb2])) (fun y hy => by
      rcases List.mem_append.mp hy with hy | hy
      · exact hb y hy
      · rw [List.mem_singleton.mp hy]
        exact ⟨Int.emod_nonneg _ (by omega), Int.emod_lt_of_pos _ hn⟩) hM hn
    rw [List.length_append, List.length_singleton] at i
    have e : M * (n - ((met.length + 1 : Nat) : Int)) = M * (n - met.length) - M := by
      rw [show n - ((met.length + 1 : Nat) : Int) = n - met.length - 1 by push_cast; omega, Int.mul_sub, Int.mul_one]
    rw [e] at i
    omega
theorem fst_hi {ps : List PieceT} {f x M : Int} (hw : ∀ y w, WP ps none y w → max w 1 ≤ M) (h0 : 0 ≤ f) (h : Fst ps f x) (hM : 1 ≤ M) : x ≤ f + M := by
  -- whoever is met ahead of x is ahead of f
  have go : ∀ {s y : Int}, Rch ps none s y → (∀ z, Rch ps none s z → z < y → z < f) → s ≤ f → y ≤ f + M := by
    intro s y hr
    induction hr with
    | here => intro _ hs; omega
    | @on s y w h1 h2 ih =>
      intro hz hs
      have hle := rch_le h2
      by_cases c : s + max w 1 ≤ f
      · exact ih (fun z h3 h4 => hz z (.on h1 h3) h4) c
      · have hwM := hw s w h1
        by_cases e : s + max w 1 < y
        · have := hz (s + max w 1) (.on h1 (.here _)) e
          omega
        · omega
  exact go h.1 (fun z hz hlt => by
    by_cases c : z < f
    · exact c
    · have := h.2.2 z hz (by omega)
      omega) h0
theorem round_ok {ps : List PieceT} {pc : PieceT} {F m : Int} (hp : PsOk ps) (hix : IxOk ps) (f0 : 0 ≤ pc.1) (hcome : ∀ y, pc.1 ≤ y → ps.find? (comes y) = some pc) (hM : ∀ x p : Int, Pt ps x (.int p) → p ≤ 16) (h : RndR ps pc.1 (pc.2.2.length : Int) (F, m)) : RoundOk ps pc.1 F m ∧ F + m ≤ pc.1 + 153 := by
  obtain ⟨x0, hF, hR⟩ := h
  have hmem := List.mem_of_find?_eq_some (hcome pc.1 (Int.le_refl _))
  obtain ⟨t1, t8, _⟩ := hp.turns pc hmem
  obtain ⟨r1, r2, r3, r4⟩ := rnd_rch hR x0 (fun y hy => nomatch hy) (.here _)
  have hw : ∀ y w, WP ps none y w → max w 1 ≤ 17 := fun y w h => by
    by_cases c : 0 < w
    · obtain ⟨p, hpt, e, _⟩ := wp_pos h c
      have := hM y p hpt
      omega
    · omega
  have h1 := fst_hi hw f0 hF (by decide)
  have h2 := rnd_hi hw hR List.nodup_nil (fun y hy => nomatch hy) (by decide) (by omega)
  have h2 : F + m ≤ x0 + 17 * ((pc.2.2.length : Int) - 0) := h2
  have r1 : Rch ps none x0 F := r1
  have r2 : Rch ps none F (F + m) := r2
  have r3 : 1 ≤ m := r3
  have r4 : (F - pc.1) % (pc.2.2.length : Int) = (F + m - pc.1) % (pc.2.2.length : Int) := r4
  have hle := rch_le r1
  have hmz : m % (pc.2.2.length : Int) = 0 := by
    have := Int.dvd_sub_of_emod_eq' r4.symm
    rw [show F + m - pc.1 - (F - pc.1) = m by omega] at this
    exact Int.emod_eq_zero_of_dvd this
  have htn : ∀ y, tnI pc.1 pc.2.2.length (y + m) = tnI pc.1 pc.2.2.length y := fun y => by
    unfold tnI
    rw [show y + m - pc.1 = y - pc.1 + m by omega, Int.add_emod, hmz, Int.add_zero, Int.emod_emod_of_dvd _ (Int.dvd_refl _)]
  have hF2 := hF.2.1
  refine ⟨⟨f0, by omega, r3, rch_trans hF.1 r1, r2, fun y τ hy => ?_, fun y hy => ?_, fun y hy => ?_⟩, by omega⟩
  · constructor
    · rintro ⟨q, h3, h4⟩
      rw [hcome (y + m) (by omega)] at h3
      cases h3
      exact ⟨_, hcome y hy, by rw [← htn y]; exact h4⟩
    · rintro ⟨q, h3, h4⟩
      rw [hcome y hy] at h3
      cases h3
      exact ⟨_, hcome (y + m) (by omega), by rw [htn y]; exact h4⟩
  · exact (hix (ixP ps y) (y + m) pc (by omega) (hcome _ (by omega)) (find_ixP (hcome y hy))).symm
  · rw [tnP_of (hcome y hy), tnP_of (hcome (y + m) (by omega)), htn]
end CL
set_option Elab.async false
set_option linter.all false
set_option pp.maxSteps 900
set_option maxRecDepth 100000
set_option maxHeartbeats 4000000
namespace CL
open PySem PySem.Spec PyProof.Rows L2 GE
abbrev sRoundIn : Stmt := topS 28
theorem scRoundIn : FnScope ["pieces", "first", "past", "turns", "person", "here", "width", "met", "turn", "earlier"] ["pieces"] (defScope sRoundIn) := ⟨rfl, rfl, rfl, by decide +kernel, rfl, by decide +kernel, by decide +kernel⟩
theorem sumD_nn : ∀ {ds : List PyData}, ds.all isPiece = true → 0 ≤ sumSnd ds
  | [], _ => Int.le_refl 0
  | d :: ds, h => by
    rw [List.all_cons, Bool.and_eq_true] at h
    have ih := sumD_nn h.2
    have := worth_snd h.1
    show 0 ≤ worth (sndD d) + sumSnd ds
    omega
theorem sum_app (ds : List PyData) (d : PyData) : sumSnd (ds ++ [d]) = sumSnd ds + worth (sndD d) := by
  unfold sumSnd
  rw [List.map_append, List.sum_append]
  simp
/-- where the last piece begins -/
theorem first_ok {d : PyData} (h : isPlan d = true) {ps : List PieceT} {pc : PieceT} (e : piecesOf d = ps ++ [pc]) : 0 ≤ pc.1 ∧ pc.1 ≤ GREAT := by
  obtain ⟨ds, _, e2, l1, l8, hpc, hno, hsum⟩ := plan_parts h
  rw [e2] at e
  obtain ⟨ds', dl, rfl⟩ : ∃ ds' dl, ds = ds' ++ [dl] := by
    have : ds ≠ [] := fun z => by rw [z] at l1; exact absurd l1 (by decide)
    exact ⟨ds.dropLast, ds.getLast this, (List.dropLast_concat_getLast this).symm⟩
  rw [pcs_snoc] at e
  have e3 := congrArg List.getLast? e
  rw [List.getLast?_concat, List.getLast?_concat] at e3
  have e4 := Option.some.inj e3
  rw [List.all_append, Bool.and_eq_true] at hpc
  have h1 := sumD_nn hpc.1
  rw [sum_app] at hsum
  have h2 : 0 ≤ worth (sndD dl) := worth_snd (by have := hpc.2; rw [List.all_cons, Bool.and_eq_true] at this; exact this.1)
  rw [← e4]
  show 0 ≤ 0 + sumSnd ds' ∧ 0 + sumSnd ds' ≤ GREAT
  omega
theorem set_c {v : V} {i : Nat} {B : TS} {D : Ends} {σ : L2.St} {H : Hp} (h : B D (σ.set i (some v)) H) : tSeq (tAsg (tC v) (gName i)) B D σ H := h
theorem Y_seq {A B : TS} {D : Ends} {σ : L2.St} {H : Hp} (h : ∀ nx : L2.St → Hp → Prop, (∀ σ' H', B D σ' H' → nx σ' H') → A { D with nx := nx } σ H) : tSeq A B D σ H := h (B D) fun _ _ z => z
def spRoundIn : Sp := fun vs H Q _ => ∃ a ps pc, vs = [.ref a] ∧ PcsAt H a (ps ++ [pc]) ∧ PlOk ps pc ∧ pc.2.1 = none ∧ 0 ≤ pc.1 ∧ pc.1 ≤ GREAT ∧ (∀ y, pc.1 ≤ y → (ps ++ [pc]).find? (comes y) = some pc) ∧ ∀ p b m H', Same H H' → H' p = some (.tup [.int b, .int m]) → RndR (ps ++ [pc]) pc.1 (pc.2.2.length : Int) (b, m) → Q (.ref p) H'
section
variable {P : Program} {w : World} {K : PySem.W.Frag} {mg : Str → Option Value} {base : Heap} {CR : Addr}
theorem ok_roundIn {f fI : Addr} {fd : FuncData} (F : Fun K "round_in" "round_in" sRoundIn f fd) (T : Nm mg) (hmax : mg "max" = none) (CRn : Cal P w K mg base 3 "runs_on" ["pieces", "start", "bound", "stop"] (spRuns CR)) (CL : Cal P w K mg base 1 "last_step" ["runs"] (spLast CR)) :
    FnOk P w K mg base CX0 4 f fd ["pieces"] spRoundIn := by
  refine F.ok scRoundIn (fun vs H Q E ⟨a, ps, pc, e, _⟩ => by rw [e]; rfl) (fun cdv A outer s H vs Q E hr h => ?_)
  obtain ⟨a, ps, pc, rfl, hp, hpl, hn, f0, f1, hcome, q⟩ := h
  have nd := scRoundIn.nd
  have hu := hu1 hr
  have sz := sz5000
  have hG : GREAT = 1000000000000000000000000000000 := rfl
  refine ⟨_, (pss_cons (ps_asg (pe_ix ix_seq (pv 0) (pe_un un_neg pe_int) (fun _ _ => rfl)) (pg_tup rfl (pgs_cons (pg_name (i := 1) nd rfl (.inl rfl)) (pgs_cons (pg_name (i := 2) nd rfl (.inl rfl)) (pgs_cons (pg_name (i := 3) nd rfl (.inl rfl)) pgs_nil)))))
    (pss_cons (ps_set (i := 4) nd rfl (.inl rfl) pe_int)
    (pss_cons (ps_if (pt_cmpR op_gt (pv 1) pe_int (nomark _)) (pss_cons (ps_asg (pe_cal (CL.mono (by decide)) hr (by rfl) (pa_cons (pe_cal (CRn.mono (by decide)) hr (by rfl) (pa_cons (pv 0) (pa_cons pe_int (pa_cons pe_non (pa_cons (pe_op op_sub (pv 1) pe_int) pa_nil))))) pa_nil)) (pg_tup rfl (pgs_cons (pg_name (i := 5) nd rfl (.inl rfl)) (pgs_cons (pg_name (i := 6) nd rfl (.inl rfl)) pgs_nil))))
    (pss_one (ps_set (i := 4) nd rfl (.inl rfl) (pe_op op_add (pv 5) (pe_callB (call_max2 rfl) (by rfl) hmax (by decide +kernel) (pa_cons (pv 6) (pa_cons pe_int pa_nil))))))) pss_nil)
    (pss_cons (ps_set (i := 7) nd rfl (.inl rfl) pe_dnewK)
    (pss_cons (ps_while PassesOwn.never (pt_cmp (pc_dnotin hu (pe_op op_mod (pe_op op_sub (pv 4) (pv 1)) (pe_callB call_len_seq (by rfl) T.len PySem.boot_len (pa_cons (pv 3) pa_nil))) (pv 7))) (pss_cons (ps_set (i := 8) nd rfl (.inl rfl) (pe_op op_mod (pe_op op_sub (pv 4) (pv 1)) (pe_callB call_len_seq (by rfl) T.len PySem.boot_len (pa_cons (pv 3) pa_nil))))
    (pss_cons (ps_dput hu (pv 7) (pv 8) (pv 4) rfl)
    (pss_one (ps_aug (i := 4) nd rfl (.inl rfl) (pe_ifExp (pt_cmp (pc_isN (pe_ix ix_tup (pv 3) (pv 8) (fun _ _ => rfl)))) pe_int (pe_op op_add (pe_ix ix_tup (pv 3) (pv 8) (fun _ _ => rfl)) pe_int)) iop_add)))))
    (pss_cons (ps_set (i := 9) nd rfl (.inl rfl) (pe_dget hu (pv 7) (pe_op op_mod (pe_op op_sub (pv 4) (pv 1)) (pe_callB call_len_seq (by rfl) T.len PySem.boot_len (pa_cons (pv 3) pa_nil))) (fun _ _ => rfl)))
    (pss_one (ps_ret (pe_tup (pa_cons (pv 9) (pa_cons (pe_op op_sub (pv 4) (pv 9)) pa_nil))))))))))), ?_⟩
  obtain ⟨xs, b, t, zs, st, hl, hx, hb, ht, hz⟩ := pc_at (i := ps.length) (pc := pc) hp (by simp)
  obtain ⟨h1, h8, hpat⟩ := hpl.ok.turns pc (List.mem_append_right _ (List.mem_singleton.mpr rfl))
  have lz := hz.length
  have hzl : (0 : Int) < (zs.length : Int) := by omega
  obtain ⟨ys, z, rfl⟩ : ∃ ys z, xs = ys ++ [z] := ⟨xs.dropLast, xs.getLast (by intro z; rw [z] at hl; simp at hl), (List.dropLast_concat_getLast _).symm⟩
  have ey : ys.length = ps.length := by simpa using hl
  obtain rfl : z = .ref b := by
    rw [← ey] at hx
    simpa using hx
  have fin : ∀ {Q' : VK}, Q' (.ref b) H → rIx K (.ref a) (.int (-1)) H Q' := fun {Q'} q' => by
    have e1 : atI (ys ++ [V.ref b]) (-1) = some (.ref b) := atI_last _ _
    rcases st.or with h | h
    · exact .inl ⟨a, _, -1, .ref b, rfl, rfl, SqL.of h, e1, q'⟩
    · exact .inr (.inl ⟨a, _, -1, .ref b, rfl, rfl, SqT.of h, e1, q'⟩)
  refine ⟨.ref a, rfl, 1, rfl, fin ?_⟩
  refine ⟨b, _, rfl, SqT.of hb, rfl, .int pc.1, _, rfl, optV pc.2.1, _, rfl, .ref t, _, rfl, rfl, ?_⟩
  rw [hn]
  dsimp only []
  refine set_c ?_
  show tSeq (tIfS _ _ _) _ _ [some (.ref a), some (.int pc.1), some .non, some (.ref t), some (.int 0), none, none, none, none, none] H
  refine Y_seq fun nx hnx => ?_
  have lz' : (zs.length : Int) = (pc.2.2.length : Int) := by omega
  have REST : ∀ (y0 : Int) (y5 y6 : Option V) (H1 : Hp), Same H H1 → Fst (ps ++ [pc]) pc.1 y0 → nx [some (.ref a), some (.int pc.1), some .non, some (.ref t), some (.int y0), y5, y6, none, none, none] H1 := by
    intro y0 y5 y6 H1 s1 hFst
    refine hnx _ _ ?_
    refine fun M nM => ?_
    have s2 := same_upd (o := .dK []) nM
    have eM : (upd H1 M (.dK [])) M = some (.dK []) := upd_same
    have ht1 := s1 _ _ ht
    generalize upd H1 M (.dK []) = H2 at s2 eM
    have htM : t ≠ M := fun z => by rw [z, nM] at ht1; cases ht1
    have ht2 := s2 _ _ ht1
    have hz2 := RpAll.sm (s1.trans s2) hz
    refine ⟨fun k σ H4 => ∃ (y : Int) (y8 : Option V) (kvs : List (Key × V)) (S met : List Int), σ = [some (.ref a), some (.int pc.1), some .non, some (.ref t), some (.int y), y5, y6, some (.ref M), y8, none] ∧ (∀ b o, b ≠ M → H2 b = some o → H4 b = some o) ∧ H4 M = some (.dK kvs) ∧ kvs.length ≤ S.length ∧ S.Nodup ∧ (∀ x ∈ S, 0 ≤ x ∧ x < (zs.length : Int)) ∧
        (∀ n v, valV kvs (Sum.inl n) = some v → n ∈ S ∧ ∃ i : Int, v = .int i ∧ i ∈ met ∧ trn pc.1 (zs.length : Int) i = n) ∧ (∀ z ∈ met, trn pc.1 (zs.length : Int) z ∈ S) ∧ pc.1 ≤ y ∧ (∀ r, Rnd (ps ++ [pc]) pc.1 (zs.length : Int) met y r → Rnd (ps ++ [pc]) pc.1 (zs.length : Int) [] y0 r) ∧ (∀ n ∈ S, (valV kvs (Sum.inl n)).isSome = true) ∧ k = zs.length - S.length,
      ⟨_, y0, none, [], [], [], rfl, fun _ _ _ e => e, eM, Nat.le_refl 0, List.nodup_nil, fun x hx => (nomatch hx), fun n v e => (by cases e), fun z h => (nomatch h), hFst.2.1, fun r h => h, fun n h => (nomatch h), rfl⟩, fun k σ H4 ⟨y, y8, kvs, S, met, eσ, k4, eM4, hkl, hnd, hSb, hS, hmS, hfy, hcps, hknown, hk⟩ => ?_⟩
    subst eσ
    have hpig := pig zs.length S hnd hSb
    have ht4 := k4 _ _ htM ht2
    generalize htn : (y - pc.1) % (zs.length : Int) = tn
    have tn0 : 0 ≤ tn := by rw [← htn]; exact Int.emod_nonneg _ (by omega)
    have tn1 : tn < (zs.length : Int) := by rw [← htn]; exact Int.emod_lt_of_pos _ hzl
    refine ⟨.int y, rfl, .int pc.1, rfl, y, pc.1, rfl, rfl, .ref t, rfl, t, zs, rfl, .inr (SqT.of (ht4)), y - pc.1, _, rfl, rfl, hzl, .ref M, rfl, M, valV kvs (Sum.inl tn), rfl, by rw [← htn]; exact DGet.k (k := Sum.inl ((y - pc.1) % (zs.length : Int))) eM4, _, rfl, ?_⟩
    have kept : Same H H4 := fun b o e => k4 b o (fun z => by rw [z] at e; rw [s1 _ _ e] at nM; cases nM) (s2 _ _ (s1 _ _ e))
    cases hv : valV kvs (Sum.inl tn) with
    | some v0 =>
      obtain ⟨hin, i0, rfl, hmi, hti⟩ := hS tn v0 hv
      refine iteF ?_
      refine ⟨.ref M, rfl, .int y, rfl, .int pc.1, rfl, y, pc.1, rfl, rfl, .ref t, rfl, t, zs, rfl, .inr (SqT.of (ht4)), y - pc.1, _, rfl, rfl, hzl, M, .int i0, rfl, by rw [← hv, ← htn]; exact DGet.k (k := Sum.inl ((y - pc.1) % (zs.length : Int))) eM4, ?_⟩
      exact ⟨.int i0, rfl, .int y, rfl, .int i0, rfl, y, i0, rfl, rfl, small_le (by show 2 ≤ 1000; decide), fun p np => q p i0 (y - i0) _ (kept.trans (same_upd np)) upd_same ⟨y0, hFst, by rw [← lz']; exact hcps _ (.done hmi (by rw [hti, ← htn]; rfl))⟩⟩
    | none =>
      refine iteT ⟨fun σ' H' => ∃ m', m' < k ∧ ∃ (y : Int) (y8 : Option V) (kvs : List (Key × V)) (S met : List Int), σ' = [some (.ref a), some (.int pc.1), some .non, some (.ref t), some (.int y), y5, y6, some (.ref M), y8, none] ∧ (∀ b o, b ≠ M → H2 b = some o → H' b = some o) ∧ H' M = some (.dK kvs) ∧ kvs.length ≤ S.length ∧ S.Nodup ∧ (∀ x ∈ S, 0 ≤ x ∧ x < (zs.length : Int)) ∧
        (∀ n v, valV kvs (Sum.inl n) = some v → n ∈ S ∧ ∃ i : Int, v = .int i ∧ i ∈ met ∧ trn pc.1 (zs.length : Int) i = n) ∧ (∀ z ∈ met, trn pc.1 (zs.length : Int) z ∈ S) ∧ pc.1 ≤ y ∧ (∀ r, Rnd (ps ++ [pc]) pc.1 (zs.length : Int) met y r → Rnd (ps ++ [pc]) pc.1 (zs.length : Int) [] y0 r) ∧ (∀ n ∈ S, (valV kvs (Sum.inl n)).isSome = true) ∧ m' = zs.length - S.length, fun σ' H' ⟨m', h1, h2⟩ => ⟨m', h1, h2⟩, ?_⟩
      have hnew : tn ∉ S → (tn :: S).Nodup := fun z => List.nodup_cons.mpr ⟨z, hnd⟩
      refine ⟨.int y, rfl, .int pc.1, rfl, y, pc.1, rfl, rfl, .ref t, rfl, t, zs, rfl, .inr (SqT.of (ht4)), y - pc.1, _, rfl, rfl, hzl, ?_⟩
      dsimp only [gName]
      show tSeq _ _ _ [some (.ref a), some (.int pc.1), some .non, some (.ref t), some (.int y), y5, y6, some (.ref M), some (.int ((y - pc.1) % (zs.length : Int))), none] H4
      rw [htn]
      refine ⟨.int y, rfl, .ref M, rfl, .int tn, rfl, M, _, rfl, DPut.k (k := Sum.inl tn) eM4 (by omega), ?_⟩
      have k5 : ∀ b o, b ≠ M → H2 b = some o → (upd H4 M (.dK (putK kvs (Sum.inl tn) (.int y)))) b = some o := fun b o n e => by rw [upd_ne n]; exact k4 b o n e
      have ht5 : (upd H4 M (.dK (putK kvs (Sum.inl tn) (.int y)))) t = some (.tup zs) := k5 _ _ htM ht2
      have eM5 : (upd H4 M (.dK (putK kvs (Sum.inl tn) (.int y)))) M = some (.dK (putK kvs (Sum.inl tn) (.int y))) := upd_same
      generalize upd H4 M (.dK (putK kvs (Sum.inl tn) (.int y))) = H5 at k5 ht5 eM5
      obtain ⟨tk, rfl⟩ : ∃ tk : Nat, tn = (tk : Int) := ⟨tn.toNat, by omega⟩
      have tkl : tk < zs.length := by omega
      obtain ⟨dz, hdz, hrz⟩ := hz2.get (List.getElem?_eq_getElem tkl)
      have hpz := hpat dz (List.mem_of_getElem? hdz)
      have hpt : Pt (ps ++ [pc]) y dz := ⟨pc, hcome y hfy, by
        show pc.2.2[((y - pc.1) % (pc.2.2.length : Int)).toNat]? = _
        rw [← lz', htn]
        exact hdz⟩
      have next : ∀ y' wy : Int, WP (ps ++ [pc]) none y wy → y' = y + max wy 1 → ∃ m', m' < k ∧ ∃ (y : Int) (y8 : Option V) (kvs : List (Key × V)) (S met : List Int), [some (.ref a), some (.int pc.1), some .non, some (.ref t), some (.int y'), y5, y6, some (.ref M), some (.int (tk : Int)), none] = [some (.ref a), some (.int pc.1), some .non, some (.ref t), some (.int y), y5, y6, some (.ref M), y8, none] ∧ (∀ b o, b ≠ M → H2 b = some o → H5 b = some o) ∧ H5 M = some (.dK kvs) ∧ kvs.length ≤ S.length ∧ S.Nodup ∧ (∀ x ∈ S, 0 ≤ x ∧ x < (zs.length : Int)) ∧
          (∀ n v, valV kvs (Sum.inl n) = some v → n ∈ S ∧ ∃ i : Int, v = .int i ∧ i ∈ met ∧ trn pc.1 (zs.length : Int) i = n) ∧ (∀ z ∈ met, trn pc.1 (zs.length : Int) z ∈ S) ∧ pc.1 ≤ y ∧ (∀ r, Rnd (ps ++ [pc]) pc.1 (zs.length : Int) met y r → Rnd (ps ++ [pc]) pc.1 (zs.length : Int) [] y0 r) ∧ (∀ n ∈ S, (valV kvs (Sum.inl n)).isSome = true) ∧ m' = zs.length - S.length := fun y' wy hwy ey => by
        by_cases hin : (tk : Int) ∈ S
        · exact absurd hv (by
            have := hknown (tk : Int) hin
            intro z
            rw [z] at this
            cases this)
        · have hpig2 := pig zs.length ((tk : Int) :: S) (hnew hin) (fun x hx => by
            rcases List.mem_cons.mp hx with rfl | hx
            · exact ⟨tn0, tn1⟩
            · exact hSb x hx)
          rw [List.length_cons] at hpig2
          refine ⟨zs.length - (S.length + 1), by omega, y', _, _, (tk : Int) :: S, met ++ [y], rfl, k5, eM5, ?_, hnew hin, fun x hx => ?_, fun n v e => ?_, fun z hz => ?_, by omega, fun r hr => hcps r (.on (fun z hz e => hin (by have h3 := hmS z hz; rw [e] at h3; rw [← htn]; exact h3)) hwy (by rw [← ey]; exact hr)), fun n h => ?_, rfl⟩
          · have := length_putK kvs (Sum.inl (tk : Int)) (.int y)
            rw [List.length_cons]
            omega
          · rcases List.mem_cons.mp hx with rfl | hx
            · exact ⟨tn0, tn1⟩
            · exact hSb x hx
          · rw [valV_put] at e
            by_cases c : (Sum.inl n : Key) = Sum.inl (tk : Int)
            · rw [if_pos c] at e
              cases e
              exact ⟨by rw [Sum.inl.inj c]; exact List.mem_cons_self, y, rfl, List.mem_append_right _ List.mem_cons_self, by rw [Sum.inl.inj c]; exact htn⟩
            · rw [if_neg c] at e
              obtain ⟨h1, i1, h2, h3, h4⟩ := hS n v e
              exact ⟨List.mem_cons_of_mem _ h1, i1, h2, List.mem_append_left _ h3, h4⟩
          · rcases List.mem_append.mp hz with hz | hz
            · exact List.mem_cons_of_mem _ (hmS z hz)
            · rw [List.mem_singleton.mp hz]
              show (y - pc.1) % (zs.length : Int) ∈ _
              rw [htn]
              exact List.mem_cons_self
          · rw [valV_put]
            by_cases c : (Sum.inl n : Key) = Sum.inl (tk : Int)
            · rw [if_pos c]; rfl
            · rw [if_neg c]
              rcases List.mem_cons.mp h with rfl | h
              · exact absurd rfl c
              · exact hknown n h
      have hIx : ∀ {Q' : VK}, Q' zs[tk] H5 → True := fun _ => trivial
      rcases pat_val hrz hpz with ⟨edz, hvz⟩ | ⟨p1, edz, hvz, hp10, hp11⟩
      · refine ⟨.int y, rfl, .ref t, rfl, .int (tk : Int), rfl, t, zs, (tk : Int), .non, rfl, rfl, SqT.of ht5, atI_nat (by rw [List.getElem?_eq_getElem tkl, hvz]), _, rfl, iteT ?_⟩
        exact ⟨y, 1, rfl, rfl, next _ 0 (by rw [edz] at hpt; exact pt_wp none hpt) (by omega)⟩
      · refine ⟨.int y, rfl, .ref t, rfl, .int (tk : Int), rfl, t, zs, (tk : Int), .int p1, rfl, rfl, SqT.of ht5, atI_nat (by rw [List.getElem?_eq_getElem tkl, hvz]), _, rfl, iteF ?_⟩
        refine ⟨.ref t, rfl, .int (tk : Int), rfl, t, zs, (tk : Int), .int p1, rfl, rfl, SqT.of ht5, atI_nat (by rw [List.getElem?_eq_getElem tkl, hvz]), p1, 1, rfl, rfl, ?_⟩
        exact ⟨y, p1 + 1, rfl, rfl, next _ (p1 + 1) (by rw [edz] at hpt; exact pt_wp none hpt) (by omega)⟩
  refine ⟨.int pc.1, rfl, pc.1, 0, rfl, rfl, _, rfl, ite2 (fun e => ?_) (fun e => REST 0 none none H (Same.refl H) (by
    have : ¬ pc.1 > 0 := fun z => e (decide_eq_true z)
    rw [show pc.1 = 0 by omega]
    exact fst_zero))⟩
  have hpos : pc.1 > 0 := of_decide_eq_true e
  refine ⟨.ref a, rfl, .int pc.1, rfl, pc.1, 1, rfl, rfl, a, ps ++ [pc], 0, pc.1 - 1, none, rfl, hp, hpl.ok, Int.le_refl 0, fun x h1 h2 => hpl.find x (by rw [hn]; rfl), breaks_lt hpl.ok hpl.past (by omega) (fun k e => by cases e), fun D ws rs cc H5 s5 n5 e5 ra lv hc hlr hrn => ?_⟩
  refine ⟨D, ws, ps ++ [pc], none, 0, pc.1 - 1, cc, rs, rfl, e5, ra, fun z => by have := hrn z; omega, lv, hpl.ok, Int.le_refl 0, by omega, fun x w p2 H6 s6 e6 hx hx0 hws hxc => ?_⟩
  refine ⟨p2, _, rfl, SqT.of e6, rfl, .int x, _, rfl, .int w, _, rfl, rfl, ?_⟩
  exact ⟨.int x, rfl, .int w, rfl, w, 1, rfl, x, _, rfl, rfl, REST _ _ _ H6 (s5.trans s6) (by
    have h3 : pc.1 - 1 < cc := hc
    have h1 : x ≤ pc.1 - 1 := hws.1
    rw [show (x + if (1 : Int) > w then 1 else w) = x + max w 1 by split <;> omega]
    exact fst_step hx hws.2 (by omega) (by omega))⟩
end
end CL
set_option Elab.async false
set_option linter.all false
set_option pp.maxSteps 900
set_option maxRecDepth 100000
set_option maxHeartbeats 4000000
namespace CL
open PySem PySem.Spec PyProof.Rows L2 GE
abbrev sUsedIn : Stmt := topS 30
abbrev nUsedIn : List Str := ["pieces", "used", "bound", "stop", "windows", "known", "opener", "last", "kind", "first", "many", "patience", "past", "turns"]
theorem scUsedIn : FnScope nUsedIn ["pieces"] (defScope sUsedIn) := ⟨rfl, rfl, rfl, by decide +kernel, rfl, by decide +kernel, by decide +kernel⟩
theorem pi_tup_blk {X : Cx} {s : Shared} {H : Hp} {scope : Scope} {cenv : Env} {fp : List Addr} {tg l : Expr} {tl : TE} (hl : PE (X.blk s H scope cenv fp) l tl) : PI (X.blk s H scope cenv fp) tg l (iTup X.K tl) := pi_tup hl
def zeroU (ps : List PieceT) : UsT := ps.map fun pc => pc.2.2.map fun _ => some 0
theorem zero_shp (ps : List PieceT) : ShpU ps (zeroU ps) := ⟨by unfold zeroU; rw [List.length_map], fun i u pc hu hp => by
  unfold zeroU at hu
  rw [List.getElem?_map, hp] at hu
  have hu : (pc.2.2.map fun _ => (some 0 : Option Int)) = u := Option.some.inj hu
  rw [← hu, List.length_map]⟩
theorem zero_att (ps : List PieceT) (R : Nat → Nat → Option Int → Prop) : Att (zeroU ps) R := fun i t o e => by
  unfold uget zeroU at e
  rw [List.getElem?_map] at e
  cases h : ps[i]? with
  | none => rw [h] at e; cases e
  | some pc =>
    rw [h] at e
    have e : (pc.2.2.map fun _ => (some 0 : Option Int))[t]? = some o := e
    rw [List.getElem?_map] at e
    cases h2 : pc.2.2[t]? with
    | none => rw [h2] at e; cases e
    | some d => rw [h2] at e; exact .inl (Option.some.inj e).symm
theorem kd_eq {ps : List PieceT} {pc : PieceT} {x l : Int} {i : Nat} {ks : List Key} (hix : IxOk ps) (hps : PsOk ps) (hf : ps.find? (comes x) = some pc) (h0 : 0 ≤ x) (hi : ps[i]? = some pc)
    (h : (ks = [Sum.inl (i : Int), Sum.inl (tnI pc.1 pc.2.2.length x)] ∧ ∀ m, pc.2.1 = some m → l < m) ∨ (ks = [Sum.inl x] ∧ ∃ m, pc.2.1 = some m ∧ m ≤ l)) : ks = kdF ps x l := by
  unfold kdF
  rw [hf]
  dsimp only
  obtain ⟨t1, _, _⟩ := hps.turns pc (List.mem_of_find?_eq_some hf)
  have n0 : 0 ≤ tnI pc.1 pc.2.2.length x := Int.emod_nonneg _ (by omega)
  rcases h with ⟨rfl, h⟩ | ⟨rfl, m, h1, h2⟩
  · have c : comes l pc = true := by
      unfold comes
      cases e : pc.2.1 with
      | none => rfl
      | some m => exact decide_eq_true (h m e)
    rw [if_pos c, ← hix i x pc h0 hf hi, tnP_of hf, show (((tnI pc.1 pc.2.2.length x).toNat : Nat) : Int) = tnI pc.1 pc.2.2.length x by omega]
  · have c : ¬ comes l pc = true := fun z => by
      have := comes_lt z m h1
      omega
    rw [if_neg c]
theorem StAt.last {H : Hp} {vs : List V} {S : List StepT} (h : StAt H vs S) (hn : vs ≠ []) : ∃ vs0 b S0 w, vs = vs0 ++ [.ref b] ∧ S = S0 ++ [w] ∧ StAt H vs0 S0 ∧ H b = some (.tup [.int w.1, .int w.2]) := by
  have hl := h.len
  have hS : S ≠ [] := fun z => hn (List.length_eq_zero_iff.mp (by rw [hl, z]; rfl))
  have hpos := List.length_pos_iff.mpr hS
  obtain ⟨w, hw⟩ : ∃ w, S[S.length - 1]? = some w := ⟨_, List.getElem?_eq_getElem (by omega)⟩
  obtain ⟨b, hb1, hb2⟩ := h.at_ _ w hw
  have e1 : vs = vs.take (S.length - 1) ++ [.ref b] := by
    have := List.take_add_one (l := vs) (i := S.length - 1)
    rw [hb1, List.take_of_length_le (by omega)] at this
    exact this
  have e2 : S = S.take (S.length - 1) ++ [w] := by
    have := List.take_add_one (l := S) (i := S.length - 1)
    rw [hw, List.take_of_length_le (by omega)] at this
    exact this
  exact ⟨_, b, _, w, e1, e2, h.take _, hb2⟩
theorem StAt.app {H : Hp} {vs ws : List V} {S T : List StepT} (h : StAt H vs S) (h' : StAt H ws T) : StAt H (vs ++ ws) (S ++ T) := ⟨by rw [List.length_append, List.length_append, h.len, h'.len], fun i s hs => by
  by_cases c : i < S.length
  · rw [List.getElem?_append_left c] at hs
    obtain ⟨b, h1, h2⟩ := h.at_ i s hs
    exact ⟨b, by rw [List.getElem?_append_left (by rw [h.len]; exact c)]; exact h1, h2⟩
  · rw [List.getElem?_append_right (by omega)] at hs
    obtain ⟨b, h1, h2⟩ := h'.at_ _ s hs
    exact ⟨b, by rw [List.getElem?_append_right (by rw [h.len]; omega), h.len]; exact h1, h2⟩⟩
def spUsedN : Sp := fun vs H Q _ => ∃ a ps pc, vs = [.ref a] ∧ PcsAt H a (ps ++ [pc]) ∧ PlOk ps pc ∧ IxOk (ps ++ [pc]) ∧ pc.2.1 = none ∧ 0 ≤ pc.1 ∧ pc.1 ≤ 400 ∧ (∀ y, pc.1 ≤ y → (ps ++ [pc]).find? (comes y) = some pc) ∧ (∀ x p : Int, Pt (ps ++ [pc]) x (.int p) → p ≤ 16) ∧
  ∀ A bs us H', Same H H' → H A = none → (∀ b ∈ bs, H b = none) → UsAt H' A bs us → UsesN (ps ++ [pc]) us → (∃ F m, RoundOk (ps ++ [pc]) pc.1 F m ∧ F + m ≤ pc.1 + 153) → Q (.ref A) H'
section
variable {P : Program} {w : World} {K : PySem.W.Frag} {mg : Str → Option Value} {base : Heap}
theorem ok_usedN {f C : Addr} {fd : FuncData} (Fu : Fun K "used_in" "used_in" sUsedIn f fd) (CRi : Cal P w K mg base 4 "round_in" ["pieces"] spRoundIn) (COb : Cal P w K mg base 2 "outer_bound" ["pieces"] spBnd) (CUl : Cal P w K mg base 4 "use_level" ["pieces", "start", "bound", "stop", "used"] (spLevel C)) (CWk : Cal P w K mg base 3 "window_kind" ["pieces", "opener", "last"] spKind) :
    FnOk P w K mg base CX0 5 f fd ["pieces"] spUsedN := by
  refine Fu.ok scUsedIn (fun vs H Q E ⟨a, ps, pc, e, _⟩ => by rw [e]; rfl) (fun cdv A0 outer s H vs Q E hr h => ?_)
  obtain ⟨a, ps, pc, rfl, hp, hpl, hix, em, f0, f4, hcome, hM, q⟩ := h
  have nd := scUsedIn.nd
  have hu := hu1 hr
  refine ⟨_, (pss_cons (ps_setLc (i := 1) (own := [("first", 9), ("past", 12), ("turns", 13)]) (g := (gTup K 3 (gCons (gName 9) (gCons (gName 12) (gCons (gName 13) gNil))))) (tt := tYes) rfl nd rfl rfl (sw_true rfl rfl rfl (by decide +kernel)) (pi_list (pv 0)) (blkOk_by (own := [("first", 9), ("past", 12), ("turns", 13)]) (N := nUsedIn) (sc := (defScope sUsedIn)) (by decide +kernel)) (fun _ _ _ _ _ => (pg_tup rfl (pgs_cons (pg_name (i := 9) nd rfl (.inl rfl) (.inr rfl)) (pgs_cons (pg_name (i := 12) nd rfl (.inl rfl) (.inr rfl)) (pgs_cons (pg_name (i := 13) nd rfl (.inl rfl) (.inr rfl)) pgs_nil))))) (fun _ _ _ _ _ => pts_nil) (fun _ _ _ _ _ => (pe_lc (own := [("patience", 11)]) (g := (gName 11)) (tt := tYes) rfl nd (pi_tup_blk (pv 13)) (blkOk_by (own := [("patience", 11)]) (N := nUsedIn) (by rfl)) (fun _ _ _ _ _ => (pg_name (i := 11) nd rfl (.inl rfl))) (fun _ _ _ _ _ => pts_nil) (fun _ _ _ _ _ => pe_int))))
      (pss_cons (ps_set (i := 2) nd rfl (.inl rfl) (pe_cal (COb.mono (by decide)) hr (by rfl) (pa_cons (pv 0) pa_nil)))
      (pss_cons (ps_set (i := 3) nd rfl (.inl rfl) (pv 2))
      (pss_cons (ps_if (pt_cmp (pc_isN (pv 2))) (pss_cons (ps_asg (pe_cal (CRi.mono (by decide)) hr (by rfl) (pa_cons (pv 0) pa_nil)) (pg_tup rfl (pgs_cons (pg_name (i := 9) nd rfl (.inl rfl)) (pgs_cons (pg_name (i := 10) nd rfl (.inl rfl)) pgs_nil))))
      (pss_one (ps_set (i := 3) nd rfl (.inl rfl) (pe_op op_sub (pe_op op_add (pv 9) (pv 10)) pe_int)))) pss_nil)
      (pss_cons (ps_set (i := 4) nd rfl (.inl rfl) (pe_cal (CUl.mono (by decide)) hr (by rfl) (pa_cons (pv 0) (pa_cons pe_int (pa_cons (pv 2) (pa_cons (pv 3) (pa_cons (pv 1) pa_nil)))))))
      (pss_cons (ps_set (i := 5) nd rfl (.inl rfl) pe_dnewT)
      (pss_cons (ps_while PassesOwn.never (pt_truth (pv 4) (by intro _; rfl)) (pss_cons (ps_asg (pe_bm0 PySem.F.plainAttrs_list PySem.F.slot_list_pop PySem.F.type_list_pop mt_pop (pv 4)) (pg_tup rfl (pgs_cons (pg_name (i := 6) nd rfl (.inl rfl)) (pgs_cons (pg_name (i := 7) nd rfl (.inl rfl)) pgs_nil))))
      (pss_cons (ps_set (i := 8) nd rfl (.inl rfl) (pe_cal (CWk.mono (by decide)) hr (by rfl) (pa_cons (pv 0) (pa_cons (pv 6) (pa_cons (pv 7) pa_nil)))))
      (pss_one (ps_if (pt_cmp (pc_dnotin hu (pv 8) (pv 5))) (pss_cons (ps_dput hu (pv 5) (pv 8) pe_bl rfl)
      (pss_one (ps_expr (pe_bm PySem.F.plainAttrs_list PySem.F.slot_list_extend PySem.F.type_list_extend mt_extend (pv 4) (pa_cons (pe_cal (CUl.mono (by decide)) hr (by rfl) (pa_cons (pv 0) (pa_cons (pe_op op_add (pv 6) pe_int) (pa_cons (pv 7) (pa_cons (pv 7) (pa_cons (pv 1) pa_nil)))))) pa_nil))))) pss_nil)))))
      (pss_one (ps_ret (pv 1)))))))))), ?_⟩
  have sz : 1000000 ≤ sizeLine := by decide
  have l8 := hpl.ok.len
  obtain ⟨xs, hxs, hra⟩ := hp.ex
  have hlx : xs.length = (ps ++ [pc]).length := by rw [hra.length, List.length_map]
  refine ⟨.ref a, rfl, a, rfl, ⟨xs, SqL.of hxs⟩, fun A nA => ?_⟩
  refine lc_list (xs := xs) (fun i H5 => ∃ bs : List Addr, Same H H5 ∧ H5 A = some (.lst (bs.map V.ref)) ∧ bs.length = i ∧ bs.Nodup ∧ A ∉ bs ∧ (∀ b ∈ bs, H b = none ∧ H5 b ≠ none) ∧ ∀ (j : Nat) (b : Addr) q, bs[j]? = some b → (ps ++ [pc])[j]? = some q → H5 b = some (.lst ((q.2.2.map fun _ => (some 0 : Option Int)).map optV)))
    ⟨[], same_upd nA, upd_same, rfl, List.nodup_nil, (fun z => nomatch z), (fun b z => nomatch z), fun j b q z => by cases z⟩ (fun i H5 _ ⟨bs, s5, _⟩ => SqL.of (s5 _ _ hxs)) (fun i v H5 hv hP => ?_) (fun H5 hP => ?_)
  · obtain ⟨bs, s5, e5, lb, hnd, hAb, hbn, hrow⟩ := hP
    have hi : i < (ps ++ [pc]).length := by rw [← hlx]; exact (List.getElem?_eq_some_iff.mp hv).1
    obtain ⟨q0, hq0⟩ : ∃ q, (ps ++ [pc])[i]? = some q := ⟨_, List.getElem?_eq_getElem hi⟩
    obtain ⟨xs', b, t, zs, st, _, hx', hb, ht, hz⟩ := pc_at hp hq0
    obtain rfl : xs' = xs := by
      rcases st.or with h | h
      · rw [hxs] at h; cases h; rfl
      · rw [hxs] at h; cases h
    rw [hx'] at hv
    cases hv
    have lz : zs.length = q0.2.2.length := hz.length
    obtain ⟨_, t8, _⟩ := hpl.ok.turns q0 (List.mem_of_getElem? hq0)
    refine ⟨b, _, rfl, SqT.of (s5 _ _ hb), rfl, .int q0.1, _, rfl, optV q0.2.1, _, rfl, .ref t, _, rfl, rfl, rfl, yesT ?_⟩
    refine ⟨.ref t, rfl, t, rfl, ⟨zs, SqT.of (s5 _ _ ht)⟩, fun D nD => ?_⟩
    refine lc_tup (xs := zs) (fun k H6 => H6 = upd H5 D (.lst (List.replicate k (V.int 0)))) rfl (fun k H6 _ e => by rw [e]; exact SqT.of (same_upd nD _ _ (s5 _ _ ht))) (fun k x H6 hx e => ?_) (fun H6 e => ?_)
    · subst e
      have hk : k < zs.length := (List.getElem?_eq_some_iff.mp hx).1
      refine ⟨rfl, yesT ⟨_, upd_same, by rw [List.length_replicate]; omega, ?_⟩⟩
      rw [upd_upd, List.replicate_succ']
    · subst e
      have sD := same_upd (o := .lst (List.replicate zs.length (V.int 0))) nD
      have eD : (upd H5 D (.lst (List.replicate zs.length (V.int 0)))) D = some (.lst (List.replicate zs.length (V.int 0))) := upd_same
      generalize upd H5 D (.lst (List.replicate zs.length (V.int 0))) = H6 at sD eD
      have e6 := sD _ _ e5
      have nDA : D ≠ A := fun z => by rw [z, e5] at nD; cases nD
      have nDb : D ∉ bs := fun z => (hbn D z).2 nD
      have nDH : H D = none := by
        cases z : H D with
        | none => rfl
        | some o => rw [s5 _ _ z] at nD; cases nD
      refine ⟨_, e6, by rw [List.length_map]; omega, bs ++ [D], (fun c o hc => ?_), by rw [upd_same, List.map_append]; rfl, by rw [List.length_append, lb]; rfl, ?_, ?_, fun c hc => ?_, fun j c q hj hq => ?_⟩
      · rw [upd_ne fun z => by rw [z, nA] at hc; cases hc]
        exact sD _ _ (s5 _ _ hc)
      · rw [List.nodup_append]
        exact ⟨hnd, by simp, fun x hx y hy z => nDb (by rw [List.mem_singleton.mp hy] at z; rw [← z]; exact hx)⟩
      · intro z
        rcases List.mem_append.mp z with z | z
        · exact hAb z
        · exact nDA (List.mem_singleton.mp z).symm
      · rcases List.mem_append.mp hc with hc | hc
        · refine ⟨(hbn c hc).1, ?_⟩
          rw [upd_ne fun z => hAb (by rw [← z]; exact hc)]
          intro z
          cases e : H5 c with
          | none => exact (hbn c hc).2 e
          | some o => rw [sD _ _ e] at z; cases z
        · rw [List.mem_singleton.mp hc]
          refine ⟨nDH, ?_⟩
          rw [upd_ne nDA, eD]
          simp
      · by_cases cj : j < bs.length
        · rw [List.getElem?_append_left cj] at hj
          rw [upd_ne fun z => hAb (by rw [← z]; exact List.mem_of_getElem? hj)]
          exact sD _ _ (hrow j c q hj hq)
        · have ej : j = bs.length := by
            have := (List.getElem?_eq_some_iff.mp hj).1
            rw [List.length_append, List.length_singleton] at this
            omega
          subst ej
          rw [List.getElem?_concat_length] at hj
          cases hj
          rw [lb, hq0] at hq
          cases hq
          rw [upd_ne nDA, eD, lz]
          congr 2
          apply List.ext_getElem?
          intro k
          rw [List.getElem?_replicate, List.getElem?_map, List.getElem?_map]
          by_cases ck : k < q0.2.2.length
          · rw [if_pos ck, List.getElem?_eq_getElem ck]; rfl
          · rw [if_neg ck, List.getElem?_eq_none (by omega)]; rfl
  · obtain ⟨bs, s1, e1, lb, hnd, hAb, hbn, hrow⟩ := hP
    have U0 : UsAt H5 A bs (zeroU (ps ++ [pc])) := ⟨e1, by unfold zeroU; rw [List.length_map]; omega, fun j b u hj hu => by
      unfold zeroU at hu
      rw [List.getElem?_map] at hu
      cases hq : (ps ++ [pc])[j]? with
      | none => rw [hq] at hu; cases hu
      | some q0 =>
        rw [hq] at hu
        have hu : (q0.2.2.map fun _ => (some 0 : Option Int)) = u := Option.some.inj hu
        rw [← hu]
        exact hrow j b q0 hj hq, hnd, hAb⟩
    clear hrow
    -- whatever was there ahead stays
    have hid : ∀ {H' : Hp}, Same H H' → PcsAt (Hw (fun x => x ∈ bs) H') a (ps ++ [pc]) := fun {H'} s => hp.smK fun c o hc => by
      rw [Hw.at (W := fun x => x ∈ bs) (fun z => by rw [(hbn c z).1] at hc; cases hc)]
      exact s _ _ hc
    have hfind : ∀ x : Int, ∃ pc', (ps ++ [pc]).find? (comes x) = some pc' := fun x => hpl.find x (by rw [em]; rfl)
    have eB : optV (pc.2.1.map (· - 1)) = .non := by rw [em]; rfl
    show tSeq _ _ _ [some (.ref a), some (.ref A), none, none, none, none, none, none, none, none, none, none, none, none] H5
    refine ⟨.ref a, rfl, a, ps, pc, rfl, hp.smK s1, ?_⟩
    rw [eB]
    refine ⟨.non, rfl, .non, rfl, _, rfl, iteT ?_⟩
    refine ⟨.ref a, rfl, a, ps, pc, rfl, hp.smK s1, hpl, em, f0, by show pc.1 ≤ (1000000000000000000000000000000 : Int); omega, hcome, fun rp F m H5' sr er hRnd => ?_⟩
    obtain ⟨hround, hFm⟩ := round_ok hpl.ok hix f0 hcome hM hRnd
    have hm1 := hround.m1
    have hfF := hround.fF
    refine ⟨rp, _, rfl, SqT.of er, rfl, .int F, _, rfl, .int m, _, rfl, rfl, .int F, rfl, .int m, rfl, F, m, rfl, rfl, F + m, 1, rfl, rfl, ?_⟩
    replace s1 := s1.trans sr
    replace e1 := sr _ _ e1
    replace U0 := U0.same sr
    show tSeq _ _ _ [some (.ref a), some (.ref A), some .non, some (.int (F + m - 1)), none, none, none, none, none, some (.int F), some (.int m), none, none, none] H5'
    obtain ⟨stop, hstop⟩ : ∃ stop, stop = F + m - 1 := ⟨_, rfl⟩
    rw [← hstop]
    obtain ⟨N, hNB⟩ : ∃ N : Nat, (N : Int) = (stop + 16) + 1 := ⟨(stop + 17).toNat, by omega⟩
    have hN : N ≤ 600 := by omega
    have hbr : ∀ b : Int, b ≤ stop + 16 → ∀ y ∈ breaks (ps ++ [pc]) (some b) b, y < 2 ^ 139 := fun b hb => breaks_lt hpl.ok hpl.past (by omega) (fun m e => by cases e; omega)
    have hNN : N * N ≤ 600 * 600 := Nat.mul_le_mul hN hN
    have hTT : (64 + N) * N = 64 * N + N * N := Nat.add_mul _ _ _
    show tSeq _ _ _ [some (.ref a), some (.ref A), some .non, some (.int stop), none, none, none, none, none, some (.int F), some (.int m), none, none, none] H5'
    refine ⟨.ref a, rfl, .non, rfl, .int stop, rfl, .ref A, rfl, a, ps ++ [pc], 0, stop, none, A, bs, zeroU (ps ++ [pc]), rfl, hid s1, hpl.ok, hix, Int.le_refl 0, fun x _ _ => hfind x, breaks_lt hpl.ok hpl.past (by omega) (fun m e => by cases e), U0, zero_shp _, fun Wd vs rs c H2 lv hc _ hU hS kq nW eW st => ?_⟩
    have s2 : Same H H2 := fun x o hx => kq _ _ (fun z => by rw [(hbn x z).1] at hx; cases hx) (s1 _ _ hx)
    have nWA : Wd ≠ A := fun z => by rw [z, e1] at nW; cases nW
    have nWb : Wd ∉ bs := fun z => by
      obtain ⟨ys, e, _⟩ := U0.flt Wd z
      rw [nW] at e
      cases e
    have hW0 : H Wd = none := by
      cases z : H Wd with
      | none => rfl
      | some o => rw [s1 _ _ z] at nW; cases nW
    have I0 : PInvN (ps ++ [pc]) stop (stop + 16) N _ [] _ := PInvN.init hpl.ok hix hM (by omega) lv hc (zero_shp _) (zero_att _ _)
    show tSeq _ _ _ [some (.ref a), some (.ref A), some .non, some (.int stop), some (.ref Wd), none, none, none, none, some (.int F), some (.int m), none, none, none] H2
    refine fun Kn nK => ?_
    have s3 := same_upd (o := .dT []) nK
    have eK : (upd H2 Kn (.dT [])) Kn = some (.dT []) := upd_same
    generalize upd H2 Kn (.dT []) = H3 at s3 eK
    have hK0 : H Kn = none := by
      cases z : H Kn with
      | none => rfl
      | some o => rw [s2 _ _ z] at nK; cases nK
    show tSeq _ _ _ [some (.ref a), some (.ref A), some .non, some (.int stop), some (.ref Wd), some (.ref Kn), none, none, none, some (.int F), some (.int m), none, none, none] H3
    refine ⟨fun k σ H4 => ∃ us kvs S vs y6 y7 y8, σ = [some (.ref a), some (.ref A), some .non, some (.int stop), some (.ref Wd), some (.ref Kn), y6, y7, y8, some (.int F), some (.int m), none, none, none] ∧ Same H H4 ∧ UsAt H4 A bs us ∧ H4 Wd = some (.lst vs) ∧ StAt H4 vs S ∧ H4 Kn = some (.dT kvs) ∧ PInvN (ps ++ [pc]) stop (stop + 16) N us kvs S ∧ k = UF N kvs * 1000000 + S.length,
      ⟨_, _, [], _, vs, none, none, none, rfl, s2.trans s3, hU.same s3, s3 _ _ eW, st.kt (KT.of s3), eK, I0, rfl⟩, fun k σ H4 hP => ?_⟩
    obtain ⟨us, kvs, S, vs4, y6, y7, y8, rfl, s4, U4, e4, st4, k4, I4, rfl⟩ := hP
    by_cases c0 : vs4 = []
    · refine ⟨.ref Wd, rfl, false, .inl ⟨vs4, SqL.of e4, by rw [c0]; rfl⟩, iteF ?_⟩
      have hS0 : S = [] := List.length_eq_zero_iff.mp (by rw [← st4.len, c0]; rfl)
      rw [hS0] at I4
      refine ⟨.ref A, rfl, ?_⟩
      exact q A bs us H4 s4 nA (fun b hb => (hbn b hb).1) U4 (I4.fin hpl.ok hix hround hstop) ⟨F, m, hround, hFm⟩
    · refine ⟨.ref Wd, rfl, true, .inl ⟨vs4, SqL.of e4, by cases vs4 with | nil => exact absurd rfl c0 | cons _ _ => rfl⟩, iteT ?_⟩
      obtain ⟨vs0, b, S0, wn, rfl, rfl, st0, hb⟩ := st4.last c0
      have g := I4.wins wn (List.mem_append_right _ List.mem_cons_self)
      obtain ⟨p, p0, ⟨pcx, hf, _⟩, ep⟩ := g.pt
      have g1 := g.lo
      have g2 := g.hi
      refine ⟨fun σ' H' => ∃ m', m' < UF N kvs * 1000000 + (S0 ++ [wn]).length ∧ ∃ us kvs S vs y6 y7 y8, σ' = [some (.ref a), some (.ref A), some .non, some (.int stop), some (.ref Wd), some (.ref Kn), y6, y7, y8, some (.int F), some (.int m), none, none, none] ∧ Same H H' ∧ UsAt H' A bs us ∧ H' Wd = some (.lst vs) ∧ StAt H' vs S ∧ H' Kn = some (.dT kvs) ∧ PInvN (ps ++ [pc]) stop (stop + 16) N us kvs S ∧ m' = UF N kvs * 1000000 + S.length, fun σ' H' ⟨m', h1, h2⟩ => ⟨m', h1, h2⟩, ?_⟩
      have keepW : ∀ {o : HO} {c : Addr} {x : HO}, H4 c = some x → c ≠ Wd → (upd H4 Wd o) c = some x := fun h n => by rw [upd_ne n]; exact h
      have nKW : Kn ≠ Wd := fun z => by rw [z, e4] at k4; cases k4
      have tupW : ∀ {c : Addr} {ys : List V}, H4 c = some (.tup ys) → c ≠ Wd := fun h z => by rw [z, e4] at h; cases h
      refine ⟨.ref Wd, rfl, .inl ⟨rfl, _, SqL.of e4⟩, Wd, _, .ref b, rfl, rfl, e4, by simp, ?_⟩
      rw [List.dropLast_concat]
      have e5 : (upd H4 Wd (.lst vs0)) Wd = some (.lst vs0) := upd_same
      have k5 : (upd H4 Wd (.lst vs0)) Kn = some (.dT kvs) := keepW k4 nKW
      have b5 : (upd H4 Wd (.lst vs0)) b = some (.tup [.int wn.1, .int wn.2]) := keepW hb (tupW hb)
      have st5 : StAt (upd H4 Wd (.lst vs0)) vs0 S0 := st0.kt fun c ys h => keepW h (tupW h)
      have s5 : Same H (upd H4 Wd (.lst vs0)) := fun c o h => by rw [upd_ne fun z => by rw [z, hW0] at h; cases h]; exact s4 _ _ h
      have U5 : UsAt (upd H4 Wd (.lst vs0)) A bs us := U4.keep fun c ys hc h => by
        rw [upd_ne]
        · exact h
        · intro z
          rcases hc with hc | hc
          · exact nWA (by rw [← z, hc])
          · exact nWb (by rw [← z]; exact hc)
      generalize upd H4 Wd (.lst vs0) = H6 at e5 k5 b5 st5 s5 U5
      refine ⟨b, _, rfl, SqT.of b5, rfl, .int wn.1, _, rfl, .int wn.2, _, rfl, rfl, ?_⟩
      refine ⟨.ref a, rfl, .int wn.1, rfl, .int wn.2, rfl, a, wn.1, wn.2, ps ++ [pc], pcx, rfl, hp.smK s5, hpl.ok, hf, fun i ks pk H7 hi s7 e7 hks => ?_⟩
      obtain rfl := kd_eq hix hpl.ok hf g1 hi hks
      have U7 := U5.same s7
      have eW7 := s7 _ _ e5
      have eK7 := s7 _ _ k5
      have st7 := st5.kt (KT.of s7)
      have s07 := s5.trans s7
      refine ⟨.ref pk, rfl, .ref Kn, rfl, Kn, _, rfl, DGet.t eK7 e7, _, rfl, ?_⟩
      cases hv : valV kvs (kdF (ps ++ [pc]) wn.1 wn.2) with
      | some v0 =>
        refine iteF ?_
        exact ⟨UF N kvs * 1000000 + S0.length, by rw [List.length_append, List.length_singleton]; omega, us, kvs, S0, vs0, _, _, _, rfl, s07, U7, eW7, st7, eK7, I4.known (by rw [hv]; simp), rfl⟩
      | none =>
        refine iteT ?_
        have hkl := I4.klen
        refine ⟨.ref Kn, rfl, .ref pk, rfl, Kn, _, rfl, DPut.t eK7 e7 (by omega), ?_⟩
        have nKb : Kn ∉ bs := fun z => by
          obtain ⟨ys, e, _⟩ := U7.flt Kn z
          rw [eK7] at e
          cases e
        have eK8 : (upd H7 Kn (.dT (putK kvs (kdF (ps ++ [pc]) wn.1 wn.2) (.bl true)))) Kn = some (.dT (putK kvs (kdF (ps ++ [pc]) wn.1 wn.2) (.bl true))) := upd_same
        have keepK : ∀ {c : Addr} {x : HO}, H7 c = some x → (∀ kv, x ≠ .dT kv) → (upd H7 Kn (.dT (putK kvs (kdF (ps ++ [pc]) wn.1 wn.2) (.bl true)))) c = some x := fun {c x} h n => by
          rw [upd_ne fun z => by rw [z, eK7] at h; exact n _ (Option.some.inj h).symm]
          exact h
        have s8 : Same H (upd H7 Kn (.dT (putK kvs (kdF (ps ++ [pc]) wn.1 wn.2) (.bl true)))) := fun c o h => by rw [upd_ne fun z => by rw [z, hK0] at h; cases h]; exact s07 _ _ h
        generalize upd H7 Kn (.dT (putK kvs (kdF (ps ++ [pc]) wn.1 wn.2) (.bl true))) = H8 at eK8 keepK s8
        have U8 : UsAt H8 A bs us := U7.keep fun c ys _ h => keepK h fun kv z => by cases z
        have eW8 : H8 Wd = some (.lst vs0) := keepK eW7 fun kv z => by cases z
        have st8 : StAt H8 vs0 S0 := st7.kt fun c ys h => keepK h fun kv z => by cases z
        refine ⟨.ref Wd, rfl, .inl ⟨rfl, _, SqL.of eW8⟩, .ref a, rfl, .int wn.1, rfl, wn.1, 1, rfl, rfl, .int wn.2, rfl, .int wn.2, rfl, .ref A, rfl, ?_⟩
        refine ⟨a, ps ++ [pc], wn.1 + 1, wn.2, some wn.2, A, bs, us, rfl, hid s8, hpl.ok, hix, by omega, fun x _ _ => hfind x, hbr wn.2 g2, U8, I4.shp, fun D2 vs2 rs2 c2 H9 lv2 hc2 _ hU9 hS9 kq9 nD9 eD9 st9 => ?_⟩
        have eW9 := kq9 _ _ nWb eW8
        have eK9 := kq9 _ _ nKb eK8
        have s9 : Same H H9 := fun x o hx => kq9 _ _ (fun z => by rw [(hbn x z).1] at hx; cases hx) (s8 _ _ hx)
        have st89 : StAt H9 vs0 S0 := st8.kt fun c ys h => kq9 _ _ (fun z => by
          obtain ⟨zs, e, _⟩ := U8.flt c z
          rw [h] at e
          cases e) h
        obtain ⟨I9, hlt⟩ := I4.new hpl.ok hix hNB hv lv2 hc2 (v := .bl true)
        have hr9 := I9.room
        rw [List.length_append] at hr9
        have l0 := st0.len
        have l2 := st9.len
        refine ⟨Wd, D2, vs0, vs2, rfl, rfl, eW9, eD9, by omega, ?_⟩
        have nDW : D2 ≠ Wd := fun z => by rw [z, eW8] at nD9; cases nD9
        have e10 : (upd H9 Wd (.lst (vs0 ++ vs2))) Wd = some (.lst (vs0 ++ vs2)) := upd_same
        have keep9 : ∀ {c : Addr} {x : HO}, H9 c = some x → c ≠ Wd → (upd H9 Wd (.lst (vs0 ++ vs2))) c = some x := fun h n => by rw [upd_ne n]; exact h
        have s10 : Same H (upd H9 Wd (.lst (vs0 ++ vs2))) := fun c o h => keep9 (s9 _ _ h) fun z => by rw [z, hW0] at h; cases h
        have st10 : StAt (upd H9 Wd (.lst (vs0 ++ vs2))) (vs0 ++ vs2) (S0 ++ winsOf (stepsOf rs2)) := (st89.app st9).kt fun c ys h => keep9 h fun z => by rw [z, eW9] at h; cases h
        have U10 : UsAt (upd H9 Wd (.lst (vs0 ++ vs2))) A bs (noteAll (ps ++ [pc]) (some wn.2) us (stepsOf rs2)) := hU9.keep fun c ys hc h => keep9 h fun z => by
          rcases hc with hc | hc
          · exact nWA (by rw [← z, hc])
          · exact nWb (by rw [← z]; exact hc)
        have eK10 := keep9 eK9 nKW
        generalize upd H9 Wd (.lst (vs0 ++ vs2)) = H10 at e10 s10 st10 U10 eK10
        refine ⟨UF N (putK kvs (kdF (ps ++ [pc]) wn.1 wn.2) (.bl true)) * 1000000 + (S0 ++ winsOf (stepsOf rs2)).length, ?_, _, _, _, _, _, _, _, rfl, s10, U10, e10, st10, eK10, I9, rfl⟩
        rw [List.length_append]
        omega
end
end CL
set_option Elab.async false
set_option linter.all false
set_option pp.maxSteps 900
set_option maxRecDepth 100000
set_option maxHeartbeats 4000000
namespace CL
open PySem PySem.Spec PyProof.Rows L2 GE
abbrev sLeastP : Stmt := topS 33
abbrev nLeastP : List Str := ["plan", "pieces", "least", "piece", "used", "first", "past", "turns"]
theorem scLeastP : FnScope nLeastP ["plan"] (defScope sLeastP) := ⟨rfl, rfl, rfl, by decide +kernel, rfl, by decide +kernel, by decide +kernel⟩
/-- the least plan as it is told: tuples of a list and how many come -/
structure TL (H : Hp) (L : Addr) (bs : List Addr) (us : UsT) (ms : List (Option Int)) : Prop where
  lst : ∃ ts : List Addr, H L = some (.lst (ts.map V.ref)) ∧ ts.length = bs.length ∧ ∀ (i : Nat) (t b : Addr) m, ts[i]? = some t → bs[i]? = some b → ms[i]? = some m → H t = some (.tup [.ref b, optV m])
  len : bs.length = us.length
  lem : bs.length = ms.length
  row : ∀ (i : Nat) (b : Addr) u, bs[i]? = some b → us[i]? = some u → H b = some (.lst (u.map optV))
  nd : bs.Nodup
  nL : L ∉ bs
def tTupEnd (L b : Addr) (v : V) (H : Hp) (R : Hp → Prop) : Prop := ∀ pt, H pt = none → ∃ l xs y, (V.ref L : V) = .ref l ∧ [(V.ref pt : V)] = [y] ∧ (upd H pt (.tup [.ref b, v])) l = some (.lst xs) ∧ xs.length < sizeLine ∧ R (upd (upd H pt (.tup [.ref b, v])) l (.lst (xs ++ [y])))
def manyL (ps : List PieceT) : List (Option Int) := ps.map fun pc => pc.2.1.map fun m => m - pc.1
def spLeastN (P1 P2 : Addr) : Sp := fun vs H Q _ => ∃ v d ps pc, vs = [v] ∧ Rp H v d ∧ Tb P1 P2 H ∧ isPlan d = true ∧ piecesOf d = ps ++ [pc] ∧ pc.2.1 = none ∧ 0 ≤ pc.1 ∧ pc.1 ≤ 400 ∧ (∀ y, pc.1 ≤ y → (ps ++ [pc]).find? (comes y) = some pc) ∧ (∀ x p : Int, Pt (ps ++ [pc]) x (.int p) → p ≤ 16) ∧
  ∀ L bs us H', Ex H H' → Tb P1 P2 H' → H L = none → (∀ b ∈ bs, H b = none) → TL H' L bs us (manyL (ps ++ [pc])) → UsesN (ps ++ [pc]) us → (∃ F m, RoundOk (ps ++ [pc]) pc.1 F m ∧ F + m ≤ pc.1 + 153) → Q (.ref L) H'
section
variable {P : Program} {w : World} {K : PySem.W.Frag} {mg : Str → Option Value} {base : Heap}
theorem ok_leastN {f P1 P2 C : Addr} {fd : FuncData} (F : Fun K "least_plan" "least_plan" sLeastP f fd) (hzip : mg "zip" = none) (CPo : CalX P w K mg base 9 "pieces_of" ["plan"] (spPieces P1 P2 C)) (CUi : Cal P w K mg base 5 "used_in" ["pieces"] spUsedN) :
    FnOk P w K mg base (L2.CX P w) 10 f fd ["plan"] (spLeastN P1 P2) := by
  refine F.okX scLeastP (fun vs H Q E ⟨v, d, ps, pc, e, _⟩ => by rw [e]; rfl) (fun cdv A0 outer s H vs Q E hr h => ?_)
  obtain ⟨v, d, ps, pc, rfl, hR, hT, hd, hpcs, em, f0, f4, hcome, hM, q⟩ := h
  have nd := scLeastP.nd
  have hpl := plOk hd hpcs
  have hix := ixOk hd
  rw [hpcs] at hix
  refine ⟨_, (pss_cons (ps_set (i := 1) nd rfl (.inl rfl) (pe_calX (CPo.mono (by decide)) hr (by rfl) (passes_call (takes_of rfl rfl rfl rfl) fun _ _ _ _ h => h) (pa_cons (pv 0) pa_nil)))
      (PSs.nox (pss_cons (ps_set (i := 2) nd rfl (.inl rfl) (pe_lst pa_nil))
      (pss_cons (ps_for PassesOwn.never rfl (pi_zip (by rfl) hzip (pa_cons (pv 1) (pa_cons (pe_cal (CUi.mono (by decide)) hr (by rfl) (pa_cons (pv 1) pa_nil)) pa_nil))) (pg_tup rfl (pgs_cons (pg_name (i := 3) nd rfl (.inl rfl)) (pgs_cons (pg_name (i := 4) nd rfl (.inl rfl)) pgs_nil))) (pss_cons (ps_asg (pv 3) (pg_tup rfl (pgs_cons (pg_name (i := 5) nd rfl (.inl rfl)) (pgs_cons (pg_name (i := 6) nd rfl (.inl rfl)) (pgs_cons (pg_name (i := 7) nd rfl (.inl rfl)) pgs_nil)))))
      (pss_one (ps_expr (pe_bm PySem.F.plainAttrs_list PySem.F.slot_list_append PySem.F.type_list_append mt_append (pv 2) (pa_cons (pe_tup (pa_cons (pv 4) (pa_cons (pe_ifExp (pt_cmp (pc_isN (pv 6))) pe_non (pe_op op_sub (pv 6) (pv 5))) pa_nil))) pa_nil))))))
      (pss_one (ps_ret (pv 2))))))), ?_⟩
  have sz : 1000 ≤ sizeLine := by decide
  have l8 := hpl.ok.len
  refine ⟨v, rfl, v, d, rfl, hR, hT, fun z => absurd (hd.symm.trans z) (by decide), fun _ p H1 e1 t1 np rp => ?_⟩
  rw [hpcs] at rp
  obtain ⟨a, ea, hp1⟩ := PcsAt.of rp
  obtain rfl : p = a := V.ref.inj ea
  show tSeq _ _ _ [some v, some (.ref p), none, none, none, none, none, none] H1
  refine ⟨Nat.zero_le _, fun L nL => ?_⟩
  have s2 := same_upd (o := .lst []) nL
  have eL : (upd H1 L (.lst [])) L = some (.lst []) := upd_same
  generalize upd H1 L (.lst []) = H2 at s2 eL
  have hp2 := hp1.smK s2
  show tSeq _ _ _ [some v, some (.ref p), some (.ref L), none, none, none, none, none] H2
  refine ⟨.ref p, rfl, .ref p, rfl, p, ps, pc, rfl, hp2, hpl, hix, em, f0, f4, hcome, hM, fun A bs us H3 s3 nA hbn U hUs hRo => ?_⟩
  obtain ⟨xs, hxs, hra⟩ := (hp2.smK s3).ex
  have hlx : xs.length = (ps ++ [pc]).length := by rw [hra.length, List.length_map]
  have hlb : bs.length = (ps ++ [pc]).length := by rw [U.len, hUs.shp.len]
  have lm : (bs.map V.ref).length = bs.length := List.length_map ..
  have eL3 := s3 _ _ eL
  have nLA : L ≠ A := fun z => by rw [← z, eL] at nA; cases nA
  have nLb : L ∉ bs := fun z => by rw [hbn L z] at eL; cases eL
  have hL0 : H L = none := e1.free nL
  refine ⟨p, A, xs, bs.map V.ref, rfl, SqL.of hxs, SqL.of U.lst, RZ.for_zipL (xs := xs) (ys := bs.map V.ref) (by omega) (fun i σ H4 => ∃ (ts : List Addr) (y3 y4 y5 y6 y7 : Option V), σ = [some v, some (.ref p), some (.ref L), y3, y4, y5, y6, y7] ∧ (∀ c o, c ≠ L → H3 c = some o → H4 c = some o) ∧ H4 L = some (.lst (ts.map V.ref)) ∧ ts.length = i ∧ ∀ (j : Nat) (t b : Addr) m, ts[j]? = some t → bs[j]? = some b → (manyL (ps ++ [pc]))[j]? = some m → H4 t = some (.tup [.ref b, optV m]))
    ⟨[], none, none, none, none, none, rfl, fun _ _ _ h => h, eL3, rfl, fun j t b m h => by cases h⟩ (fun i σ H4 ⟨_, _, _, _, _, _, _, k4, _⟩ => ⟨SqL.of (k4 _ _ (fun z => by rw [z, eL3] at hxs; cases hxs; simp at hlx) hxs), SqL.of (k4 _ _ (Ne.symm nLA) U.lst)⟩) (fun i x y T σ H4 hx hy hP nT => ?_) (fun σ H4 hP => ?_)⟩
  · obtain ⟨ts, y3, y4, y5, y6, y7, rfl, k4, e4, lt, hts⟩ := hP
    have hi : i < (ps ++ [pc]).length := by rw [← hlx]; exact (List.getElem?_eq_some_iff.mp hx).1
    obtain ⟨q0, hq0⟩ : ∃ q, (ps ++ [pc])[i]? = some q := ⟨_, List.getElem?_eq_getElem hi⟩
    obtain ⟨xs', b0, t0, zs, st, _, hx', hb, ht, hz⟩ := pc_at (hp2.smK s3) hq0
    obtain rfl : xs' = xs := by
      rcases st.or with h | h
      · rw [hxs] at h; cases h; rfl
      · rw [hxs] at h; cases h
    rw [hx'] at hx
    cases hx
    obtain ⟨b, hbi⟩ : ∃ b, bs[i]? = some b := ⟨_, List.getElem?_eq_getElem (by omega)⟩
    rw [List.getElem?_map, hbi] at hy
    cases hy
    have nTL : T ≠ L := fun z => by rw [z, e4] at nT; cases nT
    have sT := same_upd (o := .tup [.ref b0, .ref b]) nT
    have eT : (upd H4 T (.tup [.ref b0, .ref b])) T = some (.tup [.ref b0, .ref b]) := upd_same
    generalize upd H4 T (.tup [.ref b0, .ref b]) = H5 at sT eT
    have nb0L : b0 ≠ L := fun z => by rw [z, eL3] at hb; cases hb
    have hb5 := sT _ _ (k4 _ _ nb0L hb)
    have e5 := sT _ _ e4
    refine ⟨T, _, rfl, SqT.of eT, rfl, .ref b0, _, rfl, .ref b, _, rfl, rfl, ?_⟩
    show tSeq _ _ _ [some v, some (.ref p), some (.ref L), some (.ref b0), some (.ref b), y5, y6, y7] H5
    refine ⟨.ref b0, rfl, b0, _, rfl, SqT.of hb5, rfl, .int q0.1, _, rfl, optV q0.2.1, _, rfl, .ref t0, _, rfl, rfl, ?_⟩
    refine ⟨.ref L, rfl, .inl ⟨rfl, _, SqL.of e5⟩, .ref b, rfl, ?_⟩
    have fin : ∀ (m : Option Int), (manyL (ps ++ [pc]))[i]? = some m → tTupEnd L b (optV m) H5 fun H6 => ∃ (ts : List Addr) (y3 y4 y5 y6 y7 : Option V), [some v, some (.ref p), some (.ref L), some (.ref b0), some (.ref b), some (.int q0.1), some (optV q0.2.1), some (.ref t0)] = [some v, some (.ref p), some (.ref L), y3, y4, y5, y6, y7] ∧ (∀ c o, c ≠ L → H3 c = some o → H6 c = some o) ∧ H6 L = some (.lst (ts.map V.ref)) ∧ ts.length = i + 1 ∧ ∀ (j : Nat) (t b : Addr) m, ts[j]? = some t → bs[j]? = some b → (manyL (ps ++ [pc]))[j]? = some m → H6 t = some (.tup [.ref b, optV m]) := fun m hm => by
      intro pt npt
      have npL : pt ≠ L := fun z => by rw [z, e5] at npt; cases npt
      have s6 := same_upd (o := .tup [.ref b, optV m]) npt
      have e6p : (upd H5 pt (.tup [.ref b, optV m])) pt = some (.tup [.ref b, optV m]) := upd_same
      generalize upd H5 pt (.tup [.ref b, optV m]) = H6 at s6 e6p
      refine ⟨L, ts.map V.ref, .ref pt, rfl, rfl, s6 _ _ e5, by rw [List.length_map]; omega, ts ++ [pt], _, _, _, _, _, rfl, fun c o n h => by rw [upd_ne n]; exact s6 _ _ (sT _ _ (k4 _ _ n h)), by rw [upd_same, List.map_append]; rfl, by rw [List.length_append, lt]; rfl, fun j t c m' hj hc hm' => ?_⟩
      by_cases cj : j < ts.length
      · rw [List.getElem?_append_left cj] at hj
        have h9 := hts j t c m' hj hc hm'
        rw [upd_ne fun z => by rw [z, e4] at h9; cases h9]
        exact s6 _ _ (sT _ _ h9)
      · have ej : j = ts.length := by
          have := (List.getElem?_eq_some_iff.mp hj).1
          rw [List.length_append, List.length_singleton] at this
          omega
        subst ej
        rw [List.getElem?_concat_length] at hj
        cases hj
        rw [lt, hbi] at hc
        cases hc
        rw [lt, hm] at hm'
        cases hm'
        rw [upd_ne npL]
        exact e6p
    have hml : (manyL (ps ++ [pc]))[i]? = some (q0.2.1.map fun m => m - q0.1) := by
      unfold manyL
      rw [List.getElem?_map, hq0]
      rfl
    cases e : q0.2.1 with
    | none =>
      rw [e] at hml
      refine ⟨_, rfl, _, rfl, iteT ⟨small_le (by show 2 ≤ 1000; decide), ?_⟩⟩
      have := fin none hml
      rw [e] at this
      exact this
    | some m =>
      rw [e] at hml
      refine ⟨_, rfl, _, rfl, iteF ⟨.int m, rfl, .int q0.1, rfl, m, q0.1, rfl, rfl, small_le (by show 2 ≤ 1000; decide), ?_⟩⟩
      have := fin (some (m - q0.1)) hml
      rw [e] at this
      exact this
  · obtain ⟨ts, y3, y4, y5, y6, y7, rfl, k4, e4, lt, hts⟩ := hP
    rw [hlx, ← hlb] at lt
    have x14 : Ex H H4 := fun c o hc => by
      rcases e1 c o hc with h | ⟨ps, qs, e, h⟩
      · exact .inl (k4 _ _ (fun z => by rw [z, hL0] at hc; cases hc) (s3 _ _ (s2 _ _ h)))
      · exact .inr ⟨ps, qs, e, k4 _ _ (fun z => by rw [z, hL0] at hc; cases hc) (s3 _ _ (s2 _ _ h))⟩
    have tk : ∀ {P0 : Addr}, GxR.TabG H3 P0 → GxR.TabG H4 P0 := fun {P0} ⟨qs, e, t⟩ => ⟨qs, k4 _ _ (fun z => by rw [z, eL3] at e; cases e) e, t⟩
    have t3 := t1.same (s2.trans s3)
    have t4 : Tb P1 P2 H4 := ⟨tk t3.1, tk t3.2⟩
    refine ⟨.ref L, rfl, q L bs us H4 x14 t4 hL0 (fun b hb => e1.free (Ex.free (Ex.of s2) (hbn b hb))) ⟨⟨ts, e4, lt, hts⟩, by rw [hlb, hUs.shp.len], by rw [hlb]; unfold manyL; rw [List.length_map], fun i b u hb hu => k4 _ _ (fun z => nLb (by rw [← z]; exact List.mem_of_getElem? hb)) (U.row i b u hb hu), U.nd, nLb⟩ hUs hRo⟩
end
end CL
set_option Elab.async false
set_option linter.all false
set_option maxRecDepth 100000
set_option maxHeartbeats 2000000
namespace CL
open PySem PySem.Spec PyProof.Rows L2 GE
abbrev sReel : Stmt := topS 35
abbrev sDraw : Stmt := topS 36
theorem scReel : FnScope ["script", "stir", "cell", "great"] ["script"] (defScope sReel) := ⟨rfl, rfl, rfl, by decide +kernel, rfl, by decide +kernel, by decide +kernel⟩
theorem scDraw : FnScope ["reel", "many", "rest", "told", "stir"] ["reel", "many"] (defScope sDraw) := ⟨rfl, rfl, rfl, by decide +kernel, rfl, by decide +kernel, by decide +kernel⟩
abbrev MOD : Int := 170141183460469231731687303715884105727
abbrev SIXTY : Int := 42391158275216203514294433201
theorem mod_eq : (2 : Int) ^ (64 : Int).toNat * 2 ^ (63 : Int).toNat - 1 = MOD := by decide +kernel
theorem p40 : (2 : Int) ^ (40 : Int).toNat = 1099511627776 := by decide +kernel
theorem p63 : (2 : Int) ^ (63 : Int).toNat = 9223372036854775808 := by decide +kernel
theorem three60 : (3 : Int) ^ (60 : Int).toNat = SIXTY := by decide +kernel
/-- the reel: great cells' rest, cells, how many were drawn, a number stirred -/
structure ReelAt (H : Hp) (r : Addr) : Prop where
  ex : ∃ (g t : Addr) (gs ts : List Int) (n st : Int), H r = some (.lst [.ref g, .ref t, .int n, .int st]) ∧ H g = some (.lst (gs.map V.int)) ∧ H t = some (.lst (ts.map V.int)) ∧ g ≠ r ∧ t ≠ r ∧ gs.length ≤ 63 ∧ (∀ x ∈ gs, 0 ≤ x) ∧
    0 < ts.length ∧ ts.length ≤ 64 ∧ (∀ x ∈ ts, 0 ≤ x ∧ x < 1000003) ∧ 0 ≤ st ∧ st < MOD
/-- neither the reel nor one of its lists -/
structure Free (H : Hp) (r b : Addr) : Prop where
  ne : b ≠ r
  out : ∀ xs, H r = some (.lst xs) → V.ref b ∉ xs
/-- all but the reel stays; what is none of its lists gets none of them -/
structure Mv (r : Addr) (H H' : Hp) : Prop where
  keep : ∀ b o, b ≠ r → H b = some o → H' b = some o
  free : ∀ b, H b ≠ none → Free H r b → Free H' r b
theorem Mv.refl (r : Addr) (H : Hp) : Mv r H H := ⟨fun _ _ _ h => h, fun _ _ h => h⟩
theorem Mv.of {r : Addr} {H H' : Hp} (s : Same H H') (hr : ReelAt H r) : Mv r H H' := ⟨fun b o _ h => s b o h, fun b _ f => ⟨f.ne, fun xs e => by
  obtain ⟨_, _, _, _, _, _, er, _⟩ := hr
  rw [s _ _ er] at e
  exact f.out xs (er.trans e)⟩⟩
theorem Mv.trans {r : Addr} {H H1 H2 : Hp} (a : Mv r H H1) (b : Mv r H1 H2) : Mv r H H2 := ⟨fun c o n h => b.keep c o n (a.keep c o n h), fun c h f => b.free c (fun z => by
  cases q : H c with
  | none => exact h q
  | some o =>
    rw [a.keep c o f.ne q] at z
    cases z) (a.free c h f)⟩
theorem ReelAt.same {r : Addr} {H H' : Hp} (s : Same H H') (hr : ReelAt H r) : ReelAt H' r := by
  obtain ⟨g, t, gs, ts, n, st, er, eg, et, h⟩ := hr
  exact ⟨g, t, gs, ts, n, st, s _ _ er, s _ _ eg, s _ _ et, h⟩
theorem ReelAt.new {r p : Addr} {H : Hp} (hr : ReelAt H r) (np : H p = none) : Free H r p := by
  obtain ⟨g, t, gs, ts, n, st, er, eg, et, _⟩ := hr
  refine ⟨(fun z => by rw [z, er] at np; cases np), fun xs e m => ?_⟩
  rw [er] at e
  cases e
  simp only [List.mem_cons, V.ref.injEq, List.not_mem_nil, or_false, reduceCtorEq] at m
  rcases m with m | m
  · rw [m, eg] at np; cases np
  · rw [m, et] at np; cases np
theorem ReelAt.store {r p : Addr} {H : Hp} {o : HO} (hr : ReelAt H r) (f : Free H r p) : ReelAt (upd H p o) r := by
  obtain ⟨g, t, gs, ts, n, st, er, eg, et, h⟩ := hr
  have n1 : r ≠ p := fun z => f.ne z.symm
  have n2 : g ≠ p := fun z => f.out _ er (by rw [z]; exact List.mem_cons_self)
  have n3 : t ≠ p := fun z => f.out _ er (by rw [z]; exact List.mem_cons_of_mem _ List.mem_cons_self)
  exact ⟨g, t, gs, ts, n, st, by rw [upd_ne n1]; exact er, by rw [upd_ne n2]; exact eg, by rw [upd_ne n3]; exact et, h⟩
/-- the heap without the reel -/
def Hd (r : Addr) (H : Hp) : Hp := fun b => if b = r then none else H b
theorem Hd.sub (r : Addr) (H : Hp) : Same (Hd r H) H := fun b o e => by
  unfold Hd at e
  split at e
  · cases e
  · exact e
theorem Hd.ne {r : Addr} {H : Hp} {b : Addr} {o : HO} (e : Hd r H b = some o) : b ≠ r := fun z => by
  unfold Hd at e
  rw [if_pos z] at e
  cases e
theorem Hd.at {r : Addr} {H : Hp} {b : Addr} (n : b ≠ r) : Hd r H b = H b := if_neg n
theorem Mv.hd {r : Addr} {H H' : Hp} (m : Mv r H H') : Same (Hd r H) (Hd r H') := fun b o e => by
  rw [Hd.at (Hd.ne e)]
  exact m.keep b o (Hd.ne e) (Hd.sub r H b o e)
theorem Mv.rp {r : Addr} {H H' : Hp} {v : V} {d : PyData} (m : Mv r H H') (h : Rp (Hd r H) v d) : Rp (Hd r H') v d := Rp.ex (Ex.of m.hd) d v h
theorem Mv.rpAll {r : Addr} {H H' : Hp} {vs : List V} {ds : List PyData} (m : Mv r H H') (h : RpAll (Hd r H) vs ds) : RpAll (Hd r H') vs ds := RpAll.ex (Ex.of m.hd) ds vs h
theorem rp_of_hd {r : Addr} {H : Hp} {v : V} {d : PyData} (h : Rp (Hd r H) v d) : Rp H v d := Rp.ex (Ex.of (Hd.sub r H)) d v h
def spDraw (r : Addr) : Sp := fun vs H Q _ => ∃ m : Int, vs = [.ref r, .int m] ∧ ReelAt H r ∧ 1 ≤ m ∧ m < 2 ^ 140 ∧ ∀ x H', ReelAt H' r → Mv r H H' → 0 ≤ x → x < m → Q (.int x) H'
section
variable {P : Program} {w : World} {K : PySem.W.Frag} {mg : Str → Option Value} {base : Heap}
theorem ok_draw {f r : Addr} {fd : FuncData} (F : Fun K "_law_draw" "_law_draw" sDraw f fd) (T : Nm mg) : FnOk P w K mg base CX0 1 f fd ["reel", "many"] (spDraw r) := by
  refine F.ok scDraw (fun vs H Q E ⟨m, e, _⟩ => by rw [e]; rfl) (fun cdv A outer s H vs Q E hr h => ?_)
  obtain ⟨m, rfl, ⟨g, t, gs, ts, n, st, er, eg, et, ngr, ntr, lg, hgs, lt0, lt, hts, st0, st1⟩, m1, m2, q⟩ := h
  refine ⟨_, pss_cons (ps_if (pt_cmpR (op_neD hr.units) (pe_ix ix_list (pv 0) pe_int (fun _ _ => rfl)) (pe_lst pa_nil) (nomark _))
      (pss_cons (ps_set (i := 2) scDraw.nd rfl (.inl rfl) (pe_ix ix_list (pe_ix ix_list (pv 0) pe_int (fun _ _ => rfl)) pe_int (fun _ _ => rfl)))
      (pss_cons (ps_asg (pe_op op_cat (pe_op op_rep (pe_lst (pa_cons (pe_op op_fdivW (pv 2) (pv 1)) pa_nil)) (pe_callTy call_int1 (by rfl) T.int PyProof.Rows.boot_int (pa_cons (pe_cmpR op_ge (pv 2) (pv 1) (nomark _)) pa_nil)))
          (pe_slice sl_list (pe_ix ix_list (pv 0) pe_int (fun _ _ => rfl)) (po_some pe_int) po_none)) (pg_sub (pv 0) pe_int set_list))
      (pss_one (ps_ret (pe_op op_mod (pv 2) (pv 1)))))) pss_nil)
    (pss_cons (ps_asg (pe_op op_add (pe_ix ix_list (pv 0) pe_int (fun _ _ => rfl)) pe_int) (pg_sub (pv 0) pe_int set_list))
    (pss_cons (ps_set (i := 3) scDraw.nd rfl (.inl rfl) (pe_ix ix_list (pe_ix ix_list (pv 0) pe_int (fun _ _ => rfl)) (pe_op op_mod (pe_ix ix_list (pv 0) pe_int (fun _ _ => rfl)) (pe_callB call_len_seq (by rfl) T.len PySem.boot_len (pa_cons (pe_ix ix_list (pv 0) pe_int (fun _ _ => rfl)) pa_nil))) (fun _ _ => rfl)))
    (pss_cons (ps_set (i := 4) scDraw.nd rfl (.inl rfl) (pe_op op_add (pe_op op_add (pe_op op_mulW (pe_ix ix_list (pv 0) pe_int (fun _ _ => rfl)) (pe_ix ix_list (pv 0) pe_int (fun _ _ => rfl))) (pe_op op_mul (pe_op op_add (pv 3) pe_int) pe_int)) (pe_op op_mul (pe_ix ix_list (pv 0) pe_int (fun _ _ => rfl)) pe_int)))
    (pss_cons (ps_asg (pe_op op_mod (pv 4) (pe_op op_sub (pe_op op_mul (pe_op op_pow pe_int pe_int) (pe_op op_pow pe_int pe_int)) pe_int)) (pg_sub (pv 0) pe_int set_list))
    (pss_one (ps_ret (pe_op op_mod (pe_op op_fdivW (pe_ix ix_list (pv 0) pe_int (fun _ _ => rfl)) (pe_op op_pow pe_int pe_int)) (pv 1)))))))), ?_⟩
  have mdiv : CDivW 0 m := wide_div (b := 140) (by omega) (by omega) (by decide) (by decide)
  refine ⟨.ref r, rfl, r, _, 0, .ref g, rfl, rfl, SqL.of er, atI_nat (j := 0) rfl, Nat.zero_le _, fun p np => ?_⟩
  have s1 : Same H (upd H p (.lst [])) := same_upd np
  refine ⟨.list (gs.map PyData.int), .list [], .lst (SqL.of (s1 _ _ eg)) (ints_dp gs), .lst (SqL.of upd_same) .nil, ints_shaped gs, ints_shaped [], _, rfl, ?_⟩
  generalize hH1 : upd H p (.lst []) = H1 at s1
  cases gs with
  | cons x gs' =>
    refine iteT ?_
    have hx0 : 0 ≤ x := hgs x List.mem_cons_self
    -- rest = reel[0][0]
    refine ⟨.ref r, rfl, r, _, 0, .ref g, rfl, rfl, SqL.of (s1 _ _ er), atI_nat (j := 0) rfl, g, _, 0, .int x, rfl, rfl, SqL.of (s1 _ _ eg), atI_nat (j := 0) rfl, ?_⟩
    -- reel[0] = [rest // many] * int(rest >= many) + reel[0][1:]
    refine ⟨.int x, rfl, .int m, rfl, x, m, rfl, rfl, mdiv, small_le (by show 1 ≤ 1000; decide), fun p1 np1 => ?_⟩
    refine ⟨.int x, rfl, .int m, rfl, x, m, rfl, rfl, .inr ⟨_, rfl, ?_⟩⟩
    refine ⟨p1, _, _, rfl, rfl, upd_same, by split <;> decide, by split <;> decide, by split <;> exact small_le (by simp), fun p2 np2 => ?_⟩
    have s2 : Same H (upd H1 p1 (.lst [.int (x / m)])) := s1.trans (same_upd np1)
    generalize hH2 : upd H1 p1 (.lst [.int (x / m)]) = H2 at s2
    rw [hH2] at np2
    have s3 : Same H (upd H2 p2 (.lst (List.replicate (if decide (m ≤ x) = true then (1 : Int) else 0).toNat [V.int (x / m)]).flatten)) := s2.trans (same_upd np2)
    have e2 : (upd H2 p2 (.lst (List.replicate (if decide (m ≤ x) = true then (1 : Int) else 0).toNat [V.int (x / m)]).flatten)) p2 = some (.lst ((if m ≤ x then [x / m] else []).map V.int)) := by
      rw [upd_same]
      by_cases hmx : m ≤ x
      · rw [if_pos (decide_eq_true hmx), if_pos hmx]
        rfl
      · rw [if_neg (by simpa using hmx), if_neg hmx]
        rfl
    generalize hH3 : upd H2 p2 (.lst (List.replicate (if decide (m ≤ x) = true then (1 : Int) else 0).toNat [V.int (x / m)]).flatten) = H3 at s3 e2
    refine ⟨.ref r, rfl, r, _, 0, .ref g, rfl, rfl, SqL.of (s3 _ _ er), atI_nat (j := 0) rfl, 1, rfl, g, _, rfl, SqL.of (s3 _ _ eg), fun p3 np3 => ?_⟩
    have s4 : Same H (upd H3 p3 (.lst (cutV ((x :: gs').map V.int) (some 1) none))) := s3.trans (same_upd np3)
    have e3 : (upd H3 p3 (.lst (cutV ((x :: gs').map V.int) (some 1) none))) p3 = some (.lst (gs'.map V.int)) := by
      rw [upd_same]
      exact congrArg (fun z => some (HO.lst z)) (cut_from _ 1)
    have e2' := (same_upd np3 : Same H3 (upd H3 p3 (.lst (cutV ((x :: gs').map V.int) (some 1) none)))) _ _ e2
    generalize hH4 : upd H3 p3 (.lst (cutV ((x :: gs').map V.int) (some 1) none)) = H4 at s4 e3 e2'
    have lg' : gs'.length ≤ 62 := by
      rw [List.length_cons] at lg
      omega
    refine ⟨p2, p3, _, _, rfl, rfl, e2', e3, ?_, fun p4 np4 => ?_⟩
    · rw [List.length_map, List.length_map]
      refine small_add ?_ (by omega)
      split <;> simp
    have s5 : Same H (upd H4 p4 (.lst ((if m ≤ x then [x / m] else []).map V.int ++ gs'.map V.int))) := s4.trans (same_upd np4)
    have n4r : p4 ≠ r := fun z => by
      rw [z, s4 _ _ er] at np4
      cases np4
    have e4 : (upd H4 p4 (.lst ((if m ≤ x then [x / m] else []).map V.int ++ gs'.map V.int))) p4 = some (.lst (((if m ≤ x then [x / m] else []) ++ gs').map V.int)) := by rw [upd_same, List.map_append]
    generalize hH5 : upd H4 p4 (.lst ((if m ≤ x then [x / m] else []).map V.int ++ gs'.map V.int)) = H5 at s5 e4
    refine ⟨.ref r, rfl, r, _, 0, 0, rfl, rfl, s5 _ _ er, rfl, ?_⟩
    -- return rest % many
    refine ⟨.int x, rfl, .int m, rfl, x, m, rfl, rfl, (by show (0 : Int) < m; omega), ?_⟩
    refine q _ _ ⟨p4, t, (if m ≤ x then [x / m] else []) ++ gs', ts, n, st, upd_same, by rw [upd_ne n4r]; exact e4, by rw [upd_ne ntr]; exact s5 _ _ et, n4r, ntr, ?_, ?_, lt0, lt, hts, st0, st1⟩ ⟨fun b o nb e => by rw [upd_ne nb]; exact s5 _ _ e, fun b hb f => ⟨f.ne, fun xs e => ?_⟩⟩ (Int.emod_nonneg _ (by omega)) (Int.emod_lt_of_pos _ (by omega))
    · rw [List.length_append]
      split
      · rw [List.length_singleton]; omega
      · rw [List.length_nil]; omega
    · intro y hy
      rcases List.mem_append.mp hy with hy | hy
      · split at hy
        · rw [List.mem_singleton.mp hy]
          exact Int.ediv_nonneg hx0 (by omega)
        · cases hy
      · exact hgs y (List.mem_cons_of_mem _ hy)
    · rw [upd_same] at e
      cases e
      intro z
      simp only [List.set_cons_zero, List.mem_cons, V.ref.injEq, List.not_mem_nil, or_false, reduceCtorEq] at z
      rcases z with z | z
      · exact same_ne s4 np4 hb z
      · exact f.out _ er (by rw [z]; exact List.mem_cons_of_mem _ List.mem_cons_self)
  | nil =>
    refine iteF ?_
    -- reel[2] = reel[2] + 1
    refine ⟨.ref r, rfl, r, _, 2, .int n, rfl, rfl, SqL.of (s1 _ _ er), atI_nat (j := 2) rfl, n, 1, rfl, rfl, .ref r, rfl, r, _, 2, 2, rfl, rfl, s1 _ _ er, rfl, ?_⟩
    have m2' : ∀ b o, b ≠ r → H b = some o → upd H1 r (.lst [.ref g, .ref t, .int (n + 1), .int st]) b = some o := fun b o nb e => by rw [upd_ne nb]; exact s1 _ _ e
    have er2 : (upd H1 r (.lst [.ref g, .ref t, .int (n + 1), .int st])) r = some (.lst [.ref g, .ref t, .int (n + 1), .int st]) := upd_same
    show tSeq _ _ _ _ (upd H1 r (.lst [.ref g, .ref t, .int (n + 1), .int st]))
    generalize hH2 : upd H1 r (.lst [.ref g, .ref t, .int (n + 1), .int st]) = H2 at m2' er2
    -- told = reel[1][reel[2] % len(reel[1])]
    have et2 := m2' _ _ ntr et
    have hlen : 0 < ((ts.map V.int).length : Int) := by rw [List.length_map]; omega
    have j0 := Int.emod_nonneg (n + 1) (show ((ts.map V.int).length : Int) ≠ 0 by omega)
    have j1 := Int.emod_lt_of_pos (n + 1) hlen
    obtain ⟨j, hj⟩ : ∃ j : Nat, (n + 1) % ((ts.map V.int).length : Int) = (j : Int) := ⟨_, (Int.toNat_of_nonneg j0).symm⟩
    have hjl : j < ts.length := by
      rw [hj] at j1
      rw [List.length_map] at j1
      omega
    have hat : (ts.map V.int)[j]? = some (.int ts[j]) := by rw [List.getElem?_map, List.getElem?_eq_getElem hjl]; rfl
    have hb := hts ts[j] (List.getElem_mem hjl)
    refine ⟨.ref r, rfl, r, _, 1, .ref t, rfl, rfl, SqL.of er2, atI_nat (j := 1) rfl, .ref r, rfl, r, _, 2, .int (n + 1), rfl, rfl, SqL.of er2, atI_nat (j := 2) rfl,
      .ref r, rfl, r, _, 1, .ref t, rfl, rfl, SqL.of er2, atI_nat (j := 1) rfl, t, _, rfl, .inl (SqL.of et2), n + 1, _, rfl, rfl, hlen, t, _, _, .int ts[j], rfl, rfl, SqL.of et2, (by rw [hj]; exact atI_nat hat), ?_⟩
    -- stir
    have st1' : st < 170141183460469231731687303715884105727 := st1
    have w1 : CMulW st st := wide_mul (a := 127) (b := 127) (by omega) (by omega) (by decide) (by decide) (by decide)
    refine ⟨.ref r, rfl, r, _, 3, .int st, rfl, rfl, SqL.of er2, atI_nat (j := 3) rfl, .ref r, rfl, r, _, 3, .int st, rfl, rfl, SqL.of er2, atI_nat (j := 3) rfl, st, st, rfl, rfl, w1,
      .int ts[j], rfl, ts[j], 7, rfl, rfl, ts[j] + 7, 69621, rfl, rfl, .inr ⟨by decide, by decide⟩, _, _, rfl, rfl,
      .ref r, rfl, r, _, 2, .int (n + 1), rfl, rfl, SqL.of er2, atI_nat (j := 2) rfl, n + 1, 1000003, rfl, rfl, .inr ⟨by decide, by decide⟩, _, _, rfl, rfl, ?_⟩
    -- reel[3] = stir % ..
    refine ⟨_, rfl, 2, 64, rfl, rfl, ⟨by decide, by decide, by decide⟩, 2, 63, rfl, rfl, ⟨by decide, by decide, by decide⟩, _, _, rfl, rfl, .inr ⟨by rw [p63]; decide, by rw [p63]; decide⟩, _, 1, rfl, rfl, _, _, rfl, rfl, (by show (0 : Int) < _; rw [mod_eq]; decide),
      .ref r, rfl, r, _, 3, 3, rfl, rfl, er2, rfl, ?_⟩
    generalize hst : st * st + (ts[j] + 7) * 69621 + (n + 1) * 1000003 = st2
    rw [mod_eq]
    have z0 := Int.emod_nonneg st2 (show MOD ≠ 0 by decide)
    have z1 := Int.emod_lt_of_pos st2 (show 0 < MOD by decide)
    generalize hH3 : upd H2 r (HO.lst ([V.ref g, V.ref t, V.int (n + 1), V.int st].set 3 ((fun i j => V.int (i % j)) st2 MOD))) = H3
    have er3 : H3 r = some (.lst [.ref g, .ref t, .int (n + 1), .int (st2 % MOD)]) := by
      rw [← hH3, upd_same]
      rfl
    have m3 : ∀ b o, b ≠ r → H b = some o → H3 b = some o := fun b o nb e => by
      rw [← hH3, upd_ne nb]
      exact m2' b o nb e
    generalize hz : st2 % MOD = z at z0 z1 er3
    -- return reel[3] // 2 ** 40 % many
    refine ⟨.ref r, rfl, r, _, 3, .int z, rfl, rfl, SqL.of er3, atI_nat (j := 3) rfl, 2, 40, rfl, rfl, ⟨by decide, by decide, by decide⟩, z, _, rfl, rfl, (by rw [p40]; exact wide_div (b := 41) (by decide) (by decide) (by decide) (by decide)), .int m, rfl, _, m, rfl, rfl, (by show (0 : Int) < m; omega), ?_⟩
    exact q _ H3 ⟨g, t, [], ts, n + 1, z, er3, m3 _ _ ngr eg, m3 _ _ ntr et, ngr, ntr, by decide, (fun x h => by cases h), lt0, lt, hts, z0, z1⟩ ⟨m3, fun b hb f => ⟨f.ne, fun xs e => by
      rw [er3] at e
      cases e
      intro z
      simp only [List.mem_cons, V.ref.injEq, List.not_mem_nil, or_false, reduceCtorEq] at z
      rcases z with z | z
      · exact f.out _ er (by rw [z]; exact List.mem_cons_self)
      · exact f.out _ er (by rw [z]; exact List.mem_cons_of_mem _ List.mem_cons_self)⟩⟩ (Int.emod_nonneg _ (by omega)) (Int.emod_lt_of_pos _ (by omega))
end
end CL
set_option Elab.async false
set_option linter.all false
set_option maxRecDepth 100000
set_option maxHeartbeats 2000000
namespace CL
open PySem PySem.Spec PyProof.Rows L2 GE
def gsOf (ns : List Int) : List Int := (ns.filter fun x => decide (1000000000000000000 ≤ x)).map fun x => x - 1000000000000000000
theorem gsOf_len (ns : List Int) : (gsOf ns).length ≤ ns.length := by
  unfold gsOf
  rw [List.length_map]
  exact List.length_filter_le _ _
theorem gsOf_nn (ns : List Int) : ∀ x ∈ gsOf ns, 0 ≤ x := fun x hx => by
  unfold gsOf at hx
  obtain ⟨y, hy, rfl⟩ := List.mem_map.mp hx
  have := of_decide_eq_true (List.mem_filter.mp hy).2
  omega
theorem gsOf_step {ns : List Int} {i : Nat} {x : Int} (h : ns[i]? = some x) : gsOf (ns.take (i + 1)) = gsOf (ns.take i) ++ (if 1000000000000000000 ≤ x then [x - 1000000000000000000] else []) := by
  unfold gsOf
  rw [List.take_add_one, h]
  simp only [Option.toList_some, List.filter_append, List.map_append]
  by_cases hx : 1000000000000000000 ≤ x
  · rw [if_pos hx, List.filter_cons_of_pos (by simpa using hx)]
    rfl
  · rw [if_neg hx, List.filter_cons_of_neg (by simpa using hx)]
    rfl
def spReel (K : PySem.W.Frag) : Sp := fun vs H Q _ => ∃ (a : Addr) (ns : List Int), vs = [.ref a] ∧ SqL K H a (ns.map V.int) ∧ ns.length ≤ 63 ∧ ∀ r H', Same H H' → H r = none → ReelAt H' r → Q (.ref r) H'
section
variable {P : Program} {w : World} {K : PySem.W.Frag} {mg : Str → Option Value} {base : Heap}
theorem ok_reel {f : Addr} {fd : FuncData} (F : Fun K "_law_reel" "_law_reel" sReel f fd) : FnOk P w K mg base CX0 1 f fd ["script"] (spReel K) := by
  refine F.ok scReel (fun vs H Q E ⟨a, ns, e, _⟩ => by rw [e]; rfl) (fun cdv A outer s H vs Q E hr h => ?_)
  obtain ⟨a, ns, rfl, hS, hlen, q⟩ := h
  refine ⟨_, pss_cons (ps_set (i := 1) scReel.nd rfl (.inl rfl) (pe_op op_pow pe_int pe_int))
    (pss_cons (ps_for PassesOwn.never rfl (pi_list (pe_slice sl_list (pv 0) po_none (po_some pe_int))) (pg_name (i := 2) scReel.nd rfl (.inl rfl))
      (pss_one (ps_set (i := 1) scReel.nd rfl (.inl rfl) (pe_op op_mod (pe_op op_add (pe_op op_add (pe_op op_mulW (pv 1) (pv 1)) (pe_op op_mod (pv 2) pe_int)) pe_int) (pe_op op_sub (pe_op op_mul (pe_op op_pow pe_int pe_int) (pe_op op_pow pe_int pe_int)) pe_int)))))
    (pss_cons (ps_setLc (i := 3) (own := [("cell", 2)]) (g := gName 2) rfl scReel.nd rfl rfl (sw_true rfl rfl rfl (by decide +kernel)) (pi_list (pe_slice sl_list (pv 0) po_none (po_some pe_int))) (blkOk_by (N := ["script", "stir", "cell", "great"]) (sc := defScope sReel) (by decide +kernel))
        (fun _ _ _ _ _ => pg_name (i := 2) scReel.nd rfl (Or.inl rfl)) (fun _ _ _ _ _ => pts_one (pt_cmpR op_ge (pv 2) (pe_op op_pow pe_int pe_int) (nomark _))) (fun _ _ _ _ _ => pe_op op_sub (pv 2) (pe_op op_pow pe_int pe_int)))
    (pss_one (ps_ret (pe_lst (pa_cons (pv 3) (pa_cons (pe_op op_cat (pe_lc (own := [("cell", 2)]) (g := gName 2) (tt := tYes) rfl scReel.nd (pi_list (pe_slice sl_list (pv 0) po_none (po_some pe_int))) (blkOk_by (N := ["script", "stir", "cell", "great"]) (sc := defScope sReel) (by decide +kernel))
        (fun _ _ _ _ _ => pg_name (i := 2) scReel.nd rfl (Or.inl rfl)) (fun _ _ _ _ _ => pts_nil) (fun _ _ _ _ _ => pe_op op_mod (pv 2) pe_int)) (pe_lst (pa_cons pe_int pa_nil))) (pa_cons pe_int (pa_cons (pv 1) pa_nil))))))))), ?_⟩
  have cut : cutV (ns.map V.int) none (some 63) = ns.map V.int := (cut_to _ 63).trans (List.take_of_length_le (by rw [List.length_map]; exact hlen))
  -- stir = 3 ** 60; the loop
  refine ⟨3, 60, rfl, rfl, ⟨by decide, by decide, by decide⟩, .ref a, rfl, 63, rfl, a, _, rfl, hS, fun p np => ?_⟩
  rw [cut]
  have s1 : Same H (upd H p (.lst (ns.map V.int))) := same_upd np
  have ep : (upd H p (.lst (ns.map V.int))) p = some (.lst (ns.map V.int)) := upd_same
  generalize hH1 : upd H p (.lst (ns.map V.int)) = H1 at s1 ep
  refine ⟨p, rfl, ⟨_, SqL.of ep⟩, for_list (xs := ns.map V.int) (fun _ σ H2 => H2 = H1 ∧ ∃ st y2, σ = [some (.ref a), some (.int st), y2, none] ∧ 0 ≤ st ∧ st < MOD) ⟨rfl, SIXTY, none, by show [some (V.ref a), some (V.int ((3 : Int) ^ (60 : Int).toNat)), none, none] = _; rw [three60], by decide, by decide⟩
    (fun i σ H2 _ ⟨e, _⟩ => by rw [e]; exact SqL.of ep) (fun i x σ H2 hx ⟨e, st, y2, es, h0, h1⟩ => ?_) (fun σ H2 ⟨e, st, y2, es, h0, h1⟩ => ?_)⟩
  · subst e es
    obtain ⟨c, rfl⟩ : ∃ c, x = .int c := by
      rw [List.getElem?_map] at hx
      cases q : ns[i]? with
      | none => rw [q] at hx; cases hx
      | some c => rw [q] at hx; cases hx; exact ⟨c, rfl⟩
    have h1' : st < 170141183460469231731687303715884105727 := h1
    have w1 : CMulW st st := wide_mul (a := 127) (b := 127) (by omega) (by omega) (by decide) (by decide) (by decide)
    refine ⟨.int st, rfl, .int st, rfl, st, st, rfl, rfl, w1, .int c, rfl, c, _, rfl, rfl, (by show (0 : Int) < 1000000000000000003; decide), _, _, rfl, rfl, _, 11, rfl, rfl, 2, 64, rfl, rfl, ⟨by decide, by decide, by decide⟩, 2, 63, rfl, rfl, ⟨by decide, by decide, by decide⟩, _, _, rfl, rfl, .inr ⟨by rw [p63]; decide, by rw [p63]; decide⟩, _, 1, rfl, rfl, _, _, rfl, rfl, (by show (0 : Int) < _; rw [mod_eq]; decide), ?_⟩
    refine ⟨rfl, (st * st + c % 1000000000000000003 + 11) % MOD, some (.int c), ?_, Int.emod_nonneg _ (by decide), Int.emod_lt_of_pos _ (by decide)⟩
    rw [mod_eq]
    rfl
  · subst e es
    -- great
    have hS1 : SqL K H2 a (ns.map V.int) := s1.seq hS
    refine ⟨.ref a, rfl, 63, rfl, a, _, rfl, hS1, fun p2 np2 => ?_⟩
    rw [cut]
    have s2 : Same H (upd H2 p2 (.lst (ns.map V.int))) := s1.trans (same_upd np2)
    have ep2 : (upd H2 p2 (.lst (ns.map V.int))) p2 = some (.lst (ns.map V.int)) := upd_same
    generalize hH3 : upd H2 p2 (.lst (ns.map V.int)) = H3 at s2 ep2
    refine ⟨p2, rfl, ⟨_, SqL.of ep2⟩, fun D hD => ?_⟩
    refine lc_list (xs := ns.map V.int) (fun i H' => H' = upd H3 D (.lst ((gsOf (ns.take i)).map V.int))) rfl (fun i H' _ e => by rw [e, ]; exact SqL.of ((same_upd hD : Same H3 _) _ _ ep2)) (fun i x H' hx e => ?_) (fun H' e => ?_)
    · subst e
      obtain ⟨c, hc, rfl⟩ : ∃ c, ns[i]? = some c ∧ x = .int c := by
        rw [List.getElem?_map] at hx
        cases q : ns[i]? with
        | none => rw [q] at hx; cases hx
        | some c => rw [q] at hx; cases hx; exact ⟨c, rfl, rfl⟩
      refine ⟨rfl, .int c, rfl, 10, 18, rfl, rfl, ⟨by decide, by decide, by decide⟩, c, _, rfl, rfl, _, rfl, ite2 (fun e => ?_) (fun e => ?_)⟩
      · rw [p18] at e
        have e' : (1000000000000000000 : Int) ≤ c := of_decide_eq_true e
        refine ⟨.int c, rfl, 10, 18, rfl, rfl, ⟨by decide, by decide, by decide⟩, c, _, rfl, rfl, (gsOf (ns.take i)).map V.int, upd_same, ?_, ?_⟩
        · rw [List.length_map]
          have h1 := gsOf_len (ns.take i)
          have h2 : (ns.take i).length ≤ 63 := (by rw [List.length_take]; omega)
          exact small1000 (by omega)
        · rw [upd_upd, gsOf_step hc, if_pos e', p18, List.map_append]
          rfl
      · rw [p18] at e
        have e' : ¬ (1000000000000000000 : Int) ≤ c := fun z => e (decide_eq_true z)
        rw [gsOf_step hc, if_neg e', List.append_nil]
    · have lx : (ns.map V.int).length = ns.length := List.length_map ..
      rw [lx, List.take_length] at e
      subst e
      have s4 : Same H (upd H3 D (.lst ((gsOf ns).map V.int))) := s2.trans (same_upd hD)
      have eD : (upd H3 D (.lst ((gsOf ns).map V.int))) D = some (.lst ((gsOf ns).map V.int)) := upd_same
      generalize hH4 : upd H3 D (.lst ((gsOf ns).map V.int)) = H4 at s4 eD
      -- the reel
      refine ⟨.ref D, rfl, .ref a, rfl, 63, rfl, a, _, rfl, s4.seq hS, fun p3 np3 => ?_⟩
      rw [cut]
      have s5 : Same H4 (upd H4 p3 (.lst (ns.map V.int))) := same_upd np3
      have ep3 : (upd H4 p3 (.lst (ns.map V.int))) p3 = some (.lst (ns.map V.int)) := upd_same
      generalize hH5 : upd H4 p3 (.lst (ns.map V.int)) = H5 at s5 ep3
      refine ⟨p3, rfl, ⟨_, SqL.of ep3⟩, fun D2 hD2 => ?_⟩
      refine lc_list (xs := ns.map V.int) (fun i H' => H' = upd H5 D2 (.lst (((ns.take i).map fun c => c % 1000003).map V.int))) rfl (fun i H' _ e => by rw [e]; exact SqL.of ((same_upd hD2 : Same H5 _) _ _ ep3)) (fun i x H' hx e => ?_) (fun H' e => ?_)
      · subst e
        obtain ⟨c, hc, rfl⟩ : ∃ c, ns[i]? = some c ∧ x = .int c := by
          rw [List.getElem?_map] at hx
          cases q : ns[i]? with
          | none => rw [q] at hx; cases hx
          | some c => rw [q] at hx; cases hx; exact ⟨c, rfl, rfl⟩
        refine ⟨rfl, yesT ?_⟩
        refine ⟨.int c, rfl, c, 1000003, rfl, rfl, (by show (0 : Int) < 1000003; decide), ((ns.take i).map fun c => c % 1000003).map V.int, upd_same, ?_, ?_⟩
        · rw [List.length_map, List.length_map]
          have h2 : (ns.take i).length ≤ 63 := (by rw [List.length_take]; omega)
          exact small1000 (by omega)
        · rw [upd_upd, List.take_add_one, hc]
          simp
      · rw [lx, List.take_length] at e
        subst e
        have s6 : Same H4 (upd H5 D2 (.lst ((ns.map fun c => c % 1000003).map V.int))) := s5.trans (same_upd hD2)
        have eD2 : (upd H5 D2 (.lst ((ns.map fun c => c % 1000003).map V.int))) D2 = some (.lst ((ns.map fun c => c % 1000003).map V.int)) := upd_same
        generalize hH6 : upd H5 D2 (.lst ((ns.map fun c => c % 1000003).map V.int)) = H6 at s6 eD2
        refine ⟨small_le (by decide), fun p4 np4 => ?_⟩
        have s7 : Same H6 (upd H6 p4 (.lst [.int 41])) := same_upd np4
        have ep4 : (upd H6 p4 (.lst [.int 41])) p4 = some (.lst [.int 41]) := upd_same
        generalize hH7 : upd H6 p4 (.lst [.int 41]) = H7 at s7 ep4
        refine ⟨D2, p4, _, _, rfl, rfl, s7 _ _ eD2, ep4, ?_, fun t nt => ?_⟩
        · rw [List.length_map, List.length_map]
          exact small_add (by omega) (by decide)
        have s8 : Same H6 (upd H7 t (.lst ((ns.map fun c => c % 1000003).map V.int ++ [.int 41]))) := s7.trans (same_upd nt)
        have et : (upd H7 t (.lst ((ns.map fun c => c % 1000003).map V.int ++ [.int 41]))) t = some (.lst (((ns.map fun c => c % 1000003) ++ [41]).map V.int)) := by
          rw [upd_same, List.map_append]
          rfl
        generalize hH8 : upd H7 t (.lst ((ns.map fun c => c % 1000003).map V.int ++ [.int 41])) = H8 at s8 et
        refine ⟨.int st, rfl, small_le (by show 4 ≤ 1000; decide), fun r nr => ?_⟩
        have sAll : Same H H8 := s4.trans (s6.trans s8)
        have eD8 := s8 _ _ (s6 _ _ eD)
        refine q r _ (sAll.trans (same_upd nr)) (sAll.free nr) ⟨D, t, gsOf ns, (ns.map fun c => c % 1000003) ++ [41], 0, st, upd_same, by rw [upd_ne (ne_of_none eD8 nr)]; exact eD8, by rw [upd_ne (ne_of_none et nr)]; exact et, ne_of_none eD8 nr, ne_of_none et nr, Nat.le_trans (gsOf_len ns) hlen, gsOf_nn ns, ?_, ?_, ?_, h0, h1⟩
        · rw [List.length_append, List.length_singleton]; omega
        · rw [List.length_append, List.length_singleton, List.length_map]; omega
        · intro x hx
          rcases List.mem_append.mp hx with hx | hx
          · obtain ⟨y, _, rfl⟩ := List.mem_map.mp hx
            exact ⟨Int.emod_nonneg _ (by decide), Int.emod_lt_of_pos _ (by decide)⟩
          · rw [List.mem_singleton.mp hx]
            exact ⟨by decide, by decide⟩
end
end CL
set_option Elab.async false
set_option linter.all false
set_option maxRecDepth 100000
set_option maxHeartbeats 2000000
namespace CL
open PySem PySem.Spec PyProof.Rows L2 GE
mutual
inductive Drs : PyData → PyData → Prop
  | same (d : PyData) : Drs d d
  | lst {ds es : List PyData} : DrsAll ds es → Drs (.tuple ds) (.list es)
  | tup {ds es : List PyData} : DrsAll ds es → Drs (.tuple ds) (.tuple es)
inductive DrsAll : List PyData → List PyData → Prop
  | nil : DrsAll [] []
  | cons {d e : PyData} {ds es : List PyData} : Drs d e → DrsAll ds es → DrsAll (d :: ds) (e :: es)
end
theorem DrsAll.snoc : ∀ {ds es : List PyData} {d e : PyData}, DrsAll ds es → Drs d e → DrsAll (ds ++ [d]) (es ++ [e])
  | _, _, _, _, .nil, h => .cons h .nil
  | _, _, _, _, .cons a b, h => .cons a (DrsAll.snoc b h)
theorem DrsAll.length : ∀ {ds es : List PyData}, DrsAll ds es → ds.length = es.length
  | _, _, .nil => rfl
  | _, _, .cons _ t => congrArg (· + 1) (DrsAll.length t)
def Okd : Nat → PyData → Prop
  | 0, d => ∀ ds, d ≠ .tuple ds
  | n + 1, d => ∀ ds, d = .tuple ds → ds.length ≤ 1000 ∧ ∀ x ∈ ds, Okd n x
def isTup : PyData → Bool
  | .tuple _ => true
  | _ => false
theorem kit_tup {K : PySem.W.Frag} (d : PyData) : PySem.W.kitOne K (.type (tyName d)) (.type "tuple") = some (isTup d) := kit_tuple d
theorem Free.upd {H : Hp} {r b p : Addr} {o : HO} (f : Free H r b) (n : p ≠ r) : Free (upd H p o) r b := ⟨f.ne, fun xs e => f.out xs (by rw [upd_ne n.symm] at e; exact e)⟩
open Classical in
theorem Mv.hw {r : Addr} {W : Addr → Prop} {H H' : Hp} (m : Mv r H H') (h : W r) : Same (Hw W H) (Hw W H') := fun b o e => by
  have hb := Hw.ne e
  rw [Hw.at hb]
  exact m.keep b o (fun z => hb (by rw [z]; exact h)) (Hw.sub W H b o e)
/-- W is tracked, the reel in it -/
structure Wk (W : Addr → Prop) (H : Hp) (r : Addr) : Prop where
  reel : W r
  trk : ∀ b, W b → H b ≠ none
theorem Wk.mv {W : Addr → Prop} {H H' : Hp} {r : Addr} (k : Wk W H r) (re : ReelAt H' r) (m : Mv r H H') : Wk W H' r := ⟨k.reel, fun b hb z => by
  by_cases hr : b = r
  · obtain ⟨_, _, _, _, _, _, er, _⟩ := re
    rw [hr, er] at z
    cases z
  · cases q : H b with
    | none => exact k.trk b hb q
    | some o =>
      rw [m.keep b o hr q] at z
      cases z⟩
theorem Wk.out {W : Addr → Prop} {H : Hp} {r p : Addr} (k : Wk W H r) (n : H p = none) : ¬ W p := fun z => k.trk p z n
theorem Wk.add {W : Addr → Prop} {H : Hp} {r p : Addr} (k : Wk W H r) (n : H p ≠ none) : Wk (fun b => W b ∨ b = p) H r := ⟨.inl k.reel, fun b hb => hb.elim (k.trk b) fun z => by rw [z]; exact n⟩
theorem Mv.upd {r p : Addr} {H H' : Hp} {o : HO} (m : Mv r H H') (hn : H p = none) (hp : p ≠ r) : Mv r H (upd H' p o) := ⟨fun b x nb e => by
  rw [upd_ne (ne_of_none e hn)]
  exact m.keep b x nb e, fun b hb f => (m.free b hb f).upd hp⟩
def spDress (r : Addr) (n : Nat) : Sp := fun vs H Q _ => ∃ v d W, vs = [.ref r, v] ∧ ReelAt H r ∧ Wk W H r ∧ Rp (Hw W H) v d ∧ Okd n d ∧ ∀ v' d' H', ReelAt H' r → Mv r H H' → Rp (Hw W H') v' d' → Drs d d' → Q v' H'
theorem spDress_len {r : Addr} {n : Nat} : ∀ vs H Q E, spDress r n vs H Q E → vs.length = 2 := fun vs H Q E ⟨v, d, W, e, _⟩ => by rw [e]; rfl
section
variable {P : Program} {w : World} {K : PySem.W.Frag} {mg : Str → Option Value} {base : Heap}
end
end CL
set_option Elab.async false
set_option linter.all false
set_option maxRecDepth 100000
set_option maxHeartbeats 4000000
namespace CL
open PySem PySem.Spec PyProof.Rows L2 GE
structure Nm2 (mg : Str → Option Value) : Prop where
  range : mg "range" = none
  min : mg "min" = none
  repr : mg "repr" = none
  enum : mg "enumerate" = none
abbrev RowT := List (Option Int) × PyData
def pvO : Option Int → V
  | none => .non
  | some i => .int i
def pdO : Option Int → PyData
  | none => .none
  | some i => .int i
def goodO : Option Int → Prop
  | none => True
  | some i => 0 ≤ i ∧ i ≤ GREAT
theorem rp_O {H : Hp} : ∀ o : Option Int, Rp H (pvO o) (pdO o)
  | none => .non
  | some i => .int i
theorem rp_Os {H : Hp} : ∀ os : List (Option Int), RpAll H (os.map pvO) (os.map pdO)
  | [] => .nil
  | o :: os => .cons (rp_O o) (rp_Os os)
def rowD (x : RowT) : PyData := .tuple [.list (x.1.map pdO), x.2]
def sumW (rs : List RowT) : Int := (rs.map fun x => worth x.2).sum
structure GoodRow (x : RowT) : Prop where
  lo : 1 ≤ x.1.length
  hi : x.1.length ≤ 8
  pat : ∀ o ∈ x.1, goodO o
  many : isMany x.2 = true
structure Fine (rs : List RowT) : Prop where
  lo : 1 ≤ rs.length
  hi : rs.length ≤ 8
  row : ∀ x ∈ rs, GoodRow x
  last : ∀ x ∈ rs.take (rs.length - 1), isNone x.2 = false
  sum : sumW rs ≤ GREAT
def spRows (r : Addr) : Sp := fun vs H Q _ => ∃ W, vs = [.ref r] ∧ ReelAt H r ∧ Wk W H r ∧ ∀ p rs H', ReelAt H' r → Mv r H H' → Rp (Hw W H') (.ref p) (.list (rs.map rowD)) → Fine rs → Q (.ref p) H'
theorem RpAll.unsnoc {H : Hp} : ∀ {ds : List PyData} {vs : List V} {d : PyData}, RpAll H vs (ds ++ [d]) → ∃ vs' v, vs = vs' ++ [v] ∧ RpAll H vs' ds ∧ Rp H v d
  | [], _, _, .cons h .nil => ⟨[], _, rfl, .nil, h⟩
  | _ :: _, _, _, .cons h t => by
    obtain ⟨vs', v, e, h1, h2⟩ := RpAll.unsnoc t
    exact ⟨_ :: vs', v, by rw [e]; rfl, .cons h h1, h2⟩
theorem ix_last (n : Nat) : ixN (n + 1) (-1) = some n := by
  unfold ixN
  rw [if_neg (by decide), if_pos (by omega)]
  congr 1
  omega
/-! ### rows that were drawn are a plan -/
theorem pat_good {o : Option Int} (h : goodO o) : isPatience (pdO o) = true := by
  cases o with
  | none => rfl
  | some i =>
    have h1 : 0 ≤ i := h.1
    have h2 : i ≤ GREAT := h.2
    show (decide (0 ≤ i) && decide (i ≤ GREAT)) = true
    rw [decide_eq_true h1, decide_eq_true h2]
    rfl
theorem piece_good {x : RowT} (g : GoodRow x) : isPiece (rowD x) = true := by
  have e : isPiece (rowD x) = (isTurns (.list (x.1.map pdO)) && isMany x.2) := isPiece_two rfl
  rw [e, g.many, Bool.and_true]
  show (decide (1 ≤ (x.1.map pdO).length) && decide ((x.1.map pdO).length ≤ 8) && (x.1.map pdO).all isPatience) = true
  rw [List.length_map, decide_eq_true g.lo, decide_eq_true g.hi]
  simp only [Bool.true_and, List.all_map, List.all_eq_true]
  exact fun o ho => pat_good (g.pat o ho)
theorem sum_rows : ∀ rs : List RowT, sumSnd (rs.map rowD) = sumW rs
  | [] => rfl
  | x :: rs => by
    have h := sum_rows rs
    unfold sumSnd sumW at *
    simp only [List.map_cons, List.sum_cons]
    rw [h]
    rfl
theorem fine_plan {rs : List RowT} (f : Fine rs) : isPlan (.list (rs.map rowD)) = true := by
  have e : isPlan (.list (rs.map rowD)) = isPlanL (rs.map rowD) := rfl
  rw [e]
  unfold isPlanL
  rw [sum_rows, List.length_map, decide_eq_true f.lo, decide_eq_true f.hi, decide_eq_true f.sum, Bool.and_true, Bool.true_and, Bool.true_and]
  have h1 : (rs.map rowD).all isPiece = true := by
    simp only [List.all_map, List.all_eq_true]
    exact fun x hx => piece_good (f.row x hx)
  have h2 : ((rs.map rowD).take (rs.length - 1)).any (fun d => isNone (sndD d)) = false := by
    rw [← List.map_take, List.any_eq_false]
    intro d hd
    obtain ⟨x, hx, rfl⟩ := List.mem_map.mp hd
    have h3 := f.last x hx
    have h4 : sndD (rowD x) = x.2 := rfl
    rw [h4, h3]
    exact Bool.false_ne_true
  rw [h1, h2]
  rfl
/-! ### what a call that fills tables leaves -/
theorem ReelAt.kx {r : Addr} {H H' : Hp} (h : ReelAt H r) (e : Ex H H') : ReelAt H' r := by
  obtain ⟨g, t, gs, ts, n, st, er, eg, et, h⟩ := h
  exact ⟨g, t, gs, ts, n, st, e.lst er, e.lst eg, e.lst et, h⟩
theorem Ex.some {H H' : Hp} (e : Ex H H') {b : Addr} (n : H b ≠ none) : H' b ≠ none := fun z => n (e.free z)
theorem Wk.ex {W : Addr → Prop} {H H' : Hp} {r : Addr} (k : Wk W H r) (e : Ex H H') : Wk W H' r := ⟨k.reel, fun b hb => e.some (k.trk b hb)⟩
theorem Ex.hw {W : Addr → Prop} {H H' : Hp} (e : Ex H H') : Ex (Hw W H) (Hw W H') := fun b o h => by
  rw [Hw.at (Hw.ne h)]
  exact e b o (Hw.sub W H b o h)
theorem tabG_ne {P r : Addr} {H : Hp} (h : GxR.TabG H P) (hr : ReelAt H r) : P ≠ r := fun z => by
  obtain ⟨ps, e, _⟩ := h
  obtain ⟨g, t, gs, ts, n, st, er, _⟩ := hr
  rw [z, er] at e
  cases e
theorem tabG_mv {P r : Addr} {H H' : Hp} (h : GxR.TabG H P) (hr : ReelAt H r) (m : Mv r H H') : GxR.TabG H' P := by
  have n := tabG_ne h hr
  obtain ⟨ps, e, t⟩ := h
  exact ⟨ps, m.keep P _ n e, t⟩
theorem Tb.mv {P1 P2 r : Addr} {H H' : Hp} (h : Tb P1 P2 H) (hr : ReelAt H r) (m : Mv r H H') : Tb P1 P2 H' := ⟨tabG_mv h.1 hr m, tabG_mv h.2 hr m⟩
theorem tabG_upd {P p : Addr} {H : Hp} {o : HO} (h : GxR.TabG H P) (n : ∀ ps, H p ≠ some (.tbl ps)) : GxR.TabG (upd H p o) P := by
  obtain ⟨ps, e, t⟩ := h
  exact ⟨ps, by rw [upd_ne fun z => n ps (by rw [← z]; exact e)]; exact e, t⟩
theorem Tb.upd {P1 P2 p : Addr} {H : Hp} {o : HO} (h : Tb P1 P2 H) (n : ∀ ps, H p ≠ some (.tbl ps)) : Tb P1 P2 (upd H p o) := ⟨tabG_upd h.1 n, tabG_upd h.2 n⟩
theorem RpAll.exh {H H' : Hp} (e : Ex H H') {vs : List V} {ds : List PyData} (h : RpAll H vs ds) : RpAll H' vs ds := RpAll.ex e ds vs h
end CL
set_option Elab.async false
set_option linter.all false
set_option maxRecDepth 100000
set_option maxHeartbeats 4000000
namespace CL
open PySem PySem.Spec PyProof.Rows L2 GE
abbrev sPatL : Stmt := topS 37
theorem scPatL : FnScope ["reel", "most", "kind"] ["reel", "most"] (defScope sPatL) := ⟨rfl, rfl, rfl, by decide +kernel, rfl, by decide +kernel, by decide +kernel⟩
abbrev sTurn : Stmt := topS 38
abbrev nTurn : List Str := ["reel", "most", "k"]
theorem scTurn : FnScope nTurn ["reel", "most"] (defScope sTurn) := ⟨rfl, rfl, rfl, by decide +kernel, rfl, by decide +kernel, by decide +kernel⟩
abbrev sNear : Stmt := topS 39
theorem scNear : FnScope ["reel", "most", "ends", "found", "k"] ["reel", "most", "ends"] (defScope sNear) := ⟨rfl, rfl, rfl, by decide +kernel, rfl, by decide +kernel, by decide +kernel⟩
theorem sumW_snoc2 (rs : List RowT) (x : RowT) : sumW (rs ++ [x]) = sumW rs + worth x.2 := by
  unfold sumW
  rw [List.map_append, List.sum_append]
  simp
def spPatL (r : Addr) : Sp := fun vs H Q _ => ∃ most : Int, vs = [.ref r, .int most] ∧ ReelAt H r ∧ 0 ≤ most ∧ most ≤ GREAT ∧ ∀ o H', ReelAt H' r → Mv r H H' → goodO o → (∀ p : Int, o = some p → p ≤ max 8 most) → Q (pvO o) H'
def spTurn (r : Addr) : Sp := fun vs H Q _ => ∃ most : Int, ∃ W, vs = [.ref r, .int most] ∧ ReelAt H r ∧ Wk W H r ∧ 0 ≤ most ∧ most ≤ GREAT ∧ ∀ p (os : List (Option Int)) H', ReelAt H' r → Mv r H H' → Hw W H' p = some (.lst (os.map pvO)) → 1 ≤ os.length → os.length ≤ 8 → (∀ o ∈ os, goodO o) → (∀ o ∈ os, ∀ p : Int, o = some p → p ≤ max 8 most) → Q (.ref p) H'
def spNear (r : Addr) : Sp := fun vs H Q _ => ∃ most : Int, ∃ b : Bool, ∃ W, vs = [.ref r, .int most, .bl b] ∧ ReelAt H r ∧ Wk W H r ∧ 0 ≤ most ∧ most ≤ GREAT ∧ ∀ p rs H', ReelAt H' r → Mv r H H' → Rp (Hw W H') (.ref p) (.list (rs.map rowD)) → Fine rs → sumW rs ≤ 320 → (b = true → ∀ x ∈ rs, isNone x.2 = false ∧ worth x.2 ≤ 39 ∧ ∀ o ∈ x.1, ∀ p : Int, o = some p → p ≤ max 8 most) → Q (.ref p) H'
section
variable {P : Program} {w : World} {K : PySem.W.Frag} {mg : Str → Option Value} {base : Heap}
theorem ok_patL {f r : Addr} {fd : FuncData} (F : Fun K "_law_patience" "_law_patience" sPatL f fd) (CD : Cal P w K mg base 1 "_law_draw" ["reel", "many"] (spDraw r)) : FnOk P w K mg base CX0 2 f fd ["reel", "most"] (spPatL r) := by
  refine F.ok scPatL (fun vs H Q E ⟨m, e, _⟩ => by rw [e]; rfl) (fun cdv A outer s H vs Q E hr h => ?_)
  obtain ⟨most, rfl, hre, h0, hG, q⟩ := h
  have hG' : most ≤ 1000000000000000000000000000000 := hG
  have nd := scPatL.nd
  refine ⟨_, (pss_cons (ps_set (i := 2) nd rfl (.inl rfl) (pe_cal CD hr (by rfl) (pa_cons (pv 0) (pa_cons pe_int pa_nil))))
    (pss_cons (ps_if (pt_cmpR op_eq (pv 2) pe_int (nomark _)) (pss_one (ps_ret pe_non)) pss_nil)
    (pss_one (ps_ret (pe_cal CD hr (by rfl) (pa_cons (pv 0) (pa_cons (pe_ix ix_list (pe_lst (pa_cons pe_int (pa_cons pe_int (pa_cons pe_int (pa_cons (pe_op op_add (pv 1) pe_int) pa_nil))))) (pe_op op_mod (pv 2) pe_int) (fun _ _ => rfl)) pa_nil))))))), ?_⟩
  refine ⟨.ref r, rfl, 9, rfl, hre, by decide, by decide, fun x H1 re1 m1 x0 x1 => ?_⟩
  refine ⟨.int x, rfl, rfl, _, rfl, ite2 (fun _ => ?_) (fun _ => ?_)⟩
  · exact q none H1 re1 m1 trivial (fun p e => by cases e)
  · refine ⟨.ref r, rfl, .int most, rfl, most, 1, rfl, rfl, small_le (by show 4 ≤ 1000; decide), fun p np => ?_⟩
    have s1 : Same H1 (upd H1 p (.lst [.int 2, .int 4, .int 9, .int (most + 1)])) := same_upd np
    obtain ⟨z, hz, z0, z1, z2⟩ : ∃ z, atI [V.int 2, .int 4, .int 9, .int (most + 1)] (x % 4) = some (.int z) ∧ 1 ≤ z ∧ z ≤ 1000000000000000000000000000001 ∧ z ≤ max 9 (most + 1) := by
      have hh : x % 4 = 0 ∨ x % 4 = 1 ∨ x % 4 = 2 ∨ x % 4 = 3 := by omega
      rcases hh with z | z | z | z <;> rw [z]
      · exact ⟨2, atI_nat (j := 0) rfl, by decide, by decide, by omega⟩
      · exact ⟨4, atI_nat (j := 1) rfl, by decide, by decide, by omega⟩
      · exact ⟨9, atI_nat (j := 2) rfl, by decide, by decide, by omega⟩
      · exact ⟨_, atI_nat (j := 3) rfl, by omega, by omega, by omega⟩
    refine ⟨.int x, rfl, x, 4, rfl, rfl, (by show (0 : Int) < 4; decide), p, _, x % 4, .int z, rfl, rfl, SqL.of upd_same, hz, z, rfl, re1.same s1, z0, by omega, fun y H2 re2 m2 y0 y1 => ?_⟩
    exact q (some y) H2 re2 ((m1.trans (Mv.of s1 re1)).trans m2) ⟨y0, by show y ≤ 1000000000000000000000000000000; omega⟩ (fun p e => by cases e; omega)
theorem ok_turn {f r : Addr} {fd : FuncData} (F : Fun K "_law_turn" "_law_turn" sTurn f fd) (hrange : mg "range" = none) (CD : Cal P w K mg base 2 "_law_draw" ["reel", "many"] (spDraw r)) (CP : Cal P w K mg base 2 "_law_patience" ["reel", "most"] (spPatL r)) : FnOk P w K mg base CX0 3 f fd ["reel", "most"] (spTurn r) := by
  refine F.ok scTurn (fun vs H Q E ⟨m, W, e, _⟩ => by rw [e]; rfl) (fun cdv A outer s H vs Q E hr h => ?_)
  obtain ⟨most, W, rfl, hre, hW, h0, hG, q⟩ := h
  have nd := scTurn.nd
  refine ⟨_, pss_one (ps_ret (pe_lc (own := [("k", 2)]) (g := gName 2) (tt := tYes) rfl nd (pi_range1 (by rfl) hrange (pa_cons (pe_op op_add pe_int (pe_cal CD hr (by rfl) (pa_cons (pv 0) (pa_cons (pe_ix ix_list (pe_lst (pa_cons pe_int (pa_cons pe_int (pa_cons pe_int pa_nil)))) (pe_cal CD hr (by rfl) (pa_cons (pv 0) (pa_cons pe_int pa_nil))) (fun _ _ => rfl)) pa_nil)))) pa_nil)) (blkOk_by (N := nTurn) (sc := defScope sTurn) (by decide +kernel))
    (fun _ _ _ _ _ => pg_name (i := 2) nd rfl (Or.inl rfl)) (fun _ _ _ _ _ => pts_nil) (fun _ _ _ _ _ => pe_cal CP hr (by rfl) (pa_cons (pv 0) (pa_cons (pv 1) pa_nil))))), ?_⟩
  refine ⟨.ref r, rfl, small_le (by show 3 ≤ 1000; decide), fun p np => ?_⟩
  have s1 : Same H (upd H p (.lst [.int 2, .int 4, .int 8])) := same_upd np
  have ep : (upd H p (.lst [.int 2, .int 4, .int 8])) p = some (.lst [.int 2, .int 4, .int 8]) := upd_same
  have npr := (hre.new np).ne
  generalize hH1 : upd H p (.lst [.int 2, .int 4, .int 8]) = H1 at s1 ep
  have re1 := hre.same s1
  refine ⟨.ref r, rfl, 3, rfl, re1, by decide, by decide, fun x H2 re2 m2 x0 x1 => ?_⟩
  obtain ⟨z, hz, z0, z1⟩ : ∃ z, atI [V.int 2, .int 4, .int 8] x = some (.int z) ∧ 1 ≤ z ∧ z ≤ 8 := by
    have hh : x = 0 ∨ x = 1 ∨ x = 2 := by omega
    rcases hh with z | z | z <;> rw [z]
    · exact ⟨2, atI_nat (j := 0) rfl, by decide, by decide⟩
    · exact ⟨4, atI_nat (j := 1) rfl, by decide, by decide⟩
    · exact ⟨8, atI_nat (j := 2) rfl, by decide, by decide⟩
  refine ⟨p, _, x, .int z, rfl, rfl, SqL.of (m2.keep p _ npr ep), hz, z, rfl, re2, z0, by omega, fun y H4 re4 m4 y0 y1 => ⟨1, y, rfl, rfl, 1 + y, rfl, by omega, by omega, fun t nt => ?_⟩⟩
  have frt := re4.new nt
  have m04 := ((Mv.of s1 hre).trans m2).trans m4
  refine lc_range (lo := 0) (n := (1 + y).toNat) (fun j H5 => ∃ (os : List (Option Int)), ReelAt H5 r ∧ Mv r H4 H5 ∧ Free H5 r t ∧ H5 t = some (.lst (os.map pvO)) ∧ os.length = j ∧ ∀ o ∈ os, goodO o ∧ ∀ p : Int, o = some p → p ≤ max 8 most)
    ⟨[], re4.store frt, (Mv.refl r H4).upd nt frt.ne, frt.upd frt.ne, upd_same, rfl, fun o ho => by cases ho⟩ (fun j H5 hj ⟨os, re5, m5, frt5, et5, los, hos⟩ => ?_) (fun H5 ⟨os, re5, m45, frt5, et5, los, hos⟩ => ?_)
  · have hj8 : j < 8 := by omega
    refine ⟨rfl, yesT ?_⟩
    refine ⟨.ref r, rfl, .int most, rfl, most, rfl, re5, h0, hG, fun o H6 re6 m6 go gm => ?_⟩
    have et6 := m6.keep t _ frt.ne et5
    have frt6 := m6.free t (by rw [et5]; exact nofun) frt5
    exact ⟨os.map pvO, et6, by rw [List.length_map]; exact small1000 (by omega), os ++ [o], re6.store frt6, (m5.trans m6).upd nt frt.ne, frt6.upd frt.ne, by rw [upd_same, List.map_append]; rfl, by rw [List.length_append, los]; rfl, fun x hx => by
      rcases List.mem_append.mp hx with hx | hx
      · exact hos x hx
      · rw [List.mem_singleton.mp hx]; exact ⟨go, gm⟩⟩
  · exact q t os H5 re5 (m04.trans m45) (by rw [Hw.at ((hW.mv re4 m04).out nt)]; exact et5) (by omega) (by omega) (fun o ho => (hos o ho).1) (fun o ho => (hos o ho).2)
theorem ok_near {f r : Addr} {fd : FuncData} (F : Fun K "_law_near_rows" "_law_near_rows" sNear f fd) (hrange : mg "range" = none) (CD : Cal P w K mg base 3 "_law_draw" ["reel", "many"] (spDraw r)) (CT : Cal P w K mg base 3 "_law_turn" ["reel", "most"] (spTurn r)) : FnOk P w K mg base CX0 4 f fd ["reel", "most", "ends"] (spNear r) := by
  refine F.ok scNear (fun vs H Q E ⟨m, b, W, e, _⟩ => by rw [e]; rfl) (fun cdv A outer s H vs Q E hr h => ?_)
  obtain ⟨most, b, W, rfl, hre, hW, h0, hG, q⟩ := h
  have nd := scNear.nd
  refine ⟨_, (pss_cons (ps_set (i := 3) nd rfl (.inl rfl) (pe_lst pa_nil))
    (pss_cons (ps_for PassesOwn.never rfl (pi_range1 (by rfl) hrange (pa_cons (pe_op op_add pe_int (pe_cal CD hr (by rfl) (pa_cons (pv 0) (pa_cons (pe_ix ix_list (pe_lst (pa_cons pe_int (pa_cons pe_int pa_nil))) (pe_cal CD hr (by rfl) (pa_cons (pv 0) (pa_cons pe_int pa_nil))) (fun _ _ => rfl)) pa_nil)))) pa_nil)) (pg_name (i := 4) nd rfl (.inl rfl))
      (pss_one (ps_expr (pe_bm PySem.F.plainAttrs_list PySem.F.slot_list_append PySem.F.type_list_append mt_append (pv 3) (pa_cons (pe_tup (pa_cons (pe_cal CT hr (by rfl) (pa_cons (pv 0) (pa_cons (pv 1) pa_nil))) (pa_cons (pe_cal CD hr (by rfl) (pa_cons (pv 0) (pa_cons (pe_ix ix_list (pe_lst (pa_cons pe_int (pa_cons pe_int (pa_cons pe_int pa_nil)))) (pe_cal CD hr (by rfl) (pa_cons (pv 0) (pa_cons pe_int pa_nil))) (fun _ _ => rfl)) pa_nil))) pa_nil))) pa_nil)))))
    (pss_cons (ps_if (PW.pt (pw_and (pt_not (pt_val (pv 2))) (pw_and1 (pt_cmpR op_eq (pe_cal CD hr (by rfl) (pa_cons (pv 0) (pa_cons pe_int pa_nil))) pe_int (nomark _))))) (pss_one (ps_asg (pe_tup (pa_cons (pe_ix ix_tup (pe_ix ix_list (pv 3) (pe_un un_neg pe_int) (fun _ _ => rfl)) pe_int (fun _ _ => rfl)) (pa_cons pe_non pa_nil))) (pg_sub (pv 3) (pe_un un_neg pe_int) set_list))) pss_nil)
    (pss_one (ps_ret (pv 3)))))), ?_⟩
  refine ⟨Nat.zero_le _, fun fp nfp => ?_⟩
  have frf := hre.new nfp
  have nWf : ¬ W fp := hW.out nfp
  have re0 := hre.store (o := .lst []) frf
  have m0 := (Mv.refl r H).upd (o := .lst []) nfp frf.ne
  have fr0 := frf.upd (o := .lst []) frf.ne
  have e0 : (upd H fp (.lst [])) fp = some (.lst []) := upd_same
  generalize hH0 : upd H fp (.lst []) = H0 at re0 m0 fr0 e0
  refine ⟨.ref r, rfl, small_le (by show 2 ≤ 1000; decide), fun p np => ?_⟩
  have s1 : Same H0 (upd H0 p (.lst [.int 2, .int 8])) := same_upd np
  have ep : (upd H0 p (.lst [.int 2, .int 8])) p = some (.lst [.int 2, .int 8]) := upd_same
  have npr := (re0.new np).ne
  have mv1 := Mv.of s1 re0
  have re01 := re0.same s1
  generalize hH1 : upd H0 p (.lst [.int 2, .int 8]) = H1 at s1 ep mv1 re01
  refine ⟨.ref r, rfl, 2, rfl, re01, by decide, by decide, fun x H2 re2 m2 x0 x1 => ?_⟩
  obtain ⟨z, hz, z0, z1⟩ : ∃ z, atI [V.int 2, .int 8] x = some (.int z) ∧ 1 ≤ z ∧ z ≤ 8 := by
    have hh : x = 0 ∨ x = 1 := by omega
    rcases hh with z | z <;> rw [z]
    · exact ⟨2, atI_nat (j := 0) rfl, by decide, by decide⟩
    · exact ⟨8, atI_nat (j := 1) rfl, by decide, by decide⟩
  refine ⟨p, _, x, .int z, rfl, rfl, SqL.of (m2.keep p _ npr ep), hz, z, rfl, re2, z0, by omega, fun y H3 re3 m3 y0 y1 => ⟨1, y, rfl, rfl, 1 + y, rfl, by omega, by omega, ?_⟩⟩
  have m13 := (mv1.trans m2).trans m3
  have fr3 := m13.free fp (by rw [e0]; exact nofun) fr0
  have e3 := m13.keep fp _ frf.ne e0
  refine for_range (lo := 0) (n := (1 + y).toNat) (fun i σ H2 => ∃ (fvs : List V) (rs : List RowT) (y4 : Option V), σ = [some (.ref r), some (.int most), some (.bl b), some (.ref fp), y4] ∧ ReelAt H2 r ∧ Mv r H H2 ∧ Free H2 r fp ∧ H2 fp = some (.lst fvs) ∧ rs.length = i ∧
      RpAll (Hw (fun b => W b ∨ b = fp) H2) fvs (rs.map rowD) ∧ (∀ x ∈ rs, GoodRow x ∧ isNone x.2 = false ∧ worth x.2 ≤ 39 ∧ ∀ o ∈ x.1, ∀ p : Int, o = some p → p ≤ max 8 most) ∧ 0 ≤ sumW rs ∧ sumW rs ≤ 40 * (i : Int))
    ⟨[], [], none, rfl, re3, m0.trans m13, fr3, e3, rfl, .nil, (fun x hx => by cases hx), by decide, by decide⟩
    (fun i σ H2 hi hP => ?_) (fun σ H2 hP => ?_)
  · obtain ⟨fvs, rs, y4, rfl, re2, m2, fr2, e2, lrs, hA, hgood, hs0, hs1⟩ := hP
    have hi8 : i < 8 := by omega
    have e2n : H2 fp ≠ none := by rw [e2]; exact nofun
    refine ⟨.ref fp, rfl, .inl ⟨rfl, _, SqL.of e2⟩, .ref r, rfl, .int most, rfl, most, fun b => W b ∨ b = fp, rfl, re2, (hW.mv re2 m2).add e2n, h0, hG, fun t os H4 re4 m4 et l1 l8 hos hom => ?_⟩
    have ef4 := m4.keep fp _ fr2.ne e2
    have fr4 := m4.free fp e2n fr2
    refine ⟨.ref r, rfl, small_le (by show 3 ≤ 1000; decide), fun p np => ?_⟩
    have s5 : Same H4 (upd H4 p (.lst [.int 3, .int 12, .int 40])) := same_upd np
    have ep : (upd H4 p (.lst [.int 3, .int 12, .int 40])) p = some (.lst [.int 3, .int 12, .int 40]) := upd_same
    have npr := (re4.new np).ne
    have mv5 := Mv.of s5 re4
    have re5 := re4.same s5
    generalize hH5 : upd H4 p (.lst [.int 3, .int 12, .int 40]) = H5 at s5 ep mv5 re5
    refine ⟨.ref r, rfl, 3, rfl, re5, by decide, by decide, fun x H6 re6 m6 x0 x1 => ?_⟩
    obtain ⟨z, hz, z0, z1⟩ : ∃ z, atI [V.int 3, .int 12, .int 40] x = some (.int z) ∧ 1 ≤ z ∧ z ≤ 40 := by
      have hh : x = 0 ∨ x = 1 ∨ x = 2 := by omega
      rcases hh with z | z | z <;> rw [z]
      · exact ⟨3, atI_nat (j := 0) rfl, by decide, by decide⟩
      · exact ⟨12, atI_nat (j := 1) rfl, by decide, by decide⟩
      · exact ⟨40, atI_nat (j := 2) rfl, by decide, by decide⟩
    refine ⟨p, _, x, .int z, rfl, rfl, SqL.of (m6.keep p _ npr ep), hz, z, rfl, re6, z0, by omega, fun u H8 re8 m8 u0 u1 => ⟨small_le (by show 2 ≤ 1000; decide), fun p2 np2 => ?_⟩⟩
    have m48 := (mv5.trans m6).trans m8
    have ef8 := m48.keep fp _ fr2.ne ef4
    have fr8 := m48.free fp (by rw [ef4]; exact nofun) fr4
    have m28 := m2.trans (m4.trans m48)
    have et8 : Hw (fun b => W b ∨ b = fp) H8 t = some (.lst (os.map pvO)) := m48.hw (W := fun b => W b ∨ b = fp) (.inl hW.reel) _ _ et
    have s9 : Same H8 (upd H8 p2 (.tup [.ref t, .int u])) := same_upd np2
    have ep2 : (upd H8 p2 (.tup [.ref t, .int u])) p2 = some (.tup [.ref t, .int u]) := upd_same
    have np2f : p2 ≠ fp := fun z => by rw [z, ef8] at np2; cases np2
    have nWp : ¬ (W p2 ∨ p2 = fp) := fun z => z.elim ((hW.mv re8 m28).out np2) np2f
    have mv9 := Mv.of s9 re8
    generalize hH9 : upd H8 p2 (.tup [.ref t, .int u]) = H9 at s9 ep2 mv9
    have fr9 := mv9.free fp (by rw [ef8]; exact nofun) fr8
    have lf : fvs.length = rs.length := by have := hA.length; rw [List.length_map] at this; exact this
    refine ⟨fp, _, _, rfl, rfl, s9 _ _ ef8, by exact small1000 (by omega), ?_⟩
    refine ⟨fvs ++ [.ref p2], rs ++ [(os, .int u)], _, rfl, (re8.same s9).store fr9, (m28.trans mv9).upd nfp frf.ne, fr9.upd fr2.ne, upd_same, by rw [List.length_append, lrs]; rfl, ?_, fun x hx => ?_, ?_, ?_⟩
    · rw [hw_upd (.inr rfl), List.map_append]
      have m29 := (m4.trans m48).trans mv9
      refine (RpAll.sm (m29.hw (W := fun b => W b ∨ b = fp) (.inl hW.reel)) hA).snoc (.tup (by rw [Hw.at nWp]; exact ep2) (.cons (.lst (Same.hw s9 _ _ et8) (rp_Os os)) (.cons (.int u) .nil)))
    · rcases List.mem_append.mp hx with hx | hx
      · exact hgood x hx
      · rw [List.mem_singleton.mp hx]
        exact ⟨⟨l1, l8, hos, decide_eq_true u0⟩, rfl, by show u ≤ 39; omega, hom⟩
    · rw [sumW_snoc2]
      show 0 ≤ sumW rs + u
      omega
    · rw [sumW_snoc2]
      show sumW rs + u ≤ _
      omega
  · obtain ⟨fvs, rs, y4, rfl, re2, m2, fr2, e2, lrs, hA, hgood, hs0, hs1⟩ := hP
    have n1 : 1 ≤ rs.length := by omega
    have n8 : rs.length ≤ 8 := by omega
    have sum_le : sumW rs ≤ GREAT := by show _ ≤ (1000000000000000000000000000000 : Int); omega
    have sum_lo := hs0
    have ret : ∀ {H3 : Hp}, ReelAt H3 r → Mv r H2 H3 → Q (.ref fp) H3 := fun {H3} re3 m3 => q fp rs H3 re3 (m2.trans m3) (.lst (by rw [Hw.at nWf]; exact m3.keep fp _ fr2.ne e2) (RpAll.sm (Hw.less (W := W) (W' := fun b => W b ∨ b = fp) fun b hb => .inl hb) (RpAll.sm (m3.hw (W := fun b => W b ∨ b = fp) (.inl hW.reel)) hA))) ⟨n1, n8, fun x hx => (hgood x hx).1, fun x hx => (hgood x (List.mem_of_mem_take hx)).2.1, sum_le⟩ (by omega) (fun _ x hx => (hgood x hx).2)
    refine ⟨.bl b, rfl, b, rfl, ?_⟩
    cases b with
    | true => exact iteF (iteF ⟨.ref fp, rfl, ret re2 (Mv.refl r H2)⟩)
    | false =>
    refine iteT ⟨.ref r, rfl, 2, rfl, re2, by decide, by decide, fun x3 H3 re3 m3 _ _ => ⟨rfl, _, rfl, ?_⟩⟩
    have e3 := m3.keep fp _ fr2.ne e2
    have fr3 := m3.free fp (by rw [e2]; exact nofun) fr2
    have hA3 := RpAll.sm (m3.hw (W := fun b => W b ∨ b = fp) (.inl hW.reel)) hA
    refine ite2 (fun _ => ?_) (fun _ => ?_)
    · obtain ⟨rs', row, rfl⟩ : ∃ rs' row, rs = rs' ++ [row] := ⟨rs.dropLast, rs.getLast (by intro z; rw [z] at n1; exact absurd n1 (by decide)), (List.dropLast_concat_getLast _).symm⟩
      rw [List.map_append] at hA3
      obtain ⟨fvs', v, rfl, hA', hv⟩ := RpAll.unsnoc hA3
      obtain ⟨pats, m⟩ := row
      cases hv with
      | @tup b xs _ hb hxs =>
        cases hxs with
        | @cons vt _ _ _ ht hxs2 =>
          cases hxs2 with
          | @cons vm _ _ _ hm hxs3 =>
            cases hxs3
            have hb' := Hw.sub _ _ _ _ hb
            refine ⟨.ref fp, rfl, 1, rfl, fp, _, -1, .ref b, rfl, rfl, SqL.of e3, atI_last _ _, b, _, 0, vt, rfl, rfl, SqT.of hb', atI_nat (j := 0) rfl, small_le (by show 2 ≤ 1000; decide), fun p np => ?_⟩
            have s4 : Same H3 (upd H3 p (.tup [vt, .non])) := same_upd np
            have ep : (upd H3 p (.tup [vt, .non])) p = some (.tup [vt, .non]) := upd_same
            have npf : p ≠ fp := fun z => by rw [z, e3] at np; cases np
            have npr : p ≠ r := (re3.new np).ne
            have nWp : ¬ (W p ∨ p = fp) := fun z => z.elim ((hW.mv re3 (m2.trans m3)).out np) npf
            generalize hH4 : upd H3 p (.tup [vt, .non]) = H4 at s4 ep
            have re4 := re3.same s4
            have fr4 : Free H4 r fp := (Mv.of s4 re3).free fp (by rw [e3]; exact nofun) fr3
            have m4 := (m2.trans m3).trans (Mv.of s4 re3)
            refine ⟨.ref fp, rfl, 1, rfl, fp, _, -1, fvs'.length, rfl, rfl, s4 _ _ e3, by rw [List.length_append]; exact ix_last _, ?_⟩
            refine ⟨.ref fp, rfl, q fp (rs' ++ [(pats, PyData.none)]) _ (re4.store fr4) (m4.upd nfp frf.ne) (.lst (by rw [Hw.at nWf]; exact upd_same) ?_) ?_ ?_ (fun z => by cases z)⟩
            · have hX : RpAll (Hw (fun b => W b ∨ b = fp) H4) (fvs' ++ [.ref p]) ((rs' ++ [(pats, PyData.none)]).map rowD) := by
                rw [List.map_append]
                exact (RpAll.sm (Same.hw s4) hA').snoc (.tup (by rw [Hw.at nWp]; exact ep) (.cons (Rp.sm (Same.hw s4) ht) (.cons .non .nil)))
              have hs : (fvs' ++ [V.ref b]).set fvs'.length (.ref p) = fvs' ++ [.ref p] := by simp
              rw [hs]
              refine RpAll.sm (Hw.less (W := W) (W' := fun b => W b ∨ b = fp) fun b hb => .inl hb) ?_
              rw [hw_upd (.inr rfl)]
              exact hX
            · rw [List.length_append, List.length_singleton] at n8
              have hrow := hgood (pats, m) (List.mem_append_right _ (List.mem_singleton.mpr rfl))
              refine ⟨by rw [List.length_append, List.length_singleton]; omega, by rw [List.length_append, List.length_singleton]; exact n8, fun x hx => ?_, fun x hx => ?_, ?_⟩
              · rcases List.mem_append.mp hx with hx | hx
                · exact (hgood x (List.mem_append_left _ hx)).1
                · rw [List.mem_singleton.mp hx]
                  exact ⟨hrow.1.lo, hrow.1.hi, hrow.1.pat, rfl⟩
              · have : x ∈ rs' := by
                  rw [List.length_append, List.length_singleton, Nat.add_sub_cancel, List.take_left'  rfl] at hx
                  exact hx
                exact (hgood x (List.mem_append_left _ this)).2.1
              · rw [sumW_snoc2] at sum_le ⊢
                have hm0 : 0 ≤ worth m := by
                  have := hrow.1.many
                  cases m with
                  | int i => exact of_decide_eq_true this
                  | _ => exact Int.le_refl 0
                show sumW rs' + 0 ≤ GREAT
                have sl : sumW rs' + worth m ≤ GREAT := sum_le
                omega
            · have hrow := hgood (pats, m) (List.mem_append_right _ (List.mem_singleton.mpr rfl))
              have hm0 : 0 ≤ worth m := by
                have := hrow.1.many
                cases m with
                | int i => exact of_decide_eq_true this
                | _ => exact Int.le_refl 0
              rw [sumW_snoc2] at hs1 ⊢
              have h1 : sumW rs' + worth m ≤ 40 * _ := hs1
              show sumW rs' + 0 ≤ 320
              omega
    · exact ⟨.ref fp, rfl, ret re3 m3⟩
end
end CL
set_option Elab.async false
set_option linter.all false
set_option maxRecDepth 100000
set_option maxHeartbeats 2000000
namespace CL
open PySem PySem.Spec PyProof.Rows L2 GE
/-! ### how much a thing weighs -/
mutual
def wt : PyData → Nat
  | .none => 4
  | .bool _ => 5
  | .int i => i.natAbs.log2 + 4
  | .str x => (reprText x).length
  | .list xs => wtAll xs + 4
  | .tuple xs => wtAll xs + 4
  | .dict kvs => kvs.length * 100000000 + 2
def wtAll : List PyData → Nat
  | [] => 0
  | x :: xs => wt x + 2 + wtAll xs
end
structure B (k u : Nat) (d : PyData) : Prop where
  dp : d.depth ≤ k
  wt : wt d ≤ u
  sh : d.showable = true
theorem B.mono {k u k' u' : Nat} {d : PyData} (b : B k u d) (hk : k ≤ k') (hu : u ≤ u') : B k' u' d := ⟨Nat.le_trans b.dp hk, Nat.le_trans b.wt hu, b.sh⟩
theorem all_bnd {k u : Nat} : ∀ {ds : List PyData}, (∀ x ∈ ds, B k u x) → PyData.depthAll ds ≤ k ∧ wtAll ds ≤ ds.length * (u + 2) ∧ PyData.showableAll ds = true
  | [], _ => ⟨Nat.zero_le _, by simp [wtAll], by simp [PyData.showableAll]⟩
  | x :: ds, h => by
    obtain ⟨h1, h2, h3⟩ := all_bnd (ds := ds) fun y hy => h y (List.mem_cons_of_mem _ hy)
    have hx := h x List.mem_cons_self
    refine ⟨?_, ?_, ?_⟩
    · show max _ _ ≤ k
      exact Nat.max_le.mpr ⟨hx.dp, h1⟩
    · show wt x + 2 + wtAll ds ≤ _
      rw [List.length_cons, Nat.add_mul]
      have := hx.wt
      omega
    · simp [PyData.showableAll, hx.sh, h3]
theorem B.list {k u n : Nat} {ds : List PyData} (h : ∀ x ∈ ds, B k u x) (hn : ds.length ≤ n) : B (k + 1) (n * (u + 2) + 4) (.list ds) := by
  obtain ⟨h1, h2, h3⟩ := all_bnd h
  have := Nat.mul_le_mul_right (u + 2) hn
  refine ⟨?_, ?_, ?_⟩
  · show PyData.depthAll ds + 1 ≤ k + 1
    omega
  · show wtAll ds + 4 ≤ _
    omega
  · simp [PyData.showable, h3]
theorem B.tuple {k u n : Nat} {ds : List PyData} (h : ∀ x ∈ ds, B k u x) (hn : ds.length ≤ n) : B (k + 1) (n * (u + 2) + 4) (.tuple ds) := by
  obtain ⟨h1, h2, h3⟩ := all_bnd h
  have := Nat.mul_le_mul_right (u + 2) hn
  refine ⟨?_, ?_, ?_⟩
  · show PyData.depthAll ds + 1 ≤ k + 1
    omega
  · show wtAll ds + 4 ≤ _
    omega
  · simp [PyData.showable, h3]
theorem b_none {k : Nat} : B k 200 .none := ⟨Nat.zero_le _, by decide, rfl⟩
theorem b_bool {k : Nat} {b : Bool} : B k 200 (.bool b) := ⟨Nat.zero_le _, by show 5 ≤ 200; decide, rfl⟩
theorem b_int {k : Nat} {i : Int} (h : i.natAbs < 2 ^ 140) : B k 200 (.int i) := by
  have h1 : i.natAbs.log2 < 140 := PySem.Flt.log2_lt_of (by decide) h
  exact ⟨Nat.zero_le _, by show i.natAbs.log2 + 4 ≤ 200; omega, by simp [PyData.showable]; omega⟩
/-- a list of lo to hi things, each P -/
def Ls (lo hi : Nat) (P : PyData → Prop) (d : PyData) : Prop := ∃ ds, d = .list ds ∧ lo ≤ ds.length ∧ ds.length ≤ hi ∧ ∀ x ∈ ds, P x
def Tp (n : Nat) (P : PyData → Prop) (d : PyData) : Prop := ∃ ds, d = .tuple ds ∧ ds.length ≤ n ∧ ∀ x ∈ ds, P x
/-! ### evaluation where nothing but the reel changes -/
abbrev Gam := List (V × PyData)
def GOk (W : Addr → Prop) (H : Hp) (G : Gam) : Prop := ∀ p ∈ G, Rp (Hw W H) p.1 p.2
theorem GOk.mv {r : Addr} {W : Addr → Prop} {H H' : Hp} {G : Gam} (g : GOk W H G) (m : Mv r H H') (h : W r) : GOk W H' G := fun p hp => Rp.sm (m.hw h) (g p hp)
theorem GOk.cons {W : Addr → Prop} {H : Hp} {G : Gam} {v : V} {d : PyData} (g : GOk W H G) (h : Rp (Hw W H) v d) : GOk W H ((v, d) :: G) := fun p hp => by
  rcases List.mem_cons.mp hp with e | hp
  · rw [e]; exact h
  · exact g p hp
structure Se (r : Addr) (W : Addr → Prop) (G : Gam) (H : Hp) : Prop where
  re : ReelAt H r
  wk : Wk W H r
  ok : GOk W H G
theorem Se.mv {r : Addr} {W : Addr → Prop} {G : Gam} {H H' : Hp} (s : Se r W G H) (re : ReelAt H' r) (m : Mv r H H') : Se r W G H' := ⟨re, s.wk.mv re m, s.ok.mv m s.wk.reel⟩
theorem Se.same {r : Addr} {W : Addr → Prop} {G : Gam} {H H' : Hp} (s : Se r W G H) (m : Same H H') : Se r W G H' := s.mv (s.re.same m) (Mv.of m s.re)
section
variable {r : Addr} {W : Addr → Prop} {G : Gam} {σ : L2.St}
def Ev (r : Addr) (W : Addr → Prop) (G : Gam) (σ : L2.St) (te : TE) (P : PyData → Prop) : Prop := ∀ H Q, Se r W G H → (∀ v d H', ReelAt H' r → Mv r H H' → Rp (Hw W H') v d → P d → Q v H') → te σ H Q
def EvI (r : Addr) (W : Addr → Prop) (G : Gam) (σ : L2.St) (te : TE) (P : Int → Prop) : Prop := ∀ H Q, Se r W G H → (∀ i H', ReelAt H' r → Mv r H H' → P i → Q (.int i) H') → te σ H Q
def EvA (r : Addr) (W : Addr → Prop) (G : Gam) (σ : L2.St) (ta : TA) (n : Nat) (P : PyData → Prop) : Prop := ∀ H Q, Se r W G H → (∀ vs ds H', ReelAt H' r → Mv r H H' → RpAll (Hw W H') vs ds → ds.length = n → (∀ x ∈ ds, P x) → Q vs H') → ta σ H Q
theorem Ev.imp {te : TE} {P P' : PyData → Prop} (e : Ev r W G σ te P) (h : ∀ d, P d → P' d) : Ev r W G σ te P' := fun H Q s q => e H Q s fun v d H' re m rp p => q v d H' re m rp (h d p)
theorem EvI.imp {te : TE} {P P' : Int → Prop} (e : EvI r W G σ te P) (h : ∀ d, P d → P' d) : EvI r W G σ te P' := fun H Q s q => e H Q s fun i H' re m p => q i H' re m (h i p)
theorem EvI.ev {te : TE} {P : Int → Prop} {P' : PyData → Prop} (e : EvI r W G σ te P) (h : ∀ i, P i → P' (.int i)) : Ev r W G σ te P' := fun H Q s q => e H Q s fun i H' re m p => q _ _ H' re m (.int i) (h i p)
theorem ev_int {i : Int} : EvI r W G σ (tC (.int i)) (· = i) := fun H Q s q => q i H s.re (Mv.refl r H) rfl
theorem ev_non {P : PyData → Prop} (h : P .none) : Ev r W G σ (tC .non) P := fun H Q s q => q _ _ H s.re (Mv.refl r H) .non h
theorem ev_bl {b : Bool} {P : PyData → Prop} (h : P (.bool b)) : Ev r W G σ (tC (.bl b)) P := fun H Q s q => q _ _ H s.re (Mv.refl r H) (.bl b) h
theorem ev_str {x : Str} {P : PyData → Prop} (h : P (.str x)) : Ev r W G σ (tC (.str x)) P := fun H Q s q => q _ _ H s.re (Mv.refl r H) (.str x) h
theorem ev_var {i : Nat} {v : V} {d : PyData} {P : PyData → Prop} (h1 : σ[i]? = some (some v)) (h2 : (v, d) ∈ G) (h : P d) : Ev r W G σ (tVar i) P := fun H Q s q => ⟨v, h1, q v d H s.re (Mv.refl r H) (s.ok _ h2) h⟩
theorem ev_varI {i : Nat} {x : Int} (h1 : σ[i]? = some (some (.int x))) : EvI r W G σ (tVar i) (· = x) := fun H Q s q => ⟨.int x, h1, q x H s.re (Mv.refl r H) rfl⟩
theorem eva_nil {P : PyData → Prop} : EvA r W G σ tNil 0 P := fun H Q s q => q [] [] H s.re (Mv.refl r H) .nil rfl (fun _ h => nomatch h)
theorem eva_cons {te : TE} {ta : TA} {n : Nat} {P : PyData → Prop} (e : Ev r W G σ te P) (a : EvA r W G σ ta n P) : EvA r W G σ (tCons te ta) (n + 1) P := fun H Q s q =>
  e H _ s fun v d H1 re1 m1 rp1 p1 => a H1 _ (s.mv re1 m1) fun vs ds H2 re2 m2 rp2 l2 p2 => q (v :: vs) (d :: ds) H2 re2 (m1.trans m2) (.cons (Rp.sm (m2.hw s.wk.reel) rp1) rp2) (by rw [List.length_cons, l2]) fun x hx => by
    rcases List.mem_cons.mp hx with z | z
    · rw [z]; exact p1
    · exact p2 x z
theorem ev_lst {ta : TA} {n : Nat} {P : PyData → Prop} (a : EvA r W G σ ta n P) (hn : n ≤ 1000 := by decide) : Ev r W G σ (tLst ta) (Ls n n P) := fun H Q s q =>
  a H _ s fun vs ds H1 re1 m1 rp1 l1 p1 => ⟨small_le (by rw [rp1.length]; omega), fun p np => q (.ref p) (.list ds) _ (re1.same (same_upd np)) (m1.trans (Mv.of (same_upd np) re1))
    (.lst (by rw [Hw.at ((s.wk.mv re1 m1).out np)]; exact upd_same) (RpAll.sm (Same.hw (same_upd np)) rp1)) ⟨ds, rfl, Nat.le_of_eq l1.symm, Nat.le_of_eq l1, p1⟩⟩
theorem ev_tup {ta : TA} {n : Nat} {P : PyData → Prop} (a : EvA r W G σ ta n P) (hn : n ≤ 1000 := by decide) : Ev r W G σ (tTup ta) (Tp n P) := fun H Q s q =>
  a H _ s fun vs ds H1 re1 m1 rp1 l1 p1 => ⟨small_le (by rw [rp1.length]; omega), fun p np => q (.ref p) (.tuple ds) _ (re1.same (same_upd np)) (m1.trans (Mv.of (same_upd np) re1))
    (.tup (by rw [Hw.at ((s.wk.mv re1 m1).out np)]; exact upd_same) (RpAll.sm (Same.hw (same_upd np)) rp1)) ⟨ds, rfl, Nat.le_of_eq l1, p1⟩⟩
theorem rp_list {H : Hp} {v : V} {ds : List PyData} (h : Rp H v (.list ds)) : ∃ p xs, v = .ref p ∧ H p = some (.lst xs) ∧ RpAll H xs ds := by
  cases h with
  | lst h1 h2 => exact ⟨_, _, rfl, h1, h2⟩
theorem ev_cat {ta tb : TE} {l1 h1 l2 h2 : Nat} {P : PyData → Prop} (a : Ev r W G σ ta (Ls l1 h1 P)) (b : Ev r W G σ tb (Ls l2 h2 P)) (hn : h1 ≤ 1000 := by decide) (hm : h2 ≤ 1000 := by decide) : Ev r W G σ (tOp rCat ta tb) (Ls (l1 + l2) (h1 + h2) P) := fun H Q s q =>
  a H _ s fun v d H1 re1 m1 rp1 ⟨ds, e1, a1, b1, p1⟩ => b H1 _ (s.mv re1 m1) fun v2 d2 H2 re2 m2 rp2 ⟨es, e2, a2, b2, p2⟩ => by
    subst e1 e2
    obtain ⟨p, xs, rfl, hp, hx⟩ := rp_list (Rp.sm (m2.hw s.wk.reel) rp1)
    obtain ⟨p', ys, rfl, hp', hy⟩ := rp_list rp2
    refine ⟨p, p', xs, ys, rfl, rfl, Hw.sub W H2 _ _ hp, Hw.sub W H2 _ _ hp', small_add (by rw [hx.length]; omega) (by rw [hy.length]; omega), fun t nt => q (.ref t) (.list (ds ++ es)) _ (re2.same (same_upd nt)) ((m1.trans m2).trans (Mv.of (same_upd nt) re2))
      (.lst (by rw [Hw.at ((s.wk.mv re2 (m1.trans m2)).out nt)]; exact upd_same) (RpAll.sm (Same.hw (same_upd nt)) (hx.append hy))) ⟨ds ++ es, rfl, by rw [List.length_append]; omega, by rw [List.length_append]; omega, fun x hx => (List.mem_append.mp hx).elim (p1 x) (p2 x)⟩⟩
theorem RpAll.drop {H : Hp} : ∀ {vs : List V} {ds : List PyData} (n : Nat), RpAll H vs ds → RpAll H (vs.drop n) (ds.drop n)
  | _, _, 0, h => h
  | _, _, _ + 1, .nil => .nil
  | _, _, n + 1, .cons _ t => RpAll.drop n t
theorem ev_sl {K : PySem.W.Frag} {te : TE} {tl th : TO} {lo hi : Nat} {P : PyData → Prop} (a : Ev r W G σ te (Ls lo hi P)) (hl : ∀ H Q, Se r W G H → (∀ l H', ReelAt H' r → Mv r H H' → Q l H') → tl σ H Q) (hh : ∀ H Q, Se r W G H → (∀ l H', ReelAt H' r → Mv r H H' → Q l H') → th σ H Q) :
    Ev r W G σ (tSl (rSlL K) te tl th) (Ls 0 hi P) := fun H Q s q =>
  a H _ s fun v d H1 re1 m1 rp1 ⟨ds, e1, a1, b1, p1⟩ => hl H1 _ (s.mv re1 m1) fun l H2 re2 m2 => hh H2 _ (s.mv re2 (m1.trans m2)) fun u H3 re3 m3 => by
    subst e1
    obtain ⟨p, xs, rfl, hp, hx⟩ := rp_list (Rp.sm ((m2.trans m3).hw s.wk.reel) rp1)
    have m13 := m1.trans (m2.trans m3)
    refine ⟨p, xs, rfl, SqL.of (Hw.sub W H3 _ _ hp), fun t nt => q (.ref t) (.list ((ds.drop (HT.sIx xs.length 0 l)).take (HT.sIx xs.length xs.length u - HT.sIx xs.length 0 l))) _ (re3.same (same_upd nt)) (m13.trans (Mv.of (same_upd nt) re3))
      (.lst (by rw [Hw.at ((s.wk.mv re3 m13).out nt)]; exact upd_same) (RpAll.sm (Same.hw (same_upd nt)) ((hx.drop _).take _))) ⟨_, rfl, Nat.zero_le _, ?_, fun x hx => p1 x (List.mem_of_mem_drop (List.mem_of_mem_take hx))⟩⟩
    rw [List.length_take, List.length_drop]
    omega
theorem part_none : ∀ H (Q : Option Int → Hp → Prop), Se r W G H → (∀ l H', ReelAt H' r → Mv r H H' → Q l H') → tNoPart σ H Q := fun H Q s q => q none H s.re (Mv.refl r H)
theorem part_some {te : TE} {P : Int → Prop} (e : EvI r W G σ te P) : ∀ H (Q : Option Int → Hp → Prop), Se r W G H → (∀ l H', ReelAt H' r → Mv r H H' → Q l H') → tPart te σ H Q := fun H Q s q => e H _ s fun i H' re m _ => ⟨i, rfl, q (some i) H' re m⟩
theorem ev_draw {tm : TE} {m : Int} (e : EvI r W G σ tm (· = m)) (h0 : σ[0]? = some (some (.ref r))) (h1 : 1 ≤ m) (h2 : m < 2 ^ 140) : EvI r W G σ (tCall (spDraw r) [] E0 (tCons (tVar 0) (tCons tm tNil))) (fun x => 0 ≤ x ∧ x < m) := fun H Q s q =>
  ⟨.ref r, h0, e H _ s fun i H1 re1 m1 e1 => ⟨m, by rw [e1]; rfl, re1, h1, h2, fun x H' re' m' x0 x1 => q x H' re' (m1.trans m') ⟨x0, x1⟩⟩⟩
theorem ev_ix {K : PySem.W.Frag} {ta ti : TE} {lo hi : Nat} {P : PyData → Prop} (a : Ev r W G σ ta (Ls lo hi P)) (b : EvI r W G σ ti (fun x => 0 ≤ x ∧ x < (lo : Int))) : Ev r W G σ (tOp (rIxL K) ta ti) P := fun H Q s q =>
  a H _ s fun v d H1 re1 m1 rp1 ⟨ds, e1, a1, b1, p1⟩ => b H1 _ (s.mv re1 m1) fun i H2 re2 m2 hi => by
    subst e1
    obtain ⟨p, xs, rfl, hp, hx⟩ := rp_list (Rp.sm (m2.hw s.wk.reel) rp1)
    obtain ⟨j, rfl⟩ : ∃ j : Nat, i = (j : Int) := ⟨i.toNat, (Int.toNat_of_nonneg hi.1).symm⟩
    have hj : j < xs.length := by have := hx.length; omega
    obtain ⟨d, hd, hr⟩ := hx.get (List.getElem?_eq_getElem hj)
    exact ⟨p, xs, j, xs[j], rfl, rfl, SqL.of (Hw.sub W H2 _ _ hp), atI_nat (List.getElem?_eq_getElem hj), q _ d H2 re2 (m1.trans m2) hr (p1 d (List.mem_of_getElem? hd))⟩
theorem ev_rep {ta ti : TE} {lo hi : Nat} {k : Nat} {P : PyData → Prop} (a : Ev r W G σ ta (Ls lo hi P)) (b : EvI r W G σ ti (fun x => x ≤ (k : Int) ∧ -1000 ≤ x)) (h1 : hi ≤ 1000 := by decide) (hk : hi * k ≤ 1000 := by decide) (hk2 : k ≤ 1000 := by decide) : Ev r W G σ (tOp rRep ta ti) (Ls 0 (hi * k) P) := fun H Q s q =>
  a H _ s fun v d H1 re1 m1 rp1 ⟨ds, e1, a1, b1, p1⟩ => b H1 _ (s.mv re1 m1) fun i H2 re2 m2 hi' => by
    subst e1
    obtain ⟨p, xs, rfl, hp, hx⟩ := rp_list (Rp.sm (m2.hw s.wk.reel) rp1)
    have hl := hx.length
    have kk : i.toNat ≤ k := by omega
    have hmul : xs.length * i.toNat ≤ hi * k := Nat.mul_le_mul (by omega) kk
    have rep : ∀ n : Nat, RpAll (Hw W H2) (List.replicate n xs).flatten (List.replicate n ds).flatten := fun n => by
      induction n with
      | zero => exact .nil
      | succ n ih =>
        rw [List.replicate_succ, List.replicate_succ, List.flatten_cons, List.flatten_cons]
        exact hx.append ih
    refine ⟨p, i, xs, rfl, rfl, Hw.sub W H2 _ _ hp, by omega, by omega, small_le (by omega), fun t nt => q (.ref t) (.list (List.replicate i.toNat ds).flatten) _ (re2.same (same_upd nt)) ((m1.trans m2).trans (Mv.of (same_upd nt) re2))
      (.lst (by rw [Hw.at ((s.wk.mv re2 (m1.trans m2)).out nt)]; exact upd_same) (RpAll.sm (Same.hw (same_upd nt)) (rep _))) ⟨_, rfl, Nat.zero_le _, ?_, fun x hx => ?_⟩⟩
    · have := (rep i.toNat).length
      rw [← this]
      rw [List.length_flatten, List.map_replicate, List.sum_replicate_nat]
      rw [Nat.mul_comm]
      exact hmul
    · obtain ⟨l, hl, hxl⟩ := List.mem_flatten.mp hx
      rw [(List.mem_replicate.mp hl).2] at hxl
      exact p1 x hxl
theorem ev_len {K : PySem.W.Frag} {i : Nat} {v : V} {ds : List PyData} (h1 : σ[i]? = some (some v)) (h2 : (v, PyData.list ds) ∈ G) :
    EvI r W G σ (tCB (fun xs H Q => ∃ p ys, xs = [.ref p] ∧ (SqL K H p ys ∨ SqT K H p ys) ∧ Q (.int ys.length) H) (tCons (tVar i) tNil)) (· = (ds.length : Int)) := fun H Q s q => by
  obtain ⟨p, xs, rfl, hp, hx⟩ := rp_list (s.ok _ h2)
  exact ⟨.ref p, h1, p, xs, rfl, .inl (SqL.of (Hw.sub W H _ _ hp)), q _ H s.re (Mv.refl r H) (by rw [hx.length])⟩
theorem evi_add {ta tb : TE} {x y : Int} (a : EvI r W G σ ta (· = x)) (b : EvI r W G σ tb (· = y)) : EvI r W G σ (tOp (rI0 fun i j => .int (i + j)) ta tb) (· = x + y) := fun H Q s q =>
  a H _ s fun i H1 re1 m1 e1 => b H1 _ (s.mv re1 m1) fun j H2 re2 m2 e2 => ⟨i, j, rfl, rfl, q _ H2 re2 (m1.trans m2) (by rw [e1, e2])⟩
theorem evi_sub {ta tb : TE} {x y : Int} (a : EvI r W G σ ta (· = x)) (b : EvI r W G σ tb (· = y)) : EvI r W G σ (tOp (rI0 fun i j => .int (i - j)) ta tb) (· = x - y) := fun H Q s q =>
  a H _ s fun i H1 re1 m1 e1 => b H1 _ (s.mv re1 m1) fun j H2 re2 m2 e2 => ⟨i, j, rfl, rfl, q _ H2 re2 (m1.trans m2) (by rw [e1, e2])⟩
theorem evi_pow {x y : Int} (h : CPow x y) : EvI r W G σ (tOp (rI CPow fun i j => .int (i ^ j.toNat)) (tC (.int x)) (tC (.int y))) (· = x ^ y.toNat) := fun H Q s q =>
  ⟨x, y, rfl, rfl, h, q _ H s.re (Mv.refl r H) rfl⟩
theorem evi_neg {x : Int} : EvI r W G σ (tUn (rU fun i => .int (-i)) (tC (.int x))) (· = -x) := fun H Q s q => ⟨x, rfl, q _ H s.re (Mv.refl r H) rfl⟩
theorem ev_set {te : TE} {i : Nat} {P : PyData → Prop} {D : Ends} {H : Hp} (e : Ev r W G σ te P) (s : Se r W G H) (h : ∀ v d H', Se r W ((v, d) :: G) H' → Mv r H H' → P d → D.nx (σ.set i (some v)) H') : tAsg te (gName i) D σ H :=
  e H _ s fun v d H' re m rp p => h v d H' ⟨re, s.wk.mv re m, (s.ok.mv m s.wk.reel).cons rp⟩ m p
theorem evi_set {te : TE} {i : Nat} {P : Int → Prop} {D : Ends} {H : Hp} (e : EvI r W G σ te P) (s : Se r W G H) (h : ∀ x H', Se r W G H' → Mv r H H' → P x → D.nx (σ.set i (some (.int x))) H') : tAsg te (gName i) D σ H :=
  e H _ s fun x H' re m p => h x H' (s.mv re m) m p
end
end CL
set_option Elab.async false
set_option linter.all false
set_option maxRecDepth 100000
set_option maxHeartbeats 4000000
namespace CL
open PySem PySem.Spec PyProof.Rows L2 GE
/-! ### a def that is called where no repr is under way -/
structure FnG (P : Program) (w : World) (K : PySem.W.Frag) (mg : Str → Option Value) (base : Heap) (k : Nat) (f : Addr) (fd : FuncData) (ps : List Str) (sp : Sp) : Prop where
  run : ∀ (A : Around) (outer : List Env) (s : Shared) (H : Hp) (args : Args) (us : List Value) (vs : List V) (Q : VK) (E : XK), A.guards = some [] → Room k A → Env0 P w K mg base A outer s H → BindsTo s fd args (ps.zip us) → Vals vs us → sp vs H Q E →
    codeAny (model P w) A (.call (.ref f) args) (CR CX0 outer P w H s Q E) s
theorem fng_of {P : Program} {w : World} {K : PySem.W.Frag} {mg : Str → Option Value} {base : Heap} {x qual : Str} {st : Stmt} {f : Addr} {fd : FuncData} {N ps : List Str} {k : Nat} {sp : Sp} (F : Fun K x qual st f fd) (S : FnScope N ps (defScope st)) (len : ∀ vs H Q E, sp vs H Q E → vs.length = ps.length)
    (hbody : ∀ (cdv : Value) (A : Around) (outer : List Env) (s : Shared) (H : Hp) (vs : List V) (Q : VK) (E : XK), A.guards = some [] → Room k (A.deeper (envOfC qual (defScope st) s.heap.objs.size f cdv)) → sp vs H Q E →
      ∃ t, PSs (cxOf CX0 P w K mg base N qual (defScope st) f cdv A outer s H E).nox (defBody st) t ∧ t { nx := fun _ H' => Q .non H', rt := Q } (start N vs) H) : FnG P w K mg base (k + 1) f fd ps sp := by
  obtain ⟨oc, od, kV, doc, pm, an, cdv, ct, osl, rfl, lk, hcd⟩ := F.ex
  constructor
  intro A outer s H args us vs Q E hgd hr e0 hb r hsp
  have hl : vs.length = ps.length := len _ _ _ _ hsp
  have up : ∀ b o, base.get? b = some o → s.heap.get? b = some o := fun b o e => (e0.bs b o e).1
  have KX : K.In s.heap := e0.mod.kin.keeps up
  have pk : ∀ y ∈ ps.zip us, (defScope st).names.lookup y.1 = some .local ∨ ((defScope st).names.lookup y.1 = some .cell ∧ ((cellsFrom (s.heap.objs.size + 1) (defScope st).names []).lookup y.1).isSome = true) := by
    rintro ⟨n, v⟩ hy
    exact (S.par n (List.of_mem_zip hy).1).imp id fun q => ⟨q, PySem.W.cellsFrom_some _ _ _ (.inl q)⟩
  refine codeAny_call_function hr.depth (KX _ _ lk) rfl S.co S.gen rfl (PySem.W.codeRec_of KX hcd) (hb _ _ _ _ (wpAny_newFunctionEnv_cells S.kind pk fun env he s1 x => ?_))
  subst he
  obtain ⟨t, ht, hq⟩ := hbody cdv A outer s H vs Q E hgd (hr.deeper _) hsp
  refine ⟨(e0.mod.nolimit.keeps up).keeps x.toInCall.keep, codeAny_func (wpAny_mono (ht.nox.run [] s1 (start N vs) H _ (inv_start S hr.hd e0 hl r x) hq) (fun fl s' hs => ?_) fun _ _ z => z)⟩
  cases fl with
  | ret u =>
    obtain ⟨v, _, H', J, rv, z⟩ := hs
    exact ⟨v, H', J.os, J.bare, J.base, J.hok, rv, z⟩
  | next =>
    obtain ⟨_, H', J, z⟩ := hs
    exact ⟨.non, H', J.os, J.bare, J.base, J.hok, rfl, z⟩
  | brk => exact (let ⟨_, _, _, z⟩ := hs; z : False).elim
  | cont => exact (let ⟨_, _, _, z⟩ := hs; z : False).elim
/-! ### repr of data -/
section
variable {X : Cx} {pins : List (Addr × Obj)} {σ : L2.St} {H : Hp} {s : Shared}
mutual
theorem Rp.reads (hsys : ∃ o, X.base.get? sysModules = some o) (I : Inv X pins σ H s) : ∀ (d : PyData) (v : V) (u : Value), Rp H v d → RelV v u → ∃ as, Reads s.heap u d as ∧ sysModules ∉ as
  | .none, _, _, h, r => by cases h; cases r; exact ⟨_, Reads.none, by simp⟩
  | .bool b, _, _, h, r => by cases h; cases r; exact ⟨_, Reads.bool b, by simp⟩
  | .int i, _, _, h, r => by cases h; obtain ⟨t, rfl⟩ := r; exact ⟨_, Reads.int i t, by simp⟩
  | .str x, _, _, h, r => by cases h; obtain ⟨t, rfl⟩ := r; exact ⟨_, Reads.str x t, by simp⟩
  | .list ds, _, _, h, r => by
    cases h with
    | @lst a xs _ hs ha =>
      cases r
      obtain ⟨its, rv, ⟨o, n, ho, hc, _, hd⟩, _⟩ := I.list (SqL.of hs)
      obtain ⟨as, hr, hn⟩ := RpAll.reads hsys I ds _ its ha rv
      refine ⟨_, Reads.list ho hc hd hr, fun z => (List.mem_cons.mp z).elim (fun e => ?_) hn⟩
      obtain ⟨o1, ho1⟩ := hsys
      have z := (I.bs _ _ ho1).2
      rw [e, hs] at z
      cases z
  | .tuple ds, _, _, h, r => by
    cases h with
    | tup hs ha =>
      cases r
      obtain ⟨its, rv, ⟨o, ho, hc, n, hd⟩, _⟩ := I.tuple (SqT.of hs)
      obtain ⟨as, hr, hn⟩ := RpAll.reads hsys I ds _ its ha rv
      exact ⟨_, Reads.tuple ho hc hd hr, hn⟩
  | .dict kvs, _, _, h, r => by
    cases h with
    | @dct a hs =>
      cases r
      obtain ⟨_, hne, vs, kv, o, es, ep, ho, hx, hd, _, hp, _⟩ := (show ObjOk X.prog X.w H s.heap a (.dK []) from I.hok a _ hs)
      cases kv
      have e0 : es.toList = [] := List.eq_nil_of_length_eq_zero hp.length
      refine ⟨_, Reads.dict ho hx.1 hd (by rw [e0]; exact .nil) (by rw [e0]; exact .nil), fun z => ?_⟩
      have z' : sysModules = a := by simpa using z
      rw [z'] at hne
      simp at hne
theorem RpAll.reads (hsys : ∃ o, X.base.get? sysModules = some o) (I : Inv X pins σ H s) : ∀ (ds : List PyData) (vs : List V) (us : List Value), RpAll H vs ds → Vals vs us → ∃ as, ReadsAll s.heap us ds as ∧ sysModules ∉ as
  | [], _, _, h, r => by cases h; cases r; exact ⟨_, ReadsAll.nil, by simp⟩
  | d :: ds, _, _, h, r => by
    cases h with
    | cons h1 h2 =>
      cases r with
      | cons r1 r2 =>
        obtain ⟨as, q1, n1⟩ := Rp.reads hsys I d _ _ h1 r1
        obtain ⟨bs, q2, n2⟩ := RpAll.reads hsys I ds _ _ h2 r2
        exact ⟨_, ReadsAll.cons q1 q2, fun z => (List.mem_append.mp z).elim n1 n2⟩
end
end
/-! ### how long a thing is, shown -/
theorem piled_le {ts : List Str} : ∀ {ds : List PyData}, ts = PyData.shownAll ds → (∀ d ∈ ds, d.shown.length ≤ wt d) → piled ts ≤ wtAll ds
  | [], e, _ => by rw [e]; exact Nat.le_refl 0
  | d :: ds, e, h => by
    have ih := piled_le (ts := PyData.shownAll ds) rfl fun x hx => h x (List.mem_cons_of_mem _ hx)
    have h1 := h d List.mem_cons_self
    rw [e]
    show d.shown.length + 2 + piled (PyData.shownAll ds) ≤ wt d + 2 + wtAll ds
    omega
theorem list_len (ts : List Str) : (listText ts).length ≤ piled ts + 2 := by
  cases ts with
  | nil => decide +kernel
  | cons t r =>
    have h := textFrom_length_pos r 1 (("[" : Str) ++ (if (0 : Nat) > 0 then ", " else "" : String) ++ t) (Nat.succ_pos 0)
    have hX : (listText (t :: r)).length = (textFrom 1 (("[" : Str) ++ (if (0 : Nat) > 0 then ", " else "" : String) ++ t) r).length + 1 := by
      show (textFrom 1 _ r ++ "]").length = _
      rw [Str.length_append]
      rfl
    have e1 : ((("[" : Str) ++ (if (0 : Nat) > 0 then ", " else "" : String) ++ t) : Str).length = 1 + t.length := by
      rw [Str.length_append, Str.length_append]
      rfl
    have e2 : piled (t :: r) = t.length + 2 + piled r := rfl
    omega
theorem tuple_len (ts : List Str) : (tupleText ts).length ≤ piled ts + 3 := by
  have h : (Str.join ", " ts).length ≤ piled ts := by
    by_cases e : ts = []
    · rw [e]; decide +kernel
    · have := join_length_add ts e
      omega
  unfold tupleText
  rw [Str.length_append, Str.length_append]
  have h1 : (("(" : Str)).length = 1 := by decide +kernel
  have h2 : ((if ts.length == 1 then ",)" else ")" : String) : Str).length ≤ 2 := by
    split <;> decide +kernel
  omega
mutual
theorem shown_le : ∀ d : PyData, wt d ≤ 10000000 → d.showable = true → d.shown.length ≤ wt d
  | .none, _, _ => by decide +kernel
  | .bool b, _, _ => by cases b <;> decide +kernel
  | .int i, _, _ => by
    have h := int_text_length_le (a := i) (k := i.natAbs.log2 + 1) (Nat.succ_pos _) (Nat.lt_succ_self _)
    show (Str.ofString (toString i)).length ≤ i.natAbs.log2 + 4
    rw [PySem.ofString_length]
    omega
  | .str x, _, _ => Nat.le_refl _
  | .list ds, h, s => by
    have h1 := shown_all ds (by have : wt (.list ds) = wtAll ds + 4 := rfl; omega) (by simpa [PyData.showable] using s)
    have h2 := piled_le rfl h1
    have h3 := list_len (PyData.shownAll ds)
    show (listText (PyData.shownAll ds)).length ≤ wtAll ds + 4
    omega
  | .tuple ds, h, s => by
    have h1 := shown_all ds (by have : wt (.tuple ds) = wtAll ds + 4 := rfl; omega) (by simpa [PyData.showable] using s)
    have h2 := piled_le rfl h1
    have h3 := tuple_len (PyData.shownAll ds)
    show (tupleText (PyData.shownAll ds)).length ≤ wtAll ds + 4
    omega
  | .dict [], _, _ => by decide +kernel
  | .dict (x :: kvs), h, _ => by
    have : wt (.dict (x :: kvs)) = (kvs.length + 1) * 100000000 + 2 := rfl
    omega
theorem shown_all : ∀ ds : List PyData, wtAll ds ≤ 10000000 → PyData.showableAll ds = true → ∀ d ∈ ds, d.shown.length ≤ wt d
  | [], _, _, d, hd => nomatch hd
  | x :: ds, h, s, d, hd => by
    have e : wtAll (x :: ds) = wt x + 2 + wtAll ds := rfl
    have s' : x.showable = true ∧ PyData.showableAll ds = true := by simpa [PyData.showableAll] using s
    rcases List.mem_cons.mp hd with z | z
    · rw [z]
      exact shown_le x (by omega) s'.1
    · exact shown_all ds (by omega) s'.2 d z
end
/-! ### repr(x) of a list or a tuple -/
theorem call_reprD {X : Cx} {k : Nat} (hg : X.A.guards = some []) (hr : Room k X.A) (hsys : ∃ o, X.base.get? sysModules = some o) :
    CallR X (.builtin "repr") (fun xs H Q => ∃ v d a, xs = [v] ∧ v = .ref a ∧ Rp H v d ∧ B 100 10000000 d ∧ Q (.str d.shown) H) := by
  intro pins s σ H xs us Q I r h
  obtain ⟨v, d, a, rfl, rfl, hR, hB, q⟩ := h
  obtain ⟨u, rfl, rx⟩ := vals1 r
  obtain ⟨as, hrd, hno⟩ := Rp.reads hsys I d _ _ hR rx
  cases rx
  refine repr_of_reads' hrd hB.sh (fun _ => hno) hg (by have := hr.un; have := hB.dp; omega) (fun _ _ e => e) (fun h' u tk hk => ⟨.str _, H, I.kept hk, ⟨_, rfl⟩, q⟩) ?_
  have h1 := shown_le d hB.wt hB.sh
  have h2 := hB.wt
  rw [sizeLine_eq]
  omega
end CL
set_option Elab.async false
set_option linter.all false
set_option maxRecDepth 100000
set_option maxHeartbeats 4000000
namespace CL
open PySem PySem.Spec PyProof.Rows L2 GE
/-! ### enumerate of a tuple -/
theorem meets_enumT (l : Addr) (items : Array Value) (n : Nat) (dct : Option Addr) (sl : Array (Option Value)) :
    Meets (Builtin.«enumerate.__new__» ⟨[.type "enumerate", .ref l], []⟩) (fun _ R s => s.heap.get? l = some { cls := .type "tuple", dict := dct, data := .seq items n, slots := sl } ∧
      R (.ok (.ret (.ref (s.heap.push { cls := .type "tuple_iterator", data := .fields #[.ref l, .int 0 0] }).objs.size)))
        { s with heap := (s.heap.push { cls := .type "tuple_iterator", data := .fields #[.ref l, .int 0 0] }).push { cls := .type "enumerate", data := .fields #[.none, .bool false, .ref s.heap.objs.size, rawInt 0, .none, .none] } }) :=
  .of_wp fun prog w A R s h => by
    obtain ⟨hp, g, d, tk, os⟩ := s; obtain ⟨hl, h⟩ := h
    have hsub := sub_enumerate
    have hL : Heap.IsTuple (Shared.heap ⟨hp, g, d, tk, os⟩) l items := ⟨_, hl, rfl, n, rfl⟩
    wp_walk using AutoSeq1.wpAny_loadPart' hl
    refine wpAny_stack_any fun st => wpAny_pure ?_
    split
    · rename_i c _ _ _ _ _
      cases (c == Value.type "enumerate")
      · wp_walk using AutoSeq1.wpAny_loadPart' hl, wpAny_pyIter_tuple hL
        exact ⟨_, rfl, h⟩
      · wp_walk using AutoSeq1.wpAny_loadPart' hl, wpAny_pyIter_tuple hL
        exact ⟨_, rfl, h⟩
    · wp_walk using AutoSeq1.wpAny_loadPart' hl, wpAny_pyIter_tuple hL
      exact ⟨_, rfl, h⟩
theorem call_enumT {prog : Program} {w : World} {A : Around} {E : Value → Shared → Prop} {s : Shared} {l : Addr} {items : Array Value} {Q : Value → Shared → Prop} (hL : s.heap.IsTuple l items)
    (h : ∀ h', IsEnum h' (s.heap.objs.size + 1) s.heap.objs.size 0 .none → h'.IsTupleIter s.heap.objs.size l 0 → h'.objs.size = s.heap.objs.size + 2 →
      (∀ b o, s.heap.get? b = some o → h'.get? b = some o) → Q (.ref (s.heap.objs.size + 1)) { s with heap := h' }) :
    wpAny (model prog w) A (call (.type "enumerate") [.ref l]) Q E s := by
  obtain ⟨⟨c, dct, dt, sl⟩, hl, hc, n, hd⟩ := hL
  replace hc : c = .type "tuple" := hc
  replace hd : dt = .seq items n := hd
  subst hc hd
  refine callType_new F.called_enumerate (by decide) (F.typeCall_enumerate_1 _) (F.newCall_enumerate_1 _) (fun obj => F.args_object_init_2 obj _) F.entry_enumerate_new
    (meets_enumT l items n dct sl) ⟨hl, ?_⟩
  have hz : (s.heap.push { cls := .type "tuple_iterator", data := .fields #[.ref l, .int 0 0] }).objs.size = s.heap.objs.size + 1 := Heap.size_push ..
  show _ ∧ _
  rw [hz]
  have he : IsEnum ((s.heap.push { cls := .type "tuple_iterator", data := .fields #[.ref l, .int 0 0] }).push
      { cls := .type "enumerate", data := .fields #[.none, .bool false, .ref s.heap.objs.size, rawInt 0, .none, .none] }) (s.heap.objs.size + 1) s.heap.objs.size 0 .none := by
    have := Heap.get?_push_size (s.heap.push { cls := .type "tuple_iterator", data := .fields #[.ref l, .int 0 0] })
      (o := { cls := .type "enumerate", data := .fields #[.none, .bool false, .ref s.heap.objs.size, rawInt 0, .none, .none] }) rfl
    rw [hz] at this; exact this
  exact ⟨⟨_, he, rfl⟩, h _ he ⟨_, Heap.get?_push_of_some _ (Heap.get?_push_size _ rfl), rfl, rfl⟩ (by rw [Heap.size_push, hz]) fun b o x => Heap.get?_push_of_some _ (Heap.get?_push_of_some _ x)⟩
def IteT (K : PySem.W.Frag) (a : Addr) : It :=
  ⟨fun i H => ∃ (xs : List V) (x : V), SqT K H a xs ∧ xs[i]? = some x, fun i H v H' => ∃ T x, v = .ref T ∧ H T = none ∧ H' = upd H T (.tup [.int (i : Nat), x]) ∧ ∀ xs, SqT K H a xs → xs[i]? = some x, fun i H => ∃ xs : List V, SqT K H a xs ∧ xs.length = i⟩
theorem turn_enumT {P : Program} {w : World} {K : PySem.W.Frag} {elts : List Expr} {kk : Nat} {tpos : Pos} (a e it : Addr) :
    Turn P w K (.Tuple elts kk tpos) (IteT K a) [e, it] e (fun i h => (∃ old, IsEnum h e it ((i : Nat) : Int) old) ∧ h.IsTupleIter it a i ∧ e ≠ it) where
  mem := by simp
  obj := fun i h st b hb => by
    obtain ⟨⟨old, he⟩, ⟨o, ho, hc, hd⟩, _⟩ := st
    have e' : b = e ∨ b = it := by simpa using hb
    rcases e' with z | z
    · rw [z]; exact ⟨_, he, fun v q => nomatch q⟩
    · rw [z]; exact ⟨o, ho, fun v q => by rw [hd] at q; cases q⟩
  keep := fun i h h' st k => let ⟨⟨old, he⟩, hi, hne⟩ := st; ⟨⟨old, k e (by simp) _ he⟩, hi.at fun o q => k it (by simp) o q, hne⟩
  item := by
    intro X hP hw hK hc i pins s σ H E I hf st hg
    subst hP hw hK
    obtain ⟨⟨old, he⟩, hit, hne⟩ := st
    obtain ⟨xs, x, hq, hx⟩ := hg
    obtain ⟨its, rv, p, hz⟩ := I.tuple hq
    have p : s.heap.IsTuple a its.toArray := p
    obtain ⟨u, hu, ru⟩ := rv.get hx
    have hel : e < s.heap.objs.size := Heap.lt_size he
    have hil : it < s.heap.objs.size := by obtain ⟨_, q, _⟩ := hit; exact Heap.lt_size q
    have nai : a ≠ it := fun z => by
      obtain ⟨o, ho, hc1, _⟩ := id p
      obtain ⟨o', ho', hc2, _⟩ := id hit
      rw [z, ho'] at ho
      cases ho
      rw [hc2] at hc1
      exact absurd hc1 (by decide)
    have nea : e ≠ a := fun z => by
      obtain ⟨o, ho, hc1, _⟩ := id p
      have he' := he
      unfold IsEnum at he'
      rw [z, ho] at he'
      rw [Option.some.inj he'] at hc1
      exact absurd (show Value.type "enumerate" = Value.type "tuple" from hc1) (by decide)
    have hlt : i < its.toArray.size := by
      have := List.getElem?_eq_some_iff.mp hu
      simpa using this.1
    refine wpAny_pyNext_enum_itemD (Draws.tuple (show X.A.in1.handled = none from I.ok.hd hc) it a nai its.toArray) he ⟨hit, p⟩ hlt hne (by simp [hne, nea]) fun x' h' tk hP' ho hst hT hsz hk => ?_
    obtain rfl : u = x' := by
      have : its.toArray[i]? = some u := by simpa using hu
      rw [this] at hP'
      exact Option.some.inj hP'
    refine ⟨_, rfl, wpAny_letOwnedTupleGo_enum (s := { s with heap := h', toks := tk + 1 }) ho fun h'' he' sb => ?_⟩
    have hT2 : h''.get? s.heap.objs.size = some { cls := .type "tuple", data := .seq #[.int i tk, u] } := (sb.2 _ (Nat.ne_of_gt hel)).trans hT
    have new : ObjOk X.prog X.w (upd H s.heap.objs.size (.tup [.int (i : Nat), x])) h'' s.heap.objs.size (.tup [.int (i : Nat), x]) :=
      ⟨by show 2 ≤ sizeLine; decide, [.int i tk, u], .cons ⟨_, rfl⟩ (.cons ru .nil), ⟨_, hT2, rfl, _, rfl⟩⟩
    have I1 : Inv X pins σ (upd H s.heap.objs.size (.tup [.int (i : Nat), x])) { s with heap := h'', toks := tk + 1 } :=
      I.turnedNew (ch := [e, it]) (fun b ob hb q => (sb.2 b (fun z => hb (by simp [z]))).trans (hk b ob (fun z => hb (by simp [z])) (fun z => hb (by simp [z])) q)) hf (Nat.le_refl _) new
    refine ⟨.ref s.heap.objs.size, _, I1, rfl, ⟨_, x, rfl, I.hok.fresh (Nat.le_refl _), rfl, fun ys hy => by rw [I.tuple_inj hy hq]; exact hx⟩, ⟨⟨u, ?_⟩, hst.1.at fun o q => (sb.2 it (Ne.symm hne)).trans q, hne⟩, fun b hb => ?_⟩
    · have e1 : ((i + 1 : Nat) : Int) = (i : Int) + 1 := by omega
      rw [e1]; exact he'
    · have hb' : b < s.heap.objs.size := by
        have e' : b = e ∨ b = it := by simpa using hb
        rcases e' with z | z
        · rw [z]; exact hel
        · rw [z]; exact hil
      rw [upd_ne (Nat.ne_of_lt hb')]
      exact (hf b hb).1
  done := by
    intro X hP hw hK hc i pins s σ H E I hf st hg
    subst hP hw hK
    obtain ⟨⟨old, he⟩, hit, hne⟩ := st
    obtain ⟨xs, hq, hx⟩ := hg
    obtain ⟨its, rv, p, hz⟩ := I.tuple hq
    have p : s.heap.IsTuple a its.toArray := p
    have nai : a ≠ it := fun z => by
      obtain ⟨o, ho, hc1, _⟩ := id p
      obtain ⟨o', ho', hc2, _⟩ := id hit
      rw [z, ho'] at ho
      cases ho
      rw [hc2] at hc1
      exact absurd hc1 (by decide)
    obtain ⟨f0, f1, f2, f3, f4, f5⟩ := hf it (by simp)
    have hl := rv.length
    have ei : i = its.toArray.size := by simp; omega
    subst ei
    exact wpAny_pyNext_enum_endD (Draws.tuple (show X.A.in1.handled = none from I.ok.hd hc) it a nai its.toArray) he ⟨hit, p⟩ fun h' eb => ⟨rfl, I.turned (t' := s.toks) (fun b o hb q => eb b o hb q) f0 f1 f3 f4 f5⟩
  self := fun A i s Q E st h => let ⟨⟨_, he⟩, _⟩ := st; wpAny_pyIter_enum he h
structure EnumAs (xs : List V) (J : It) (S : Hp → Prop) : Prop where
  go : ∀ i H x, S H → xs[i]? = some x → J.go i H
  stop : ∀ H, S H → J.stop xs.length H
  yld : ∀ i H v H', S H → J.yld i H v H' → ∃ T x, v = .ref T ∧ H T = none ∧ H' = upd H T (.tup [.int (i : Nat), x]) ∧ xs[i]? = some x
def iEnumS (ta : TA) : TI := fun σ H R => ta σ H fun vs H1 => ∃ a xs, vs = [.ref a] ∧ StSeq H1 a xs ∧ ∀ J S, EnumAs xs J S → (∀ H', Ex H1 H' → S H') → R J H1
theorem pi_enumS {X : Cx} {e : Expr} {ta : TA} {p pos tpos : Pos} {elts : List Expr} {kk : Nat} (hg : Gl X "enumerate") (hm : X.mg "enumerate" = none) (ha : PA X [e] ta) (hs : starEach [e] X.env = [(false, eval e X.env)] := by rfl) :
    PI X (.Tuple elts kk tpos) (.Call (.Name "enumerate" p) [e] [] pos) (iEnumS ta) := by
  refine ⟨fun pins s σ H R I h => ?_⟩
  refine Call_ (ld_blt I hg hm boot_enumerate (PyProof.Rows.callWith_type1 (thn (ha.run pos pins s σ H _ I h) fun us s1 ⟨vs, H1, I1, r1, q1⟩ => ?_) hs rfl))
  obtain ⟨a, xs, ex, hst, q⟩ := q1
  subst ex
  cases r1 with
  | cons r rr =>
    cases rr
    cases r
    have new : ∀ b ∈ [s1.heap.objs.size + 1, s1.heap.objs.size], FpOk X pins H1 b := fun b hb => by
      have e' : b = s1.heap.objs.size + 1 ∨ b = s1.heap.objs.size := by simpa using hb
      have hle : s1.heap.objs.size ≤ b := by
        rcases e' with z | z
        · rw [z]; exact Nat.le_add_right _ _
        · rw [z]; exact Nat.le_refl _
      exact I1.fpOk hle (I1.hok.fresh hle)
    rcases hst.or with hq | hq
    · obtain ⟨its, rv, p', hz⟩ := I1.list (SqL.of hq)
      refine call_enumerate_list p'.isList fun h' he hit hsz hk => wpAny_pyIter_enum he ?_
      refine ⟨s1.heap.objs.size + 1, [s1.heap.objs.size + 1, s1.heap.objs.size], _, _, H1, rfl, I1.kept (t' := s1.toks) hk, turn_enum a (s1.heap.objs.size + 1) s1.heap.objs.size, ⟨⟨.none, he⟩, hit, Nat.succ_ne_self _⟩, new,
        q _ (fun H => H a = some (.lst xs)) ⟨fun i H x s e => ⟨xs, x, SqL.of s, e⟩, fun H s => ⟨xs, SqL.of s, Nat.le_refl _⟩, fun i H v H' s y => let ⟨T, x, e1, e2, e3, e4⟩ := y; ⟨T, x, e1, e2, e3, e4 xs (SqL.of s)⟩⟩ fun H' e => e.lst hq⟩
    · obtain ⟨its, rv, p', hz⟩ := I1.tuple (SqT.of hq)
      refine call_enumT (show s1.heap.IsTuple a its.toArray from p') fun h' he hit hsz hk => wpAny_pyIter_enum he ?_
      refine ⟨s1.heap.objs.size + 1, [s1.heap.objs.size + 1, s1.heap.objs.size], _, _, H1, rfl, I1.kept (t' := s1.toks) hk, turn_enumT a (s1.heap.objs.size + 1) s1.heap.objs.size, ⟨⟨.none, he⟩, hit, Nat.succ_ne_self _⟩, new,
        q _ (fun H => H a = some (.tup xs)) ⟨fun i H x s e => ⟨xs, x, SqT.of s, e⟩, fun H s => ⟨xs, SqT.of s, rfl⟩, fun i H v H' s y => let ⟨T, x, e1, e2, e3, e4⟩ := y; ⟨T, x, e1, e2, e3, e4 xs (SqT.of s)⟩⟩ fun H' e => e.tup hq⟩
theorem for_enum {xs : List V} {J : It} {S : Hp → Prop} {g : TG} {tb : TS} {D : Ends} {σ : L2.St} {H : Hp} (E : EnumAs xs J S) (Pv : Nat → L2.St → Hp → Prop) (h0 : Pv 0 σ H) (hl : ∀ i σ H, Pv i σ H → S H)
    (hs : ∀ i x σ H T, xs[i]? = some x → Pv i σ H → H T = none → g (.ref T) σ (upd H T (.tup [.int (i : Nat), x])) fun σ2 H2 => tb { D with nx := Pv (i + 1), ct := Pv (i + 1), bk := D.nx } σ2 H2) (hd : ∀ σ H, Pv xs.length σ H → D.nx σ H) :
    ∃ W : Nat → Nat → L2.St → Hp → Prop, (∃ m, W 0 m σ H) ∧ ∀ i m σ H, W i m σ H →
      (J.stop i H ∧ D.nx σ H) ∨ (J.go i H ∧ ∃ N : L2.St → Hp → Prop, (∀ σ' H', N σ' H' → ∃ m', m' < m ∧ W (i + 1) m' σ' H') ∧ ∀ x H', J.yld i H x H' → g x σ H' fun σ2 H2 => tb { D with nx := N, ct := N, bk := D.nx } σ2 H2) := by
  refine ⟨fun i m σ H => m = xs.length - i ∧ i ≤ xs.length ∧ Pv i σ H, ⟨xs.length, by simp, Nat.zero_le _, h0⟩, ?_⟩
  rintro i m σ H ⟨rfl, hi, p⟩
  have q := hl i σ H p
  by_cases hlt : i < xs.length
  · refine .inr ⟨E.go i H _ q (List.getElem?_eq_getElem hlt), Pv (i + 1), fun σ' H' p' => ⟨xs.length - (i + 1), by omega, rfl, hlt, p'⟩, fun v H' y => ?_⟩
    obtain ⟨T, x, rfl, nT, rfl, hx⟩ := E.yld i H v H' q y
    exact hs i x σ H T hx p nT
  · have e : i = xs.length := by omega
    subst e
    exact .inl ⟨E.stop H q, hd σ H p⟩
end CL
set_option Elab.async false
set_option linter.all false
set_option maxRecDepth 100000
set_option maxHeartbeats 4000000
namespace CL
open PySem PySem.Spec PyProof.Rows L2 GE
def rowT (x : RowT) : PyData := .tuple [.tuple (x.1.map pdO), x.2]
theorem drs_leaf {d e : PyData} (h : Drs d e) (n : ∀ ds, d ≠ .tuple ds) : e = d := by
  cases h with
  | same => rfl
  | lst _ => exact absurd rfl (n _)
  | tup _ => exact absurd rfl (n _)
theorem drs_leaves : ∀ {ds es : List PyData}, DrsAll ds es → (∀ d ∈ ds, ∀ xs, d ≠ .tuple xs) → es = ds
  | _, _, .nil, _ => rfl
  | _, _, .cons h t, n => by rw [drs_leaf h (n _ List.mem_cons_self), drs_leaves t fun d hd => n d (List.mem_cons_of_mem _ hd)]
theorem pdO_leaf (os : List (Option Int)) : ∀ d ∈ os.map pdO, ∀ xs, d ≠ .tuple xs := fun d hd xs e => by
  obtain ⟨o, _, rfl⟩ := List.mem_map.mp hd
  cases o <;> cases e
theorem drs_rows {ds : List PyData} {e : PyData} (h : Drs (.tuple ds) e) : ∃ es, rowsD e = some es ∧ DrsAll ds es := by
  cases h with
  | same =>
    have z : ∀ ds : List PyData, DrsAll ds ds := fun ds => by
      induction ds with
      | nil => exact .nil
      | cons d ds ih => exact .cons (.same d) ih
    exact ⟨ds, rfl, z ds⟩
  | lst h => exact ⟨_, rfl, h⟩
  | tup h => exact ⟨_, rfl, h⟩
theorem many_leaf {m : PyData} (h : isMany m = true) : ∀ ds, m ≠ .tuple ds := fun ds e => by rw [e] at h; cases h
theorem drs_row {x : RowT} {e : PyData} (h : Drs (rowT x) e) (g : GoodRow x) : ∃ t, rowsD e = some [t, x.2] ∧ rowsD t = some (x.1.map pdO) := by
  obtain ⟨es, he, ha⟩ := drs_rows h
  cases ha with
  | cons h1 h2 =>
    cases h2 with
    | cons h3 h4 =>
      cases h4
      rw [drs_leaf h3 (many_leaf g.many)] at he
      obtain ⟨os, ho, hb⟩ := drs_rows h1
      rw [drs_leaves hb (pdO_leaf _)] at ho
      exact ⟨_, he, ho⟩
theorem row_piece {x : RowT} {e : PyData} (h : Drs (rowT x) e) (g : GoodRow x) : isPiece e = true ∧ sndD e = x.2 ∧ turnsD e = x.1.map pdO := by
  obtain ⟨t, he, ht⟩ := drs_row h g
  refine ⟨?_, sndD_two he, ?_⟩
  · rw [isPiece_two he, g.many, Bool.and_true]
    unfold isTurns
    rw [ht]
    show (decide (1 ≤ (x.1.map pdO).length) && decide ((x.1.map pdO).length ≤ 8) && (x.1.map pdO).all isPatience) = true
    rw [List.length_map, decide_eq_true g.lo, decide_eq_true g.hi]
    simp only [Bool.true_and, List.all_map, List.all_eq_true]
    exact fun o ho => pat_good (g.pat o ho)
  · unfold turnsD
    rw [he]
    show (rowsD t).getD [] = _
    rw [ht]
    rfl
def pcsR : Int → List RowT → List PieceT
  | _, [] => []
  | f, x :: rs => (f, pastO f x.2, x.1.map pdO) :: pcsR (f + worth x.2) rs
theorem pcs_drs : ∀ (f : Int) (rs : List RowT) {es : List PyData}, DrsAll (rs.map rowT) es → (∀ x ∈ rs, GoodRow x) → pcs f es = pcsR f rs ∧ es.all isPiece = true ∧ sumSnd es = sumW rs ∧ es.map sndD = rs.map (·.2)
  | _, [], _, .nil, _ => ⟨rfl, rfl, rfl, rfl⟩
  | f, x :: rs, _, .cons h t, g => by
    obtain ⟨a1, a2, a3⟩ := row_piece h (g x List.mem_cons_self)
    obtain ⟨b1, b2, b3, b4⟩ := pcs_drs (f + worth x.2) rs t fun y hy => g y (List.mem_cons_of_mem _ hy)
    refine ⟨?_, ?_, ?_, ?_⟩
    · show (f, pastO f (sndD _), turnsD _) :: pcs (f + worth (sndD _)) _ = _
      rw [a2, a3, b1]
      rfl
    · show (isPiece _ && List.all _ isPiece) = true
      rw [a1, b2]
      rfl
    · show worth (sndD _) + sumSnd _ = worth x.2 + sumW rs
      rw [a2, b3]
    · show sndD _ :: List.map sndD _ = _
      rw [a2, b4]
      rfl
theorem dressed_plan {rs : List RowT} {d : PyData} (h : Drs (.tuple (rs.map rowT)) d) (f : Fine rs) : isPlan d = true ∧ piecesOf d = pcsR 0 rs := by
  obtain ⟨es, he, ha⟩ := drs_rows h
  obtain ⟨b1, b2, b3, b4⟩ := pcs_drs 0 rs ha f.row
  have hl : es.length = rs.length := by
    have := congrArg List.length b4
    simpa using this
  refine ⟨?_, ?_⟩
  · have e : isPlan d = isPlanL es := by unfold isPlan; rw [he]
    rw [e]
    unfold isPlanL
    have h2 : (es.take (es.length - 1)).any (fun d => isNone (sndD d)) = false := by
      rw [List.any_eq_false]
      intro y hy
      have z : sndD y ∈ (es.take (es.length - 1)).map sndD := List.mem_map_of_mem hy
      rw [List.map_take, b4, hl, ← List.map_take] at z
      obtain ⟨x, hx, ex⟩ := List.mem_map.mp z
      rw [← ex, f.last x hx]
      exact Bool.false_ne_true
    rw [b2, b3, h2, hl, decide_eq_true f.lo, decide_eq_true f.hi, decide_eq_true f.sum]
    rfl
  · unfold piecesOf
    rw [he]
    exact b1
theorem pcs_rows : ∀ (f : Int) (rs : List RowT), pcs f (rs.map rowD) = pcsR f rs
  | _, [] => rfl
  | f, x :: rs => by
    show (f, pastO f x.2, x.1.map pdO) :: pcs (f + worth x.2) (rs.map rowD) = _
    rw [pcs_rows]
    rfl
/-! ### the first people's patiences -/
def sizeO (most len : Nat) : PyData → Nat
  | .int m => min m.toNat (most - len)
  | _ => most - len
def seg (x : RowT) (n : Nat) : List (Option Int) := (List.range n).map fun k => (x.1[k % x.1.length]?).getD none
def said (most : Nat) : List (Option Int) → List RowT → List (Option Int)
  | acc, [] => acc
  | acc, x :: rs => said most (acc ++ seg x (sizeO most acc.length x.2)) rs
theorem seg_len (x : RowT) (n : Nat) : (seg x n).length = n := by
  unfold seg
  rw [List.length_map, List.length_range]
theorem sizeO_le (most len : Nat) (d : PyData) : sizeO most len d ≤ most - len := by
  cases d <;> first | exact Nat.min_le_right _ _ | exact Nat.le_refl _
theorem said_le (most : Nat) : ∀ (rs : List RowT) (acc : List (Option Int)), acc.length ≤ most → (said most acc rs).length ≤ most
  | [], acc, h => h
  | x :: rs, acc, h => by
    refine said_le most rs _ ?_
    rw [List.length_append, seg_len]
    have := sizeO_le most acc.length x.2
    omega
theorem said_pre (most : Nat) : ∀ (rs : List RowT) (acc : List (Option Int)) (n : Nat), n < acc.length → (said most acc rs)[n]? = acc[n]?
  | [], acc, n, h => rfl
  | x :: rs, acc, n, h => by
    show (said most (acc ++ seg x (sizeO most acc.length x.2)) rs)[n]? = _
    rw [said_pre most rs _ n (by rw [List.length_append]; omega), List.getElem?_append_left h]
theorem pdO_optD : ∀ o : Option Int, pdO o = optD o
  | none => rfl
  | some _ => rfl
theorem seg_has {x : RowT} (g : GoodRow x) (f : Int) (past : Option Int) {n k : Nat} (hk : k < n) : ∃ o, (seg x n)[k]? = some o ∧ ∀ i : Int, i - f = (k : Int) → (x.1.map pdO)[((i - f) % ((x.1.map pdO).length : Int)).toNat]? = some (optD o) := by
  have l1 := g.lo
  have hm : k % x.1.length < x.1.length := Nat.mod_lt _ (by omega)
  refine ⟨x.1[k % x.1.length], ?_, fun i e => ?_⟩
  · unfold seg
    rw [List.getElem?_map, List.getElem?_range hk]
    show some ((x.1[k % x.1.length]?).getD none) = _
    rw [List.getElem?_eq_getElem hm]
    rfl
  · rw [e, List.length_map]
    have e2 : ((k : Int) % (x.1.length : Int)).toNat = k % x.1.length := rfl
    rw [e2, List.getElem?_map, List.getElem?_eq_getElem hm, Option.map_some, pdO_optD]
theorem said_has (most : Nat) : ∀ (rs : List RowT) (acc : List (Option Int)) (f : Nat), (∀ x ∈ rs, GoodRow x) → acc.length = f → f ≤ most → ∀ n : Nat, f ≤ n → n < (said most acc rs).length → ∃ o, (said most acc rs)[n]? = some o ∧ HasP (pcsR (f : Int) rs) (n : Int) (optD o)
  | [], acc, f, _, hl, _, n, h1, h2 => by
    have : n < acc.length := h2
    omega
  | x :: rs, acc, f, hg, hl, hm, n, h1, h2 => by
    subst hl
    have g := hg x List.mem_cons_self
    have l1 := g.lo
    have hs := sizeO_le most acc.length x.2
    have h2' : n < (said most (acc ++ seg x (sizeO most acc.length x.2)) rs).length := h2
    by_cases hn : n < acc.length + sizeO most acc.length x.2
    · obtain ⟨o, ho, hp⟩ := seg_has g (acc.length : Int) (pastO (acc.length : Int) x.2) (n := sizeO most acc.length x.2) (k := n - acc.length) (by omega)
      refine ⟨o, ?_, (((acc.length : Int), pastO (acc.length : Int) x.2, x.1.map pdO) : PieceT), ?_, by show 0 < (x.1.map pdO).length; rw [List.length_map]; omega, hp (n : Int) (by omega)⟩
      · show (said most (acc ++ seg x (sizeO most acc.length x.2)) rs)[n]? = _
        rw [said_pre most rs _ n (by rw [List.length_append, seg_len]; omega), List.getElem?_append_right (by omega)]
        exact ho
      · show List.find? (comes (n : Int)) (((acc.length : Int), pastO (acc.length : Int) x.2, x.1.map pdO) :: pcsR ((acc.length : Int) + worth x.2) rs) = _
        have hc : comes (n : Int) ((acc.length : Int), pastO (acc.length : Int) x.2, x.1.map pdO) = true := by
          unfold comes
          have hmany := g.many
          cases e : x.2 with
          | int m =>
            rw [e] at hn hmany
            have hm0 : 0 ≤ m := of_decide_eq_true hmany
            have : sizeO most acc.length (.int m) ≤ m.toNat := Nat.min_le_left _ _
            show decide ((n : Int) < (acc.length : Int) + m) = true
            exact decide_eq_true (by omega)
          | _ => rfl
        rw [List.find?_cons, hc]
    · have hle := said_le most rs (acc ++ seg x (sizeO most acc.length x.2)) (by rw [List.length_append, seg_len]; omega)
      have hmany := g.many
      obtain ⟨m, e⟩ : ∃ m, x.2 = .int m := by
        cases e : x.2 with
        | int m => exact ⟨m, rfl⟩
        | none =>
          exfalso
          have : sizeO most acc.length .none = most - acc.length := rfl
          rw [e] at hn h2' hle
          omega
        | _ => rw [e] at hmany; cases hmany
      rw [e] at hn h2' hle hmany hs
      have hm0 : 0 ≤ m := of_decide_eq_true hmany
      have hsm : sizeO most acc.length (.int m) = m.toNat := by
        have : sizeO most acc.length (.int m) = min m.toNat (most - acc.length) := rfl
        omega
      obtain ⟨o, ho, pp, hf, hpl, hpe⟩ := said_has most rs (acc ++ seg x (sizeO most acc.length (.int m))) (acc.length + m.toNat) (fun y hy => hg y (List.mem_cons_of_mem _ hy)) (by rw [List.length_append, seg_len]; omega) (by omega) n (by omega) h2'
      refine ⟨o, ?_, pp, ?_, hpl, hpe⟩
      · show (said most (acc ++ seg x (sizeO most acc.length x.2)) rs)[n]? = _
        rw [e]
        exact ho
      · show List.find? (comes (n : Int)) (((acc.length : Int), pastO (acc.length : Int) x.2, x.1.map pdO) :: pcsR ((acc.length : Int) + worth x.2) rs) = _
        have hc : comes (n : Int) ((acc.length : Int), pastO (acc.length : Int) x.2, x.1.map pdO) = false := by
          unfold comes
          rw [e]
          show decide ((n : Int) < (acc.length : Int) + m) = false
          exact decide_eq_false (by omega)
        have e3 : (acc.length : Int) + worth x.2 = ((acc.length + m.toNat : Nat) : Int) := by
          rw [e]
          show (acc.length : Int) + m = _
          omega
        rw [List.find?_cons, hc, e3]
        exact hf
def patL (os : List (Option Int)) : Nat → Option Int := fun n => (os[n]?).getD none
end CL
set_option Elab.async false
set_option linter.all false
set_option maxRecDepth 100000
set_option maxHeartbeats 4000000
namespace CL
open PySem PySem.Spec PyProof.Rows L2 GE
abbrev sSaid : Stmt := topS 41
abbrev nSaid : List Str := ["rows", "most", "found", "turn", "many", "size", "k"]
theorem scSaid : FnScope nSaid ["rows", "most"] (defScope sSaid) := ⟨rfl, rfl, rfl, by decide +kernel, rfl, by decide +kernel, by decide +kernel⟩
theorem said_snoc (most : Nat) : ∀ (rs : List RowT) (acc : List (Option Int)) (x : RowT), said most acc (rs ++ [x]) = said most acc rs ++ seg x (sizeO most (said most acc rs).length x.2)
  | [], acc, x => rfl
  | y :: rs, acc, x => said_snoc most rs (acc ++ seg y (sizeO most acc.length y.2)) x
theorem seg_succ (x : RowT) (n : Nat) : seg x (n + 1) = seg x n ++ [(x.1[n % x.1.length]?).getD none] := by
  unfold seg
  rw [List.range_succ, List.map_append]
  rfl
theorem ix_blk {X : Cx} {s : Shared} {H : Hp} {scope : Scope} {cenv : Env} {fp : List Addr} : IxR (X.blk s H scope cenv fp) (rIxL X.K) := ix_list
theorem len_blk {X : Cx} {s : Shared} {H : Hp} {scope : Scope} {cenv : Env} {fp : List Addr} : CallR (X.blk s H scope cenv fp) (.builtin "len") (fun xs H Q => ∃ p ys, xs = [.ref p] ∧ (SqL X.K H p ys ∨ SqT X.K H p ys) ∧ Q (.int ys.length) H) := call_len_seq
theorem rp_optV {H : Hp} {v : V} : ∀ {o : Option Int}, Rp H v (optD o) → v = optV o
  | none, h => by cases h; rfl
  | some i, h => by cases h; rfl
theorem rp_pdO {H : Hp} {v : V} {o : Option Int} (h : Rp H v (pdO o)) : v = optV o := by
  rw [pdO_optD] at h
  exact rp_optV h
/-- a row that stands -/
theorem row_at {H : Hp} {x : V} {row : RowT} (h : Rp H x (rowD row)) (g : GoodRow row) : ∃ b t zs vm, x = .ref b ∧ H b = some (.tup [.ref t, vm]) ∧ H t = some (.lst zs) ∧ zs.length = row.1.length ∧ (∀ j : Nat, j < row.1.length → zs[j]? = some (optV ((row.1[j]?).getD none))) ∧ ((row.2 = .none ∧ vm = .non) ∨ ∃ m, row.2 = .int m ∧ vm = .int m ∧ 0 ≤ m) := by
  cases h with
  | @tup b xs _ hb hxs =>
  cases hxs with
  | cons a1 h2 =>
  cases h2 with
  | cons a2 h3 =>
  cases h3
  obtain ⟨t, zs, rfl, ht, hz⟩ := rp_list a1
  have hl := hz.length
  rw [List.length_map] at hl
  refine ⟨b, t, zs, _, rfl, hb, ht, hl, fun j hj => ?_, ?_⟩
  · obtain ⟨d, hd, hR⟩ := hz.get (List.getElem?_eq_getElem (by omega : j < zs.length))
    rw [List.getElem?_map, List.getElem?_eq_getElem hj] at hd
    obtain rfl := (Option.some.inj hd).symm
    rw [List.getElem?_eq_getElem (by omega : j < zs.length), rp_pdO hR, List.getElem?_eq_getElem hj]
    rfl
  · have gm := g.many
    generalize row.2 = m2 at a2 gm
    cases a2 with
    | non => exact .inl ⟨rfl, rfl⟩
    | int m => exact .inr ⟨m, rfl, rfl, of_decide_eq_true gm⟩
    | _ => cases gm
def spSaid : Sp := fun vs H Q _ => ∃ v rs, ∃ n : Int, ∃ most : Nat, vs = [v, .int n] ∧ n = (most : Int) ∧ Rp H v (.list (rs.map rowD)) ∧ (∀ x ∈ rs, GoodRow x) ∧ most ≤ 2000 ∧ ∀ p H', Same H H' → H p = none → H' p = some (.lst ((said most [] rs).map optV)) → Q (.ref p) H'
section
variable {P : Program} {w : World} {K : PySem.W.Frag} {mg : Str → Option Value} {base : Heap}
theorem ok_said {f : Addr} {fd : FuncData} (F : Fun K "_law_said_over" "_law_said_over" sSaid f fd) (T : Nm mg) (T2 : Nm2 mg) : FnOk P w K mg base CX0 1 f fd ["rows", "most"] spSaid := by
  refine F.ok scSaid (fun vs H Q E ⟨v, rs, n, most, e, _⟩ => by rw [e]; rfl) (fun cdv A outer s H vs Q E hr h => ?_)
  obtain ⟨v, rs, _, most, rfl, rfl, hR, hg, hm, q⟩ := h
  have nd := scSaid.nd
  have sz : 5000 ≤ sizeLine := by decide
  refine ⟨_, (pss_cons (ps_set (i := 2) nd rfl (.inl rfl) (pe_lst pa_nil))
    (pss_cons (ps_for PassesOwn.never rfl (pi_list (pv 0)) (pg_tup rfl (pgs_cons (pg_name (i := 3) nd rfl (.inr rfl)) (pgs_cons (pg_name (i := 4) nd rfl (.inl rfl)) pgs_nil)))
      (pss_cons (ps_set (i := 5) nd rfl (.inl rfl) (pe_ifExp (pt_cmp (pc_isN (pv 4))) (pe_op op_sub (pv 1) (pe_callB call_len_seq (by rfl) T.len PySem.boot_len (pa_cons (pv 2) pa_nil)))
          (pe_callB (call_min2 rfl) (by rfl) T2.min (by decide +kernel) (pa_cons (pv 4) (pa_cons (pe_op op_sub (pv 1) (pe_callB call_len_seq (by rfl) T.len PySem.boot_len (pa_cons (pv 2) pa_nil))) pa_nil)))))
      (pss_one (ps_set (i := 2) nd rfl (.inl rfl) (pe_op op_cat (pv 2) (pe_lc (own := [("k", 6)]) (g := gName 6) (tt := tYes) rfl nd (pi_range1 (by rfl) T2.range (pa_cons (pv 5) pa_nil)) (blkOk_by (N := nSaid) (sc := defScope sSaid) (by decide +kernel))
          (fun _ _ _ _ _ => pg_name (i := 6) nd rfl (.inl rfl) (.inr rfl)) (fun _ _ _ _ _ => pts_nil) (fun _ _ _ _ _ => pe_ix ix_blk (pv 3) (pe_op op_mod (pv 6) (pe_callB len_blk (by rfl) T.len PySem.boot_len (pa_cons (pv 3) pa_nil))) (fun _ _ => rfl))))))))
    (pss_one (ps_ret (pv 2))))), ?_⟩
  refine ⟨Nat.zero_le _, fun F0 n0 => ?_⟩
  have s0 : Same H (upd H F0 (.lst [])) := same_upd n0
  have e0 : (upd H F0 (.lst [])) F0 = some (.lst []) := upd_same
  show tSeq _ _ _ [some v, some (.int (most : Int)), some (.ref F0), none, none, none, none] (upd H F0 (.lst []))
  generalize upd H F0 (.lst []) = G at s0 e0
  obtain ⟨p, xs, rfl, hp, hx⟩ := rp_list hR
  have hlx : xs.length = rs.length := by rw [hx.length, List.length_map]
  refine ⟨.ref p, rfl, p, rfl, ⟨_, SqL.of (s0 _ _ hp)⟩, for_list (xs := xs) (fun i σ H2 => ∃ F1 y3 y4 y5, σ = [some (.ref p), some (.int (most : Int)), some (.ref F1), y3, y4, y5, none] ∧ Same H H2 ∧ H F1 = none ∧ H2 F1 = some (.lst ((said most [] (rs.take i)).map optV)))
    ⟨F0, none, none, none, rfl, s0, n0, e0⟩ (fun i σ H2 _ ⟨_, _, _, _, _, s, _⟩ => SqL.of (s _ _ hp)) (fun i x σ H2 hxi hP => ?_) (fun σ H2 hP => ?_)⟩
  · obtain ⟨F1, y3, y4, y5, rfl, s2, n1, e1⟩ := hP
    obtain ⟨d, hd, hRx⟩ := hx.get hxi
    obtain ⟨row, hrow, rfl⟩ : ∃ row, rs[i]? = some row ∧ d = rowD row := by
      rw [List.getElem?_map] at hd
      cases z : rs[i]? with
      | none => rw [z] at hd; cases hd
      | some y => rw [z] at hd; cases hd; exact ⟨y, rfl, rfl⟩
    have g := hg row (List.mem_of_getElem? hrow)
    obtain ⟨b, t, zs, vm, rfl, hb, ht, hzl, hz, hvm⟩ := row_at (Rp.sm s2 hRx) g
    have la := said_le most (rs.take i) [] (Nat.zero_le _)
    have est : said most [] (rs.take (i + 1)) = said most [] (rs.take i) ++ seg row (sizeO most (said most [] (rs.take i)).length row.2) := by
      rw [List.take_add_one, hrow]
      exact said_snoc most (rs.take i) [] row
    rw [est]
    generalize said most [] (rs.take i) = acc at e1 la
    have hso := sizeO_le most acc.length row.2
    refine ⟨b, [.ref t, vm], rfl, SqT.of hb, rfl, .ref t, [vm], rfl, vm, [], rfl, rfl, ?_⟩
    have size : ∀ {σ : L2.St} {R : VK}, σ[4]? = some (some vm) → σ[1]? = some (some (.int (most : Int))) → σ[2]? = some (some (.ref F1)) → R (.int ((sizeO most acc.length row.2 : Nat) : Int)) H2 → (tIf (tB (tIsN (tVar 4))) (tOp (rI0 fun i j => .int (i - j)) (tVar 1) (tCB (fun xs H Q => ∃ p ys, xs = [.ref p] ∧ (SqL K H p ys ∨ SqT K H p ys) ∧ Q (.int ys.length) H) (tCons (tVar 2) tNil)))
        (tCB (fun xs H Q => ∃ i j, xs = [.int i, .int j] ∧ Q (.int (if j < i then j else i)) H) (tCons (tVar 4) (tCons (tOp (rI0 fun i j => .int (i - j)) (tVar 1) (tCB (fun xs H Q => ∃ p ys, xs = [.ref p] ∧ (SqL K H p ys ∨ SqT K H p ys) ∧ Q (.int ys.length) H) (tCons (tVar 2) tNil))) tNil)))) σ H2 R := fun {σ R} h4 h1 h2 hR => by
      have el : ((acc.map optV).length : Int) = (acc.length : Int) := by rw [List.length_map]
      rcases hvm with ⟨em, rfl⟩ | ⟨m, em, rfl, hm0⟩
      · rw [em] at hR
        refine ⟨.non, h4, _, rfl, iteT ⟨.int (most : Int), h1, .ref F1, h2, F1, _, rfl, .inl (SqL.of e1), (most : Int), _, rfl, rfl, ?_⟩⟩
        have e : (most : Int) - ((acc.map optV).length : Int) = ((sizeO most acc.length .none : Nat) : Int) := by
          show _ = ((most - acc.length : Nat) : Int)
          omega
        show R (.int ((most : Int) - ((acc.map optV).length : Int))) H2
        rw [e]
        exact hR
      · rw [em] at hR
        refine ⟨.int m, h4, _, rfl, iteF ⟨.int m, h4, .int (most : Int), h1, .ref F1, h2, F1, _, rfl, .inl (SqL.of e1), (most : Int), _, rfl, rfl, m, _, rfl, ?_⟩⟩
        have e : (if (most : Int) - ((acc.map optV).length : Int) < m then (most : Int) - ((acc.map optV).length : Int) else m) = ((sizeO most acc.length (.int m) : Nat) : Int) := by
          show _ = ((min m.toNat (most - acc.length) : Nat) : Int)
          split <;> omega
        rw [e]
        exact hR
    refine size rfl rfl rfl ?_
    generalize hsz : sizeO most acc.length row.2 = sn at hso
    refine ⟨.ref F1, rfl, .int (sn : Int), rfl, (sn : Int), rfl, by omega, by omega, fun D hD => ?_⟩
    have ltn : ((sn : Int)).toNat = sn := rfl
    refine lc_range (lo := 0) (n := ((sn : Int)).toNat) (fun j H5 => H5 = upd H2 D (.lst ((seg row j).map optV))) rfl (fun j H5 hj e => ?_) (fun H5 e => ?_)
    · subst e
      have sD : Same H2 (upd H2 D (.lst ((seg row j).map optV))) := same_upd hD
      have l1 := g.lo
      refine ⟨rfl, yesT ?_⟩
      have hjm : j % row.1.length < row.1.length := Nat.mod_lt _ (by omega)
      have em : (0 + (j : Int)) % (zs.length : Int) = ((j % row.1.length : Nat) : Int) := by rw [Int.zero_add, hzl]; rfl
      refine ⟨.ref t, rfl, .int (0 + (j : Int)), rfl, .ref t, rfl, t, zs, rfl, .inl (SqL.of (sD _ _ ht)), 0 + (j : Int), (zs.length : Int), rfl, rfl, by show (0 : Int) < (zs.length : Int); omega, t, zs, (0 + (j : Int)) % (zs.length : Int), _, rfl, rfl, SqL.of (sD _ _ ht), by rw [em]; exact atI_nat (hz _ hjm), (seg row j).map optV, upd_same, by rw [List.length_map, seg_len]; omega, ?_⟩
      rw [upd_upd, seg_succ, List.map_append]
      rfl
    · rw [ltn] at e
      have sD : Same H2 H5 := by rw [e]; exact same_upd hD
      have eD : H5 D = some (.lst ((seg row sn).map optV)) := by rw [e]; exact upd_same
      refine ⟨F1, D, _, _, rfl, rfl, sD _ _ e1, eD, by rw [List.length_map, List.length_map, seg_len]; omega, fun F2 n2 => ?_⟩
      have s5 := s2.trans sD
      exact ⟨F2, _, _, _, rfl, s5.trans (same_upd n2), s5.free n2, by rw [upd_same, List.map_append]⟩
  · obtain ⟨F1, y3, y4, y5, rfl, s2, n1, e1⟩ := hP
    rw [hlx, List.take_length] at e1
    exact ⟨.ref F1, rfl, q F1 H2 s2 n1 e1⟩
end
end CL
set_option Elab.async false
set_option linter.all false
set_option pp.maxSteps 400
set_option maxRecDepth 100000
set_option maxHeartbeats 4000000
namespace CL
open PySem PySem.Spec PyProof.Rows L2 GE
/-! ### lasts by a stack -/
/-- what the lasts of the first people keep -/
structure LfOk (os : List (Option Int)) (lf : Nat → Int) : Prop where
  lo : ∀ x : Nat, x < os.length → (x : Int) ≤ lf x ∧ lf x < os.length
  pat : ∀ (x : Nat) (p : Int), os[x]? = some (some p) → lf x ≤ x + p
  nest : ∀ x y : Nat, x < y → y < os.length → (y : Int) ≤ lf x → lf y ≤ lf x
  opn : ∀ x : Nat, x < os.length → lf x < (os.length : Int) - 1 → ∃ (y : Nat) (p : Int), y ≤ x ∧ os[y]? = some (some p) ∧ (y : Int) + p = lf x ∧ lf y = lf x
def fnd (M T : Nat) (S : List Nat) (lf : Nat → Int) : List (Option Int) := (List.range M).map fun x => if x < T ∧ x ∉ S then some (lf x) else none
theorem fnd_at {M T : Nat} {S : List Nat} {lf : Nat → Int} {x : Nat} (h : x < M) : (fnd M T S lf)[x]? = some (if x < T ∧ x ∉ S then some (lf x) else none) := by
  unfold fnd
  rw [List.getElem?_map, List.getElem?_range h]
  rfl
theorem fnd_len (M T : Nat) (S : List Nat) (lf : Nat → Int) : (fnd M T S lf).length = M := by
  unfold fnd
  rw [List.length_map, List.length_range]
theorem fnd_zero (M : Nat) (lf : Nat → Int) : fnd M 0 [] lf = List.replicate M none := by
  apply List.ext_getElem?
  intro x
  by_cases h : x < M
  · rw [fnd_at h, if_neg (by omega), List.getElem?_replicate, if_pos h]
  · rw [List.getElem?_eq_none (by rw [fnd_len]; omega), List.getElem?_replicate, if_neg h]
theorem fnd_push {M T : Nat} {S : List Nat} {lf : Nat → Int} : fnd M (T + 1) (S ++ [T]) lf = fnd M T S lf := by
  unfold fnd
  refine List.map_congr_left fun x _ => ?_
  by_cases c : x < T ∧ x ∉ S
  · rw [if_pos c, if_pos ⟨by omega, fun z => by
      rcases List.mem_append.mp z with z | z
      · exact c.2 z
      · have := List.mem_singleton.mp z; omega⟩]
  · rw [if_neg c, if_neg fun z => c ⟨by
      have h1 := z.1
      have h2 : x ≠ T := fun e => z.2 (by rw [e]; exact List.mem_append_right _ List.mem_cons_self)
      omega, fun h => z.2 (List.mem_append_left _ h)⟩]
theorem fnd_pop {M T : Nat} {S : List Nat} {lf : Nat → Int} {z : Nat} (hs : (S ++ [z]).Pairwise (· < ·)) (hz : z < T) : (fnd M T (S ++ [z]) lf).set z (some (lf z)) = fnd M T S lf := by
  have hn : z ∉ S := fun h => by
    have := (List.pairwise_append.mp hs).2.2 z h z List.mem_cons_self
    omega
  apply List.ext_getElem?
  intro x
  by_cases h : x < M
  · rw [List.getElem?_set]
    by_cases e : z = x
    · subst e
      rw [if_pos rfl, if_pos (by rw [fnd_len]; exact h), fnd_at h, if_pos ⟨hz, hn⟩]
    · rw [if_neg e, fnd_at h, fnd_at h]
      congr 1
      by_cases c : x < T ∧ x ∉ S
      · rw [if_pos c, if_pos ⟨c.1, fun z2 => by
          rcases List.mem_append.mp z2 with z2 | z2
          · exact c.2 z2
          · exact e (List.mem_singleton.mp z2).symm⟩]
      · rw [if_neg c, if_neg fun z2 => c ⟨z2.1, fun h => z2.2 (List.mem_append_left _ h)⟩]
  · rw [List.getElem?_eq_none (by rw [List.length_set, fnd_len]; omega), List.getElem?_eq_none (by rw [fnd_len]; omega)]
theorem fnd_set {M T : Nat} {S : List Nat} {lf : Nat → Int} {z : Nat} : True := trivial
/-- whose coming let it go -/
def Wit (os : List (Option Int)) (lf : Nat → Int) (x : Nat) : Prop := ∃ (y : Nat) (p : Int), y ≤ x ∧ os[y]? = some (some p) ∧ (y : Int) + p = lf x
/-- ahead of one that comes -/
structure LInv (os : List (Option Int)) (lf : Nat → Int) (T : Nat) (S : List Nat) : Prop where
  srt : S.Pairwise (· < ·)
  lt : ∀ x ∈ S, x < T
  hi : ∀ x ∈ S, (T : Int) ≤ lf x ∨ (os.length : Int) - 1 ≤ lf x
  out : ∀ x : Nat, x < T → x ∉ S → lf x < T ∧ Wit os lf x
/-- while one that comes calls others: R have been called -/
structure LMid (os : List (Option Int)) (lf : Nat → Int) (T : Nat) (S R : List Nat) : Prop where
  srt : (S ++ R).Pairwise (· < ·)
  lt : ∀ x ∈ S ++ R, x < T + 1
  hi : ∀ x ∈ S ++ R, (T : Int) ≤ lf x
  out : ∀ x : Nat, x < T + 1 → x ∉ S ++ R → lf x < T ∧ Wit os lf x
  eq : ∀ x ∈ R, lf x = T ∧ Wit os lf x
theorem LInv.zero (os : List (Option Int)) (lf : Nat → Int) : LInv os lf 0 [] := ⟨.nil, (fun x h => nomatch h), (fun x h => nomatch h), (fun x h => by omega)⟩
theorem LInv.push {os : List (Option Int)} {lf : Nat → Int} {T : Nat} {S : List Nat} (h : LInv os lf T S) (hf : LfOk os lf) (hT : T < os.length) : LMid os lf T (S ++ [T]) [] := by
  have hlo := hf.lo T hT
  refine ⟨?_, fun x hx => ?_, fun x hx => ?_, fun x hx hn => ?_, fun x hx => nomatch hx⟩
  · rw [List.append_nil, List.pairwise_append]
    exact ⟨h.srt, List.pairwise_singleton _ _, fun x hx y hy => by rw [List.mem_singleton.mp hy]; exact h.lt x hx⟩
  · rw [List.append_nil] at hx
    rcases List.mem_append.mp hx with hx | hx
    · have := h.lt x hx; omega
    · have := List.mem_singleton.mp hx; omega
  · rw [List.append_nil] at hx
    rcases List.mem_append.mp hx with hx | hx
    · have := h.hi x hx; omega
    · rw [List.mem_singleton.mp hx]; omega
  · rw [List.append_nil] at hn
    have h1 : x ∉ S := fun z => hn (List.mem_append_left _ z)
    have h2 : x ≠ T := fun z => hn (List.mem_append_right _ (by rw [z]; exact List.mem_cons_self))
    exact h.out x (by omega) h1
/-- whoever stands behind one that is called is called too -/
theorem LMid.called {os : List (Option Int)} {lf : Nat → Int} {T : Nat} {S R : List Nat} (h : LMid os lf T S R) (hf : LfOk os lf) (hT : T < os.length) {y z : Nat} {p : Int} (hy : y ∈ S) (ho : os[y]? = some (some p)) (hp : (y : Int) + p = T) (hz : z ∈ S) (hyz : y ≤ z) : lf z = T := by
  have h1 := hf.pat y p ho
  have h2 := h.hi y (List.mem_append_left _ hy)
  have h3 := h.hi z (List.mem_append_left _ hz)
  have h4 := h.lt z (List.mem_append_left _ hz)
  by_cases c : y = z
  · subst c; omega
  · have := hf.nest y z (by omega) (by omega) (by omega)
    omega
theorem LMid.pop {os : List (Option Int)} {lf : Nat → Int} {T : Nat} {S R : List Nat} {z : Nat} (h : LMid os lf T (S ++ [z]) R) (hz : lf z = T) (hw : Wit os lf z) : LMid os lf T S (z :: R) := by
  have e : S ++ z :: R = S ++ [z] ++ R := by rw [List.append_assoc]; rfl
  exact ⟨by rw [e]; exact h.srt, by rw [e]; exact h.lt, by rw [e]; exact h.hi, by rw [e]; exact h.out, fun x hx => by
    rcases List.mem_cons.mp hx with rfl | hx
    · exact ⟨hz, hw⟩
    · exact h.eq x hx⟩
theorem LMid.next {os : List (Option Int)} {lf : Nat → Int} {T : Nat} {S R : List Nat} (h : LMid os lf T S R) (hf : LfOk os lf) (hT : T < os.length) (hc : ∀ (y : Nat) (p : Int), y < T + 1 → os[y]? = some (some p) → (y : Int) + p = T → y ∉ S) : LInv os lf (T + 1) S := by
  refine ⟨(List.pairwise_append.mp h.srt).1, fun x hx => h.lt x (List.mem_append_left _ hx), fun x hx => ?_, fun x hx hn => ?_⟩
  · have h1 := h.hi x (List.mem_append_left _ hx)
    have h2 := h.lt x (List.mem_append_left _ hx)
    by_cases c : lf x = T
    · by_cases d : lf x < (os.length : Int) - 1
      · obtain ⟨y, p, g1, g2, g3, g4⟩ := hf.opn x (by omega) d
        have n1 := hc y p (by omega) g2 (by omega)
        have n2 : y ∈ S ++ R := by
          by_cases m : y ∈ S ++ R
          · exact m
          · have := (h.out y (by omega) m).1
            omega
        rcases List.mem_append.mp n2 with n2 | n2
        · exact absurd n2 n1
        · have := (List.pairwise_append.mp h.srt).2.2 x hx y n2
          omega
      · right; omega
    · left; push_cast; omega
  · by_cases m : x ∈ S ++ R
    · rcases List.mem_append.mp m with m | m
      · exact absurd m hn
      · obtain ⟨e1, e2⟩ := h.eq x m
        exact ⟨by rw [e1]; push_cast; omega, e2⟩
    · obtain ⟨e1, e2⟩ := h.out x hx m
      exact ⟨by push_cast; omega, e2⟩
/-! ### the lasts of a plan's people -/
theorem las_ex {ps : List PieceT} (hp : PsOk ps) : ∀ (n : Nat) (s b : Int), (b + 1 - s).toNat ≤ n → (∀ y, s ≤ y → y ≤ b → ∃ t, Pt ps y t) → ∀ x, s ≤ x → x ≤ b → ∃ l, Las ps (some b) s x (some l)
  | 0, s, b, hn, _, x, h1, h2 => by omega
  | n + 1, s, b, hn, hpt, x, h1, h2 => by
    obtain ⟨t, ht⟩ := hpt s (Int.le_refl _) (by omega)
    have hw := pt_wp (some b) ht
    have hnn := wp_nn hp hw
    generalize wd (some b) s t = w at hw hnn
    by_cases c : s + max w 1 ≤ x
    · obtain ⟨l, hl⟩ := las_ex hp n (s + max w 1) b (by omega) (fun y g1 g2 => hpt y (by omega) g2) x c h2
      exact ⟨l, .skip hw c hl⟩
    · by_cases e : x = s
      · subst e
        by_cases w0 : w = 0
        · subst w0; exact ⟨b, .spare hw⟩
        · exact ⟨_, .own hw (by omega)⟩
      · obtain ⟨p, _, ew, hle⟩ := wp_in hw (by omega)
        obtain ⟨l, hl⟩ := las_ex hp n (s + 1) (s + w - 1) (by omega) (fun y g1 g2 => hpt y (by omega) (by omega)) x (by omega) (by omega)
        exact ⟨l, .inn hw (by omega) (by omega) hl⟩
theorem las_opn {ps : List PieceT} {b l : Option Int} {s x : Int} (h : Las ps b s x l) : ∀ k, l = some k → (∀ m, b = some m → k < m) → (b = none → False) → ∃ y p, s ≤ y ∧ y ≤ x ∧ Pt ps y (.int p) ∧ y + p = k ∧ Las ps b s y (some k) := by
  induction h with
  | @spare b x hw =>
    intro k e hb _
    have := hb k e
    omega
  | @own b x w hw h0 =>
    intro k e hb hbn
    cases e
    cases b with
    | none => exact (hbn rfl).elim
    | some m =>
      obtain ⟨p, hpt, ew, _⟩ := wp_in hw h0
      exact ⟨x, p, Int.le_refl _, Int.le_refl _, hpt, by omega, .own hw h0⟩
  | @inn b l s x w hw h1 h2 h3 ih =>
    intro k e hb hbn
    cases b with
    | none => exact (hbn rfl).elim
    | some m =>
      subst e
      obtain ⟨p, hpt, ew, _⟩ := wp_in hw (by omega)
      by_cases c : k < s + w - 1
      · obtain ⟨y, q, g1, g2, g3, g4, g5⟩ := ih k rfl (fun m' e => by cases e; exact c) (fun e => by cases e)
        exact ⟨y, q, by omega, g2, g3, g4, .inn hw (by omega) (by omega) g5⟩
      · obtain ⟨i1, _⟩ := las_le h3 fun m' e => by cases e; omega
        have := (i1 k rfl).2 _ rfl
        obtain rfl : k = s + w - 1 := by omega
        exact ⟨s, p, Int.le_refl _, by omega, hpt, by omega, .own hw (by omega)⟩
  | @skip b l s x w hw h1 _ ih =>
    intro k e hb hbn
    obtain ⟨y, q, g1, g2, g3, g4, g5⟩ := ih k e hb hbn
    exact ⟨y, q, by omega, g2, g3, g4, .skip hw g1 g5⟩
def PtsL (ps : List PieceT) (os : List (Option Int)) : Prop := ∀ (x : Nat) o, os[x]? = some o → Pt ps (x : Int) (optD o)
/-- the lasts of the first people -/
def LasL (ps : List PieceT) (os : List (Option Int)) (lf : Nat → Int) : Prop := ∀ x : Nat, x < os.length → Las ps (some ((os.length : Int) - 1)) 0 (x : Int) (some (lf x))
theorem lasL_ex {ps : List PieceT} {os : List (Option Int)} (hp : PsOk ps) (h : PtsL ps os) : ∃ lf, LasL ps os lf := by
  have ex : ∀ x : Nat, ∃ l : Int, x < os.length → Las ps (some ((os.length : Int) - 1)) 0 (x : Int) (some l) := fun x => by
    by_cases c : x < os.length
    · obtain ⟨l, hl⟩ := las_ex hp _ 0 ((os.length : Int) - 1) (Nat.le_refl _) (fun y g1 g2 => by
        obtain ⟨n, rfl⟩ : ∃ n : Nat, y = (n : Int) := ⟨y.toNat, by omega⟩
        exact ⟨_, h n _ (List.getElem?_eq_getElem (by omega))⟩) (x : Int) (by omega) (by omega)
      exact ⟨l, fun _ => hl⟩
    · exact ⟨0, fun z => absurd z c⟩
  exact ⟨fun x => (ex x).choose, fun x hx => (ex x).choose_spec hx⟩
theorem lasL_ok {ps : List PieceT} {os : List (Option Int)} {lf : Nat → Int} (hp : PsOk ps) (h : PtsL ps os) (hl : LasL ps os lf) : LfOk os lf := by
  refine ⟨fun x hx => ?_, fun x p ho => ?_, fun x y hxy hy hle => ?_, fun x hx hlt => ?_⟩
  · obtain ⟨h1, _⟩ := las_le (hl x hx) fun m e => by cases e; omega
    obtain ⟨h2, h3⟩ := h1 _ rfl
    have := h3 _ rfl
    omega
  · have hx := (List.getElem?_eq_some_iff.mp ho).1
    exact (las_pat hp (hl x hx) (h x _ ho)).2 _ p rfl rfl
  · obtain ⟨j, e, hj⟩ := las_nest (hl x (by omega)) (lf x) (y : Int) _ rfl (by omega) hle (fun m e => by cases e; omega) (hl y hy)
    cases e
    exact hj
  · obtain ⟨y, p, g1, g2, g3, g4, g5⟩ := las_opn (hl x hx) (lf x) rfl (fun m e => by cases e; exact hlt) (fun e => by cases e)
    obtain ⟨n, rfl⟩ : ∃ n : Nat, y = (n : Int) := ⟨y.toNat, by omega⟩
    have hn : n < os.length := by omega
    have e1 := las_uniq g5 _ (hl n hn)
    obtain ⟨o, ho⟩ : ∃ o, os[n]? = some o := ⟨_, List.getElem?_eq_getElem hn⟩
    have e2 := pt_uniq g3 (h n o ho)
    refine ⟨n, p, by omega, ?_, g4, ?_⟩
    · rw [ho]
      cases o with
      | none => cases e2
      | some q => cases e2; rfl
    · exact (Option.some.inj e1).symm
end CL
set_option Elab.async false
set_option linter.all false
set_option pp.maxSteps 900
set_option maxRecDepth 100000
set_option maxHeartbeats 4000000
namespace CL
open PySem PySem.Spec PyProof.Rows L2 GE
abbrev sLasts : Stmt := topS 42
abbrev nLasts : List Str := ["patiences", "stack", "found", "waits", "who", "patience", "one"]
theorem scLasts : FnScope nLasts ["patiences"] (defScope sLasts) := ⟨rfl, rfl, rfl, by decide +kernel, rfl, by decide +kernel, by decide +kernel⟩
abbrev vN : Nat → V := fun n => .int (n : Int)
/-- who waits for each moment: lists that are not to be changed -/
def WtAt (H : Hp) (St Fd : Addr) (os : List (Option Int)) (T : Nat) (kvs : List (Key × V)) : Prop := ∀ k : Int, (valV kvs (Sum.inl k) = none ∧ ∀ (y : Nat) (p : Int), y < T → os[y]? = some (some p) → (y : Int) + p ≠ k) ∨
  ∃ (a : Addr) (ws : List Nat), valV kvs (Sum.inl k) = some (.ref a) ∧ a ≠ St ∧ a ≠ Fd ∧ H a = some (.lst (ws.map vN)) ∧ ws.length ≤ T ∧ ∀ y : Nat, y ∈ ws ↔ ∃ p : Int, y < T ∧ os[y]? = some (some p) ∧ (y : Int) + p = k
theorem WtAt.keep {H H' : Hp} {St Fd : Addr} {os : List (Option Int)} {T : Nat} {kvs : List (Key × V)} (h : WtAt H St Fd os T kvs) (k : ∀ (a : Addr) (ws : List Nat), a ≠ St → a ≠ Fd → H a = some (.lst (ws.map vN)) → H' a = some (.lst (ws.map vN))) : WtAt H' St Fd os T kvs := fun t => by
  rcases h t with h | ⟨a, ws, h1, h2, h3, h4, h5⟩
  · exact .inl h
  · exact .inr ⟨a, ws, h1, h2, h3, k a ws h2 h3 h4, h5⟩
theorem WtAt.none_ {H : Hp} {St Fd : Addr} {os : List (Option Int)} {T : Nat} {kvs : List (Key × V)} (h : WtAt H St Fd os T kvs) (ho : os[T]? = some none) : WtAt H St Fd os (T + 1) kvs := fun t => by
  have nT : ∀ {y : Nat} {p : Int}, os[y]? = some (some p) → y ≠ T := fun h e => by rw [e, ho] at h; cases h
  rcases h t with ⟨h1, h2⟩ | ⟨a, ws, h1, h2, h3, h4, h5, h6⟩
  · exact .inl ⟨h1, fun y p hy hp => h2 y p (by have := nT hp; omega) hp⟩
  · refine .inr ⟨a, ws, h1, h2, h3, h4, by omega, fun y => ?_⟩
    rw [h6 y]
    exact ⟨fun ⟨p, g1, g2, g3⟩ => ⟨p, by omega, g2, g3⟩, fun ⟨p, g1, g2, g3⟩ => ⟨p, by have := nT g2; omega, g2, g3⟩⟩
theorem WtAt.put {H H' : Hp} {St Fd D : Addr} {os : List (Option Int)} {T : Nat} {p : Int} {kvs : List (Key × V)} {ws : List Nat} (h : WtAt H St Fd os T kvs) (ho : os[T]? = some (some p)) (hw : ws.length ≤ T) (hm : ∀ y : Nat, y ∈ ws ↔ ∃ q : Int, y < T ∧ os[y]? = some (some q) ∧ (y : Int) + q = (T : Int) + p)
    (hk : ∀ (a : Addr) (ws : List Nat), a ≠ St → a ≠ Fd → H a = some (.lst (ws.map vN)) → H' a = some (.lst (ws.map vN))) (n1 : D ≠ St) (n2 : D ≠ Fd) (hD : H' D = some (.lst ((ws ++ [T]).map vN))) : WtAt H' St Fd os (T + 1) (putK kvs (Sum.inl ((T : Int) + p)) (.ref D)) := fun t => by
  rw [valV_put]
  by_cases c : t = (T : Int) + p
  · subst c
    rw [if_pos rfl]
    refine .inr ⟨D, ws ++ [T], rfl, n1, n2, hD, by rw [List.length_append, List.length_singleton]; omega, fun y => ?_⟩
    rw [List.mem_append, List.mem_singleton, hm y]
    refine ⟨fun hh => ?_, fun ⟨q, g1, g2, g3⟩ => ?_⟩
    · rcases hh with ⟨q, g1, g2, g3⟩ | rfl
      · exact ⟨q, by omega, g2, g3⟩
      · exact ⟨p, by omega, ho, rfl⟩
    · by_cases e : y = T
      · exact .inr e
      · exact .inl ⟨q, by omega, g2, g3⟩
  · rw [if_neg fun z => c (Sum.inl.inj z)]
    have nT : ∀ {y : Nat} {q : Int}, os[y]? = some (some q) → (y : Int) + q = t → y ≠ T := fun {y q} h h2 e => by
      rw [e, ho] at h
      cases h
      rw [e] at h2
      exact c h2.symm
    rcases h t with ⟨h1, h2⟩ | ⟨a, ws, h1, h2, h3, h4, h5, h6⟩
    · exact .inl ⟨h1, fun y q hy hp e => h2 y q (by have := nT hp e; omega) hp e⟩
    · refine .inr ⟨a, ws, h1, h2, h3, hk a ws h2 h3 h4, by omega, fun y => ?_⟩
      rw [h6 y]
      exact ⟨fun ⟨p, g1, g2, g3⟩ => ⟨p, by omega, g2, g3⟩, fun ⟨p, g1, g2, g3⟩ => ⟨p, by have := nT g2 g3; omega, g2, g3⟩⟩
/-- a dict's list, or the new one -/
theorem WtAt.get {H : Hp} {St Fd D : Addr} {os : List (Option Int)} {T : Nat} {kvs : List (Key × V)} (h : WtAt H St Fd os T kvs) (k : Int) (n1 : D ≠ St) (n2 : D ≠ Fd) (hD : H D = some (.lst [])) : ∃ (a : Addr) (ws : List Nat), (valV kvs (Sum.inl k)).getD (.ref D) = .ref a ∧ a ≠ St ∧ a ≠ Fd ∧ H a = some (.lst (ws.map vN)) ∧ ws.length ≤ T ∧ ∀ y : Nat, y ∈ ws ↔ ∃ p : Int, y < T ∧ os[y]? = some (some p) ∧ (y : Int) + p = k := by
  rcases h k with ⟨h1, h2⟩ | ⟨a, ws, h1, h2⟩
  · refine ⟨D, [], by rw [h1]; rfl, n1, n2, hD, Nat.zero_le _, fun y => ⟨(fun z => nomatch z), (fun ⟨p, g1, g2, g3⟩ => absurd g3 (h2 y p g1 g2))⟩⟩
  · exact ⟨a, ws, by rw [h1]; rfl, h2⟩
theorem seqP {A B : TS} {D : Ends} {σ : L2.St} {H : Hp} (R : L2.St → Hp → Prop) (hB : ∀ σ' H', R σ' H' → B D σ' H') (hA : ∀ nx : L2.St → Hp → Prop, (∀ σ' H', R σ' H' → nx σ' H') → A { D with nx := nx } σ H) : tSeq A B D σ H := hA (B D) hB
def spLasts : Sp := fun vs H Q _ => ∃ p, ∃ os : List (Option Int), ∃ lf : Nat → Int, vs = [.ref p] ∧ H p = some (.lst (os.map optV)) ∧ os.length ≤ 1100 ∧ LfOk os lf ∧
  ∀ (t Fd St : Addr) (S : List Nat) H', Same H H' → H' t = some (.tup [.ref Fd, .ref St]) → H Fd = none → H St = none → Fd ≠ St → H' Fd = some (.lst ((fnd os.length os.length S lf).map optV)) → H' St = some (.lst (S.map vN)) → LInv os lf os.length S → Q (.ref t) H'
section
variable {P : Program} {w : World} {K : PySem.W.Frag} {mg : Str → Option Value} {base : Heap}
theorem ok_lasts {f : Addr} {fd : FuncData} (F : Fun K "_law_lasts" "_law_lasts" sLasts f fd) (T : Nm mg) (T2 : Nm2 mg) : FnOk P w K mg base CX0 1 f fd ["patiences"] spLasts := by
  refine F.ok scLasts (fun vs H Q E ⟨p, os, lf, e, _⟩ => by rw [e]; rfl) (fun cdv A0 outer s H vs Q E hr h => ?_)
  obtain ⟨p, os, lf, rfl, hp, hM, hf, q⟩ := h
  have nd := scLasts.nd
  have hu := hu1 hr
  refine ⟨_, (pss_cons (ps_set (i := 1) nd rfl (.inl rfl) (pe_lst pa_nil))
      (pss_cons (ps_set (i := 2) nd rfl (.inl rfl) (pe_op op_rep (pe_lst (pa_cons pe_non pa_nil)) (pe_callB call_len_seq (by rfl) T.len PySem.boot_len (pa_cons (pv 0) pa_nil))))
      (pss_cons (ps_set (i := 3) nd rfl (.inl rfl) pe_dnewK)
      (pss_cons (ps_for PassesOwn.never rfl (pi_enum (by rfl) T2.enum (pa_cons (pv 0) pa_nil)) (pg_tup rfl (pgs_cons (pg_name (i := 4) nd rfl (.inl rfl)) (pgs_cons (pg_name (i := 5) nd rfl (.inl rfl)) pgs_nil))) (pss_cons (ps_expr (pe_bm PySem.F.plainAttrs_list PySem.F.slot_list_append PySem.F.type_list_append mt_append (pv 1) (pa_cons (pv 4) pa_nil)))
      (pss_cons (ps_if (pt_cmp (pc_notN (pv 5))) (pss_one (ps_dput hu (pv 3) (pe_op op_add (pv 4) (pv 5)) (pe_op op_cat (pe_dget2 hu (pv 3) (pe_op op_add (pv 4) (pv 5)) (pe_lst pa_nil) ⟨by rfl, by rfl, by rfl, by rfl⟩) (pe_lst (pa_cons (pv 4) pa_nil))) rfl)) pss_nil)
      (pss_one (ps_for PassesOwn.never rfl (pi_list (pe_dget2 hu (pv 3) (pv 4) (pe_lst pa_nil) ⟨by rfl, by rfl, by rfl, by rfl⟩)) (pg_name (i := 6) nd rfl (.inl rfl)) (pss_one (ps_while PassesOwn.never (pt_cmp (pc_isN (pe_ix ix_list (pv 2) (pv 6) (fun _ _ => rfl)))) (pss_one (ps_asg (pv 4) (pg_sub (pv 2) (pe_bm0 PySem.F.plainAttrs_list PySem.F.slot_list_pop PySem.F.type_list_pop mt_pop (pv 1)) set_list))))))))))
      (pss_one (ps_ret (pe_tup (pa_cons (pv 2) (pa_cons (pv 1) pa_nil))))))))), ?_⟩
  have sz : 5000 ≤ sizeLine := by decide
  have lx : (os.map optV).length = os.length := List.length_map ..
  refine ⟨Nat.zero_le _, fun St nS => ?_⟩
  have s1 := same_upd (o := .lst []) nS
  have eS : (upd H St (.lst [])) St = some (.lst []) := upd_same
  generalize upd H St (.lst []) = H1 at s1 eS
  refine ⟨by show 1 ≤ _; omega, fun D0 nD0 => ?_⟩
  have s2 := same_upd (o := .lst [.non]) nD0
  have eD0 : (upd H1 D0 (.lst [.non])) D0 = some (.lst [.non]) := upd_same
  generalize upd H1 D0 (.lst [.non]) = H2 at s2 eD0
  refine ⟨.ref p, rfl, p, _, rfl, .inl (SqL.of (s2 _ _ (s1 _ _ hp))), D0, ((os.map optV).length : Int), [.non], rfl, rfl, eD0, by omega, by omega, by simp; omega, fun Fd nF => ?_⟩
  have efl : (List.replicate (((os.map optV).length : Nat) : Int).toNat [V.non]).flatten = (fnd os.length 0 [] lf).map optV := by
    rw [fnd_zero, lx]
    simp [optV, List.map_replicate]
  have s3 := same_upd (o := .lst ((fnd os.length 0 [] lf).map optV)) nF
  have eF : (upd H2 Fd (.lst ((fnd os.length 0 [] lf).map optV))) Fd = some (.lst ((fnd os.length 0 [] lf).map optV)) := upd_same
  rw [efl]
  generalize upd H2 Fd (.lst ((fnd os.length 0 [] lf).map optV)) = H3 at s3 eF
  have eS3 := s3 _ _ (s2 _ _ eS)
  have nSF : Fd ≠ St := fun z => by rw [z, s2 _ _ eS] at nF; cases nF
  have nS0 : H St = none := nS
  have nF0 : H Fd = none := by
    cases z : H Fd with
    | none => rfl
    | some o => rw [s2 _ _ (s1 _ _ z)] at nF; cases nF
  show tSeq _ _ _ [some (.ref p), some (.ref St), some (.ref Fd), none, none, none, none] H3
  refine fun Wt nW => ?_
  have s4 := same_upd (o := .dK []) nW
  have eW : (upd H3 Wt (.dK [])) Wt = some (.dK []) := upd_same
  generalize upd H3 Wt (.dK []) = H4 at s4 eW
  have nW0 : H Wt = none := by
    cases z : H Wt with
    | none => rfl
    | some o => rw [s3 _ _ (s2 _ _ (s1 _ _ z))] at nW; cases nW
  show tSeq _ _ _ [some (.ref p), some (.ref St), some (.ref Fd), some (.ref Wt), none, none, none] H4
  have s04 : Same H H4 := ((s1.trans s2).trans s3).trans s4
  refine ⟨.ref p, rfl, p, _, rfl, SqL.of (s04 _ _ hp), for_it (walk_enum (xs := os.map optV)) (fun i σ H5 => ∃ (S : List Nat) (kvs : List (Key × V)) (y4 y5 y6 : Option V), σ = [some (.ref p), some (.ref St), some (.ref Fd), some (.ref Wt), y4, y5, y6] ∧ Same H H5 ∧ H5 St = some (.lst (S.map vN)) ∧ H5 Fd = some (.lst ((fnd os.length i S lf).map optV)) ∧ H5 Wt = some (.dK kvs) ∧ WtAt H5 St Fd os i kvs ∧ kvs.length ≤ i ∧ LInv os lf i S)
    ⟨[], [], none, none, none, rfl, s04, s4 _ _ eS3, s4 _ _ eF, eW, fun k => .inl ⟨rfl, fun y q hy => absurd hy (Nat.not_lt_zero _)⟩, Nat.le_refl 0, LInv.zero os lf⟩ (fun i σ H5 _ ⟨_, _, _, _, _, _, s5, _⟩ => SqL.of (s5 _ _ hp)) (fun i x σ H5 H5' hi hP hy => ?_) (fun σ H5 hP => ?_)⟩
  · obtain ⟨S, kvs, y4, y5, y6, rfl, s5, e5S, e5F, e5W, hW, hkl, I5⟩ := hP
    obtain ⟨T0, x0, y0, rfl, nT, rfl, ex, ey⟩ := hy
    have ex : V.int (i : Nat) = x0 := Option.some.inj ex
    subst ex
    rw [lx] at hi
    obtain ⟨o, ho⟩ : ∃ o, os[i]? = some o := ⟨_, List.getElem?_eq_getElem hi⟩
    have ey : optV o = y0 := by
      have ey : (os.map optV)[i]? = some y0 := ey
      rw [List.getElem?_map, ho] at ey
      exact Option.some.inj ey
    subst ey
    have sT := same_upd (o := .tup [.int (i : Nat), optV o]) nT
    have eT : (upd H5 T0 (.tup [.int (i : Nat), optV o])) T0 = some (.tup [.int (i : Nat), optV o]) := upd_same
    generalize upd H5 T0 (.tup [.int (i : Nat), optV o]) = H6 at sT eT
    have s6 := s5.trans sT
    have e6S := sT _ _ e5S
    have e6F := sT _ _ e5F
    have e6W := sT _ _ e5W
    have hW6 := hW.keep (H' := H6) fun a ws _ _ h => sT _ _ h
    clear hW e5S e5F e5W s5 sT
    have hlS : S.length ≤ i := by
      have hs := I5.srt
      have h2 : S.length ≤ (List.range i).length := by
        refine List.Nodup.length_le_of_subset ?_ fun z hz => List.mem_range.mpr (I5.lt z hz)
        exact hs.imp fun h => Nat.ne_of_lt h
      rw [List.length_range] at h2
      exact h2
    refine ⟨T0, _, rfl, SqT.of eT, rfl, .int (i : Nat), _, rfl, optV o, _, rfl, rfl, ?_⟩
    show tSeq _ _ _ [some (.ref p), some (.ref St), some (.ref Fd), some (.ref Wt), some (.int (i : Nat)), some (optV o), y6] H6
    refine ⟨.ref St, rfl, .inl ⟨rfl, _, SqL.of e6S⟩, .int (i : Nat), rfl, St, _, .int (i : Nat), rfl, rfl, e6S, by rw [List.length_map]; omega, ?_⟩
    have ea : S.map vN ++ [V.int (i : Nat)] = (S ++ [i]).map vN := by rw [List.map_append]; rfl
    rw [ea]
    have e7S : (upd H6 St (.lst ((S ++ [i]).map vN))) St = some (.lst ((S ++ [i]).map vN)) := upd_same
    have k7 : ∀ {c : Addr} {z : HO}, H6 c = some z → c ≠ St → (upd H6 St (.lst ((S ++ [i]).map vN))) c = some z := fun h n => by rw [upd_ne n]; exact h
    have e7F := k7 e6F nSF
    have nWS : Wt ≠ St := fun z => by rw [z, e6S] at e6W; cases e6W
    have e7W := k7 e6W nWS
    have s7 : Same H (upd H6 St (.lst ((S ++ [i]).map vN))) := fun c z h => k7 (s6 _ _ h) fun e => by rw [e, nS0] at h; cases h
    have hW7 := hW6.keep (H' := upd H6 St (.lst ((S ++ [i]).map vN))) fun a ws n1 _ h => k7 h n1
    generalize upd H6 St (.lst ((S ++ [i]).map vN)) = H7 at e7S e7F e7W s7 hW7
    clear k7 hW6 e6S e6F e6W s6 eT
    rw [← fnd_push] at e7F
    have M0 := I5.push hf hi
    dsimp only []
    show tSeq _ _ _ [some (.ref p), some (.ref St), some (.ref Fd), some (.ref Wt), some (.int (i : Nat)), some (optV o), y6] H7
    refine seqP (fun σ' H' => σ' = [some (.ref p), some (.ref St), some (.ref Fd), some (.ref Wt), some (.int (i : Nat)), some (optV o), y6] ∧ ∃ kvs', Same H H' ∧ H' St = some (.lst ((S ++ [i]).map vN)) ∧ H' Fd = some (.lst ((fnd os.length (i + 1) (S ++ [i]) lf).map optV)) ∧ H' Wt = some (.dK kvs') ∧ WtAt H' St Fd os (i + 1) kvs' ∧ kvs'.length ≤ i + 1) (fun σ' H8 hs => ?_) (fun nx hnx => ?_)
    · obtain ⟨rfl, kvs', s8, e8S, e8F, e8W, hW8, hkl8⟩ := hs
      refine ⟨.ref Wt, rfl, Wt, rfl, .inl ⟨kvs', .inl e8W⟩, .int (i : Nat), rfl, Nat.zero_le _, fun D nD => ?_⟩
      have sD := same_upd (o := .lst []) nD
      have eD : (upd H8 D (.lst [])) D = some (.lst []) := upd_same
      generalize upd H8 D (.lst []) = H9 at sD eD
      have nDS : D ≠ St := fun z => by rw [z, e8S] at nD; cases nD
      have nDF : D ≠ Fd := fun z => by rw [z, e8F] at nD; cases nD
      have hW9 := hW8.keep (H' := H9) fun a ws _ _ h => sD _ _ h
      obtain ⟨al, ws, eal, n1, n2, hal, hwl, hmem⟩ := hW9.get (i : Int) nDS nDF eD
      have e9S := sD _ _ e8S
      have e9F := sD _ _ e8F
      have e9W := sD _ _ e8W
      have s9 := s8.trans sD
      refine ⟨valV kvs' (Sum.inl (i : Int)), DGet.k (k := Sum.inl (i : Int)) e9W, al, eal, ⟨ws.map vN, SqL.of hal⟩, ?_⟩
      refine for_list (xs := ws.map vN) (fun j σ H10 => ∃ (S1 R1 : List Nat) (y6 : Option V), σ = [some (.ref p), some (.ref St), some (.ref Fd), some (.ref Wt), some (.int (i : Nat)), some (optV o), y6] ∧ (∀ c z, c ≠ St → c ≠ Fd → H9 c = some z → H10 c = some z) ∧ H10 St = some (.lst (S1.map vN)) ∧ H10 Fd = some (.lst ((fnd os.length (i + 1) S1 lf).map optV)) ∧ LMid os lf i S1 R1 ∧ ∀ y ∈ ws.take j, y ∉ S1)
        ⟨S ++ [i], [], y6, rfl, fun _ _ _ _ h => h, e9S, e9F, M0, fun y hy => by rw [List.take_zero] at hy; cases hy⟩ (fun j σ H10 _ ⟨_, _, _, _, k10, _⟩ => SqL.of (k10 _ _ n1 n2 hal)) (fun j x σ H10 hxj hP => ?_) (fun σ H10 hP => ?_)
      · obtain ⟨S1, R1, y6, rfl, k10, e10S, e10F, M1, hout⟩ := hP
        obtain ⟨y, hy, rfl⟩ : ∃ y, ws[j]? = some y ∧ x = vN y := by
          rw [List.getElem?_map] at hxj
          cases z : ws[j]? with
          | none => rw [z] at hxj; cases hxj
          | some y => rw [z] at hxj; exact ⟨y, rfl, (Option.some.inj hxj).symm⟩
        obtain ⟨q, hyT, hyo, hyq⟩ := (hmem y).mp (List.mem_of_getElem? hy)
        have hyM : y < os.length := by omega
        show tWhile _ _ _ [some (.ref p), some (.ref St), some (.ref Fd), some (.ref Wt), some (.int (i : Nat)), some (optV o), some (vN y)] H10
        refine ⟨fun k σ H11 => ∃ (S2 R2 : List Nat), σ = [some (.ref p), some (.ref St), some (.ref Fd), some (.ref Wt), some (.int (i : Nat)), some (optV o), some (vN y)] ∧ (∀ c z, c ≠ St → c ≠ Fd → H9 c = some z → H11 c = some z) ∧ H11 St = some (.lst (S2.map vN)) ∧ H11 Fd = some (.lst ((fnd os.length (i + 1) S2 lf).map optV)) ∧ LMid os lf i S2 R2 ∧ (∀ y ∈ ws.take j, y ∉ S2) ∧ k = S2.length,
          ⟨S1.length, S1, R1, rfl, k10, e10S, e10F, M1, hout, rfl⟩, fun k σ H11 hW2 => ?_⟩
        obtain ⟨S2, R2, rfl, k11, e11S, e11F, M2, hout2, rfl⟩ := hW2
        have hf2 : ((fnd os.length (i + 1) S2 lf).map optV)[y]? = some (optV (if y < i + 1 ∧ y ∉ S2 then some (lf y) else none)) := by
          rw [List.getElem?_map, fnd_at hyM]
          rfl
        refine ⟨.ref Fd, rfl, vN y, rfl, Fd, _, (y : Int), _, rfl, rfl, SqL.of e11F, atI_nat hf2, ?_⟩
        by_cases c : y ∈ S2
        · rw [if_neg fun z => z.2 c]
          refine ⟨_, rfl, iteT ⟨fun σ' H' => ∃ m', m' < S2.length ∧ ∃ (S2 R2 : List Nat), σ' = [some (.ref p), some (.ref St), some (.ref Fd), some (.ref Wt), some (.int (i : Nat)), some (optV o), some (vN y)] ∧ (∀ c z, c ≠ St → c ≠ Fd → H9 c = some z → H' c = some z) ∧ H' St = some (.lst (S2.map vN)) ∧ H' Fd = some (.lst ((fnd os.length (i + 1) S2 lf).map optV)) ∧ LMid os lf i S2 R2 ∧ (∀ y ∈ ws.take j, y ∉ S2) ∧ m' = S2.length, fun σ' H' ⟨m', h1, h2⟩ => ⟨m', h1, h2⟩, ?_⟩⟩
          obtain ⟨S3, z, rfl⟩ : ∃ S3 z, S2 = S3 ++ [z] := ⟨S2.dropLast, S2.getLast (fun e => by rw [e] at c; cases c), (List.dropLast_concat_getLast _).symm⟩
          have hsrt := (List.pairwise_append.mp M2.srt).1
          have hyz : y ≤ z := by
            rcases List.mem_append.mp c with c | c
            · exact Nat.le_of_lt ((List.pairwise_append.mp hsrt).2.2 y c z List.mem_cons_self)
            · exact Nat.le_of_eq (List.mem_singleton.mp c)
          have hlz := M2.called hf hi c hyo hyq (List.mem_append_right _ List.mem_cons_self) hyz
          have hzT := M2.lt z (List.mem_append_left _ (List.mem_append_right _ List.mem_cons_self))
          refine ⟨.int (i : Nat), rfl, .ref Fd, rfl, .ref St, rfl, .inl ⟨rfl, _, SqL.of e11S⟩, St, _, vN z, rfl, rfl, e11S, by simp, ?_⟩
          have ed : ((S3 ++ [z]).map vN).dropLast = S3.map vN := by rw [List.map_append]; exact List.dropLast_concat
          rw [ed]
          have e12S : (upd H11 St (.lst (S3.map vN))) St = some (.lst (S3.map vN)) := upd_same
          have e12F : (upd H11 St (.lst (S3.map vN))) Fd = some (.lst ((fnd os.length (i + 1) (S3 ++ [z]) lf).map optV)) := by rw [upd_ne nSF]; exact e11F
          have k12 : ∀ c x, c ≠ St → c ≠ Fd → H9 c = some x → (upd H11 St (.lst (S3.map vN))) c = some x := fun c x h1 h2 h => by rw [upd_ne h1]; exact k11 _ _ h1 h2 h
          generalize upd H11 St (.lst (S3.map vN)) = H12 at e12S e12F k12
          refine ⟨Fd, _, (z : Int), z, rfl, rfl, e12F, ixN_nat (by rw [List.length_map, fnd_len]; omega), ?_⟩
          have es : ((fnd os.length (i + 1) (S3 ++ [z]) lf).map optV).set z (.int (i : Nat)) = (fnd os.length (i + 1) S3 lf).map optV := by
            rw [show V.int (i : Nat) = optV (some (lf z)) by rw [hlz]; rfl, ← List.map_set, fnd_pop hsrt hzT]
          rw [es]
          refine ⟨S3.length, by simp, S3, z :: R2, rfl, fun c x h1 h2 h => by rw [upd_ne h2]; exact k12 c x h1 h2 h, by rw [upd_ne (Ne.symm nSF)]; exact e12S, upd_same, M2.pop hlz ⟨y, q, hyz, hyo, by omega⟩, fun y hy hm => hout2 y hy (List.mem_append_left _ hm), rfl⟩
        · rw [if_pos ⟨hyT, c⟩]
          refine ⟨_, rfl, iteF ?_⟩
          refine ⟨S2, R2, _, rfl, k11, e11S, e11F, M2, fun y' hy' => ?_⟩
          rw [List.take_add_one, hy] at hy'
          rcases List.mem_append.mp hy' with hy' | hy'
          · exact hout2 y' hy'
          · rw [List.mem_singleton.mp hy']
            exact c
      · obtain ⟨S1, R1, y6, rfl, k10, e10S, e10F, M1, hout⟩ := hP
        rw [List.length_map, List.take_length] at hout
        refine ⟨S1, kvs', _, _, _, rfl, fun c z h => k10 _ _ (fun e => by rw [e, nS0] at h; cases h) (fun e => by rw [e, nF0] at h; cases h) (s9 _ _ h), e10S, e10F, k10 _ _ (fun e => by rw [e, e9S] at e9W; cases e9W) (fun e => by rw [e, e9F] at e9W; cases e9W) e9W, hW9.keep fun a ws h1 h2 h => k10 _ _ h1 h2 h, hkl8, M1.next hf hi fun y q h1 h2 h3 => hout y ((hmem y).mpr ⟨q, h1, h2, h3⟩)⟩
    · cases o with
      | none =>
        refine ⟨.non, rfl, _, rfl, iteF ?_⟩
        exact hnx _ _ ⟨rfl, kvs, s7, e7S, e7F, e7W, hW7.none_ ho, by omega⟩
      | some pp =>
        refine ⟨.int pp, rfl, _, rfl, iteT ?_⟩
        refine ⟨.ref Wt, rfl, Wt, rfl, .inl ⟨kvs, .inl e7W⟩, .int (i : Nat), rfl, .int pp, rfl, (i : Int), pp, rfl, rfl, Nat.zero_le _, fun D nD => ?_⟩
        have sD := same_upd (o := .lst []) nD
        have eD : (upd H7 D (.lst [])) D = some (.lst []) := upd_same
        generalize upd H7 D (.lst []) = H8 at sD eD
        have nDS : D ≠ St := fun z => by rw [z, e7S] at nD; cases nD
        have nDF : D ≠ Fd := fun z => by rw [z, e7F] at nD; cases nD
        have hW8 := hW7.keep (H' := H8) fun a ws _ _ h => sD _ _ h
        obtain ⟨al, ws, eal, n1, n2, hal, hwl, hmem⟩ := hW8.get ((i : Int) + pp) nDS nDF eD
        refine ⟨valV kvs (Sum.inl ((i : Int) + pp)), DGet.k (k := Sum.inl ((i : Int) + pp)) (sD _ _ e7W), ?_⟩
        refine ⟨.int (i : Nat), rfl, by show 1 ≤ _; omega, fun D2 nD2 => ?_⟩
        have sD2 := same_upd (o := .lst [.int (i : Nat)]) nD2
        have eD2 : (upd H8 D2 (.lst [.int (i : Nat)])) D2 = some (.lst [.int (i : Nat)]) := upd_same
        generalize upd H8 D2 (.lst [.int (i : Nat)]) = H9 at sD2 eD2
        refine ⟨al, D2, ws.map vN, _, eal, rfl, sD2 _ _ hal, eD2, by rw [List.length_map]; simp; omega, fun D3 nD3 => ?_⟩
        have ew : ws.map vN ++ [V.int (i : Nat)] = (ws ++ [i]).map vN := by rw [List.map_append]; rfl
        rw [ew]
        have sD3 := same_upd (o := .lst ((ws ++ [i]).map vN)) nD3
        have eD3 : (upd H9 D3 (.lst ((ws ++ [i]).map vN))) D3 = some (.lst ((ws ++ [i]).map vN)) := upd_same
        generalize upd H9 D3 (.lst ((ws ++ [i]).map vN)) = H10 at sD3 eD3
        have s710 : Same H7 H10 := (sD.trans sD2).trans sD3
        have e10W := s710 _ _ e7W
        have n3S : D3 ≠ St := fun z => by rw [z, sD2 _ _ (sD _ _ e7S)] at nD3; cases nD3
        have n3F : D3 ≠ Fd := fun z => by rw [z, sD2 _ _ (sD _ _ e7F)] at nD3; cases nD3
        refine ⟨.ref Wt, rfl, .int (i : Nat), rfl, .int pp, rfl, (i : Int), pp, rfl, rfl, Wt, _, rfl, DPut.k (k := Sum.inl ((i : Int) + pp)) e10W (by omega), ?_⟩
        have kW : ∀ {c : Addr} {z : HO}, H10 c = some z → (∀ kv, z ≠ .dK kv) → (upd H10 Wt (.dK (putK kvs (Sum.inl ((i : Int) + pp)) (.ref D3)))) c = some z := fun {c z} h n => by
          rw [upd_ne fun e => by rw [e, e10W] at h; exact n _ (Option.some.inj h).symm]
          exact h
        have hpl := length_putK kvs (Sum.inl ((i : Int) + pp)) (.ref D3)
        refine hnx _ _ ⟨rfl, _, fun c z h => ?_, kW (s710 _ _ e7S) (fun kv e => by cases e), kW (s710 _ _ e7F) (fun kv e => by cases e), upd_same, hW7.put ho hwl hmem (fun a ws _ _ h => kW (s710 _ _ h) (fun kv e => by cases e)) n3S n3F (kW eD3 fun kv e => by cases e), by omega⟩
        rw [upd_ne fun e => by rw [e, nW0] at h; cases h]
        exact s710 _ _ (s7 _ _ h)
  · obtain ⟨S, kvs, y4, y5, y6, rfl, s5, e5S, e5F, e5W, hW, hkl, I5⟩ := hP
    rw [lx] at e5F I5
    refine ⟨.ref Fd, rfl, .ref St, rfl, small_le (by show 2 ≤ 1000; decide), fun t nt => ?_⟩
    have st := same_upd (o := .tup [.ref Fd, .ref St]) nt
    exact q t Fd St S _ (s5.trans st) upd_same nF0 nS0 nSF (st _ _ e5F) (st _ _ e5S) I5
end
end CL
set_option Elab.async false
set_option linter.all false
set_option pp.maxSteps 900
set_option maxRecDepth 100000
set_option maxHeartbeats 4000000
namespace CL
open PySem PySem.Spec PyProof.Rows L2 GE
abbrev sGreat : Stmt := topS 43
abbrev nGreat : List Str := ["rows", "lasts", "most", "found", "who", "turn", "many", "uses", "size", "k"]
theorem scGreat : FnScope nGreat ["rows", "lasts", "most"] (defScope sGreat) := ⟨rfl, rfl, rfl, by decide +kernel, rfl, by decide +kernel, by decide +kernel⟩
/-- what one uses whose last is known -/
def useL (ls : List (Option Int)) (n : Nat) : Option Int := match ls[n]? with
  | some (some l) => some (l - n)
  | _ => none
/-- what so many of a row use at most -/
structure RowG (x : RowT) (ls : List (Option Int)) (f n : Nat) (u : List (Option Int)) : Prop where
  len : u.length = x.1.length
  cov : ∀ k : Nat, k < n → ∃ o, u[k % x.1.length]? = some o ∧ leO (useL ls (f + k)) o
  att : ∀ (t : Nat) o, u[t]? = some o → o = some 0 ∨ ∃ k : Nat, k < n ∧ k % x.1.length = t ∧ o = useL ls (f + k)
theorem RowG.zero (x : RowT) (ls : List (Option Int)) (f : Nat) : RowG x ls f 0 (List.replicate x.1.length (some 0)) := ⟨List.length_replicate, fun k hk => absurd hk (Nat.not_lt_zero _), fun t o e => by
  rw [List.getElem?_replicate] at e
  split at e
  · exact .inl (Option.some.inj e).symm
  · cases e⟩
theorem RowG.step {x : RowT} {ls : List (Option Int)} {f n : Nat} {u : List (Option Int)} (h : RowG x ls f n u) (hl : 1 ≤ x.1.length) : RowG x ls f (n + 1) (u.modify (n % x.1.length) fun o => noteO o (useL ls (f + n))) := by
  have hm : n % x.1.length < x.1.length := Nat.mod_lt _ (by omega)
  refine ⟨by rw [List.length_modify]; exact h.len, fun k hk => ?_, fun t o e => ?_⟩
  · rw [List.getElem?_modify]
    by_cases c : k < n
    · obtain ⟨o, h1, h2⟩ := h.cov k c
      rw [h1]
      by_cases d : n % x.1.length = k % x.1.length
      · exact ⟨noteO o (useL ls (f + n)), by simp [d], leO_note1 h2⟩
      · exact ⟨o, by simp [d], h2⟩
    · obtain rfl : k = n := by omega
      obtain ⟨o, ho⟩ : ∃ o, u[k % x.1.length]? = some o := ⟨_, List.getElem?_eq_getElem (by rw [h.len]; exact hm)⟩
      rw [ho]
      exact ⟨noteO o (useL ls (f + k)), by simp, leO_note2⟩
  · rw [List.getElem?_modify] at e
    cases ho : u[t]? with
    | none => rw [ho] at e; cases e
    | some o0 =>
      rw [ho] at e
      have hat : o0 = some 0 ∨ ∃ k : Nat, k < n + 1 ∧ k % x.1.length = t ∧ o0 = useL ls (f + k) := by
        rcases h.att t o0 ho with z | ⟨k, h1, h2, h3⟩
        · exact .inl z
        · exact .inr ⟨k, by omega, h2, h3⟩
      by_cases d : n % x.1.length = t
      · have e : noteO o0 (useL ls (f + n)) = o := by simpa [d] using e
        have new : useL ls (f + n) = some 0 ∨ ∃ k : Nat, k < n + 1 ∧ k % x.1.length = t ∧ useL ls (f + n) = useL ls (f + k) := .inr ⟨n, by omega, d, rfl⟩
        cases o0 with
        | none =>
          have : o = none := by rw [← e]; rfl
          rw [this]
          exact hat
        | some a =>
          generalize useL ls (f + n) = v at e new
          cases v with
          | none =>
            have : o = none := by rw [← e]; rfl
            rw [this]
            exact new
          | some c =>
            have : o = some (max a c) := by rw [← e]; rfl
            rw [this]
            rcases (by omega : max a c = a ∨ max a c = c) with z | z
            · rw [z]; exact hat
            · rw [z]; exact new
      · have e : o0 = o := by simpa [d] using e
        rw [← e]
        exact hat
def sizW (d : PyData) : Nat := (worth d).toNat
def startN (rs : List RowT) : Nat := (rs.map fun x => sizW x.2).sum
theorem startN_snoc (rs : List RowT) (x : RowT) : startN (rs ++ [x]) = startN rs + sizW x.2 := by
  unfold startN
  rw [List.map_append, List.sum_append]
  simp
theorem startN_le (rs : List RowT) (i : Nat) : startN (rs.take i) ≤ startN rs := by
  have : startN rs = startN (rs.take i) + startN (rs.drop i) := by
    unfold startN
    rw [← List.sum_append, ← List.map_append, List.take_append_drop]
  omega
def manyO (d : PyData) : Option Int := match d with
  | .int m => some m
  | _ => none
/-- how many of a row are looked at -/
def sizG (mo f : Nat) (d : PyData) : Nat := match d with
  | .int m => m.toNat
  | _ => mo - f
/-- each row by itself -/
def RowsG (mo : Nat) (rs : List RowT) (ls : List (Option Int)) (us : UsT) : Prop := us.length = rs.length ∧ ∀ (i : Nat) x u, rs[i]? = some x → us[i]? = some u → RowG x ls (startN (rs.take i)) (sizG mo (startN (rs.take i)) x.2) u
theorem RowsG.snoc {mo : Nat} {rs : List RowT} {ls : List (Option Int)} {us : UsT} {x : RowT} {u : List (Option Int)} (h : RowsG mo rs ls us) (hu : RowG x ls (startN rs) (sizG mo (startN rs) x.2) u) : RowsG mo (rs ++ [x]) ls (us ++ [u]) := by
  refine ⟨by rw [List.length_append, List.length_append, h.1]; rfl, fun i y v hy hv => ?_⟩
  by_cases c : i < rs.length
  · rw [List.getElem?_append_left c] at hy
    rw [List.getElem?_append_left (by rw [h.1]; exact c)] at hv
    rw [List.take_append_of_le_length (by omega)]
    exact h.2 i y v hy hv
  · have ei : i = rs.length := by
      have := (List.getElem?_eq_some_iff.mp hy).1
      rw [List.length_append, List.length_singleton] at this
      omega
    subst ei
    rw [List.getElem?_concat_length] at hy
    rw [← h.1, List.getElem?_concat_length] at hv
    cases hy
    cases hv
    rw [List.take_left' rfl]
    exact hu
theorem TL.keep {H H' : Hp} {L : Addr} {bs : List Addr} {us : UsT} {ms : List (Option Int)} (h : TL H L bs us ms) (k : ∀ b o, (∃ xs, o = .lst xs ∨ o = .tup xs) → H b = some o → H' b = some o) : TL H' L bs us ms := by
  obtain ⟨⟨ts, h1, h2, h3⟩, h4, h5, h6, h7, h8⟩ := h
  exact ⟨⟨ts, k _ _ ⟨_, .inl rfl⟩ h1, h2, fun i t b m a1 a2 a3 => k _ _ ⟨_, .inr rfl⟩ (h3 i t b m a1 a2 a3)⟩, h4, h5, fun i b u a1 a2 => k _ _ ⟨_, .inl rfl⟩ (h6 i b u a1 a2), h7, h8⟩
theorem TL.same {H H' : Hp} {L : Addr} {bs : List Addr} {us : UsT} {ms : List (Option Int)} (h : TL H L bs us ms) (s : Same H H') : TL H' L bs us ms := h.keep fun b o _ e => s b o e
/-- one more row -/
theorem TL.snoc {H : Hp} {L D pt : Addr} {bs : List Addr} {us : UsT} {ms : List (Option Int)} {u : List (Option Int)} {m : Option Int} {ts : List Addr} (h : TL H L bs us ms) (hL : H L = some (.lst (ts.map V.ref))) (hD : H D = some (.lst (u.map optV))) (hp : H pt = some (.tup [.ref D, optV m])) (n1 : D ∉ bs) (n2 : D ≠ L) :
    TL (upd H L (.lst (ts.map V.ref ++ [.ref pt]))) L (bs ++ [D]) (us ++ [u]) (ms ++ [m]) := by
  obtain ⟨⟨ts', h1, h2, h3⟩, h4, h5, h6, h7, h8⟩ := h
  have inj : ∀ {a b : List Addr}, a.map V.ref = b.map V.ref → a = b := fun {a b} e => by
    have := congrArg (List.map fun v => match v with | V.ref q => q | _ => 0) e
    simpa [List.map_map, Function.comp_def] using this
  rw [hL] at h1
  have := inj (HO.lst.inj (Option.some.inj h1))
  subst this
  have tk : ∀ {c : Addr} {o : HO}, H c = some o → c ≠ L → (upd H L (.lst (ts.map V.ref ++ [.ref pt]))) c = some o := fun h n => by rw [upd_ne n]; exact h
  have tup : ∀ {c : Addr} {xs : List V}, H c = some (.tup xs) → c ≠ L := fun h z => by rw [z, hL] at h; cases h
  have e1 : bs.length + 1 = (bs ++ [D]).length := by rw [List.length_append]; rfl
  refine ⟨⟨ts ++ [pt], by rw [upd_same, List.map_append]; rfl, by rw [List.length_append, List.length_append, h2]; rfl, fun i t b m' a1 a2 a3 => ?_⟩, by rw [List.length_append, List.length_append, h4]; rfl, by rw [List.length_append, List.length_append, h5]; rfl, fun i b v a1 a2 => ?_, ?_, fun z => ?_⟩
  · by_cases c : i < ts.length
    · rw [List.getElem?_append_left c] at a1
      rw [List.getElem?_append_left (by omega)] at a2
      rw [List.getElem?_append_left (by omega)] at a3
      have := h3 i t b m' a1 a2 a3
      exact tk this (tup this)
    · have ei : i = ts.length := by
        have := (List.getElem?_eq_some_iff.mp a1).1
        rw [List.length_append, List.length_singleton] at this
        omega
      subst ei
      rw [List.getElem?_concat_length] at a1
      rw [h2, List.getElem?_concat_length] at a2
      rw [h2, h5, List.getElem?_concat_length] at a3
      cases a1
      cases a2
      cases a3
      exact tk hp (tup hp)
  · by_cases c : i < bs.length
    · rw [List.getElem?_append_left c] at a1
      rw [List.getElem?_append_left (by omega)] at a2
      exact tk (h6 i b v a1 a2) fun z => h8 (by rw [← z]; exact List.mem_of_getElem? a1)
    · have ei : i = bs.length := by
        have := (List.getElem?_eq_some_iff.mp a1).1
        rw [List.length_append, List.length_singleton] at this
        omega
      subst ei
      rw [List.getElem?_concat_length] at a1
      rw [h4, List.getElem?_concat_length] at a2
      cases a1
      cases a2
      exact tk hD n2
  · rw [List.nodup_append]
    exact ⟨h7, by simp, fun x hx y hy z => n1 (by rw [← List.mem_singleton.mp hy, ← z]; exact hx)⟩
  · rcases List.mem_append.mp z with z | z
    · exact h8 z
    · exact n2 (List.mem_singleton.mp z).symm
def spGreat : Sp := fun vs H Q _ => ∃ v rs Ll, ∃ mo : Nat, ∃ ls : List (Option Int), vs = [v, .ref Ll, .int (mo : Int)] ∧ Rp H v (.list (rs.map rowD)) ∧ (∀ x ∈ rs, GoodRow x) ∧ rs.length ≤ 8 ∧ H Ll = some (.lst (ls.map optV)) ∧ ls.length ≤ 1100 ∧ (∀ x ∈ rs.take (rs.length - 1), isNone x.2 = false) ∧ (∀ (i : Nat) x, rs[i]? = some x → startN (rs.take i) ≤ mo ∧ startN (rs.take i) + sizG mo (startN (rs.take i)) x.2 ≤ ls.length) ∧
  ∀ L bs us H', Same H H' → H L = none → (∀ b ∈ bs, H b = none) → TL H' L bs us (rs.map fun x => manyO x.2) → RowsG mo rs ls us → Q (.ref L) H'
theorem seqP2 {A B : TS} {D : Ends} {σ : L2.St} {H : Hp} (R : L2.St → Hp → Prop) (hB : ∀ σ' H', R σ' H' → B D σ' H') (hA : ∀ nx : L2.St → Hp → Prop, (∀ σ' H', R σ' H' → nx σ' H') → A { D with nx := nx } σ H) : tSeq A B D σ H := hA (B D) hB
section
variable {P : Program} {w : World} {K : PySem.W.Frag} {mg : Str → Option Value} {base : Heap}
theorem ok_great {f : Addr} {fd : FuncData} (F : Fun K "_law_greatest" "_law_greatest" sGreat f fd) (T : Nm mg) (T2 : Nm2 mg) (hmax : mg "max" = none) : FnOk P w K mg base CX0 1 f fd ["rows", "lasts", "most"] spGreat := by
  refine F.ok scGreat (fun vs H Q E ⟨v, rs, Ll, mo, ls, e, _⟩ => by rw [e]; rfl) (fun cdv A0 outer s H vs Q E hr h => ?_)
  obtain ⟨v, rs, Ll, mo, ls, rfl, hR, hg, h8, hls, hM, hlast, hbd, q⟩ := h
  have nd := scGreat.nd
  refine ⟨_, (pss_cons (ps_set (i := 3) nd rfl (.inl rfl) (pe_lst pa_nil))
      (pss_cons (ps_set (i := 4) nd rfl (.inl rfl) pe_int)
      (pss_cons (ps_for PassesOwn.never rfl (pi_list (pv 0)) (pg_tup rfl (pgs_cons (pg_name (i := 5) nd rfl (.inl rfl)) (pgs_cons (pg_name (i := 6) nd rfl (.inl rfl)) pgs_nil))) (pss_cons (ps_set (i := 7) nd rfl (.inl rfl) (pe_op op_rep (pe_lst (pa_cons pe_int pa_nil)) (pe_callB call_len_seq (by rfl) T.len PySem.boot_len (pa_cons (pv 5) pa_nil))))
      (pss_cons (ps_set (i := 8) nd rfl (.inl rfl) (pe_ifExp (pt_cmp (pc_isN (pv 6))) (pe_op op_sub (pv 2) (pv 4)) (pv 6)))
      (pss_cons (ps_for PassesOwn.never rfl (pi_range1 (by rfl) T2.range (pa_cons (pv 8) pa_nil)) (pg_name (i := 9) nd rfl (.inl rfl)) (pss_one (ps_if (PW.pt (pw_or (pt_cmp (pc_isN (pe_ix ix_list (pv 1) (pe_op op_add (pv 4) (pv 9)) (fun _ _ => rfl)))) (pw_or1 (pt_cmp (pc_isN (pe_ix ix_list (pv 7) (pe_op op_mod (pv 9) (pe_callB call_len_seq (by rfl) T.len PySem.boot_len (pa_cons (pv 5) pa_nil))) (fun _ _ => rfl))))))) (pss_one (ps_asg pe_non (pg_sub (pv 7) (pe_op op_mod (pv 9) (pe_callB call_len_seq (by rfl) T.len PySem.boot_len (pa_cons (pv 5) pa_nil))) set_list))) (pss_one (ps_asg (pe_callB (call_max2 rfl) (by rfl) hmax (by decide +kernel) (pa_cons (pe_ix ix_list (pv 7) (pe_op op_mod (pv 9) (pe_callB call_len_seq (by rfl) T.len PySem.boot_len (pa_cons (pv 5) pa_nil))) (fun _ _ => rfl)) (pa_cons (pe_op op_sub (pe_op op_sub (pe_ix ix_list (pv 1) (pe_op op_add (pv 4) (pv 9)) (fun _ _ => rfl)) (pv 4)) (pv 9)) pa_nil))) (pg_sub (pv 7) (pe_op op_mod (pv 9) (pe_callB call_len_seq (by rfl) T.len PySem.boot_len (pa_cons (pv 5) pa_nil))) set_list))))))
      (pss_cons (ps_set (i := 4) nd rfl (.inl rfl) (pe_op op_add (pv 4) (pv 8)))
      (pss_one (ps_expr (pe_bm PySem.F.plainAttrs_list PySem.F.slot_list_append PySem.F.type_list_append mt_append (pv 3) (pa_cons (pe_tup (pa_cons (pv 7) (pa_cons (pv 6) pa_nil))) pa_nil)))))))))
      (pss_one (ps_ret (pv 3)))))), ?_⟩
  have sz : 5000 ≤ sizeLine := by decide
  have lls : (ls.map optV).length = ls.length := List.length_map ..
  refine ⟨Nat.zero_le _, fun L nL => ?_⟩
  have s1 := same_upd (o := .lst []) nL
  have eL : (upd H L (.lst [])) L = some (.lst []) := upd_same
  generalize upd H L (.lst []) = H1 at s1 eL
  obtain ⟨p, xs, rfl, hp, hx⟩ := rp_list hR
  have hlx : xs.length = rs.length := by rw [hx.length, List.length_map]
  refine ⟨.ref p, rfl, p, rfl, ⟨_, SqL.of (s1 _ _ hp)⟩, for_list (xs := xs) (fun i σ H2 => ∃ (ts bs : List Addr) (us : UsT) (wv : Int) (y5 y6 y7 y8 y9 : Option V), σ = [some (.ref p), some (.ref Ll), some (.int (mo : Int)), some (.ref L), some (.int wv), y5, y6, y7, y8, y9] ∧ (i < rs.length → wv = ((startN (rs.take i) : Nat) : Int)) ∧ Same H H2 ∧ H2 L = some (.lst (ts.map V.ref)) ∧ ts.length = i ∧ (∀ b ∈ bs, H b = none ∧ H2 b ≠ none) ∧ TL H2 L bs us ((rs.take i).map fun x => manyO x.2) ∧ RowsG mo (rs.take i) ls us)
    ⟨[], [], [], 0, none, none, none, none, none, rfl, fun _ => rfl, s1, eL, rfl, (fun b z => nomatch z), ⟨⟨[], eL, rfl, fun i t b m a1 => by cases a1⟩, rfl, rfl, (fun i b u a1 => by cases a1), List.nodup_nil, (fun z => nomatch z)⟩, rfl, fun i x u a1 => by rw [List.take_zero] at a1; cases a1⟩ (fun i σ H2 _ ⟨_, _, _, _, _, _, _, _, _, _, _, s, _⟩ => SqL.of (s _ _ hp)) (fun i x σ H2 hxi hP => ?_) (fun σ H2 hP => ?_)⟩
  · obtain ⟨ts, bs, us, wv, y5, y6, y7, y8, y9, rfl, hwv, s2, e2L, lts, hbn, hTL, hRG⟩ := hP
    obtain ⟨d, hd, hRx⟩ := hx.get hxi
    obtain ⟨row, hrow, rfl⟩ : ∃ row, rs[i]? = some row ∧ d = rowD row := by
      rw [List.getElem?_map] at hd
      cases z : rs[i]? with
      | none => rw [z] at hd; cases hd
      | some y => rw [z] at hd; cases hd; exact ⟨y, rfl, rfl⟩
    have hmr := List.mem_of_getElem? hrow
    have g := hg row hmr
    have hir : i < rs.length := (List.getElem?_eq_some_iff.mp hrow).1
    obtain ⟨b, t, zs, vm, rfl, hb, ht, hzl, hz, hvm⟩ := row_at (Rp.sm s2 hRx) g
    obtain rfl := hwv hir
    have etk : rs.take (i + 1) = rs.take i ++ [row] := by rw [List.take_add_one, hrow]; rfl
    obtain ⟨hb1, hb2⟩ := hbd i row hrow
    have evm : vm = optV (manyO row.2) := by
      rcases hvm with ⟨e, rfl⟩ | ⟨m, e, rfl, _⟩ <;> rw [e] <;> rfl
    have l1 := g.lo
    have l8 := g.hi
    generalize hf0 : startN (rs.take i) = f0 at hb1 hb2
    generalize hsn : sizG mo f0 row.2 = sn at hb2
    have hend : i + 1 < rs.length → (f0 : Int) + (sn : Int) = ((startN (rs.take (i + 1)) : Nat) : Int) := fun hlt => by
      rw [etk, startN_snoc, hf0, ← hsn]
      have hn := hlast row (List.mem_of_getElem? (i := i) (by rw [List.getElem?_take, if_pos (by omega)]; exact hrow))
      rcases hvm with ⟨e, _⟩ | ⟨m, e, _, m0⟩
      · rw [e] at hn; cases hn
      · rw [e]; show (f0 : Int) + ((m.toNat : Nat) : Int) = ((f0 + m.toNat : Nat) : Int); push_cast; omega
    refine ⟨b, [.ref t, vm], rfl, SqT.of hb, rfl, .ref t, [vm], rfl, vm, [], rfl, rfl, ?_⟩
    show tSeq _ _ _ [some (.ref p), some (.ref Ll), some (.int (mo : Int)), some (.ref L), some (.int (f0 : Int)), some (.ref t), some vm, y7, y8, y9] H2
    refine ⟨by show 1 ≤ _; omega, fun D0 nD0 => ?_⟩
    have s3 := same_upd (o := .lst [.int 0]) nD0
    have eD0 : (upd H2 D0 (.lst [.int 0])) D0 = some (.lst [.int 0]) := upd_same
    generalize upd H2 D0 (.lst [.int 0]) = H3 at s3 eD0
    refine ⟨.ref t, rfl, t, zs, rfl, .inl (SqL.of (s3 _ _ ht)), D0, (zs.length : Int), [.int 0], rfl, rfl, eD0, by omega, by omega, by simp; omega, fun D nD => ?_⟩
    have efl : (List.replicate ((zs.length : Nat) : Int).toNat [V.int 0]).flatten = (List.replicate row.1.length (some (0 : Int))).map optV := by
      rw [hzl]
      simp [optV, List.map_replicate]
    rw [efl]
    have s4 := same_upd (o := .lst ((List.replicate row.1.length (some (0 : Int))).map optV)) nD
    have eD : (upd H3 D (.lst ((List.replicate row.1.length (some (0 : Int))).map optV))) D = some (.lst ((List.replicate row.1.length (some (0 : Int))).map optV)) := upd_same
    generalize upd H3 D (.lst ((List.replicate row.1.length (some (0 : Int))).map optV)) = H4 at s4 eD
    have s24 := s3.trans s4
    have nDH : H D = none := by
      cases z : H D with
      | none => rfl
      | some o => rw [s3 _ _ (s2 _ _ z)] at nD; cases nD
    have nD2 : H2 D = none := by
      cases z : H2 D with
      | none => rfl
      | some o => rw [s3 _ _ z] at nD; cases nD
    have nDL : D ≠ L := fun z => by rw [z, e2L] at nD2; cases nD2
    have nDb : D ∉ bs := fun z => (hbn D z).2 nD2
    have nDt : t ≠ D := fun z => by rw [← z, ht] at nD2; cases nD2
    have nDl : Ll ≠ D := fun z => by rw [← z, hls] at nDH; cases nDH
    have hls2 := s2 _ _ hls
    try dsimp only []
    show tSeq _ _ _ [some (.ref p), some (.ref Ll), some (.int (mo : Int)), some (.ref L), some (.int (f0 : Int)), some (.ref t), some vm, some (.ref D), y8, y9] H4
    refine seqP2 (fun σ' H' => H' = H4 ∧ σ' = [some (.ref p), some (.ref Ll), some (.int (mo : Int)), some (.ref L), some (.int (f0 : Int)), some (.ref t), some vm, some (.ref D), some (.int (sn : Int)), y9]) (fun σ' H' hs => ?_) (fun nx hnx => ?_)
    rotate_left
    · rcases hvm with ⟨e, rfl⟩ | ⟨m, e, rfl, m0⟩
      · refine ⟨.non, rfl, _, rfl, iteT ⟨.int (mo : Int), rfl, .int (f0 : Int), rfl, (mo : Int), (f0 : Int), rfl, rfl, hnx _ _ ⟨rfl, ?_⟩⟩⟩
        have : (mo : Int) - (f0 : Int) = (sn : Int) := by
          rw [← hsn, e]
          show _ = ((mo - f0 : Nat) : Int)
          omega
        show [some (V.ref p), some (V.ref Ll), some (V.int (mo : Int)), some (V.ref L), some (V.int (f0 : Int)), some (V.ref t), some V.non, some (V.ref D), some (V.int ((mo : Int) - (f0 : Int))), y9] = _
        rw [this]
      · refine ⟨.int m, rfl, _, rfl, iteF ⟨.int m, rfl, hnx _ _ ⟨rfl, ?_⟩⟩⟩
        have : m = (sn : Int) := by
          rw [← hsn, e]
          show _ = ((m.toNat : Nat) : Int)
          omega
        show [some (V.ref p), some (V.ref Ll), some (V.int (mo : Int)), some (V.ref L), some (V.int (f0 : Int)), some (V.ref t), some (V.int m), some (V.ref D), some (V.int m), y9] = _
        rw [← this]
    obtain ⟨eH, eσ⟩ := hs
    rw [eH, eσ]
    clear eH eσ
    refine ⟨.int (sn : Int), rfl, (sn : Int), rfl, by omega, by omega, ?_⟩
    refine for_range (lo := 0) (n := ((sn : Int)).toNat) (fun j σ H5 => ∃ (u : List (Option Int)) (y9 : Option V), σ = [some (.ref p), some (.ref Ll), some (.int (mo : Int)), some (.ref L), some (.int (f0 : Int)), some (.ref t), some vm, some (.ref D), some (.int (sn : Int)), y9] ∧ (∀ c o, c ≠ D → H4 c = some o → H5 c = some o) ∧ H5 D = some (.lst (u.map optV)) ∧ RowG row ls f0 j u)
      ⟨_, y9, rfl, fun _ _ _ h => h, eD, RowG.zero row ls f0⟩ (fun j σ H5 hj hP => ?_) (fun σ H5 hP => ?_)
    · obtain ⟨u, y9, rfl, k5, e5D, hG⟩ := hP
      have hj : j < sn := by rw [Int.toNat_natCast] at hj; exact hj
      have hjm : j % row.1.length < row.1.length := Nat.mod_lt _ (by omega)
      have emd : (0 + (j : Int)) % (zs.length : Int) = ((j % row.1.length : Nat) : Int) := by rw [Int.zero_add, hzl]; rfl
      have eix : (f0 : Int) + (0 + (j : Int)) = ((f0 + j : Nat) : Int) := by omega
      have hlj : f0 + j < ls.length := by omega
      obtain ⟨l, hl⟩ : ∃ l, ls[f0 + j]? = some l := ⟨_, List.getElem?_eq_getElem hlj⟩
      have hlv : (ls.map optV)[f0 + j]? = some (optV l) := by rw [List.getElem?_map, hl]; rfl
      obtain ⟨o, ho⟩ : ∃ o, u[j % row.1.length]? = some o := ⟨_, List.getElem?_eq_getElem (by rw [hG.len]; exact hjm)⟩
      have hov : (u.map optV)[j % row.1.length]? = some (optV o) := by rw [List.getElem?_map, ho]; rfl
      have lu : (u.map optV).length = row.1.length := by rw [List.length_map, hG.len]
      have h5l := k5 _ _ nDl (s24 _ _ hls2)
      have h5t := k5 _ _ nDt (s24 _ _ ht)
      have zp : (0 : Int) < (zs.length : Int) := by omega
      have G1 := hG.step l1
      have fin : ∀ {y : Option Int}, noteO o (useL ls (f0 + j)) = y → ∃ (u' : List (Option Int)) (y9' : Option V), [some (.ref p), some (.ref Ll), some (.int (mo : Int)), some (.ref L), some (.int (f0 : Int)), some (.ref t), some vm, some (.ref D), some (.int (sn : Int)), some (.int (0 + (j : Int)))] = [some (.ref p), some (.ref Ll), some (.int (mo : Int)), some (.ref L), some (.int (f0 : Int)), some (.ref t), some vm, some (.ref D), some (.int (sn : Int)), y9'] ∧ (∀ c o, c ≠ D → H4 c = some o → (upd H5 D (.lst ((u.map optV).set (j % row.1.length) (optV y)))) c = some o) ∧ (upd H5 D (.lst ((u.map optV).set (j % row.1.length) (optV y)))) D = some (.lst (u'.map optV)) ∧ RowG row ls f0 (j + 1) u' := fun {y} e => by
        rw [← e, set_mod (f := fun o => noteO o (useL ls (f0 + j))) ho]
        exact ⟨_, _, rfl, fun c o n h => by rw [upd_ne n]; exact k5 c o n h, upd_same, G1⟩
      have hu : useL ls (f0 + j) = l.map fun z => z - ((f0 + j : Nat) : Int) := by
        unfold useL
        rw [hl]
        cases l <;> rfl
      refine ⟨.ref Ll, rfl, .int (f0 : Int), rfl, .int (0 + (j : Int)), rfl, (f0 : Int), 0 + (j : Int), rfl, rfl, Ll, _, (f0 : Int) + (0 + (j : Int)), optV l, rfl, rfl, SqL.of h5l, by rw [eix]; exact atI_nat hlv, ?_⟩
      cases l with
      | none =>
        refine ⟨_, rfl, iteT ⟨.ref D, rfl, .int (0 + (j : Int)), rfl, .ref t, rfl, t, zs, rfl, .inl (SqL.of h5t), 0 + (j : Int), (zs.length : Int), rfl, rfl, zp, D, _, (0 + (j : Int)) % (zs.length : Int), j % row.1.length, rfl, rfl, e5D, by rw [emd]; exact ixN_nat (by omega), ?_⟩⟩
        exact fin (y := none) (by rw [hu]; cases o <;> rfl)
      | some lv =>
        refine ⟨_, rfl, iteF ⟨.ref D, rfl, .int (0 + (j : Int)), rfl, .ref t, rfl, t, zs, rfl, .inl (SqL.of h5t), 0 + (j : Int), (zs.length : Int), rfl, rfl, zp, D, _, (0 + (j : Int)) % (zs.length : Int), optV o, rfl, rfl, SqL.of e5D, by rw [emd]; exact atI_nat hov, ?_⟩⟩
        cases o with
        | none =>
          refine ⟨_, rfl, iteT ⟨.ref D, rfl, .int (0 + (j : Int)), rfl, .ref t, rfl, t, zs, rfl, .inl (SqL.of h5t), 0 + (j : Int), (zs.length : Int), rfl, rfl, zp, D, _, (0 + (j : Int)) % (zs.length : Int), j % row.1.length, rfl, rfl, e5D, by rw [emd]; exact ixN_nat (by omega), ?_⟩⟩
          exact fin (y := none) rfl
        | some ov =>
          refine ⟨_, rfl, iteF ⟨.ref D, rfl, .int (0 + (j : Int)), rfl, .ref t, rfl, t, zs, rfl, .inl (SqL.of h5t), 0 + (j : Int), (zs.length : Int), rfl, rfl, zp, D, _, (0 + (j : Int)) % (zs.length : Int), .int ov, rfl, rfl, SqL.of e5D, by rw [emd]; exact atI_nat hov,
            .ref Ll, rfl, .int (f0 : Int), rfl, .int (0 + (j : Int)), rfl, (f0 : Int), 0 + (j : Int), rfl, rfl, Ll, _, (f0 : Int) + (0 + (j : Int)), .int lv, rfl, rfl, SqL.of h5l, by rw [eix]; exact atI_nat hlv, .int (f0 : Int), rfl, lv, (f0 : Int), rfl, rfl, .int (0 + (j : Int)), rfl, lv - (f0 : Int), 0 + (j : Int), rfl, rfl, ov, lv - (f0 : Int) - (0 + (j : Int)), rfl,
            .ref D, rfl, .int (0 + (j : Int)), rfl, .ref t, rfl, t, zs, rfl, .inl (SqL.of h5t), 0 + (j : Int), (zs.length : Int), rfl, rfl, zp, D, _, (0 + (j : Int)) % (zs.length : Int), j % row.1.length, rfl, rfl, e5D, by rw [emd]; exact ixN_nat (by omega), ?_⟩⟩
          have emx : (if lv - (f0 : Int) - (0 + (j : Int)) > ov then lv - (f0 : Int) - (0 + (j : Int)) else ov) = max ov (lv - ((f0 + j : Nat) : Int)) := by split <;> omega
          rw [emx]
          exact fin (y := some (max ov (lv - ((f0 + j : Nat) : Int)))) (by rw [hu]; rfl)
    · obtain ⟨u, y9, rfl, k5, e5D, hG⟩ := hP
      rw [Int.toNat_natCast] at hG
      have k25 : ∀ {c : Addr} {o : HO}, H2 c = some o → H5 c = some o := fun {c o} h => k5 _ _ (fun z => by rw [z, nD2] at h; cases h) (s24 _ _ h)
      have e5L := k25 e2L
      have hTL5 := hTL.keep (H' := H5) fun c o _ h => k25 h
      show tSeq _ _ _ [some (.ref p), some (.ref Ll), some (.int (mo : Int)), some (.ref L), some (.int (f0 : Int)), some (.ref t), some vm, some (.ref D), some (.int (sn : Int)), y9] H5
      refine ⟨.int (f0 : Int), rfl, .int (sn : Int), rfl, (f0 : Int), (sn : Int), rfl, rfl, ?_⟩
      refine ⟨.ref L, rfl, .inl ⟨rfl, _, SqL.of e5L⟩, .ref D, rfl, vm, rfl, small_le (by show 2 ≤ 1000; decide), fun pt npt => ?_⟩
      have s6 := same_upd (o := .tup [.ref D, vm]) npt
      have e6p : (upd H5 pt (.tup [.ref D, vm])) pt = some (.tup [.ref D, vm]) := upd_same
      generalize upd H5 pt (.tup [.ref D, vm]) = H6 at s6 e6p
      have e6L := s6 _ _ e5L
      refine ⟨L, ts.map V.ref, .ref pt, rfl, rfl, e6L, by rw [List.length_map]; omega, ?_⟩
      have hT7 := (hTL5.same s6).snoc (m := manyO row.2) e6L (s6 _ _ e5D) (by rw [← evm]; exact e6p) nDb nDL
      have hR7 := hRG.snoc (x := row) (u := u) (by rw [hf0, hsn]; exact hG)
      have e7 : ts.map V.ref ++ [.ref pt] = (ts ++ [pt]).map V.ref := by rw [List.map_append]; rfl
      refine ⟨ts ++ [pt], bs ++ [D], us ++ [u], (f0 : Int) + (sn : Int), some (.ref t), some vm, some (.ref D), some (.int (sn : Int)), y9, rfl, hend, fun c o h => ?_, by rw [upd_same, e7], by rw [List.length_append, lts]; rfl, fun c hc => ?_, ?_, by rw [etk]; exact hR7⟩
      · rw [upd_ne fun z => by rw [z, nL] at h; cases h]
        exact s6 _ _ (k25 (s2 _ _ h))
      · rcases List.mem_append.mp hc with hc | hc
        · refine ⟨(hbn c hc).1, ?_⟩
          rw [upd_ne fun z => hTL.nL (by rw [← z]; exact hc)]
          cases e : H2 c with
          | none => exact absurd e (hbn c hc).2
          | some o => rw [s6 _ _ (k25 e)]; simp
        · rw [List.mem_singleton.mp hc]
          refine ⟨nDH, ?_⟩
          rw [upd_ne nDL, s6 _ _ e5D]
          simp
      · rw [etk, List.map_append]
        exact hT7
  · obtain ⟨ts, bs, us, wv, y5, y6, y7, y8, y9, rfl, hwv, s2, e2L, lts, hbn, hTL, hRG⟩ := hP
    rw [hlx, List.take_length] at hTL hRG
    exact ⟨.ref L, rfl, q L bs us H2 s2 nL (fun b hb => (hbn b hb).1) hTL hRG⟩
end
end CL
set_option Elab.async false
set_option linter.all false
set_option pp.maxSteps 900
set_option maxRecDepth 100000
set_option maxHeartbeats 4000000
namespace CL
open PySem PySem.Spec PyProof.Rows L2 GE
theorem worth_nn {m : PyData} (h : isMany m = true) : 0 ≤ worth m := by
  cases m with
  | int i => exact of_decide_eq_true h
  | _ => exact Int.le_refl 0
theorem many_int {m : PyData} (h : isNone m = false) (g : isMany m = true) : ∃ i : Int, m = .int i ∧ 0 ≤ i := by
  cases m with
  | int i => exact ⟨i, rfl, of_decide_eq_true g⟩
  | none => cases h
  | _ => cases g
theorem sumW_nn : ∀ {rs : List RowT}, (∀ x ∈ rs, isMany x.2 = true) → 0 ≤ sumW rs
  | [], _ => Int.le_refl 0
  | x :: rs, h => by
    have ih := sumW_nn (rs := rs) fun y hy => h y (List.mem_cons_of_mem _ hy)
    have hx := worth_nn (h x List.mem_cons_self)
    show 0 ≤ worth x.2 + sumW rs
    omega
theorem said_len (most : Nat) : ∀ (rs : List RowT) (acc : List (Option Int)), (∀ x ∈ rs, isNone x.2 = false ∧ isMany x.2 = true) → acc.length ≤ most → ((said most acc rs).length : Int) = min (most : Int) (acc.length + sumW rs)
  | [], acc, _, h => by
    show (acc.length : Int) = min (most : Int) (acc.length + 0)
    omega
  | x :: rs, acc, g, h => by
    obtain ⟨hx1, hx2⟩ := g x List.mem_cons_self
    obtain ⟨m, em, hm⟩ := many_int hx1 hx2
    have h0 := sumW_nn (rs := rs) fun z hz => (g z (List.mem_cons_of_mem _ hz)).2
    have hs : sizeO most acc.length x.2 = min m.toNat (most - acc.length) := by rw [em]; rfl
    have ew : worth x.2 = m := by rw [em]; rfl
    have ih := said_len most rs (acc ++ seg x (sizeO most acc.length x.2)) (fun y hy => g y (List.mem_cons_of_mem _ hy)) (by rw [List.length_append, seg_len]; omega)
    have e : said most acc (x :: rs) = said most (acc ++ seg x (sizeO most acc.length x.2)) rs := rfl
    rw [e, ih, List.length_append, seg_len]
    show min (most : Int) _ = min (most : Int) (acc.length + (worth x.2 + sumW rs))
    omega
/-- rows that end -/
def Ends_ (rs : List RowT) : Prop := ∀ x ∈ rs, GoodRow x ∧ isNone x.2 = false
theorem Ends_.int {rs : List RowT} (h : Ends_ rs) {x : RowT} (hx : x ∈ rs) : ∃ m : Int, x.2 = .int m ∧ 0 ≤ m ∧ sizW x.2 = m.toNat := by
  obtain ⟨g, n⟩ := h x hx
  have gm := g.many
  generalize x.2 = d at gm n
  cases d with
  | int m => exact ⟨m, rfl, of_decide_eq_true gm, rfl⟩
  | none => cases n
  | _ => cases gm
theorem start_sum : ∀ {rs : List RowT}, Ends_ rs → (startN rs : Int) = sumW rs
  | [], _ => rfl
  | x :: rs, h => by
    have ih := start_sum (rs := rs) fun y hy => h y (List.mem_cons_of_mem _ hy)
    obtain ⟨m, e, h0, hs⟩ := h.int List.mem_cons_self
    show ((sizW x.2 + startN rs : Nat) : Int) = worth x.2 + sumW rs
    rw [hs, ← ih, e]
    show _ = m + _
    push_cast
    omega
theorem pers_to : ∀ (f : Int) (rs : List RowT), Ends_ rs → ∀ (i : Nat) (row : RowT) (k : Nat), rs[i]? = some row → k < sizW row.2 → (pcsR f rs).find? (comes (f + startN (rs.take i) + k)) = some (f + startN (rs.take i), pastO (f + startN (rs.take i)) row.2, row.1.map pdO) ∧ (pcsR f rs).findIdx (comes (f + startN (rs.take i) + k)) = i
  | f, [], _, i, row, k, h, _ => by cases h
  | f, x :: rs, hE, 0, row, k, h, hk => by
    cases h
    obtain ⟨m, e, h0, hs⟩ := hE.int List.mem_cons_self
    have e0 : f + ((startN ((x :: rs).take 0) : Nat) : Int) = f := by
      show f + ((0 : Nat) : Int) = f
      omega
    rw [e0]
    have hc : comes (f + k) (f, pastO f x.2, x.1.map pdO) = true := by
      unfold comes
      rw [e]
      show decide (f + k < f + m) = true
      exact decide_eq_true (by omega)
    show List.find? _ ((f, pastO f x.2, x.1.map pdO) :: pcsR (f + worth x.2) rs) = _ ∧ List.findIdx _ ((f, pastO f x.2, x.1.map pdO) :: pcsR (f + worth x.2) rs) = 0
    rw [List.find?_cons, List.findIdx_cons, hc]
    exact ⟨rfl, rfl⟩
  | f, x :: rs, hE, i + 1, row, k, h, hk => by
    obtain ⟨m, e, h0, hs⟩ := hE.int List.mem_cons_self
    have ih := pers_to (f + worth x.2) rs (fun y hy => hE y (List.mem_cons_of_mem _ hy)) i row k (by simpa using h) hk
    have ew : worth x.2 = m := by rw [e]; rfl
    have e1 : f + ((startN ((x :: rs).take (i + 1)) : Nat) : Int) = f + worth x.2 + ((startN (rs.take i) : Nat) : Int) := by
      show f + ((sizW x.2 + startN (rs.take i) : Nat) : Int) = _
      rw [hs, ew]
      push_cast
      omega
    rw [e1]
    have hc : comes (f + worth x.2 + ((startN (rs.take i) : Nat) : Int) + k) (f, pastO f x.2, x.1.map pdO) = false := by
      unfold comes
      rw [e]
      show decide (_ < f + m) = false
      refine decide_eq_false ?_
      show ¬ f + m + _ + _ < _
      omega
    show List.find? _ ((f, pastO f x.2, x.1.map pdO) :: pcsR (f + worth x.2) rs) = _ ∧ List.findIdx _ ((f, pastO f x.2, x.1.map pdO) :: pcsR (f + worth x.2) rs) = i + 1
    rw [List.find?_cons, List.findIdx_cons, hc]
    exact ⟨ih.1, by rw [cond_false, ih.2]⟩
theorem pers_at : ∀ (rs : List RowT) (n : Nat), n < startN rs → ∃ (i : Nat) (row : RowT) (k : Nat), rs[i]? = some row ∧ k < sizW row.2 ∧ n = startN (rs.take i) + k
  | [], n, h => absurd h (Nat.not_lt_zero _)
  | x :: rs, n, h => by
    have h : n < sizW x.2 + startN rs := h
    by_cases c : n < sizW x.2
    · exact ⟨0, x, n, rfl, c, by show n = 0 + n; omega⟩
    · obtain ⟨i, row, k, h1, h2, h3⟩ := pers_at rs (n - sizW x.2) (by omega)
      exact ⟨i + 1, row, k, h1, h2, by show n = sizW x.2 + startN (rs.take i) + k; omega⟩
theorem start_lt {rs : List RowT} {i k : Nat} {row : RowT} (h : rs[i]? = some row) (hk : k < sizW row.2) : startN (rs.take i) + k < startN rs := by
  have := startN_le rs (i + 1)
  rw [List.take_add_one, h] at this
  have e : startN (rs.take i ++ (some row).toList) = startN (rs.take i) + sizW row.2 := startN_snoc _ _
  omega
/-- the lasts as a list -/
def lasF (M : Nat) (lf : Nat → Int) : List (Option Int) := (List.range M).map fun x => some (lf x)
theorem lasF_use {M : Nat} {lf : Nat → Int} {n : Nat} (h : n < M) : useL (lasF M lf) n = some (lf n - n) := by
  unfold useL lasF
  rw [List.getElem?_map, List.getElem?_range h]
  rfl
theorem pcsR_len : ∀ (f : Int) (rs : List RowT), (pcsR f rs).length = rs.length
  | _, [] => rfl
  | f, x :: rs => by
    show (pcsR (f + worth x.2) rs).length + 1 = rs.length + 1
    rw [pcsR_len]
theorem pcsR_row : ∀ (f : Int) (rs : List RowT) (i : Nat) (pc : PieceT) (x : RowT), (pcsR f rs)[i]? = some pc → rs[i]? = some x → pc.2.2 = x.1.map pdO
  | _, [], i, pc, x, h, _ => by cases h
  | f, y :: rs, 0, pc, x, h, hx => by
    cases hx
    cases h
    rfl
  | f, y :: rs, i + 1, pc, x, h, hx => pcsR_row (f + worth y.2) rs i pc x (by simpa [pcsR] using h) (by simpa using hx)
theorem pcsR_many : ∀ (f : Int) (rs : List RowT), Ends_ rs → manyL (pcsR f rs) = rs.map fun x => manyO x.2
  | _, [], _ => rfl
  | f, x :: rs, h => by
    have ih := pcsR_many (f + worth x.2) rs fun y hy => h y (List.mem_cons_of_mem _ hy)
    obtain ⟨m, e, _, _⟩ := h.int List.mem_cons_self
    show ((pastO f x.2).map fun m => m - f) :: manyL (pcsR (f + worth x.2) rs) = manyO x.2 :: _
    rw [ih, e]
    show some (f + m - f) :: _ = some m :: _
    rw [show f + m - f = m by omega]
theorem pcsR_snocD : ∀ (f : Int) (rs : List RowT) (x : RowT), pcsR f (rs ++ [x]) = pcsR f rs ++ [(f + sumW rs, pastO (f + sumW rs) x.2, x.1.map pdO)]
  | f, [], x => by
    have e : f + sumW [] = f := Int.add_zero f
    rw [e]
    rfl
  | f, y :: rs, x => by
    have e : f + sumW (y :: rs) = f + worth y.2 + sumW rs := by
      show f + (worth y.2 + sumW rs) = _
      omega
    rw [e]
    show _ :: pcsR _ (rs ++ [x]) = _ :: (pcsR _ rs ++ _)
    rw [pcsR_snocD]
theorem pcsR_past : ∀ (f : Int) (rs : List RowT) (i : Nat) (pc : PieceT) (x : RowT), (pcsR f rs)[i]? = some pc → rs[i]? = some x → ∃ g, pc.2.1 = pastO g x.2
  | _, [], i, pc, x, h, _ => by cases h
  | f, y :: rs, 0, pc, x, h, hx => by
    cases hx
    cases h
    exact ⟨f, rfl⟩
  | f, y :: rs, i + 1, pc, x, h, hx => pcsR_past (f + worth y.2) rs i pc x (by simpa [pcsR] using h) (by simpa using hx)
theorem pcsR_last : ∀ (f : Int) (rs : List RowT) (x : RowT), (∀ r ∈ rs, isMany r.2 = true ∧ isNone r.2 = false) → x.2 = .none → ∀ y, f + sumW rs ≤ y → (pcsR f (rs ++ [x])).find? (comes y) = some (f + sumW rs, none, x.1.map pdO)
  | f, [], x, _, hx, y, hy => by
    show List.find? (comes y) [(f, pastO f x.2, x.1.map pdO)] = _
    rw [hx, show f + sumW [] = f by show f + 0 = f; omega]
    exact List.find?_cons_of_pos rfl
  | f, r :: rs, x, h, hx, y, hy => by
    have e : sumW (r :: rs) = worth r.2 + sumW rs := by unfold sumW; rw [List.map_cons, List.sum_cons]
    obtain ⟨g1, g2⟩ := h r List.mem_cons_self
    have nn : 0 ≤ sumW rs := sumW_nn fun z hz => (h z (List.mem_cons_of_mem _ hz)).1
    have i := pcsR_last (f + worth r.2) rs x (fun z hz => h z (List.mem_cons_of_mem _ hz)) hx y (by omega)
    show List.find? (comes y) ((f, pastO f r.2, r.1.map pdO) :: pcsR (f + worth r.2) (rs ++ [x])) = _
    obtain ⟨os, m⟩ := r
    cases m with
    | int m =>
      rw [List.find?_cons_of_neg (by
        show ¬ decide (y < f + m) = true
        rw [decide_eq_true_eq]
        have e : sumW ((os, PyData.int m) :: rs) = m + sumW rs := e
        omega), i, e]
      rw [Int.add_assoc]
    | none => cases g2
    | _ => cases g1
theorem size_lt {rs : List RowT} {x : RowT} {mo i k : Nat} {row : RowT} (hE : Ends_ rs) (hx : x.2 = .none) (hb : startN rs ≤ mo) (h : (rs ++ [x])[i]? = some row) (hk : k < sizG mo (startN ((rs ++ [x]).take i)) row.2) : startN ((rs ++ [x]).take i) + k < mo := by
  by_cases c : i < rs.length
  · rw [List.getElem?_append_left c] at h
    rw [List.take_append_of_le_length (by omega)] at hk ⊢
    obtain ⟨m, e, _, hs⟩ := hE.int (List.mem_of_getElem? h)
    have := start_lt h (show k < sizW row.2 by rw [hs]; rw [e] at hk; exact hk)
    omega
  · have ei : i = rs.length := by
      have := (List.getElem?_eq_some_iff.mp h).1
      rw [List.length_append, List.length_singleton] at this
      omega
    subst ei
    rw [List.getElem?_concat_length] at h
    cases h
    rw [List.take_left' rfl, hx] at hk
    rw [List.take_left' rfl]
    have hk : k < mo - startN rs := hk
    omega
theorem las_exN {ps : List PieceT} (hp : PsOk ps) (hpt : ∀ y, 0 ≤ y → ∃ t, Pt ps y t) : ∀ (n : Nat) (s x : Int), (x - s).toNat ≤ n → 0 ≤ s → s ≤ x → ∃ l, Las ps none s x l
  | n, s, x, hn, h0, h1 => by
    obtain ⟨t, ht⟩ := hpt s h0
    have hw := pt_wp none ht
    have hnn := wp_nn hp hw
    generalize wd none s t = w at hw hnn
    by_cases c : s + max w 1 ≤ x
    · cases n with
      | zero => omega
      | succ n =>
        obtain ⟨l, hl⟩ := las_exN hp hpt n (s + max w 1) x (by omega) (by omega) c
        exact ⟨l, .skip hw c hl⟩
    · by_cases e : x = s
      · subst e
        by_cases w0 : w = 0
        · subst w0; exact ⟨none, .spare hw⟩
        · exact ⟨_, .own hw (by omega)⟩
      · obtain ⟨l, hl⟩ := las_ex hp _ (s + 1) (s + w - 1) (Nat.le_refl _) (fun y g1 g2 => hpt y (by omega)) x (by omega) (by omega)
        exact ⟨_, .inn hw (by omega) (by omega) hl⟩
theorem las_opnN {ps : List PieceT} {b l : Option Int} {s x : Int} (h : Las ps b s x l) : b = none → ∀ k, l = some k → ∃ y p, s ≤ y ∧ y ≤ x ∧ Pt ps y (.int p) ∧ y + p = k := by
  induction h with
  | @spare b x hw =>
    intro hb k e
    rw [hb] at e
    cases e
  | @own b x w hw h0 =>
    intro hb k e
    cases e
    obtain ⟨p, hpt, ew, _⟩ := wp_pos hw h0
    exact ⟨x, p, Int.le_refl _, Int.le_refl _, hpt, by omega⟩
  | @inn b l s x w hw h1 h2 h3 _ =>
    intro hb k e
    subst e
    obtain ⟨p, hpt, ew, _⟩ := wp_pos hw (by omega)
    by_cases c : k < s + w - 1
    · obtain ⟨y, q, g1, g2, g3, g4, _⟩ := las_opn h3 k rfl (fun m' e => by cases e; exact c) (fun e => by cases e)
      exact ⟨y, q, by omega, g2, g3, g4⟩
    · obtain ⟨i1, _⟩ := las_le h3 fun m e => by cases e; omega
      have := (i1 k rfl).2 _ rfl
      obtain rfl : k = s + w - 1 := by omega
      exact ⟨s, p, Int.le_refl _, by omega, hpt, by omega⟩
  | @skip b l s x w hw h1 _ ih =>
    intro hb k e
    obtain ⟨y, q, g1, g2, g3, g4⟩ := ih hb k e
    exact ⟨y, q, by omega, g2, g3, g4⟩
/-- what the first people's lasts tell of those who come well ahead of the end -/
theorem use_far {ps : List PieceT} {os : List (Option Int)} {lf : Nat → Int} {S : List Nat} (hp : PsOk ps) (hpt : PtsL ps os) (hl : LasL ps os lf) (hM : ∀ x p : Int, Pt ps x (.int p) → p ≤ 16) (I : LInv os lf os.length S) {n : Nat} {l : Option Int} (hn : n + 100 ≤ os.length) (h : Las ps none 0 (n : Int) l) : useL (fnd os.length os.length S lf) n = l.map fun z => z - (n : Int) := by
  have hnl : n < os.length := by omega
  have short : ∀ k, l = some k → k ≤ (n : Int) + 16 := fun k e => by
    obtain ⟨y, p, _, g2, g3, g4⟩ := las_opnN h rfl k e
    have := hM y p g3
    omega
  unfold useL
  rw [fnd_at hnl]
  rcases las_cut hp h (show (n : Int) ≤ (os.length : Int) - 1 by omega) (fun m e => by cases e) with ⟨h1, h2⟩ | ⟨h1, k, e, h2, h3⟩
  · have el : l = none := by
      cases l with
      | none => rfl
      | some k =>
        have := h2 k rfl
        have := short k rfl
        omega
    have e1 := las_uniq (spr_las h1) _ (hl n hnl)
    have e1 : (os.length : Int) - 1 = lf n := Option.some.inj e1
    have hm : n ∈ S := by
      by_cases m : n ∈ S
      · exact m
      · obtain ⟨_, y, p, g1, g2, g3⟩ := I.out n hnl m
        have := hM _ p (hpt y _ g2)
        omega
    rw [if_neg fun z => z.2 hm, el]
    rfl
  · have e1 := las_uniq h3 _ (hl n hnl)
    have e1 : k = lf n := Option.some.inj e1
    have hm : n ∉ S := fun m => by
      have := I.hi n m
      have := short k e
      omega
    rw [if_pos ⟨hnl, hm⟩, e, ← e1]
    rfl
/-! ### rows whose last one has no end -/
theorem find_app {rs : List RowT} {x : RowT} {f y : Int} {pc : PieceT} (h : (pcsR f rs).find? (comes y) = some pc) : (pcsR f (rs ++ [x])).find? (comes y) = some pc ∧ (pcsR f (rs ++ [x])).findIdx (comes y) = (pcsR f rs).findIdx (comes y) := by
  have e := pcsR_snocD f rs x
  have hlt : (pcsR f rs).findIdx (comes y) < (pcsR f rs).length := List.findIdx_lt_length_of_exists ⟨pc, List.mem_of_find?_eq_some h, List.find?_some h⟩
  rw [e]
  refine ⟨by rw [List.find?_append, h]; rfl, ?_⟩
  rw [List.findIdx_append, if_pos hlt]
/-- where the people of a plan without an end stand -/
theorem pers_toN {rs : List RowT} {x : RowT} {mo : Nat} (hE : Ends_ rs) (hx : x.2 = .none) (hg : GoodRow x) (i : Nat) (row : RowT) (k : Nat) (h : (rs ++ [x])[i]? = some row) (hk : k < sizG mo (startN ((rs ++ [x]).take i)) row.2) : ixP (pcsR 0 (rs ++ [x])) ((startN ((rs ++ [x]).take i) + k : Nat) : Int) = i ∧ tnP (pcsR 0 (rs ++ [x])) ((startN ((rs ++ [x]).take i) + k : Nat) : Int) = k % row.1.length := by
  by_cases c : i < rs.length
  · rw [List.getElem?_append_left c] at h
    rw [List.take_append_of_le_length (by omega)] at hk ⊢
    obtain ⟨m, e, h0, hs⟩ := hE.int (List.mem_of_getElem? h)
    have hk' : k < sizW row.2 := by rw [hs]; rw [e] at hk; exact hk
    obtain ⟨h1, h2⟩ := pers_to 0 rs hE i row k h hk'
    have e0 : (0 : Int) + startN (rs.take i) + k = ((startN (rs.take i) + k : Nat) : Int) := by push_cast; omega
    rw [e0] at h1 h2
    obtain ⟨h3, h4⟩ := find_app (x := x) h1
    refine ⟨by unfold ixP; rw [h4, h2], ?_⟩
    rw [tnP_of h3]
    show (tnI (0 + (startN (rs.take i) : Int)) (row.1.map pdO).length ((startN (rs.take i) + k : Nat) : Int)).toNat = _
    unfold tnI
    rw [List.length_map, show ((startN (rs.take i) + k : Nat) : Int) - (0 + (startN (rs.take i) : Int)) = (k : Int) by push_cast; omega]
    rfl
  · have ei : i = rs.length := by
      have := (List.getElem?_eq_some_iff.mp h).1
      rw [List.length_append, List.length_singleton] at this
      omega
    subst ei
    rw [List.getElem?_concat_length] at h
    cases h
    rw [List.take_left' rfl]
    have hst := start_sum hE
    have hr : ∀ r ∈ rs, isMany r.2 = true ∧ isNone r.2 = false := fun r hr => ⟨(hE r hr).1.many, (hE r hr).2⟩
    have hf := pcsR_last 0 rs x hr hx ((startN rs + k : Nat) : Int) (by omega)
    have hno : ∀ q ∈ pcsR 0 rs, comes ((startN rs + k : Nat) : Int) q = false := fun q hq => by
      cases e : comes ((startN rs + k : Nat) : Int) q with
      | false => rfl
      | true =>
        exfalso
        have hs := List.find?_isSome.mpr ⟨q, hq, e⟩
        obtain ⟨pc, hpc⟩ := Option.isSome_iff_exists.mp hs
        have h3 := (find_app (x := x) hpc).1
        rw [hf] at h3
        cases h3
        -- the last piece is none of these
        have hm := List.mem_of_find?_eq_some hpc
        obtain ⟨i, hi, ei⟩ := List.getElem_of_mem hm
        obtain ⟨row, hrow⟩ : ∃ row, rs[i]? = some row := ⟨_, List.getElem?_eq_getElem (by rw [pcsR_len] at hi; exact hi)⟩
        have := pcsR_past 0 rs i _ row (by rw [List.getElem?_eq_getElem hi, ei]) hrow
        obtain ⟨m, em, _, _⟩ := hE.int (List.mem_of_getElem? hrow)
        obtain ⟨g, hg2⟩ := this
        rw [em] at hg2
        cases hg2
    refine ⟨?_, ?_⟩
    · unfold ixP
      rw [pcsR_snocD, List.findIdx_append]
      have e0 : (pcsR 0 rs).findIdx (comes ((startN rs + k : Nat) : Int)) = (pcsR 0 rs).length := List.findIdx_eq_length_of_false hno
      rw [if_neg (by omega), List.findIdx_cons]
      have : comes ((startN rs + k : Nat) : Int) ((0 : Int) + sumW rs, pastO (0 + sumW rs) x.2, x.1.map pdO) = true := by rw [hx]; rfl
      rw [this, cond_true, pcsR_len]
      omega
    · rw [tnP_of hf]
      show (tnI (0 + sumW rs) (x.1.map pdO).length ((startN rs + k : Nat) : Int)).toNat = _
      unfold tnI
      rw [List.length_map, show ((startN rs + k : Nat) : Int) - (0 + sumW rs) = (k : Int) by rw [← hst]; push_cast; omega]
      rfl
theorem pers_atN {rs : List RowT} {x : RowT} {mo : Nat} (hE : Ends_ rs) (hx : x.2 = .none) {n : Nat} (hn : n < mo) : ∃ (i : Nat) (row : RowT) (k : Nat), (rs ++ [x])[i]? = some row ∧ k < sizG mo (startN ((rs ++ [x]).take i)) row.2 ∧ n = startN ((rs ++ [x]).take i) + k := by
  by_cases c : n < startN rs
  · obtain ⟨i, row, k, h1, h2, h3⟩ := pers_at rs n c
    have hi := (List.getElem?_eq_some_iff.mp h1).1
    obtain ⟨m, e, _, hs⟩ := hE.int (List.mem_of_getElem? h1)
    refine ⟨i, row, k, by rw [List.getElem?_append_left hi]; exact h1, ?_, by rw [List.take_append_of_le_length (by omega)]; exact h3⟩
    rw [e]
    show k < m.toNat
    omega
  · refine ⟨rs.length, x, n - startN rs, List.getElem?_concat_length, ?_, ?_⟩
    · rw [hx, List.take_left' rfl]
      show n - startN rs < mo - startN rs
      omega
    · rw [List.take_left' rfl]
      omega
theorem rows_usesN {rs : List RowT} {x : RowT} {os : List (Option Int)} {lf : Nat → Int} {us : UsT} {S : List Nat} {mo : Nat} {f F m : Int} (hp : PsOk (pcsR 0 (rs ++ [x]))) (hE : Ends_ rs) (hx : x.2 = .none) (hg : GoodRow x) (hpt : PtsL (pcsR 0 (rs ++ [x])) os) (hl : LasL (pcsR 0 (rs ++ [x])) os lf) (hM : ∀ x' p : Int, Pt (pcsR 0 (rs ++ [x])) x' (.int p) → p ≤ 16) (I : LInv os lf os.length S)
    (hb : startN rs ≤ mo) (hmo : mo + 100 ≤ os.length) (hall : ∀ y, 0 ≤ y → ∃ t, Pt (pcsR 0 (rs ++ [x])) y t) (hr : RoundOk (pcsR 0 (rs ++ [x])) f F m) (hFm : F + m ≤ mo) (h : RowsG mo (rs ++ [x]) (fnd os.length os.length S lf) us) : UsesN (pcsR 0 (rs ++ [x])) us := by
  have far := fun {n : Nat} {l : Option Int} (hn : n < mo) (h : Las (pcsR 0 (rs ++ [x])) none 0 (n : Int) l) => use_far hp hpt hl hM I (show n + 100 ≤ os.length by omega) h
  refine ⟨⟨by rw [pcsR_len]; exact h.1, fun i u pc hu hpc => ?_⟩, fun y l hl2 => ?_, fun i t o e => ?_⟩
  · obtain ⟨row, hrow⟩ : ∃ row, (rs ++ [x])[i]? = some row := ⟨_, List.getElem?_eq_getElem (by rw [← h.1]; exact (List.getElem?_eq_some_iff.mp hu).1)⟩
    rw [pcsR_row 0 (rs ++ [x]) i pc row hpc hrow, List.length_map]
    exact (h.2 i row u hrow hu).len
  · obtain ⟨z, l', z0, z1, hz, e1, e2, e3⟩ := hr.back _ y l (Nat.le_refl _) hl2
    obtain ⟨n, rfl⟩ : ∃ n : Nat, z = (n : Int) := ⟨z.toNat, by omega⟩
    have hn : n < mo := by omega
    obtain ⟨i, row, k, h1, h2, h3⟩ := pers_atN (x := x) hE hx hn
    obtain ⟨k1, k2⟩ := pers_toN hE hx hg i row k h1 h2
    rw [← h3] at k1 k2
    obtain ⟨u, hu⟩ : ∃ u, us[i]? = some u := ⟨_, List.getElem?_eq_getElem (by rw [h.1]; exact (List.getElem?_eq_some_iff.mp h1).1)⟩
    obtain ⟨o, g1, g2⟩ := (h.2 i row u h1 hu).cov k h2
    rw [← h3, far hn hz, e3] at g2
    exact ⟨o, by rw [← e1, ← e2, k1, k2]; unfold uget; rw [hu]; exact g1, g2⟩
  · unfold uget at e
    cases hu : us[i]? with
    | none => rw [hu] at e; cases e
    | some u =>
      rw [hu] at e
      have e : u[t]? = some o := e
      obtain ⟨row, hrow⟩ : ∃ row, (rs ++ [x])[i]? = some row := ⟨_, List.getElem?_eq_getElem (by rw [← h.1]; exact (List.getElem?_eq_some_iff.mp hu).1)⟩
      rcases (h.2 i row u hrow hu).att t o e with z | ⟨k, h1, h2, h3⟩
      · exact .inl z
      · obtain ⟨k1, k2⟩ := pers_toN hE hx hg i row k hrow h1
        generalize hn : startN ((rs ++ [x]).take i) + k = n at h3 k1 k2
        have hnm : n < mo := by
          rw [← hn]
          exact size_lt hE hx hb hrow h1
        obtain ⟨l, hl2⟩ := las_exN hp hall _ 0 (n : Int) (Nat.le_refl _) (Int.le_refl 0) (by omega)
        rw [far hnm hl2] at h3
        exact .inr ⟨(n : Int), l, by omega, hl2, k1.symm, by rw [k2]; exact h2.symm, h3⟩
theorem uget_some {ps : List PieceT} {us us' : UsT} (h : ShpU ps us) (h' : ShpU ps us') {i t : Nat} {o : Option Int} (e : uget us i t = some o) : ∃ o', uget us' i t = some o' := by
  unfold uget at e ⊢
  cases hu : us[i]? with
  | none => rw [hu] at e; cases e
  | some u =>
    rw [hu] at e
    have e : u[t]? = some o := e
    have hi := (List.getElem?_eq_some_iff.mp hu).1
    rw [h.len] at hi
    obtain ⟨v, hv⟩ : ∃ v, us'[i]? = some v := ⟨_, List.getElem?_eq_getElem (by rw [h'.len]; exact hi)⟩
    have hp := List.getElem?_eq_getElem hi
    have l1 := h.row i u _ hu hp
    have l2 := h'.row i v _ hv hp
    have ht := (List.getElem?_eq_some_iff.mp e).1
    exact ⟨v[t]'(by omega), by rw [hv]; exact List.getElem?_eq_getElem (by omega)⟩
theorem fnd_del {M T : Nat} {S S' : List Nat} {lf : Nat → Int} {z : Nat} (hs : ∀ x, x ∈ S ↔ x = z ∨ x ∈ S') (hn : z ∉ S') (hz : z < T) : (fnd M T S lf).set z (some (lf z)) = fnd M T S' lf := by
  apply List.ext_getElem?
  intro x
  by_cases h : x < M
  · rw [List.getElem?_set]
    by_cases e : z = x
    · subst e
      rw [if_pos rfl, if_pos (by rw [fnd_len]; exact h), fnd_at h, if_pos ⟨hz, hn⟩]
    · rw [if_neg e, fnd_at h, fnd_at h]
      congr 1
      by_cases c : x < T ∧ x ∉ S
      · rw [if_pos c, if_pos ⟨c.1, fun z2 => c.2 ((hs x).mpr (.inr z2))⟩]
      · rw [if_neg c, if_neg fun z2 => c ⟨z2.1, fun h => by
          rcases (hs x).mp h with h | h
          · exact e h.symm
          · exact z2.2 h⟩]
  · rw [List.getElem?_eq_none (by rw [List.length_set, fnd_len]; omega), List.getElem?_eq_none (by rw [fnd_len]; omega)]
theorem fnd_all (M : Nat) (lf : Nat → Int) : fnd M M [] lf = lasF M lf := by
  unfold fnd lasF
  refine List.map_congr_left fun x hx => ?_
  rw [if_pos ⟨List.mem_range.mp hx, fun z => nomatch z⟩]
end CL
set_option Elab.async false
set_option linter.all false
set_option pp.maxSteps 900
set_option maxRecDepth 100000
set_option maxHeartbeats 4000000
namespace CL
open PySem PySem.Spec PyProof.Rows L2 GE
theorem said_full (most : Nat) {rs : List RowT} {x : RowT} (e : x.2 = .none) : (said most [] (rs ++ [x])).length = most := by
  rw [said_snoc, List.length_append, seg_len, e]
  have := said_le most rs [] (Nat.zero_le _)
  show _ + (most - _) = most
  omega
theorem usesN_le {ps : List PieceT} {us us' : UsT} (h : UsesN ps us) (h' : UsesN ps us') {i t : Nat} {o o' : Option Int} (e : uget us i t = some o) (e' : uget us' i t = some o') : leO o o' := by
  have nn : ∀ {o : Option Int}, o = some 0 ∨ RealN ps i t o → ∀ m, o = some m → 0 ≤ m := fun {o} hh m em => by
    rcases hh with z | ⟨x, l, x0, hl, _, _, z⟩
    · rw [z] at em
      cases em
      exact Int.le_refl 0
    · obtain ⟨i1, _⟩ := las_le hl fun m e => by cases e
      cases l with
      | none => rw [z] at em; cases em
      | some k =>
        rw [z] at em
        have em : k - x = m := Option.some.inj em
        have := (i1 k rfl).1
        omega
  rcases h.att i t o e with z | ⟨x, l, x0, hl, ei, et, eo⟩
  · intro m em
    exact ⟨0, z, nn (h'.att i t o' e') m em⟩
  · obtain ⟨o2, g1, g2⟩ := h'.cov x l hl
    rw [← ei, ← et, e'] at g1
    cases g1
    rw [eo]
    exact g2
theorem UsesN.uniq {ps : List PieceT} {us us' : UsT} (h : UsesN ps us) (h' : UsesN ps us') : us = us' := by
  apply List.ext_getElem?
  intro i
  by_cases hi : i < ps.length
  · obtain ⟨u, hu⟩ : ∃ u, us[i]? = some u := ⟨_, List.getElem?_eq_getElem (by rw [h.shp.len]; exact hi)⟩
    obtain ⟨v, hv⟩ : ∃ v, us'[i]? = some v := ⟨_, List.getElem?_eq_getElem (by rw [h'.shp.len]; exact hi)⟩
    have hp := List.getElem?_eq_getElem hi
    have l1 := h.shp.row i u _ hu hp
    have l2 := h'.shp.row i v _ hv hp
    rw [hu, hv]
    congr 1
    apply List.ext_getElem?
    intro t
    by_cases ht : t < u.length
    · obtain ⟨o, ho⟩ : ∃ o, u[t]? = some o := ⟨_, List.getElem?_eq_getElem ht⟩
      obtain ⟨o', ho'⟩ : ∃ o, v[t]? = some o := ⟨_, List.getElem?_eq_getElem (by omega)⟩
      have e : uget us i t = some o := by unfold uget; rw [hu]; exact ho
      have e' : uget us' i t = some o' := by unfold uget; rw [hv]; exact ho'
      have a := usesN_le h h' e e'
      have b := usesN_le h' h e' e
      rw [ho, ho']
      congr 1
      cases o' with
      | none =>
        cases o with
        | none => rfl
        | some x =>
          obtain ⟨c, c1, _⟩ := b x rfl
          cases c1
      | some y =>
        obtain ⟨c, c1, c2⟩ := a y rfl
        subst c1
        obtain ⟨d, d1, d2⟩ := b c rfl
        cases d1
        congr 1
        omega
    · rw [List.getElem?_eq_none (by omega), List.getElem?_eq_none (by omega)]
  · rw [List.getElem?_eq_none (by rw [h.shp.len]; omega), List.getElem?_eq_none (by rw [h'.shp.len]; omega)]
theorem pcsR_manyN {rs : List RowT} {x : RowT} (hE : Ends_ rs) (hx : x.2 = .none) : manyL (pcsR 0 (rs ++ [x])) = (rs ++ [x]).map fun x => manyO x.2 := by
  have h := pcsR_many 0 rs hE
  rw [pcsR_snocD]
  unfold manyL at h ⊢
  rw [List.map_append, h, List.map_append, List.map_cons, List.map_nil, List.map_cons, List.map_nil, hx]
  rfl
abbrev sDue : Stmt := topS 44
abbrev nDue : List Str := ["rows", "ahead_of_it", "patiences", "found", "stack", "turn", "many"]
theorem scDue : FnScope nDue ["rows"] (defScope sDue) := ⟨rfl, rfl, rfl, by decide +kernel, rfl, by decide +kernel, by decide +kernel⟩
def spDueN : Sp := fun vs H Q _ => ∃ v rs, ∃ x : RowT, ∃ f F m : Int, vs = [v] ∧ Rp H v (.list ((rs ++ [x]).map rowD)) ∧ Ends_ rs ∧ x.2 = .none ∧ GoodRow x ∧ rs.length ≤ 7 ∧ sumW rs ≤ 312 ∧ PsOk (pcsR 0 (rs ++ [x])) ∧ (∀ x' p : Int, Pt (pcsR 0 (rs ++ [x])) x' (.int p) → p ≤ 16) ∧ (∀ y, 0 ≤ y → ∃ t, Pt (pcsR 0 (rs ++ [x])) y t) ∧
  RoundOk (pcsR 0 (rs ++ [x])) f F m ∧ F + m ≤ sumW rs + 153 ∧ ∀ L bs us H', Same H H' → H L = none → (∀ b ∈ bs, H b = none) → TL H' L bs us (manyL (pcsR 0 (rs ++ [x]))) → UsesN (pcsR 0 (rs ++ [x])) us → Q (.ref L) H'
section
variable {P : Program} {w : World} {K : PySem.W.Frag} {mg : Str → Option Value} {base : Heap}
theorem ok_dueN {f : Addr} {fd : FuncData} (Fu : Fun K "_law_due" "_law_due" sDue f fd) (T : Nm mg) (CSd : Cal P w K mg base 1 "_law_said_over" ["rows", "most"] spSaid) (CLs : Cal P w K mg base 1 "_law_lasts" ["patiences"] spLasts) (CGr : Cal P w K mg base 1 "_law_greatest" ["rows", "lasts", "most"] spGreat) : FnOk P w K mg base CX0 2 f fd ["rows"] spDueN := by
  refine Fu.ok scDue (fun vs H Q E ⟨v, rs, x, f, F, m, e, _⟩ => by rw [e]; rfl) (fun cdv A0 outer s H vs Q E hr h => ?_)
  obtain ⟨v, rs, x, ff, F, m, rfl, hR, hE, hx, hg, h7, hsum, hps, hM, hall, hro, hFm, q⟩ := h
  have nd := scDue.nd
  refine ⟨_, (pss_cons (ps_set (i := 1) nd rfl (.inl rfl) (pe_callB (cr_sum rfl) (by rfl) T.sum (by decide +kernel) (pa_cons (pe_lc (own := [("turn", 5), ("many", 6)]) (g := (gTup K 2 (gCons (gName 5) (gCons (gName 6) gNil)))) (tt := tYes) rfl nd (pi_list (pe_slice sl_list (pv 0) po_none (po_some (pe_un un_neg pe_int)))) (blkOk_by (own := [("turn", 5), ("many", 6)]) (N := nDue) (sc := (defScope sDue)) (by decide +kernel)) (fun _ _ _ _ _ => (pg_tup rfl (pgs_cons (pg_name (i := 5) nd rfl (.inl rfl) (.inr rfl)) (pgs_cons (pg_name (i := 6) nd rfl (.inl rfl) (.inr rfl)) pgs_nil)))) (fun _ _ _ _ _ => pts_nil) (fun _ _ _ _ _ => (pv 6))) pa_nil)))
      (pss_cons (ps_set (i := 2) nd rfl (.inl rfl) (pe_cal (CSd.mono (by decide)) hr (by rfl) (pa_cons (pv 0) (pa_cons (pe_op op_add (pv 1) pe_int) pa_nil))))
      (pss_cons (ps_asg (pe_cal (CLs.mono (by decide)) hr (by rfl) (pa_cons (pv 2) pa_nil)) (pg_tup rfl (pgs_cons (pg_name (i := 3) nd rfl (.inl rfl)) (pgs_cons (pg_name (i := 4) nd rfl (.inl rfl)) pgs_nil))))
      (pss_one (ps_ret (pe_cal (CGr.mono (by decide)) hr (by rfl) (pa_cons (pv 0) (pa_cons (pv 3) (pa_cons (pe_op op_sub (pe_callB call_len_seq (by rfl) T.len PySem.boot_len (pa_cons (pv 2) pa_nil)) pe_int) pa_nil))))))))), ?_⟩
  have sz : 5000 ≤ sizeLine := by decide
  have hst := start_sum hE
  have hgs : ∀ y ∈ rs ++ [x], GoodRow y := fun y hy => by
    rcases List.mem_append.mp hy with hy | hy
    · exact (hE y hy).1
    · rw [List.mem_singleton.mp hy]; exact hg
  obtain ⟨p, xs, rfl, hp, hxs⟩ := rp_list hR
  have hlx : xs.length = rs.length + 1 := by rw [hxs.length, List.length_map, List.length_append]; rfl
  refine ⟨.ref p, rfl, 1, rfl, -1, rfl, p, xs, rfl, SqL.of hp, fun S nS => ?_⟩
  rw [cut_last, hlx, Nat.add_sub_cancel]
  have s1 := same_upd (o := .lst (xs.take rs.length)) nS
  have eS : (upd H S (.lst (xs.take rs.length))) S = some (.lst (xs.take rs.length)) := upd_same
  generalize upd H S (.lst (xs.take rs.length)) = H1 at s1 eS
  have ltk : (xs.take rs.length).length = rs.length := by rw [List.length_take]; omega
  refine ⟨S, rfl, ⟨_, SqL.of eS⟩, fun D nD => ?_⟩
  refine lc_list (xs := xs.take rs.length) (fun i H5 => H5 = upd H1 D (.lst (((rs.take i).map fun r => worth r.2).map V.int))) rfl (fun i H5 _ e => by rw [e]; exact SqL.of (same_upd nD _ _ eS)) (fun i y H5 hy e => ?_) (fun H5 e => ?_)
  · subst e
    have hi : i < rs.length := by rw [← ltk]; exact (List.getElem?_eq_some_iff.mp hy).1
    rw [List.getElem?_take, if_pos hi] at hy
    obtain ⟨d, hd, hRx⟩ := hxs.get hy
    obtain ⟨row, hrow⟩ : ∃ row, rs[i]? = some row := ⟨_, List.getElem?_eq_getElem hi⟩
    rw [List.getElem?_map, List.getElem?_append_left hi, hrow] at hd
    cases hd
    have hmr := List.mem_of_getElem? hrow
    have sD := same_upd (o := .lst (((rs.take i).map fun r => worth r.2).map V.int)) nD
    obtain ⟨b, t, zs, vm, rfl, hb, ht, _, _, hvm⟩ := row_at (Rp.sm (s1.trans sD) hRx) (hE row hmr).1
    obtain ⟨mm, em, rfl, _⟩ : ∃ m : Int, row.2 = .int m ∧ vm = .int m ∧ 0 ≤ m := by
      rcases hvm with ⟨e, _⟩ | h
      · have := (hE row hmr).2; rw [e] at this; cases this
      · exact h
    refine ⟨b, _, rfl, SqT.of hb, rfl, .ref t, _, rfl, .int mm, _, rfl, rfl, rfl, yesT ⟨.int mm, rfl, _, upd_same, by rw [List.length_map, List.length_map, List.length_take]; omega, ?_⟩⟩
    rw [upd_upd, List.take_add_one, hrow, List.map_append, List.map_append]
    show _ = upd H1 D (.lst (_ ++ [V.int (worth row.2)]))
    rw [em]
    rfl
  · rw [ltk, List.take_length] at e
    subst e
    have sD := same_upd (o := .lst ((rs.map fun r => worth r.2).map V.int)) nD
    have eD : (upd H1 D (.lst ((rs.map fun r => worth r.2).map V.int))) D = some (.lst ((rs.map fun r => worth r.2).map V.int)) := upd_same
    generalize upd H1 D (.lst ((rs.map fun r => worth r.2).map V.int)) = H2 at sD eD
    refine ⟨D, rs.map fun r => worth r.2, rfl, SqL.of eD, ?_⟩
    show tSeq _ _ _ [some (.ref p), some (.int (sumW rs)), none, none, none, none, none] H2
    have s2 := s1.trans sD
    refine ⟨.ref p, rfl, .int (sumW rs), rfl, sumW rs, 700, rfl, rfl, .ref p, rs ++ [x], sumW rs + 700, startN rs + 700, rfl, by rw [← hst]; push_cast; omega, Rp.sm s2 hR, hgs, by omega, fun pp H3 s3 np ep => ?_⟩
    have hlen := said_full (startN rs + 700) (rs := rs) hx
    have hpt : PtsL (pcsR 0 (rs ++ [x])) (said (startN rs + 700) [] (rs ++ [x])) := fun y o ho => by
      obtain ⟨o', h1, pq, h2, h3, h4⟩ := said_has (startN rs + 700) (rs ++ [x]) [] 0 hgs rfl (Nat.zero_le _) y (Nat.zero_le _) (List.getElem?_eq_some_iff.mp ho).1
      rw [ho] at h1
      cases h1
      exact ⟨pq, h2, h4⟩
    generalize said (startN rs + 700) [] (rs ++ [x]) = os at ep hlen hpt
    obtain ⟨lf, hlf⟩ := lasL_ex hps hpt
    have hok := lasL_ok hps hpt hlf
    have lo : (os.map optV).length = os.length := List.length_map ..
    show tSeq _ _ _ [some (.ref p), some (.int (sumW rs)), some (.ref pp), none, none, none, none] H3
    refine ⟨.ref pp, rfl, pp, os, lf, rfl, ep, by omega, hok, fun t Fd St SS H4 s4 et nF nSt nFS eF eSt I => ?_⟩
    refine ⟨t, _, rfl, SqT.of et, rfl, .ref Fd, _, rfl, .ref St, _, rfl, rfl, ?_⟩
    have s04 := (s2.trans s3).trans s4
    refine ⟨.ref p, rfl, .ref Fd, rfl, .ref pp, rfl, pp, _, rfl, .inl (SqL.of (s4 _ _ ep)), ((os.map optV).length : Int), 300, rfl, rfl, ?_⟩
    have emo : ((os.map optV).length : Int) - 300 = ((startN rs + 400 : Nat) : Int) := by rw [lo, hlen]; push_cast; omega
    refine ⟨.ref p, rs ++ [x], Fd, startN rs + 400, fnd os.length os.length SS lf, by rw [← emo]; rfl, Rp.sm s04 hR, hgs, by rw [List.length_append]; simp; omega, eF, by rw [fnd_len]; omega, fun y hy => ?_, fun i y hy => ?_, fun L bs us H5 s5 nL hbn hTL hRG => ?_⟩
    · rw [List.length_append, List.length_singleton, Nat.add_sub_cancel, List.take_left' rfl] at hy
      exact (hE y hy).2
    · rw [fnd_len]
      by_cases c : i < rs.length
      · rw [List.getElem?_append_left c] at hy
        rw [List.take_append_of_le_length (by omega)]
        have h1 := startN_le rs (i + 1)
        rw [List.take_add_one, hy] at h1
        have h2 : startN (rs.take i ++ (some y).toList) = startN (rs.take i) + sizW y.2 := startN_snoc _ _
        obtain ⟨mm, em, _, hs⟩ := hE.int (List.mem_of_getElem? hy)
        have h3 : sizG (startN rs + 400) (startN (rs.take i)) y.2 = sizW y.2 := by rw [hs, em]; rfl
        omega
      · have ei : i = rs.length := by
          have := (List.getElem?_eq_some_iff.mp hy).1
          rw [List.length_append, List.length_singleton] at this
          omega
        subst ei
        rw [List.getElem?_concat_length] at hy
        cases hy
        rw [List.take_left' rfl, hx]
        show startN rs ≤ _ ∧ startN rs + (startN rs + 400 - startN rs) ≤ _
        omega
    · have hU := rows_usesN hps hE hx hg hpt hlf hM I (by omega) (by omega) hall hro (by push_cast; omega) hRG
      refine q L bs us H5 (s04.trans s5) (s04.free nL) (fun b hb => s04.free (hbn b hb)) ?_ hU
      rw [pcsR_manyN hE hx]
      exact hTL
end
end CL
set_option Elab.async false
set_option linter.all false
set_option pp.maxSteps 900
set_option maxRecDepth 100000
set_option maxHeartbeats 4000000
namespace CL
open PySem PySem.Spec PyProof.Rows L2 GE
/-! ### a list's things don't hold the list -/
mutual
theorem Rp.uniq {H : Hp} : ∀ (d e : PyData) (v : V), Rp H v d → Rp H v e → d = e
  | .none, _, _, h, k => by cases h; cases k; rfl
  | .bool b, _, _, h, k => by cases h; cases k; rfl
  | .int i, _, _, h, k => by cases h; cases k; rfl
  | .str x, _, _, h, k => by cases h; cases k; rfl
  | .list ds, _, _, h, k => by
    cases h with
    | lst h1 h2 =>
      cases k with
      | lst k1 k2 => rw [h1] at k1; cases k1; rw [RpAll.uniq ds _ _ h2 k2]
      | tup k1 k2 => rw [h1] at k1; cases k1
      | dct k1 => rw [h1] at k1; cases k1
  | .tuple ds, _, _, h, k => by
    cases h with
    | tup h1 h2 =>
      cases k with
      | lst k1 k2 => rw [h1] at k1; cases k1
      | tup k1 k2 => rw [h1] at k1; cases k1; rw [RpAll.uniq ds _ _ h2 k2]
      | dct k1 => rw [h1] at k1; cases k1
  | .dict _, _, _, h, k => by
    cases h with
    | dct h1 =>
      cases k with
      | lst k1 k2 => rw [h1] at k1; cases k1
      | tup k1 k2 => rw [h1] at k1; cases k1
      | dct k1 => rfl
theorem RpAll.uniq {H : Hp} : ∀ (ds es : List PyData) (vs : List V), RpAll H vs ds → RpAll H vs es → ds = es
  | [], _, _, h, k => by cases h; cases k; rfl
  | d :: ds, _, _, h, k => by
    cases h with
    | cons h1 h2 =>
      cases k with
      | cons k1 k2 => rw [Rp.uniq d _ _ h1 k1, RpAll.uniq ds _ _ h2 k2]
end
theorem szl (ds : List PyData) : sizeOf ds < sizeOf (PyData.list ds) := by simp
theorem szt (ds : List PyData) : sizeOf ds < sizeOf (PyData.tuple ds) := by simp
mutual
theorem Rp.out {H : Hp} {p : Addr} {e : PyData} (he : Rp H (.ref p) e) : ∀ (d : PyData) (v : V), Rp H v d → sizeOf d < sizeOf e → Rp (Hw (fun b => b = p) H) v d
  | .none, _, h, _ => by cases h; exact .non
  | .bool b, _, h, _ => by cases h; exact .bl b
  | .int i, _, h, _ => by cases h; exact .int i
  | .str x, _, h, _ => by cases h; exact .str x
  | .list ds, _, h, lt => by
    cases h with
    | @lst a xs _ h1 h2 =>
      have n : ¬ (a = p) := fun z => by
        subst z
        rw [Rp.uniq _ _ _ he (.lst h1 h2)] at lt
        exact Nat.lt_irrefl _ lt
      exact .lst (by rw [Hw.at (W := fun b => b = p) n]; exact h1) (RpAll.out he ds _ h2 (Nat.lt_trans (szl ds) lt))
  | .tuple ds, _, h, lt => by
    cases h with
    | @tup a xs _ h1 h2 =>
      have n : ¬ (a = p) := fun z => by
        subst z
        rw [Rp.uniq _ _ _ he (.tup h1 h2)] at lt
        exact Nat.lt_irrefl _ lt
      exact .tup (by rw [Hw.at (W := fun b => b = p) n]; exact h1) (RpAll.out he ds _ h2 (Nat.lt_trans (szt ds) lt))
  | .dict kvs, _, h, lt => by
    cases h with
    | @dct a h1 =>
      have n : ¬ (a = p) := fun z => by
        subst z
        rw [Rp.uniq _ _ _ he (.dct h1)] at lt
        exact Nat.lt_irrefl _ lt
      exact .dct (by rw [Hw.at (W := fun b => b = p) n]; exact h1)
theorem RpAll.out {H : Hp} {p : Addr} {e : PyData} (he : Rp H (.ref p) e) : ∀ (ds : List PyData) (vs : List V), RpAll H vs ds → sizeOf ds < sizeOf e → RpAll (Hw (fun b => b = p) H) vs ds
  | [], _, h, _ => by cases h; exact .nil
  | d :: ds, _, h, lt => by
    cases h with
    | cons h1 h2 =>
      have : sizeOf (d :: ds) = 1 + sizeOf d + sizeOf ds := by simp
      exact .cons (Rp.out he d _ h1 (by omega)) (RpAll.out he ds _ h2 (by omega))
end
theorem rp_parts {H : Hp} {p : Addr} {xs : List V} {ds : List PyData} (h1 : H p = some (.lst xs)) (h2 : RpAll H xs ds) : RpAll (Hw (fun b => b = p) H) xs ds :=
  RpAll.out (.lst h1 h2) ds xs h2 (szl ds)
theorem hw_hw {W : Addr → Prop} {p : Addr} {H : Hp} : Same (Hw (fun b => b = p) (Hw W H)) (Hw (fun b => W b ∨ b = p) H) := fun b o e => by
  have n1 := Hw.ne e
  rw [Hw.at (W := fun b => b = p) n1] at e
  have n2 := Hw.ne e
  rw [Hw.at n2] at e
  rw [Hw.at (W := fun b => W b ∨ b = p) (fun z => z.elim n2 n1)]
  exact e
/-- the list is written to -/
theorem rp_write {W : Addr → Prop} {H : Hp} {p : Addr} {xs ys : List V} {ds es : List PyData} (h1 : Hw W H p = some (.lst xs)) (h2 : RpAll (Hw W H) xs ds) (h : RpAll (Hw (fun b => W b ∨ b = p) H) xs ds → RpAll (Hw (fun b => W b ∨ b = p) H) ys es) : Rp (Hw W (upd H p (.lst ys))) (.ref p) (.list es) := by
  refine .lst (xs := ys) ?_ ?_
  · rw [Hw.at (Hw.ne h1)]
    exact upd_same
  · refine RpAll.sm (Hw.less (W := W) (W' := fun b => W b ∨ b = p) fun b hb => .inl hb) ?_
    rw [hw_upd (W := fun b => W b ∨ b = p) (a := p) (.inr rfl)]
    exact h (RpAll.sm hw_hw (rp_parts h1 h2))
theorem rp_opt2 {H : Hp} : ∀ o : Option Int, Rp H (optV o) (optD o)
  | none => .non
  | some i => .int i
theorem worth_le : ∀ {rs : List RowT}, (∀ x ∈ rs, isMany x.2 = true) → ∀ x ∈ rs, worth x.2 ≤ sumW rs
  | y :: rs, h, x, hx => by
    have ih := worth_le (rs := rs) fun z hz => h z (List.mem_cons_of_mem _ hz)
    have h0 := sumW_nn (rs := rs) fun z hz => h z (List.mem_cons_of_mem _ hz)
    have hy := worth_nn (h y List.mem_cons_self)
    show worth x.2 ≤ worth y.2 + sumW rs
    rcases List.mem_cons.mp hx with rfl | hx
    · omega
    · have := ih x hx
      omega
theorem b_opt {o : Option Int} (h : goodO o) : B 97 200 (optD o) := by
  cases o with
  | none => exact b_none
  | some i =>
    refine b_int ?_
    have h1 : 0 ≤ i := h.1
    have h2 : i ≤ 1000000000000000000000000000000 := h.2
    omega
theorem rpAll_opts {H : Hp} : ∀ os : List (Option Int), RpAll H (os.map optV) (os.map optD)
  | [] => .nil
  | o :: os => .cons (rp_opt2 o) (rpAll_opts os)
/-- what is handed in, as a text -/
theorem b_rows {W : List PyData → PyData} {n u : Nat} {k : Nat} {ds : List PyData} {d : PyData} (e : rowsD d = some ds) (h : ∀ x ∈ ds, B k u x) (hn : ds.length ≤ n) : B (k + 1) (n * (u + 2) + 4) d := by
  cases d with
  | list xs => cases e; exact B.list h hn
  | tuple xs => cases e; exact B.tuple h hn
  | _ => cases e
theorem b_dressed {rs : List RowT} {d : PyData} (h : Drs (.tuple (rs.map rowT)) d) (f : Fine rs) : B 100 10000000 d := by
  obtain ⟨es, he, ha⟩ := drs_rows h
  have hl : es.length = rs.length := by rw [← ha.length, List.length_map]
  have nn := worth_le fun y hy => (f.row y hy).many
  have hG : sumW rs ≤ 1000000000000000000000000000000 := f.sum
  have z : ∀ (rs' : List RowT) (es : List PyData), (∀ x ∈ rs', x ∈ rs) → DrsAll (rs'.map rowT) es → ∀ e ∈ es, B 99 4048 e := fun rs' => by
    induction rs' with
    | nil => intro es _ h e he; cases h; cases he
    | cons x rs' ih =>
      intro es hm h e he
      cases h with
      | cons h1 h2 =>
        rcases List.mem_cons.mp he with rfl | he
        · have g := f.row x (hm x List.mem_cons_self)
          obtain ⟨t, h3, h4⟩ := drs_row h1 g
          refine (b_rows (W := PyData.list) (k := 98) (u := 2020) (n := 2) h3 (fun y hy => ?_) (Nat.le_refl 2)).mono (by decide) (by decide)
          simp only [List.mem_cons, List.not_mem_nil, or_false] at hy
          rcases hy with rfl | rfl
          · refine (b_rows (W := PyData.list) (k := 97) (u := 200) (n := 8) h4 (fun y hy => ?_) (by rw [List.length_map]; exact g.hi)).mono (by decide) (by decide)
            obtain ⟨o, ho, rfl⟩ := List.mem_map.mp hy
            rw [pdO_optD]
            exact b_opt (g.pat o ho)
          · have gm := g.many
            have nx := nn x (hm x List.mem_cons_self)
            cases e2 : x.2 with
            | none => exact b_none.mono (Nat.le_refl _) (by decide)
            | int m =>
              rw [e2] at gm nx
              have m0 : 0 ≤ m := of_decide_eq_true gm
              have m1 : m ≤ sumW rs := nx
              exact (b_int (by omega)).mono (Nat.le_refl _) (by decide)
            | _ => rw [e2] at gm; cases gm
        · exact ih _ (fun y hy => hm y (List.mem_cons_of_mem _ hy)) h2 e he
  exact (b_rows (W := PyData.list) (k := 99) (u := 4048) (n := 8) he (z rs es (fun _ h => h) ha) (by rw [hl]; exact f.hi)).mono (by decide) (by decide)
theorem free_of {H : Hp} {r p : Addr} {vs : List V} {b : Addr} (hr : ReelAt H r) (n : p ≠ r) (h : H p = some (.lst vs)) (hm : V.ref b ∈ vs) : Free H r p := ⟨n, fun xs e m => by
  obtain ⟨g, t, gs, ts, n', st, er, eg, et, _⟩ := hr
  rw [er] at e
  cases e
  have no : ∀ ks : List Int, vs ≠ ks.map V.int := fun ks z => by
    rw [z] at hm
    obtain ⟨k, _, hk⟩ := List.mem_map.mp hm
    cases hk
  simp only [List.mem_cons, V.ref.injEq, List.not_mem_nil, or_false, reduceCtorEq] at m
  rcases m with m | m
  · rw [m, eg] at h
    exact no gs (HO.lst.inj (Option.some.inj h)).symm
  · rw [m, et] at h
    exact no ts (HO.lst.inj (Option.some.inj h)).symm⟩
theorem Wk.upd {W : Addr → Prop} {H : Hp} {r p : Addr} {o : HO} (k : Wk W H r) : Wk W (upd H p o) r := ⟨k.reel, fun b hb => by
  by_cases e : b = p
  · rw [e, upd_same]; exact nofun
  · rw [upd_ne e]; exact k.trk b hb⟩
def spE (sp : Addr → Sp) : Sp := fun vs H Q E => ∃ r, sp r vs H Q E
theorem ct_blk {X : Cx} {s : Shared} {H : Hp} {scope : Scope} {cenv : Env} {fp : List Addr} : CallR (X.blk s H scope cenv fp) (.type "tuple") (fun xs H Q => ∃ p ys, xs = [.ref p] ∧ ((SqL X.K H p ys ∧ ∀ l, H l = none → Q (.ref l) (upd H l (.tup ys))) ∨ (SqT X.K H p ys ∧ Q (.ref p) H))) := call_tuple_of
theorem okd_rows {rs : List RowT} (f : Fine rs) : Okd 3 (.tuple (rs.map rowT)) := fun ds e => by
  cases e
  refine ⟨by rw [List.length_map]; have := f.hi; omega, fun x hx => ?_⟩
  obtain ⟨y, hy, rfl⟩ := List.mem_map.mp hx
  have g := f.row y hy
  intro ds e
  cases e
  refine ⟨by show 2 ≤ 1000; decide, fun z hz => ?_⟩
  rcases List.mem_cons.mp hz with rfl | hz
  · intro ds e
    cases e
    refine ⟨by rw [List.length_map]; have := g.hi; omega, fun z hz => ?_⟩
    obtain ⟨o, ho, rfl⟩ := List.mem_map.mp hz
    intro ds e
    cases o <;> cases e
  · rw [List.mem_singleton.mp hz]
    intro ds e
    have := g.many
    rw [e] at this
    cases this
theorem Ex.put {H H' : Hp} {p : Addr} {o : HO} (e : Ex H H') (n : H p = none) : Ex H (upd H' p o) := fun b x hb => by
  have nb : b ≠ p := fun z => by rw [z, n] at hb; cases hb
  rw [upd_ne nb]
  exact e b x hb
theorem drs_list {ds es : List PyData} (h : Drs (.tuple ds) (.list es)) : DrsAll ds es := by
  cases h with
  | lst h => exact h
theorem rows_cases {d : PyData} {ds : List PyData} (h : rowsD d = some ds) : d = .list ds ∨ d = .tuple ds := by
  cases d with
  | list xs => cases h; exact .inl rfl
  | tuple xs => cases h; exact .inr rfl
  | _ => cases h
theorem row_ref {H : Hp} {rs : List RowT} {es : List PyData} {vs : List V} (hda : DrsAll (rs.map rowT) es) (g : ∀ x ∈ rs, GoodRow x) (h1 : 1 ≤ rs.length) (hx : RpAll H vs es) : ∃ b, V.ref b ∈ vs := by
  cases rs with
  | nil => exact absurd h1 (by decide)
  | cons x rs =>
    cases hda with
    | cons a1 a2 =>
      cases hx with
      | cons c1 c2 =>
        obtain ⟨t, e, _⟩ := drs_row a1 (g x List.mem_cons_self)
        obtain ⟨b, _, rfl, _⟩ := c1.rows e
        exact ⟨b, List.mem_cons_self⟩
/-! ### what is told, as data -/
theorem neD_blk {X : Cx} {s : Shared} {H : Hp} {scope : Scope} {cenv : Env} {fp : List Addr} (hu : X.A.units + 64 < cLine) : OpR (X.blk s H scope cenv fp) (compareOp .NotEq) (rNeD X.K) := op_neD hu
theorem ixT_blk {X : Cx} {s : Shared} {H : Hp} {scope : Scope} {cenv : Env} {fp : List Addr} : IxR (X.blk s H scope cenv fp) (rIxT X.K) := ix_tup
def zsOf (us : UsT) (ms : List (Option Int)) : List RowT := List.zipWith (fun u m => ((u, pdO m) : RowT)) us ms
def toldD (us : UsT) (ms : List (Option Int)) : PyData := .list ((zsOf us ms).map rowD)
theorem zs_at {us : UsT} {ms : List (Option Int)} {i : Nat} {u : List (Option Int)} {m : Option Int} (h1 : us[i]? = some u) (h2 : ms[i]? = some m) : (zsOf us ms)[i]? = some (u, pdO m) := by
  unfold zsOf
  rw [List.getElem?_zipWith, h1, h2]
theorem zs_mem {us : UsT} {ms : List (Option Int)} {x : RowT} (h : x ∈ zsOf us ms) : ∃ u m, u ∈ us ∧ m ∈ ms ∧ x = (u, pdO m) := by
  obtain ⟨i, hi, e⟩ := List.getElem_of_mem h
  have h1 : (zsOf us ms)[i]? = some x := by rw [List.getElem?_eq_getElem hi, e]
  unfold zsOf at h1
  rw [List.getElem?_zipWith] at h1
  cases hu : us[i]? with
  | none => rw [hu] at h1; simp at h1
  | some u =>
    cases hm : ms[i]? with
    | none => rw [hu, hm] at h1; simp at h1
    | some m =>
      rw [hu, hm] at h1
      exact ⟨u, m, List.mem_of_getElem? hu, List.mem_of_getElem? hm, (Option.some.inj h1).symm⟩
theorem rpAll_ix {H : Hp} : ∀ {vs : List V} {ds : List PyData}, vs.length = ds.length → (∀ (i : Nat) v d, vs[i]? = some v → ds[i]? = some d → Rp H v d) → RpAll H vs ds
  | [], [], _, _ => .nil
  | [], _ :: _, h, _ => nomatch h
  | _ :: _, [], h, _ => nomatch h
  | v :: vs, d :: ds, h, hh => .cons (hh 0 v d rfl rfl) (rpAll_ix (Nat.succ.inj h) fun i w e h1 h2 => hh (i + 1) w e (by simpa using h1) (by simpa using h2))
theorem rp_optP {H : Hp} : ∀ o : Option Int, Rp H (optV o) (pdO o)
  | none => .non
  | some i => .int i
theorem rp_optsP {H : Hp} : ∀ os : List (Option Int), RpAll H (os.map optV) (os.map pdO)
  | [] => .nil
  | o :: os => .cons (rp_optP o) (rp_optsP os)
theorem TL.rp {H : Hp} {L : Addr} {bs : List Addr} {us : UsT} {ms : List (Option Int)} (h : TL H L bs us ms) : Rp H (.ref L) (toldD us ms) := by
  obtain ⟨⟨ts, h1, h2, h3⟩, h4, h5, h6, _, _⟩ := h
  refine .lst h1 (rpAll_ix (by rw [List.length_map, List.length_map]; unfold zsOf; rw [List.length_zipWith]; omega) fun i v d hv hd => ?_)
  rw [List.getElem?_map] at hv hd
  cases ht : ts[i]? with
  | none => rw [ht] at hv; cases hv
  | some t =>
    rw [ht] at hv
    cases hv
    have hi := (List.getElem?_eq_some_iff.mp ht).1
    obtain ⟨b, hb⟩ : ∃ b, bs[i]? = some b := ⟨_, List.getElem?_eq_getElem (by omega)⟩
    obtain ⟨u, hu⟩ : ∃ u, us[i]? = some u := ⟨_, List.getElem?_eq_getElem (by omega)⟩
    obtain ⟨m, hm⟩ : ∃ m, ms[i]? = some m := ⟨_, List.getElem?_eq_getElem (by omega)⟩
    rw [zs_at hu hm] at hd
    cases hd
    exact .tup (h3 i t b m ht hb hm) (.cons (.lst (h6 i b u hb hu) (rp_optsP u)) (.cons (rp_optP m) .nil))
/-- small enough to be told as a text -/
structure Sml (us : UsT) (ms : List (Option Int)) : Prop where
  lu : us.length ≤ 8
  lr : ∀ u ∈ us, u.length ≤ 8
  vu : ∀ u ∈ us, ∀ o ∈ u, ∀ a : Int, o = some a → a.natAbs < 2 ^ 140
  vm : ∀ o ∈ ms, ∀ a : Int, o = some a → a.natAbs < 2 ^ 140
theorem b_pdO {o : Option Int} (h : ∀ a : Int, o = some a → a.natAbs < 2 ^ 140) {k : Nat} : B k 200 (pdO o) := by
  cases o with
  | none => exact b_none
  | some a => exact b_int (h a rfl)
theorem Sml.b {us : UsT} {ms : List (Option Int)} (h : Sml us ms) : B 100 10000000 (toldD us ms) := by
  refine (B.list (k := 99) (u := 3300) (n := 8) (fun d hd => ?_) (by rw [List.length_map]; unfold zsOf; rw [List.length_zipWith]; have := h.lu; omega)).mono (Nat.le_refl _) (by decide)
  obtain ⟨x, hx, rfl⟩ := List.mem_map.mp hd
  obtain ⟨u, m, hu, hm, rfl⟩ := zs_mem hx
  refine (B.tuple (ds := [.list (u.map pdO), pdO m]) (k := 98) (u := 1630) (n := 2) (fun y hy => ?_) (Nat.le_refl 2)).mono (Nat.le_refl _) (by decide)
  simp only [List.mem_cons, List.not_mem_nil, or_false] at hy
  rcases hy with rfl | rfl
  · refine (B.list (k := 97) (u := 200) (n := 8) (fun y hy => ?_) (by rw [List.length_map]; exact h.lr u hu)).mono (Nat.le_refl _) (by decide)
    obtain ⟨o, ho, rfl⟩ := List.mem_map.mp hy
    exact b_pdO (h.vu u hu o ho)
  · exact (b_pdO (h.vm m hm)).mono (Nat.le_refl _) (by decide)
mutual
theorem rp_dp {K : PySem.W.Frag} {H : Hp} : ∀ {v : V} {d : PyData}, Rp H v d → d.canLay0 = true → Dp K H v d
  | _, _, .non, _ => .non
  | _, _, .bl b, _ => .bl b
  | _, _, .int i, _ => .int i
  | _, _, .str x, _ => .str x
  | _, _, .lst h a, c => .lst (SqL.of h) (rp_dps a (by simpa [PyData.canLay0] using c))
  | _, _, .tup h a, c => .tup (SqT.of h) (rp_dps a (by simpa [PyData.canLay0] using c))
  | _, _, .dct _, c => by simp [PyData.canLay0] at c
theorem rp_dps {K : PySem.W.Frag} {H : Hp} : ∀ {vs : List V} {ds : List PyData}, RpAll H vs ds → PyData.canLayAll0 ds = true → DpAll K H vs ds
  | _, _, .nil, _ => .nil
  | _, _, .cons h t, c => by
    simp only [PyData.canLayAll0, Bool.and_eq_true] at c
    exact .cons (rp_dp h c.1) (rp_dps t c.2)
end
theorem all_lay {k : Nat} : ∀ ds : List PyData, (∀ d ∈ ds, d.canLay0 = true ∧ d.depth ≤ k) → PyData.canLayAll0 ds = true ∧ PyData.depthAll ds ≤ k
  | [], _ => ⟨by simp [PyData.canLayAll0], Nat.zero_le _⟩
  | d :: ds, h => by
    have h1 := h d List.mem_cons_self
    have h2 := all_lay ds fun x hx => h x (List.mem_cons_of_mem _ hx)
    refine ⟨by simp [PyData.canLayAll0, h1.1, h2.1], ?_⟩
    show max (PyData.depth d) (PyData.depthAll ds) ≤ k
    omega
theorem eqv_all : ∀ ds : List PyData, (∀ d ∈ ds, PyData.eqv d d = true) → PyData.eqvAll ds ds = true
  | [], _ => by simp [PyData.eqvAll]
  | d :: ds, h => by
    have h1 := h d List.mem_cons_self
    have h2 := eqv_all ds fun x hx => h x (List.mem_cons_of_mem _ hx)
    simp [PyData.eqvAll, h1, h2]
theorem pdO_lay (o : Option Int) : (pdO o).canLay0 = true ∧ (pdO o).depth ≤ 0 ∧ PyData.eqv (pdO o) (pdO o) = true := by
  cases o with
  | none => exact ⟨by simp [pdO, PyData.canLay0], Nat.le_refl _, by simp [pdO, PyData.eqv]⟩
  | some i => exact ⟨by simp [pdO, PyData.canLay0], Nat.le_refl _, by simp [pdO, PyData.eqv]⟩
theorem opts_lay (os : List (Option Int)) : (PyData.list (os.map pdO)).canLay0 = true ∧ (PyData.list (os.map pdO)).depth ≤ 1 ∧ PyData.eqv (.list (os.map pdO)) (.list (os.map pdO)) = true := by
  have h1 := all_lay (k := 0) (os.map pdO) fun d hd => by
    obtain ⟨o, _, rfl⟩ := List.mem_map.mp hd
    exact ⟨(pdO_lay o).1, (pdO_lay o).2.1⟩
  have h2 := eqv_all (os.map pdO) fun d hd => by
    obtain ⟨o, _, rfl⟩ := List.mem_map.mp hd
    exact (pdO_lay o).2.2
  exact ⟨by simp [PyData.canLay0, h1.1], by show PyData.depthAll _ + 1 ≤ 1; omega, by simp [PyData.eqv, h2]⟩
theorem opts_shaped (os : List (Option Int)) : SeqAt.shaped (.list (os.map pdO)) = true := by
  obtain ⟨h1, h2, _⟩ := opts_lay os
  unfold SeqAt.shaped
  rw [h1, decide_eq_true (by omega)]
  rfl
theorem told_lay (us : UsT) (ms : List (Option Int)) : (toldD us ms).canLay0 = true ∧ SeqAt.shaped (toldD us ms) = true ∧ PyData.eqv (toldD us ms) (toldD us ms) = true := by
  have row : ∀ d ∈ (zsOf us ms).map rowD, (d.canLay0 = true ∧ d.depth ≤ 2) ∧ PyData.eqv d d = true := fun d hd => by
    obtain ⟨x, hx, rfl⟩ := List.mem_map.mp hd
    obtain ⟨u, m, _, _, rfl⟩ := zs_mem hx
    have a1 := opts_lay u
    have a2 := pdO_lay m
    have h1 := all_lay (k := 1) [.list (u.map pdO), pdO m] fun d hd => by
      simp only [List.mem_cons, List.not_mem_nil, or_false] at hd
      rcases hd with rfl | rfl
      · exact ⟨a1.1, a1.2.1⟩
      · exact ⟨a2.1, by omega⟩
    have h2 := eqv_all [.list (u.map pdO), pdO m] fun d hd => by
      simp only [List.mem_cons, List.not_mem_nil, or_false] at hd
      rcases hd with rfl | rfl
      · exact a1.2.2
      · exact a2.2.2
    exact ⟨⟨by unfold rowD; simp only [PyData.canLay0]; exact h1.1, by show PyData.depthAll [.list (u.map pdO), pdO m] + 1 ≤ 2; omega⟩, by unfold rowD; simp only [PyData.eqv]; exact h2⟩
  have h1 := all_lay (k := 2) _ fun d hd => (row d hd).1
  have h2 := eqv_all _ fun d hd => (row d hd).2
  have h3 : (toldD us ms).canLay0 = true := by unfold toldD; simp only [PyData.canLay0]; exact h1.1
  refine ⟨h3, ?_, by unfold toldD; simp only [PyData.eqv]; exact h2⟩
  unfold SeqAt.shaped
  rw [h3, decide_eq_true (by show PyData.depthAll ((zsOf us ms).map rowD) + 1 ≤ 64; omega)]
  rfl
/-- rows' uses are small -/
theorem uses_sml {rs : List RowT} {us : UsT} (hE : Ends_ rs) (h8 : rs.length ≤ 8) (hs : sumW rs ≤ 400) (h : UsesR (pcsR 0 rs) (sumW rs - 1) us) : Sml us (manyL (pcsR 0 rs)) := by
  have l := h.shp.len
  rw [pcsR_len] at l
  refine ⟨by omega, fun u hu => ?_, fun u hu o ho a e => ?_, fun o ho a e => ?_⟩
  · obtain ⟨i, hi, rfl⟩ := List.getElem_of_mem hu
    obtain ⟨x, hx⟩ : ∃ x, rs[i]? = some x := ⟨_, List.getElem?_eq_getElem (by omega)⟩
    obtain ⟨pc, hpc⟩ : ∃ pc, (pcsR 0 rs)[i]? = some pc := ⟨_, List.getElem?_eq_getElem (by rw [pcsR_len]; omega)⟩
    have := h.shp.row i _ pc (List.getElem?_eq_getElem hi) hpc
    rw [this, pcsR_row 0 rs i pc x hpc hx, List.length_map]
    exact (hE x (List.mem_of_getElem? hx)).1.hi
  · obtain ⟨i, hi, rfl⟩ := List.getElem_of_mem hu
    obtain ⟨t, ht, rfl⟩ := List.getElem_of_mem ho
    have hg : uget us i t = some us[i][t] := by unfold uget; rw [List.getElem?_eq_getElem hi]; exact List.getElem?_eq_getElem ht
    rcases h.att i t _ hg with z | ⟨x, l, x0, x1, hl, _, _, z⟩
    · rw [e] at z
      cases z
      decide
    · rw [e] at z
      obtain ⟨i1, i2⟩ := las_le hl fun m em => by cases em; exact x1
      cases l with
      | none => cases i2 rfl
      | some k =>
        have z : a = k - x := Option.some.inj z
        obtain ⟨j1, j2⟩ := i1 k rfl
        have := j2 _ rfl
        omega
  · rw [pcsR_many 0 rs hE] at ho
    obtain ⟨x, hx, rfl⟩ := List.mem_map.mp ho
    obtain ⟨m, em, m0, _⟩ := hE.int hx
    rw [em] at e
    have e : m = a := Option.some.inj e
    have nn := worth_le (fun y hy => (hE y hy).1.many) x hx
    rw [em] at nn
    have nn : m ≤ sumW rs := nn
    omega
end CL
set_option Elab.async false
set_option linter.all false
set_option pp.maxSteps 900
set_option maxRecDepth 100000
set_option maxHeartbeats 4000000
namespace CL
open PySem PySem.Spec PyProof.Rows L2 GE
abbrev sLaw : Stmt := topS 45
abbrev nLaw : List Str := ["script", "reel", "k", "rows"]
theorem scLaw : FnScope nLaw ["script"] (defScope sLaw) := ⟨rfl, rfl, rfl, by decide +kernel, rfl, by decide +kernel, by decide +kernel⟩
def spLaw (K : PySem.W.Frag) (P1 P2 : Addr) : Sp := fun vs H Q _ => ∃ (a : Addr) (ns : List Int), vs = [.ref a] ∧ SqL K H a (ns.map V.int) ∧ ns.length ≤ 63 ∧ Tb P1 P2 H ∧ ∀ H', Q (.bl true) H'
theorem drs_self : ∀ rs : List RowT, DrsAll (rs.map rowT) (rs.map rowD)
  | [] => .nil
  | x :: rs => .cons (.tup (.cons (.lst (drs_same (x.1.map pdO))) (.cons (.same _) .nil))) (drs_self rs)
where drs_same : ∀ ds : List PyData, DrsAll ds ds
  | [] => .nil
  | d :: ds => .cons (.same d) (drs_same ds)
theorem plOk_psOk {ps : List PieceT} {pc : PieceT} (h : PlOk ps pc) : PsOk (ps ++ [pc]) := h.ok
theorem pcsR_mem : ∀ (f : Int) (rs : List RowT) (q : PieceT), q ∈ pcsR f rs → ∃ x ∈ rs, q.2.2 = x.1.map pdO
  | _, [], q, h => nomatch h
  | f, x :: rs, q, h => by
    have h : q ∈ (f, pastO f x.2, x.1.map pdO) :: pcsR (f + worth x.2) rs := h
    rcases List.mem_cons.mp h with rfl | h
    · exact ⟨x, List.mem_cons_self, rfl⟩
    · obtain ⟨y, hy, e⟩ := pcsR_mem _ rs q h
      exact ⟨y, List.mem_cons_of_mem _ hy, e⟩
theorem pats_le {rs : List RowT} {M : Int} (h : ∀ x ∈ rs, ∀ o ∈ x.1, ∀ p : Int, o = some p → p ≤ M) : ∀ x p : Int, Pt (pcsR 0 rs) x (.int p) → p ≤ M := fun x p ⟨pc, h1, h2⟩ => by
  obtain ⟨r, hr, e⟩ := pcsR_mem 0 rs pc (List.mem_of_find?_eq_some h1)
  have hm := List.mem_of_getElem? h2
  rw [e] at hm
  obtain ⟨o, ho, eo⟩ := List.mem_map.mp hm
  cases o with
  | none => cases eo
  | some q => cases eo; exact h r hr _ ho _ rfl
def Nxt (a r P1 P2 : Addr) (σ : L2.St) (H : Hp) : Prop := ∃ (W : Addr → Prop) (y2 y3 : Option V), σ = [some (.ref a), some (.ref r), y2, y3] ∧ ReelAt H r ∧ Wk W H r ∧ Tb P1 P2 H
section
variable {P : Program} {w : World} {K : PySem.W.Frag} {mg : Str → Option Value} {base : Heap}
theorem ok_lawO {f P1 P2 : Addr} {fd : FuncData} (F : Fun K "law" "law" sLaw f fd) (T : Nm mg) (T2 : Nm2 mg)
    (CR : Cal P w K mg base 1 "_law_reel" ["script"] (spReel K)) (CW : Cal P w K mg base 4 "_law_near_rows" ["reel", "most", "ends"] (spE spNear))
    (CDu : Cal P w K mg base 2 "_law_due" ["rows"] spDueN) (CLP : CalX P w K mg base 10 "least_plan" ["plan"] (spLeastN P1 P2)) : FnOk P w K mg base CX0 11 f fd ["script"] (spLaw K P1 P2) := by
  refine F.ok scLaw (fun vs H Q E ⟨a, ns, e, _⟩ => by rw [e]; rfl) (fun cdv A outer s H vs Q E hr h => ?_)
  obtain ⟨a, ns, rfl, hS, h63, hTb, q⟩ := h
  have nd := scLaw.nd
  have sz : 5000 ≤ sizeLine := by decide
  refine ⟨_, (pss_cons (ps_set (i := 1) nd rfl (.inl rfl) (pe_cal (CR.mono (by decide)) hr (by rfl) (pa_cons (pv 0) pa_nil)))
      (pss_cons (ps_for PassesOwn.never rfl (pi_range1 (by rfl) T2.range (pa_cons (pe_op op_add pe_int (pe_callB (call_min2 rfl) (by rfl) T2.min (by decide +kernel) (pa_cons (pe_callB call_len_seq (by rfl) T.len PySem.boot_len (pa_cons (pv 0) pa_nil)) (pa_cons pe_int pa_nil)))) pa_nil)) (pg_name (i := 2) nd rfl (.inl rfl)) (pss_cons (ps_set (i := 3) nd rfl (.inl rfl) (pe_cal (CW.mono (by decide)) hr (by rfl) (pa_cons (pv 1) (pa_cons pe_int (pa_cons pe_bl pa_nil)))))
      (pss_cons (ps_asg (pe_tup (pa_cons (pe_ix ix_tup (pe_ix ix_list (pv 3) (pe_un un_neg pe_int) (fun _ _ => rfl)) pe_int (fun _ _ => rfl)) (pa_cons pe_non pa_nil))) (pg_sub (pv 3) (pe_un un_neg pe_int) set_list))
      (pss_one (ps_if (pt_cmpR (op_neD hr.units) (pe_calX (CLP.mono (by decide)) hr (by rfl) (passes_call takes0 fun _ _ _ _ h => h) (pa_cons (pv 3) pa_nil)) (pe_cal (CDu.mono (by decide)) hr (by rfl) (pa_cons (pv 3) pa_nil)) (nomark _)) (pss_one (ps_ret pe_bl)) pss_nil)))))
      (pss_one (ps_ret pe_bl)))), ?_⟩
  refine ⟨.ref a, rfl, a, ns, rfl, hS, h63, fun r H1 s1 nr re1 => ?_⟩
  have W0 : Wk (fun b => b = r) H1 r := ⟨rfl, fun b hb => by
    obtain ⟨_, _, _, _, _, _, er, _⟩ := re1
    rw [hb, er]
    exact nofun⟩
  have lm : (ns.map V.int).length = ns.length := List.length_map ..
  refine ⟨.ref a, rfl, a, ns.map V.int, rfl, .inl (s1.seq hS), (ns.map V.int).length, 5, rfl, 1, _, rfl, rfl, _, rfl, by split <;> omega, by split <;> omega, ?_⟩
  refine for_range (lo := 0) (n := ((1 : Int) + (if (5 : Int) < ((ns.map V.int).length : Int) then 5 else ((ns.map V.int).length : Int))).toNat) (fun i σ H2 => Nxt a r P1 P2 σ H2)
    ⟨_, none, none, rfl, re1, W0, hTb.same s1⟩ (fun i σ H2 hi hP => ?_) (fun σ H2 hP => ?_)
  · obtain ⟨W, y2, y3, rfl, re2, W2, tb2⟩ := hP
    refine ⟨.ref r, rfl, r, 16, true, W, rfl, re2, W2, by decide, by decide, fun p rs H3 re3 m3 hp3 hF hs h39 => ?_⟩
    have W3 := W2.mv re3 m3
    have tb3 := tb2.mv re2 m3
    have h39 := h39 rfl
    have n1 := hF.lo
    have n8 := hF.hi
    obtain ⟨rs', row, rfl⟩ : ∃ rs' row, rs = rs' ++ [row] := ⟨rs.dropLast, rs.getLast (by intro z; rw [z] at n1; exact absurd n1 (by decide)), (List.dropLast_concat_getLast _).symm⟩
    have hE : Ends_ rs' := fun y hy => ⟨hF.row y (List.mem_append_left _ hy), (h39 y (List.mem_append_left _ hy)).1⟩
    have hrow := hF.row row (List.mem_append_right _ List.mem_cons_self)
    obtain ⟨p4, xs, ep, hp, hx⟩ := rp_list hp3
    obtain rfl : p = p4 := V.ref.inj ep
    have npr : p ≠ r := fun z => Hw.ne hp (by rw [z]; exact W3.reel)
    have hx0 := hx
    rw [List.map_append] at hx0
    obtain ⟨vs', v, rfl, hA', hv⟩ := RpAll.unsnoc hx0
    obtain ⟨pats, mm⟩ := row
    cases hv with
    | @tup b ys _ hb hys =>
      cases hys with
      | @cons vt _ _ _ ht hys2 =>
        cases hys2 with
        | @cons vm _ _ _ hm hys3 =>
          cases hys3
          have hp' := Hw.sub _ _ _ _ hp
          have hb' := Hw.sub _ _ _ _ hb
          try dsimp only []
          show tSeq _ _ _ [some (.ref a), some (.ref r), some (.int (0 + (i : Int))), some (.ref p)] H3
          refine ⟨.ref p, rfl, 1, rfl, p, _, -1, .ref b, rfl, rfl, SqL.of hp', atI_last _ _, b, _, 0, vt, rfl, rfl, SqT.of hb', atI_nat (j := 0) rfl, small_le (by show 2 ≤ 1000; decide), fun pt np => ?_⟩
          have s4 := same_upd (o := .tup [vt, .non]) np
          have ept : (upd H3 pt (.tup [vt, .non])) pt = some (.tup [vt, .non]) := upd_same
          have nWp : ¬ W pt := W3.out np
          have npp : pt ≠ p := fun z => by rw [z, hp'] at np; cases np
          generalize upd H3 pt (.tup [vt, .non]) = H4 at s4 ept
          have re4 := re3.same s4
          have W4 := W3.mv re4 (Mv.of s4 re3)
          have tb4 := tb3.same s4
          have hp4 := Same.hw (W := W) s4 _ _ hp
          refine ⟨.ref p, rfl, 1, rfl, p, _, -1, vs'.length, rfl, rfl, s4 _ _ hp', by rw [List.length_append]; exact ix_last _, ?_⟩
          have hset : (vs' ++ [V.ref b]).set vs'.length (.ref pt) = vs' ++ [.ref pt] := by simp
          rw [hset]
          have rp5 : Rp (Hw W (upd H4 p (.lst (vs' ++ [.ref pt])))) (.ref p) (.list ((rs' ++ [(pats, PyData.none)]).map rowD)) := rp_write hp4 (RpAll.sm (Same.hw (W := W) s4) hx) fun h => by
            rw [List.map_append] at h
            obtain ⟨vs2, v2, e2, g1, g2⟩ := RpAll.unsnoc h
            obtain ⟨rfl, e3⟩ := List.append_inj' e2 rfl
            cases e3
            rw [List.map_append]
            cases g2 with
            | @tup b ys _ hb5 hys =>
              cases hys with
              | cons k1 k2 =>
                have hb6 := Hw.sub _ _ _ _ hb5
                rw [s4 _ _ hb'] at hb6
                cases hb6
                exact g1.snoc (.tup (by rw [Hw.at (W := fun b => W b ∨ b = p) (fun z => z.elim nWp npp)]; exact ept) (.cons k1 (.cons .non .nil)))
          have re5 := re4.store (o := .lst (vs' ++ [.ref pt])) (free_of re4 npr (s4 _ _ hp') (List.mem_append_right _ List.mem_cons_self))
          have W5 := W4.upd (p := p) (o := .lst (vs' ++ [.ref pt]))
          have tb5 := tb4.upd (o := .lst (vs' ++ [.ref pt])) (p := p) (fun ps z => by rw [s4 _ _ hp'] at z; cases z)
          generalize upd H4 p (.lst (vs' ++ [.ref pt])) = H5 at rp5 re5 W5 tb5
          clear hp hp' hb hb' s4 ept re4 W4 tb4 hp4 hx hx0 hA' ht hm re3 W3 tb3 hp3 m3 re2 W2 tb2
          have hsum : sumW rs' ≤ 312 := by
            have h1 : sumW rs' ≤ 39 * (rs'.length : Int) := by
              have go : ∀ l : List RowT, (∀ x ∈ l, worth x.2 ≤ 39) → sumW l ≤ 39 * (l.length : Int) := fun l => by
                induction l with
                | nil => intro _; exact Int.le_refl 0
                | cons x l ih =>
                  intro h
                  have ih := ih fun y hy => h y (List.mem_cons_of_mem _ hy)
                  have hx := h x List.mem_cons_self
                  show worth x.2 + sumW l ≤ 39 * ((l.length + 1 : Nat) : Int)
                  push_cast
                  omega
              exact go rs' fun x hx => (h39 x (List.mem_append_left _ hx)).2.1
            rw [List.length_append, List.length_singleton] at n8
            omega
          have l7 : rs'.length ≤ 7 := by rw [List.length_append, List.length_singleton] at n8; omega
          have sum0 := sumW_nn fun y hy => (hE y hy).1.many
          have hgx : GoodRow (pats, PyData.none) := ⟨hrow.lo, hrow.hi, hrow.pat, rfl⟩
          have hF2 : Fine (rs' ++ [(pats, PyData.none)]) := ⟨by rw [List.length_append]; show 1 ≤ _ + 1; omega, by rw [List.length_append]; show _ + 1 ≤ 8; omega, fun y hy => by
            rcases List.mem_append.mp hy with hy | hy
            · exact (hE y hy).1
            · rw [List.mem_singleton.mp hy]; exact hgx, fun y hy => by
            rw [List.length_append, List.length_singleton, Nat.add_sub_cancel, List.take_left' rfl] at hy
            exact (hE y hy).2, by
            rw [sumW_snoc2]
            show sumW rs' + 0 ≤ (1000000000000000000000000000000 : Int)
            omega⟩
          obtain ⟨hpl, hpcs⟩ := dressed_plan (.lst (drs_self _) : Drs (.tuple ((rs' ++ [(pats, PyData.none)]).map rowT)) (.list ((rs' ++ [(pats, PyData.none)]).map rowD))) hF2
          have hM16 : ∀ x p : Int, Pt (pcsR 0 (rs' ++ [(pats, PyData.none)])) x (.int p) → p ≤ 16 := pats_le fun y hy o ho p e => by
            rcases List.mem_append.mp hy with hy | hy
            · have := (h39 y (List.mem_append_left _ hy)).2.2 o ho p e; omega
            · rw [List.mem_singleton.mp hy] at ho
              have := (h39 (pats, mm) (List.mem_append_right _ List.mem_cons_self)).2.2 o ho p e
              omega
          have hlastP : ∀ y, 0 + sumW rs' ≤ y → (pcsR 0 (rs' ++ [(pats, PyData.none)])).find? (comes y) = some (0 + sumW rs', none, pats.map pdO) := fun y hy => pcsR_last 0 rs' (pats, PyData.none) (fun r hr => ⟨(hE r hr).1.many, (hE r hr).2⟩) rfl y hy
          have e1 := pcsR_snocD 0 rs' (pats, PyData.none)
          have hok := plOk hpl (hpcs.trans e1)
          have hall : ∀ y, 0 ≤ y → ∃ t, Pt (pcsR 0 (rs' ++ [(pats, PyData.none)])) y t := fun y hy => by
            obtain ⟨pc', h1⟩ := hok.find y rfl
            rw [← e1] at h1
            have h2 := hok.ok
            rw [← e1] at h2
            obtain ⟨t1, _, _⟩ := h2.turns pc' (List.mem_of_find?_eq_some h1)
            have h3 : tnI pc'.1 pc'.2.2.length y < (pc'.2.2.length : Int) := Int.emod_lt_of_pos _ (by omega)
            have h4 : 0 ≤ tnI pc'.1 pc'.2.2.length y := Int.emod_nonneg _ (by omega)
            exact ⟨_, pc', h1, List.getElem?_eq_getElem (show (tnI pc'.1 pc'.2.2.length y).toNat < pc'.2.2.length by omega)⟩
          try dsimp only []
          refine ⟨.ref p, rfl, .ref p, .list ((rs' ++ [(pats, PyData.none)]).map rowD), pcsR 0 rs', _, rfl, Rp.sm (Hw.sub _ _) rp5, tb5, hpl, hpcs.trans e1, rfl, by show 0 ≤ 0 + sumW rs'; omega, by show 0 + sumW rs' ≤ 400; omega, fun y hy => by rw [← e1]; exact hlastP y hy, fun x p h => hM16 x p (by rw [e1]; exact h), fun L bs us H6 x6 t6 nL hbn hT6 hU6 hro => ?_⟩
          obtain ⟨F', m', hro, hFm⟩ := hro
          rw [← e1] at hT6 hU6 hro
          have hps := hok.ok
          rw [← e1] at hps
          refine ⟨.ref p, rfl, .ref p, rs', (pats, PyData.none), _, F', m', rfl, Rp.ex x6 _ _ (Rp.sm (Hw.sub _ _) rp5), hE, rfl, hgx, l7, hsum, hps, hM16, hall, hro, by have : F' + m' ≤ 0 + sumW rs' + 153 := hFm; omega, fun L2 b2 u2 H7 s7 nL2 hb2 hT7 hU7 => ?_⟩
          obtain rfl := hU6.uniq hU7
          obtain ⟨k1, k2, k3⟩ := told_lay us (manyL (pcsR 0 (rs' ++ [(pats, PyData.none)])))
          refine ⟨_, _, rp_dp (hT6.same s7).rp k1, rp_dp hT7.rp k1, k2, k2, _, rfl, ?_⟩
          rw [k3]
          refine iteF ?_
          have x7 := x6.trans (Ex.of s7)
          exact ⟨W, _, _, rfl, re5.kx x7, W5.ex x7, t6.same s7⟩
  · exact q H2
theorem ok_law {f P1 P2 : Addr} {fd : FuncData} (F : Fun K "law" "law" sLaw f fd) (T : Nm mg) (T2 : Nm2 mg)
    (CR : Cal P w K mg base 1 "_law_reel" ["script"] (spReel K)) (CW : Cal P w K mg base 4 "_law_near_rows" ["reel", "most", "ends"] (spE spNear))
    (CDu : Cal P w K mg base 2 "_law_due" ["rows"] spDueN) (CLP : CalX P w K mg base 10 "least_plan" ["plan"] (spLeastN P1 P2)) : FnG P w K mg base 11 f fd ["script"] (spLaw K P1 P2) :=
  let GL := ok_lawO F T T2 CR CW CDu CLP
  ⟨fun A outer s H args us vs Q E _ hr he hb hv hs => GL.run A outer s H args us vs Q E hr he hb hv hs⟩
end
end CL
set_option Elab.async false
set_option linter.all false
set_option maxRecDepth 100000
set_option maxHeartbeats 4000000
namespace CL
open PySem PySem.Spec PyProof.Rows L2 GE
/-! ### the end: what is tracked when the law is called, and that the run leaves the heap as it was but for the tables -/
def H0 (ts : List Addr) (K : PySem.W.Frag) (a : Addr) (vs : List Value) (ns : List Int) : Hp := fun b =>
  if b ∈ ts then some (.tbl #[]) else if b = a ∧ (K.lookup a).isNone = true then some (.frz { cls := .type "list", data := .seq vs.toArray } (.lst (ns.map V.int))) else none
section
variable {ts : List Addr} {K : PySem.W.Frag} {a : Addr} {vs : List Value} {ns : List Int} {h : Heap}
theorem H0.tab {b : Addr} (m : b ∈ ts) : H0 ts K a vs ns b = some (.tbl #[]) := if_pos m
theorem H0.cases {b : Addr} {u : HO} (e : H0 ts K a vs ns b = some u) : (b ∈ ts ∧ u = .tbl #[]) ∨ (b = a ∧ K.lookup a = none ∧ u = .frz { cls := .type "list", data := .seq vs.toArray } (.lst (ns.map V.int))) := by
  unfold H0 at e
  split at e
  · rename_i m
    exact .inl ⟨m, (Option.some.inj e).symm⟩
  · split at e
    · rename_i z
      exact .inr ⟨z.1, Option.isNone_iff_eq_none.mp z.2, (Option.some.inj e).symm⟩
    · cases e
/-- an object that is no list and no empty table is not tracked -/
theorem H0.other (hT : ∀ b ∈ ts, h.get? b = some { cls := .none, data := .fields #[] }) (ha : h.get? a = some { cls := .type "list", data := .seq vs.toArray }) {b : Addr} {o : Obj} (e : h.get? b = some o) (h1 : o.data ≠ .seq vs.toArray) (h2 : o.data ≠ .fields #[]) :
    H0 ts K a vs ns b = none := by
  cases q : H0 ts K a vs ns b with
  | none => rfl
  | some u =>
    rcases H0.cases q with ⟨m, _⟩ | ⟨rfl, _, _⟩
    · rw [hT b m] at e
      cases e
      exact absurd rfl h2
    · rw [ha] at e
      cases e
      exact absurd rfl h1
end
theorem end_own {P : Program} {w : World} {K : PySem.W.Frag} {mg mb : Str → Option Value} {q : Program} {loose : List Str} {mean : ExcName → Option Value} {k : Nat} {fa a : Addr} {fd : FuncData} {x : Str} {sp : Sp} {s₁ : Shared} {vs : List Value} {ns : List Int} (ts : List Addr)
    (KX : K.In s₁.heap) (T : Top q loose mean mg mb s₁.heap) (hi0 : importsNone q = true) (hg : s₁.gens = #[])
    (hT : ∀ b ∈ ts, s₁.heap.get? b = some { cls := .none, data := .fields #[] }) (hC : ∀ b ∈ ts, ∃ c, PySem.W.codeHdIn K c b = true) (nT : ∀ b ∈ ts, K.lookup b = none)
    (ha : s₁.heap.get? a = some { cls := .type "list", data := .seq vs.toArray }) (hi : IntsAre vs ns) (hl : ns.length ≤ sizeLine) (hr : Room k callerA)
    (F : ∀ base : Heap, K.In base → base.Ns mainGlobals mg → (∃ o, base.get? sysModules = some o) → (∀ b ∈ ts, base.BuiltinsAt mg b ∧ mainGlobals ≠ b) → FnG P w K mg base k fa fd [x] sp)
    (hbind : ∀ (s : Shared) (u : Value), BindsTo s fd ⟨[u], []⟩ [(x, u)])
    (hsp : ∀ H : Hp, (∀ b ∈ ts, H b = some (.tbl #[])) → SqL K H a (ns.map V.int) → sp [.ref a] H (fun v _ => v = .bl true) fun _ _ _ => False) :
    codeAny (model P w) callerA (.call (.ref fa) ⟨[.ref a], []⟩) (fun r s' => r = .ok (.ret (.bool true)) ∧ OldK s₁.heap s'.heap ∧ s'.os = s₁.os ∧ AllBare s'.gens) s₁ := by
  have rv := vals_ints hi
  have aT : a ∉ ts := fun m => by
    have z := hT a m
    rw [ha] at z
    cases z
  generalize hH : H0 ts K a vs ns = H
  have tabs : ∀ b ∈ ts, H b = some (.tbl #[]) := fun b m => by rw [← hH]; exact H0.tab m
  have cs : ∀ {b : Addr} {u : HO}, H b = some u → (b ∈ ts ∧ u = .tbl #[]) ∨ (b = a ∧ K.lookup a = none ∧ u = .frz { cls := .type "list", data := .seq vs.toArray } (.lst (ns.map V.int))) := fun e => by
    rw [← hH] at e
    exact H0.cases e
  have oth : ∀ {b : Addr} {o : Obj}, s₁.heap.get? b = some o → o.data ≠ .seq vs.toArray → o.data ≠ .fields #[] → H b = none := fun e h1 h2 => by
    rw [← hH]
    exact H0.other hT ha e h1 h2
  have inB : ∀ {b : Addr} {o : Obj}, s₁.heap.get? b = some o → H b = none → (hidT s₁.heap H).get? b = some o := fun e n => hidT_get e n
  have nsB : ∀ {b : Addr} {m : Str → Option Value}, s₁.heap.Ns b m → (hidT s₁.heap H).Ns b m := fun ⟨o, es, ep, e, d, r⟩ => ⟨o, es, ep, inB e (oth e (by rw [d]; exact nofun) (by rw [d]; exact nofun)), d, r⟩
  have hok : HOk P w H s₁.heap := fun b u e => by
    rcases cs e with ⟨m, rfl⟩ | ⟨rfl, _, rfl⟩
    · exact hT b m
    · exact ⟨ha, by rw [List.length_map]; exact hl, vs, _, rv, ha⟩
  have hS : SqL K H a (ns.map V.int) := by
    cases hk : K.lookup a with
    | some o =>
      have e := KX a o hk
      rw [ha] at e
      cases e
      exact .inr ⟨_, vs.toArray, _, hk, rfl, rfl, rfl, by rw [List.size_toArray, hi.length]; exact hl, by simpa using rv⟩
    | none =>
      have e : H a = some (.frz { cls := .type "list", data := .seq vs.toArray } (.lst (ns.map V.int))) := by
        rw [← hH]
        unfold H0
        rw [if_neg aT, if_pos ⟨rfl, by rw [hk]; rfl⟩]
      exact .inl (.inr ⟨_, e⟩)
  have KB : K.In (hidT s₁.heap H) := fun b o e => inB (KX b o e) (by
    cases z : H b with
    | none => rfl
    | some u =>
      rcases cs z with ⟨m, _⟩ | ⟨rfl, n, _⟩
      · rw [nT b m] at e; cases e
      · rw [n] at e; cases e)
  have hM : L2.Mod K mg (hidT s₁.heap H) := ⟨KB, nsB T.g, ⟨mb, nsB T.b, T.builtins⟩, let ⟨mc, h1, h2⟩ := T.nolimit; ⟨mc, nsB h1, h2⟩⟩
  have sysB : ∃ o, (hidT s₁.heap H).get? sysModules = some o := by
    obtain ⟨mm, ⟨o, es, ep, e, d, _⟩, _⟩ := (T.seer hi0).mods
    exact ⟨o, inB e (oth e (by rw [d]; exact nofun) (by rw [d]; exact nofun))⟩
  have gB : ∀ b ∈ ts, mainGlobals ≠ b := fun b m z => by
    obtain ⟨o, es, ep, e, d, _⟩ := T.g
    rw [z, hT b m] at e
    cases e
    cases d
  have bB : ∀ b ∈ ts, (hidT s₁.heap H).BuiltinsAt mg b := fun b m => by
    obtain ⟨bm, ob, b1, b2, b3, b4, b5, b6⟩ := T.bmain
    refine ⟨bm, ob, b1, b2, fun z => ?_, fun z => ?_, inB b3 (oth b3 (by rw [b6]; exact nofun) (by rw [b6]; exact nofun)), b4, b5, b6⟩
    · obtain ⟨o, es, ep, e, d, _⟩ := T.g
      rw [z, e] at b3
      cases b3
      rw [d] at b6
      cases b6
    · rw [z, hT b m] at b3
      cases b3
      cases b6
  have e0 : Env0 P w K mg (hidT s₁.heap H) callerA [] s₁ H := ⟨rfl, hM, fun b o e => of_hidT e, Nat.le_of_eq (hidT_size _ _), trivial, fun b hb => absurd (show b ∈ ([] : List Addr) from hb) (by simp), hok, .of_eq hg⟩
  have G := F _ KB (nsB T.g) sysB fun b m => ⟨bB b m, gB b m⟩
  refine codeAny_mono (G.run callerA [] s₁ H ⟨[.ref a], []⟩ [.ref a] [.ref a] _ _ rfl hr e0 (hbind s₁ (.ref a)) (.cons rfl .nil) (hsp H tabs hS)) fun r s' z => ?_
  cases r with
  | error e => exact False.elim z
  | ok fl =>
    cases fl with
    | next => exact False.elim z
    | brk => exact False.elim z
    | cont => exact False.elim z
    | ret u =>
      obtain ⟨v, H', os, bare, un, hok', r', e'⟩ := z
      obtain rfl : v = .bl true := e'
      obtain rfl : u = Value.bool true := r'
      have stays : ∀ b o, b ∉ ts → s₁.heap.get? b = some o → s'.heap.get? b = some o := fun b o nb e => by
        cases z : H b with
        | none => exact un.keep b o e z (fun y => absurd (show b ∈ ([] : List Addr) from y) (by simp)) (by simp)
        | some u =>
          rcases cs z with ⟨m, _⟩ | ⟨rfl, _, rfl⟩
          · exact absurd m nb
          · rw [ha] at e
            cases e
            exact (hok' _ _ (un.frzs _ _ _ z)).1
      have grow : ∀ b ∈ ts, ∃ more : Array Value, s'.heap.get? b = some { cls := .none, data := .fields more } := fun b m => by
        obtain ⟨more, e⟩ := un.tbls b #[] (tabs b m)
        exact ⟨_, hok' b _ e⟩
      refine ⟨rfl, ⟨fun b o e => ?_, fun b o e => ?_⟩, os, bare⟩
      · by_cases m : b ∈ ts
        · obtain ⟨c, hc⟩ := hC b m
          obtain ⟨more, hm⟩ := grow b m
          rw [hT b m] at e
          cases e
          exact .inr (.inl ⟨((PySem.W.codeHd_of_K KX hc).tab (hT b m)).isCodeTable, rfl, #[], more, rfl, by rw [Array.empty_append]; exact hm⟩)
        · exact .inl (stays b o m e)
      · by_cases m : b ∈ ts
        · obtain ⟨more, hm⟩ := grow b m
          exact ⟨_, hm⟩
        · exact ⟨o, stays b o m e⟩
end CL
set_option Elab.async false
set_option linter.all false
set_option maxRecDepth 100000
set_option maxHeartbeats 4000000
namespace CL
open PySem PySem.Spec PyProof.Rows L2 GE
theorem fnE {P : Program} {w : World} {K : PySem.W.Frag} {mg : Str → Option Value} {base : Heap} {k : Nat} {f : Addr} {fd : FuncData} {ps : List Str} {sp : Addr → Sp} (F : ∀ r, FnOk P w K mg base CX0 k f fd ps (sp r)) : FnOk P w K mg base CX0 k f fd ps (spE sp) :=
  ⟨fun vs H Q E ⟨r, h⟩ => (F r).len vs H Q E h, fun A outer s H args us vs Q E hr e0 hb rv ⟨r, h⟩ => (F r).run A outer s H args us vs Q E hr e0 hb rv h⟩
/-- the table of a def of the program is empty when the law is called -/
theorem tab_of {q : Program} {loose : List Str} {mean : ExcName → Option Value} {mg mb : Str → Option Value} {h : Heap} {K : PySem.W.Frag} {n : Str} {f c P : Addr} {o : Obj} {fd : FuncData} (T : Top q loose mean mg mb h) (KX : K.In h) (hr : ((recsOf q).any fun e => e.name == n) = true)
    (hm : mg n = some (.ref f)) (k1 : K.lookup f = some o) (k2 : o.data = .func fd) (k3 : fd.code = .ref c) (hh : PySem.W.codeHdIn K c P = true) : h.get? P = some { cls := .none, data := .fields #[] } := by
  obtain ⟨d, hd, e⟩ := List.any_eq_true.mp hr
  have e' : d.name = n := beq_iff_eq.mp e
  obtain ⟨a', o', fd', c', P', t1, t2, t3, t4, t5, t6⟩ := T.tab d hd
  rw [e', hm] at t1
  cases t1
  rw [KX _ _ k1] at t2
  cases t2
  rw [k2] at t3
  cases t3
  rw [k3] at t4
  cases t4
  obtain ⟨⟨oc, vc, g1, _, g3, g4⟩, g5⟩ := t6
  obtain ⟨oh, uh, _, _, _, _, _, _, _, i1, _, i2, i3, _⟩ := PySem.W.codeHd_of_K KX hh
  rw [g1] at i1
  cases i1
  rw [g3] at i2
  cases i2
  rw [g4] at i3
  cases i3
  exact g5
/-- what the head must know of the law's def -/
def AtLaw (l : PySem.W.OpenLaw) (w : World) (K : PySem.W.Frag) (mg : Str → Option Value) (fa : Addr) (h : Heap) : Prop :=
  ∃ (fd : FuncData) (P1 P2 : Addr), (∀ b ∈ [P1, P2], h.get? b = some { cls := .none, data := .fields #[] }) ∧ (∀ b ∈ [P1, P2], ∃ c, PySem.W.codeHdIn K c b = true) ∧ (∀ b ∈ [P1, P2], K.lookup b = none) ∧ (∀ (s : Shared) (u : Value), BindsTo s fd ⟨[u], []⟩ [("script", u)]) ∧
    ∀ base : Heap, K.In base → base.Ns mainGlobals mg → (∃ o, base.get? sysModules = some o) → (∀ b ∈ [P1, P2], base.BuiltinsAt mg b ∧ mainGlobals ≠ b) → FnG l.prog w K mg base 11 fa fd ["script"] (spLaw K P1 P2)
theorem walk {l : PySem.W.OpenLaw} {q : Program} {loose : List Str} {XP : (Str → Option Value) → Heap → Prop} {YP : World → Heap → Prop} {d : DefRec} {K : Params → PySem.W.Frag} (hn : l.most = some 63) (hdf : d.params.defaults = []) (hi0 : importsNone q = true)
    (hY : ∀ (w : World) (h : Heap), YP w h → (K w.params).In h)
    (F : ∀ (w : World) (mg mb : Str → Option Value) (mean : ExcName → Option Value) (lo : List Str) (fa : Addr) (h : Heap), (K w.params).In h → Top q lo mean mg mb h → mg d.name = some (.ref fa) → AtLaw l w (K w.params) mg fa h) :
    PySem.W.WalkO q loose XP YP l.row.toRowW d [] (fun f vs => PySem.call f vs) := by
  refine Att.attach_callB hn hdf fun w s₀ s₁ mg mb fa o pm cd doc a vs ns G Y ho hd hcd hmg hobj hints hlen _ hg => ?_
  obtain ⟨fd, P1, P2, h1, h2, h3, h4, h5⟩ := F w mg mb _ _ fa s₁.heap (hY w _ Y) G.T hmg
  exact end_own [P1, P2] (hY w _ Y) G.T hi0 hg h1 h2 h3 hobj hints (Nat.le_trans hlen (by decide)) ⟨rfl, by decide, by decide⟩ h5 h4 fun H t hS => ⟨a, ns, rfl, hS, hlen, ⟨⟨#[], t P1 (by simp), trivial⟩, ⟨#[], t P2 (by simp), trivial⟩⟩, fun _ => rfl⟩
theorem all_mk {l : PySem.W.OpenLaw} {w : World} {K : PySem.W.Frag} {q : Program} {lo : List Str} {mean : ExcName → Option Value} {h : Heap} {mg mb : Str → Option Value} {fa fW fR fA fT fI fL fck fG fM fV fta fIn fse fwi fss fro fob fls fwk fri fnu ful fui flp fE fD fpa ftu fne fsd flt fgt fdu fZ cT cL PT PL X1 CR : Addr} (X : K.In h) (G : Top q lo mean mg mb h) (hfa : mg "law" = some (.ref fa))
    {odW anW : Option Addr} {slW : Array (Option Value)} {ocW kVW dcW pmW cdW ctW : Value}
    {odR anR : Option Addr} {slR : Array (Option Value)} {ocR kVR dcR pmR cdR ctR : Value}
    {odA anA : Option Addr} {slA : Array (Option Value)} {ocA kVA dcA pmA cdA ctA : Value}
    {odT anT : Option Addr} {slT : Array (Option Value)} {ocT kVT dcT pmT ctT : Value}
    {odI anI : Option Addr} {slI : Array (Option Value)} {ocI kVI dcI pmI cdI ctI : Value}
    {odL anL : Option Addr} {slL : Array (Option Value)} {ocL kVL dcL pmL ctL : Value}
    {odck anck : Option Addr} {slck : Array (Option Value)} {occk kVck dcck pmck cdck ctck : Value}
    {odG anG : Option Addr} {slG : Array (Option Value)} {ocG kVG dcG pmG cdG ctG : Value}
    {odM anM : Option Addr} {slM : Array (Option Value)} {ocM kVM dcM pmM cdM ctM : Value}
    {odV anV : Option Addr} {slV : Array (Option Value)} {ocV kVV dcV pmV cdV ctV : Value}
    {odta anta : Option Addr} {slta : Array (Option Value)} {octa kVta dcta pmta cdta ctta : Value}
    {odIn anIn : Option Addr} {slIn : Array (Option Value)} {ocIn kVIn dcIn pmIn cdIn ctIn : Value}
    {odse anse : Option Addr} {slse : Array (Option Value)} {ocse kVse dcse pmse cdse ctse : Value}
    {odwi anwi : Option Addr} {slwi : Array (Option Value)} {ocwi kVwi dcwi pmwi cdwi ctwi : Value}
    {odss anss : Option Addr} {slss : Array (Option Value)} {ocss kVss dcss pmss cdss ctss : Value}
    {odro anro : Option Addr} {slro : Array (Option Value)} {ocro kVro dcro pmro cdro ctro : Value}
    {odob anob : Option Addr} {slob : Array (Option Value)} {ocob kVob dcob pmob cdob ctob : Value}
    {odls anls : Option Addr} {slls : Array (Option Value)} {ocls kVls dcls pmls cdls ctls : Value}
    {odwk anwk : Option Addr} {slwk : Array (Option Value)} {ocwk kVwk dcwk pmwk cdwk ctwk : Value}
    {odri anri : Option Addr} {slri : Array (Option Value)} {ocri kVri dcri pmri cdri ctri : Value}
    {odnu annu : Option Addr} {slnu : Array (Option Value)} {ocnu kVnu dcnu pmnu cdnu ctnu : Value}
    {odul anul : Option Addr} {slul : Array (Option Value)} {ocul kVul dcul pmul cdul ctul : Value}
    {odui anui : Option Addr} {slui : Array (Option Value)} {ocui kVui dcui pmui cdui ctui : Value}
    {odlp anlp : Option Addr} {sllp : Array (Option Value)} {oclp kVlp dclp pmlp cdlp ctlp : Value}
    {odE anE : Option Addr} {slE : Array (Option Value)} {ocE kVE dcE pmE cdE ctE : Value}
    {odD anD : Option Addr} {slD : Array (Option Value)} {ocD kVD dcD pmD cdD ctD : Value}
    {odpa anpa : Option Addr} {slpa : Array (Option Value)} {ocpa kVpa dcpa pmpa cdpa ctpa : Value}
    {odtu antu : Option Addr} {sltu : Array (Option Value)} {octu kVtu dctu pmtu cdtu cttu : Value}
    {odne anne : Option Addr} {slne : Array (Option Value)} {ocne kVne dcne pmne cdne ctne : Value}
    {odsd ansd : Option Addr} {slsd : Array (Option Value)} {ocsd kVsd dcsd pmsd cdsd ctsd : Value}
    {odlt anlt : Option Addr} {sllt : Array (Option Value)} {oclt kVlt dclt pmlt cdlt ctlt : Value}
    {odgt angt : Option Addr} {slgt : Array (Option Value)} {ocgt kVgt dcgt pmgt cdgt ctgt : Value}
    {oddu andu : Option Addr} {sldu : Array (Option Value)} {ocdu kVdu dcdu pmdu cddu ctdu : Value}
    {odZ anZ : Option Addr} {slZ : Array (Option Value)} {ocZ kVZ dcZ pmZ cdZ ctZ : Value} {eT : Value} {dT : Option Addr} {usT : Array Value} {wT : Array (Option Value)} {eL : Value} {dL : Option Addr} {usL : Array Value} {wL : Array (Option Value)}
    (gR : PySem.W.nsIn K mainGlobals "Run" = some (some (.ref CR)))
    (pgR : PySem.W.plainGet K CR Str.empty = true)
    (hdR : PySem.W.hasDictIn K CR = true)
    (poR : PySem.W.plainOver K CR = true)
    (saR : PySem.W.findIn K (.ref CR) "__setattr__" = some (some (.builtin "object.__setattr__")))
    (mkR : PySem.W.makesIn K CR = true)
    (kcR : PySem.W.keepIn K (.ref CR) = true)
    (nSt : PySem.W.findIn K (.ref CR) "steps" = some none)
    (nSp : PySem.W.findIn K (.ref CR) "spare" = some none)
    (nLe : PySem.W.findIn K (.ref CR) "length" = some none)
    (nTi : PySem.W.findIn K (.ref CR) "times" = some none)
    (aW : PySem.W.nsIn K mainGlobals "is_whole" = some (some (.ref fW))) (lW : K.lookup fW = some ⟨ocW, odW, .func (PySem.W.fnOf "is_whole" "is_whole" (defArgs sWhole) (defBody sWhole) (defScope sWhole) .none kVW dcW pmW anW cdW ctW), slW⟩) (Wc : PySem.W.codeIn K cdW "is_whole" = true) (kW : PySem.W.keepIn K (.ref fW) = true)
    (aR : PySem.W.nsIn K mainGlobals "is_row" = some (some (.ref fR))) (lR : K.lookup fR = some ⟨ocR, odR, .func (PySem.W.fnOf "is_row" "is_row" (defArgs sRow) (defBody sRow) (defScope sRow) .none kVR dcR pmR anR cdR ctR), slR⟩) (Rc : PySem.W.codeIn K cdR "is_row" = true) (kR : PySem.W.keepIn K (.ref fR) = true)
    (aA : PySem.W.nsIn K mainGlobals "is_patience" = some (some (.ref fA))) (lA : K.lookup fA = some ⟨ocA, odA, .func (PySem.W.fnOf "is_patience" "is_patience" (defArgs sPat) (defBody sPat) (defScope sPat) .none kVA dcA pmA anA cdA ctA), slA⟩) (Ac : PySem.W.codeIn K cdA "is_patience" = true) (kA : PySem.W.keepIn K (.ref fA) = true)
    (aT : PySem.W.nsIn K mainGlobals "is_turns" = some (some (.ref fT))) (lT : K.lookup fT = some ⟨ocT, odT, .func (PySem.W.fnOf "is_turns" "is_turns" (defArgs sTurns) (defBody sTurns) (defScope sTurns) .none kVT dcT pmT anT (.ref cT) ctT), slT⟩) (Tc : PySem.W.codeIn K (.ref cT) "is_turns" = true) (kT : PySem.W.keepIn K (.ref fT) = true)
    (aI : PySem.W.nsIn K mainGlobals "is_piece" = some (some (.ref fI))) (lI : K.lookup fI = some ⟨ocI, odI, .func (PySem.W.fnOf "is_piece" "is_piece" (defArgs sPiece) (defBody sPiece) (defScope sPiece) .none kVI dcI pmI anI cdI ctI), slI⟩) (Ic : PySem.W.codeIn K cdI "is_piece" = true) (kI : PySem.W.keepIn K (.ref fI) = true)
    (aL : PySem.W.nsIn K mainGlobals "is_plan" = some (some (.ref fL))) (lL : K.lookup fL = some ⟨ocL, odL, .func (PySem.W.fnOf "is_plan" "is_plan" (defArgs sPlan) (defBody sPlan) (defScope sPlan) .none kVL dcL pmL anL (.ref cL) ctL), slL⟩) (Lc : PySem.W.codeIn K (.ref cL) "is_plan" = true) (kL : PySem.W.keepIn K (.ref fL) = true)
    (ack : PySem.W.nsIn K mainGlobals "check_plan" = some (some (.ref fck))) (lck : K.lookup fck = some ⟨occk, odck, .func (PySem.W.fnOf "check_plan" "check_plan" (defArgs sCheck) (defBody sCheck) (defScope sCheck) .none kVck dcck pmck anck cdck ctck), slck⟩) (ckc : PySem.W.codeIn K cdck "check_plan" = true) (kck : PySem.W.keepIn K (.ref fck) = true)
    (aG : PySem.W.nsIn K mainGlobals "pieces_of" = some (some (.ref fG))) (lG : K.lookup fG = some ⟨ocG, odG, .func (PySem.W.fnOf "pieces_of" "pieces_of" (defArgs sPieces) (defBody sPieces) (defScope sPieces) .none kVG dcG pmG anG cdG ctG), slG⟩) (Gc : PySem.W.codeIn K cdG "pieces_of" = true) (kG : PySem.W.keepIn K (.ref fG) = true)
    (aM : PySem.W.nsIn K mainGlobals "many_in" = some (some (.ref fM))) (lM : K.lookup fM = some ⟨ocM, odM, .func (PySem.W.fnOf "many_in" "many_in" (defArgs sMany) (defBody sMany) (defScope sMany) .none kVM dcM pmM anM cdM ctM), slM⟩) (Mc : PySem.W.codeIn K cdM "many_in" = true) (kM : PySem.W.keepIn K (.ref fM) = true)
    (aV : PySem.W.nsIn K mainGlobals "piece_number" = some (some (.ref fV))) (lV : K.lookup fV = some ⟨ocV, odV, .func (PySem.W.fnOf "piece_number" "piece_number" (defArgs sPieceNo) (defBody sPieceNo) (defScope sPieceNo) .none kVV dcV pmV anV cdV ctV), slV⟩) (Vc : PySem.W.codeIn K cdV "piece_number" = true) (kV : PySem.W.keepIn K (.ref fV) = true)
    (ata : PySem.W.nsIn K mainGlobals "turn_at" = some (some (.ref fta))) (lta : K.lookup fta = some ⟨octa, odta, .func (PySem.W.fnOf "turn_at" "turn_at" (defArgs sTurnAt) (defBody sTurnAt) (defScope sTurnAt) .none kVta dcta pmta anta cdta ctta), slta⟩) (tac : PySem.W.codeIn K cdta "turn_at" = true) (kta : PySem.W.keepIn K (.ref fta) = true)
    (aIn : PySem.W.findIn K (.ref CR) "__init__" = some (some (.ref fIn))) (lIn : K.lookup fIn = some ⟨ocIn, odIn, .func (PySem.W.fnOf "__init__" "Run.__init__" (defArgs sInit) (defBody sInit) (defScope sInit) .none kVIn dcIn pmIn anIn cdIn ctIn), slIn⟩) (Inc : PySem.W.codeIn K cdIn "Run.__init__" = true) (kIn : PySem.W.keepIn K (.ref fIn) = true)
    (ase : PySem.W.nsIn K mainGlobals "stretch_end" = some (some (.ref fse))) (lse : K.lookup fse = some ⟨ocse, odse, .func (PySem.W.fnOf "stretch_end" "stretch_end" (defArgs sEnd) (defBody sEnd) (defScope sEnd) .none kVse dcse pmse anse cdse ctse), slse⟩) (sec : PySem.W.codeIn K cdse "stretch_end" = true) (kse : PySem.W.keepIn K (.ref fse) = true)
    (awi : PySem.W.nsIn K mainGlobals "window_widths" = some (some (.ref fwi))) (lwi : K.lookup fwi = some ⟨ocwi, odwi, .func (PySem.W.fnOf "window_widths" "window_widths" (defArgs sWid) (defBody sWid) (defScope sWid) .none kVwi dcwi pmwi anwi cdwi ctwi), slwi⟩) (wic : PySem.W.codeIn K cdwi "window_widths" = true) (kwi : PySem.W.keepIn K (.ref fwi) = true)
    (ass : PySem.W.nsIn K mainGlobals "stretch_steps" = some (some (.ref fss))) (lss : K.lookup fss = some ⟨ocss, odss, .func (PySem.W.fnOf "stretch_steps" "stretch_steps" (defArgs sSteps) (defBody sSteps) (defScope sSteps) .none kVss dcss pmss anss cdss ctss), slss⟩) (ssc : PySem.W.codeIn K cdss "stretch_steps" = true) (kss : PySem.W.keepIn K (.ref fss) = true)
    (aro : PySem.W.nsIn K mainGlobals "runs_on" = some (some (.ref fro))) (lro : K.lookup fro = some ⟨ocro, odro, .func (PySem.W.fnOf "runs_on" "runs_on" (defArgs sRuns) (defBody sRuns) (defScope sRuns) .none kVro dcro pmro anro cdro ctro), slro⟩) (roc : PySem.W.codeIn K cdro "runs_on" = true) (kro : PySem.W.keepIn K (.ref fro) = true)
    (aob : PySem.W.nsIn K mainGlobals "outer_bound" = some (some (.ref fob))) (lob : K.lookup fob = some ⟨ocob, odob, .func (PySem.W.fnOf "outer_bound" "outer_bound" (defArgs sBnd) (defBody sBnd) (defScope sBnd) .none kVob dcob pmob anob cdob ctob), slob⟩) (obc : PySem.W.codeIn K cdob "outer_bound" = true) (kob : PySem.W.keepIn K (.ref fob) = true)
    (als : PySem.W.nsIn K mainGlobals "last_step" = some (some (.ref fls))) (lls : K.lookup fls = some ⟨ocls, odls, .func (PySem.W.fnOf "last_step" "last_step" (defArgs sLstStep) (defBody sLstStep) (defScope sLstStep) .none kVls dcls pmls anls cdls ctls), slls⟩) (lsc : PySem.W.codeIn K cdls "last_step" = true) (kls : PySem.W.keepIn K (.ref fls) = true)
    (awk : PySem.W.nsIn K mainGlobals "window_kind" = some (some (.ref fwk))) (lwk : K.lookup fwk = some ⟨ocwk, odwk, .func (PySem.W.fnOf "window_kind" "window_kind" (defArgs sWinKind) (defBody sWinKind) (defScope sWinKind) .none kVwk dcwk pmwk anwk cdwk ctwk), slwk⟩) (wkc : PySem.W.codeIn K cdwk "window_kind" = true) (kwk : PySem.W.keepIn K (.ref fwk) = true)
    (ari : PySem.W.nsIn K mainGlobals "round_in" = some (some (.ref fri))) (lri : K.lookup fri = some ⟨ocri, odri, .func (PySem.W.fnOf "round_in" "round_in" (defArgs sRoundIn) (defBody sRoundIn) (defScope sRoundIn) .none kVri dcri pmri anri cdri ctri), slri⟩) (ric : PySem.W.codeIn K cdri "round_in" = true) (kri : PySem.W.keepIn K (.ref fri) = true)
    (anu : PySem.W.nsIn K mainGlobals "note_use" = some (some (.ref fnu))) (lnu : K.lookup fnu = some ⟨ocnu, odnu, .func (PySem.W.fnOf "note_use" "note_use" (defArgs sNote) (defBody sNote) (defScope sNote) .none kVnu dcnu pmnu annu cdnu ctnu), slnu⟩) (nuc : PySem.W.codeIn K cdnu "note_use" = true) (knu : PySem.W.keepIn K (.ref fnu) = true)
    (aul : PySem.W.nsIn K mainGlobals "use_level" = some (some (.ref ful))) (lul : K.lookup ful = some ⟨ocul, odul, .func (PySem.W.fnOf "use_level" "use_level" (defArgs sLevel) (defBody sLevel) (defScope sLevel) .none kVul dcul pmul anul cdul ctul), slul⟩) (ulc : PySem.W.codeIn K cdul "use_level" = true) (kul : PySem.W.keepIn K (.ref ful) = true)
    (aui : PySem.W.nsIn K mainGlobals "used_in" = some (some (.ref fui))) (lui : K.lookup fui = some ⟨ocui, odui, .func (PySem.W.fnOf "used_in" "used_in" (defArgs sUsedIn) (defBody sUsedIn) (defScope sUsedIn) .none kVui dcui pmui anui cdui ctui), slui⟩) (uic : PySem.W.codeIn K cdui "used_in" = true) (kui : PySem.W.keepIn K (.ref fui) = true)
    (alp : PySem.W.nsIn K mainGlobals "least_plan" = some (some (.ref flp))) (llp : K.lookup flp = some ⟨oclp, odlp, .func (PySem.W.fnOf "least_plan" "least_plan" (defArgs sLeastP) (defBody sLeastP) (defScope sLeastP) .none kVlp dclp pmlp anlp cdlp ctlp), sllp⟩) (lpc : PySem.W.codeIn K cdlp "least_plan" = true) (klp : PySem.W.keepIn K (.ref flp) = true)
    (aE : PySem.W.nsIn K mainGlobals "_law_reel" = some (some (.ref fE))) (lE : K.lookup fE = some ⟨ocE, odE, .func (PySem.W.fnOf "_law_reel" "_law_reel" (defArgs sReel) (defBody sReel) (defScope sReel) .none kVE dcE pmE anE cdE ctE), slE⟩) (Ec : PySem.W.codeIn K cdE "_law_reel" = true) (kE : PySem.W.keepIn K (.ref fE) = true)
    (aD : PySem.W.nsIn K mainGlobals "_law_draw" = some (some (.ref fD))) (lD : K.lookup fD = some ⟨ocD, odD, .func (PySem.W.fnOf "_law_draw" "_law_draw" (defArgs sDraw) (defBody sDraw) (defScope sDraw) .none kVD dcD pmD anD cdD ctD), slD⟩) (Dc : PySem.W.codeIn K cdD "_law_draw" = true) (kD : PySem.W.keepIn K (.ref fD) = true)
    (apa : PySem.W.nsIn K mainGlobals "_law_patience" = some (some (.ref fpa))) (lpa : K.lookup fpa = some ⟨ocpa, odpa, .func (PySem.W.fnOf "_law_patience" "_law_patience" (defArgs sPatL) (defBody sPatL) (defScope sPatL) .none kVpa dcpa pmpa anpa cdpa ctpa), slpa⟩) (pac : PySem.W.codeIn K cdpa "_law_patience" = true) (kpa : PySem.W.keepIn K (.ref fpa) = true)
    (atu : PySem.W.nsIn K mainGlobals "_law_turn" = some (some (.ref ftu))) (ltu : K.lookup ftu = some ⟨octu, odtu, .func (PySem.W.fnOf "_law_turn" "_law_turn" (defArgs sTurn) (defBody sTurn) (defScope sTurn) .none kVtu dctu pmtu antu cdtu cttu), sltu⟩) (tuc : PySem.W.codeIn K cdtu "_law_turn" = true) (ktu : PySem.W.keepIn K (.ref ftu) = true)
    (ane : PySem.W.nsIn K mainGlobals "_law_near_rows" = some (some (.ref fne))) (lne : K.lookup fne = some ⟨ocne, odne, .func (PySem.W.fnOf "_law_near_rows" "_law_near_rows" (defArgs sNear) (defBody sNear) (defScope sNear) .none kVne dcne pmne anne cdne ctne), slne⟩) (nec : PySem.W.codeIn K cdne "_law_near_rows" = true) (kne : PySem.W.keepIn K (.ref fne) = true)
    (asd : PySem.W.nsIn K mainGlobals "_law_said_over" = some (some (.ref fsd))) (lsd : K.lookup fsd = some ⟨ocsd, odsd, .func (PySem.W.fnOf "_law_said_over" "_law_said_over" (defArgs sSaid) (defBody sSaid) (defScope sSaid) .none kVsd dcsd pmsd ansd cdsd ctsd), slsd⟩) (sdc : PySem.W.codeIn K cdsd "_law_said_over" = true) (ksd : PySem.W.keepIn K (.ref fsd) = true)
    (alt : PySem.W.nsIn K mainGlobals "_law_lasts" = some (some (.ref flt))) (llt : K.lookup flt = some ⟨oclt, odlt, .func (PySem.W.fnOf "_law_lasts" "_law_lasts" (defArgs sLasts) (defBody sLasts) (defScope sLasts) .none kVlt dclt pmlt anlt cdlt ctlt), sllt⟩) (ltc : PySem.W.codeIn K cdlt "_law_lasts" = true) (klt : PySem.W.keepIn K (.ref flt) = true)
    (agt : PySem.W.nsIn K mainGlobals "_law_greatest" = some (some (.ref fgt))) (lgt : K.lookup fgt = some ⟨ocgt, odgt, .func (PySem.W.fnOf "_law_greatest" "_law_greatest" (defArgs sGreat) (defBody sGreat) (defScope sGreat) .none kVgt dcgt pmgt angt cdgt ctgt), slgt⟩) (gtc : PySem.W.codeIn K cdgt "_law_greatest" = true) (kgt : PySem.W.keepIn K (.ref fgt) = true)
    (adu : PySem.W.nsIn K mainGlobals "_law_due" = some (some (.ref fdu))) (ldu : K.lookup fdu = some ⟨ocdu, oddu, .func (PySem.W.fnOf "_law_due" "_law_due" (defArgs sDue) (defBody sDue) (defScope sDue) .none kVdu dcdu pmdu andu cddu ctdu), sldu⟩) (duc : PySem.W.codeIn K cddu "_law_due" = true) (kdu : PySem.W.keepIn K (.ref fdu) = true)
    (aZ : PySem.W.nsIn K mainGlobals "law" = some (some (.ref fZ))) (lZ : K.lookup fZ = some ⟨ocZ, odZ, .func (PySem.W.fnOf "law" "law" (defArgs sLaw) (defBody sLaw) (defScope sLaw) .none kVZ dcZ pmZ anZ cdZ ctZ), slZ⟩) (Zc : PySem.W.codeIn K cdZ "law" = true) (kZ : PySem.W.keepIn K (.ref fZ) = true)
    (iIn : PySem.W.isFn K (.ref fIn) = true)
    (z_isinstance : PySem.W.nsIn K mainGlobals "isinstance" = some none) (z_len : PySem.W.nsIn K mainGlobals "len" = some none) (z_all : PySem.W.nsIn K mainGlobals "all" = some none) (z_any : PySem.W.nsIn K mainGlobals "any" = some none) (z_sum : PySem.W.nsIn K mainGlobals "sum" = some none) (z_int : PySem.W.nsIn K mainGlobals "int" = some none) (z_bool : PySem.W.nsIn K mainGlobals "bool" = some none) (z_list : PySem.W.nsIn K mainGlobals "list" = some none) (z_tuple : PySem.W.nsIn K mainGlobals "tuple" = some none) (z_range : PySem.W.nsIn K mainGlobals "range" = some none) (z_min : PySem.W.nsIn K mainGlobals "min" = some none) (z_repr : PySem.W.nsIn K mainGlobals "repr" = some none) (z_enumerate : PySem.W.nsIn K mainGlobals "enumerate" = some none) (z_max : PySem.W.nsIn K mainGlobals "max" = some none) (z_zip : PySem.W.nsIn K mainGlobals "zip" = some none)
    (mT : K.lookup cT = some ⟨eT, dT, .fields usT, wT⟩) (pT : usT[11]? = some (.ref PT)) (qT : PySem.W.codeHdIn K cT PT = true) (nT : (K.lookup PT).isNone = true) (rT : ((recsOf q).any fun e => e.name == "is_turns") = true)
    (mL : K.lookup cL = some ⟨eL, dL, .fields usL, wL⟩) (pL : usL[11]? = some (.ref PL)) (qL : PySem.W.codeHdIn K cL PL = true) (nL : (K.lookup PL).isNone = true) (rL : ((recsOf q).any fun e => e.name == "is_plan") = true)
    (xg1 : PySem.W.nsIn K mainGlobals "NoPlan" = some (some (.ref X1)))
    (xx1 : PySem.W.excIn K X1 [.type "ValueError", .type "Exception", .type "BaseException", .type "object"] "ValueError.__new__" = true)
    (xk1 : PySem.W.keepIn K (.ref X1) = true)
    (xb1 : PySem.W.subIn K (.ref X1) (.type "BaseException") = some true)
    (xt1 : PySem.W.typeIn K (.ref X1) = some (.type "type"))
    {tg tl : Tok} (gG : PySem.W.nsIn K mainGlobals "GREATEST" = some (some (.int GREAT tg))) (gL : PySem.W.nsIn K mainGlobals "LONGEST" = some (some (.int 8 tl))) : AtLaw l w K mg fa h := by
  have e := hfa.symm.trans (PySem.W.mg_of X G.g aZ)
  cases e
  have FW := fun_mk (st := sWhole) lW Wc kW
  have FR := fun_mk (st := sRow) lR Rc kR
  have FA := fun_mk (st := sPat) lA Ac kA
  have FT := fun_mk (st := sTurns) lT Tc kT
  have FI := fun_mk (st := sPiece) lI Ic kI
  have FL := fun_mk (st := sPlan) lL Lc kL
  have Fck := fun_mk (st := sCheck) lck ckc kck
  have FG := fun_mk (st := sPieces) lG Gc kG
  have FM := fun_mk (st := sMany) lM Mc kM
  have FV := fun_mk (st := sPieceNo) lV Vc kV
  have Fta := fun_mk (st := sTurnAt) lta tac kta
  have FIn := fun_mk (st := sInit) lIn Inc kIn
  have Fse := fun_mk (st := sEnd) lse sec kse
  have Fwi := fun_mk (st := sWid) lwi wic kwi
  have Fss := fun_mk (st := sSteps) lss ssc kss
  have Fro := fun_mk (st := sRuns) lro roc kro
  have Fob := fun_mk (st := sBnd) lob obc kob
  have Fls := fun_mk (st := sLstStep) lls lsc kls
  have Fwk := fun_mk (st := sWinKind) lwk wkc kwk
  have Fri := fun_mk (st := sRoundIn) lri ric kri
  have Fnu := fun_mk (st := sNote) lnu nuc knu
  have Ful := fun_mk (st := sLevel) lul ulc kul
  have Fui := fun_mk (st := sUsedIn) lui uic kui
  have Flp := fun_mk (st := sLeastP) llp lpc klp
  have FE := fun_mk (st := sReel) lE Ec kE
  have FD := fun_mk (st := sDraw) lD Dc kD
  have Fpa := fun_mk (st := sPatL) lpa pac kpa
  have Ftu := fun_mk (st := sTurn) ltu tuc ktu
  have Fne := fun_mk (st := sNear) lne nec kne
  have Fsd := fun_mk (st := sSaid) lsd sdc ksd
  have Flt := fun_mk (st := sLasts) llt ltc klt
  have Fgt := fun_mk (st := sGreat) lgt gtc kgt
  have Fdu := fun_mk (st := sDue) ldu duc kdu
  have FZ := fun_mk (st := sLaw) lZ Zc kZ
  have bW := FW.binds (ps := ["thing"]) fun _ _ _ _ _ _ us hl => match us, hl with | [_], _ => rfl
  have bR := FR.binds (ps := ["thing"]) fun _ _ _ _ _ _ us hl => match us, hl with | [_], _ => rfl
  have bA := FA.binds (ps := ["thing"]) fun _ _ _ _ _ _ us hl => match us, hl with | [_], _ => rfl
  have bT := FT.binds (ps := ["thing"]) fun _ _ _ _ _ _ us hl => match us, hl with | [_], _ => rfl
  have bI := FI.binds (ps := ["thing"]) fun _ _ _ _ _ _ us hl => match us, hl with | [_], _ => rfl
  have bL := FL.binds (ps := ["thing"]) fun _ _ _ _ _ _ us hl => match us, hl with | [_], _ => rfl
  have bck := Fck.binds (ps := ["thing"]) fun _ _ _ _ _ _ us hl => match us, hl with | [_], _ => rfl
  have bG := FG.binds (ps := ["plan"]) fun _ _ _ _ _ _ us hl => match us, hl with | [_], _ => rfl
  have bM := FM.binds (ps := ["pieces"]) fun _ _ _ _ _ _ us hl => match us, hl with | [_], _ => rfl
  have bV := FV.binds (ps := ["pieces", "person"]) fun _ _ _ _ _ _ us hl => match us, hl with | [_, _], _ => rfl
  have bta := Fta.binds (ps := ["pieces", "person"]) fun _ _ _ _ _ _ us hl => match us, hl with | [_, _], _ => rfl
  have bIn := FIn.binds (ps := ["self", "steps", "room"]) fun _ _ _ _ _ _ us hl => match us, hl with | [_, _, _], _ => rfl
  have bse := Fse.binds (ps := ["piece", "start", "bound", "stop"]) fun _ _ _ _ _ _ us hl => match us, hl with | [_, _, _, _], _ => rfl
  have bwi := Fwi.binds (ps := ["turns", "start", "bound"]) fun _ _ _ _ _ _ us hl => match us, hl with | [_, _, _], _ => rfl
  have bss := Fss.binds (ps := ["piece", "start", "bound", "end"]) fun _ _ _ _ _ _ us hl => match us, hl with | [_, _, _, _], _ => rfl
  have bro := Fro.binds (ps := ["pieces", "start", "bound", "stop"]) fun _ _ _ _ _ _ us hl => match us, hl with | [_, _, _, _], _ => rfl
  have bob := Fob.binds (ps := ["pieces"]) fun _ _ _ _ _ _ us hl => match us, hl with | [_], _ => rfl
  have bls := Fls.binds (ps := ["runs"]) fun _ _ _ _ _ _ us hl => match us, hl with | [_], _ => rfl
  have bwk := Fwk.binds (ps := ["pieces", "opener", "last"]) fun _ _ _ _ _ _ us hl => match us, hl with | [_, _, _], _ => rfl
  have bri := Fri.binds (ps := ["pieces"]) fun _ _ _ _ _ _ us hl => match us, hl with | [_], _ => rfl
  have bnu := Fnu.binds (ps := ["used", "turn", "many"]) fun _ _ _ _ _ _ us hl => match us, hl with | [_, _, _], _ => rfl
  have bul := Ful.binds (ps := ["pieces", "start", "bound", "stop", "used"]) fun _ _ _ _ _ _ us hl => match us, hl with | [_, _, _, _, _], _ => rfl
  have bui := Fui.binds (ps := ["pieces"]) fun _ _ _ _ _ _ us hl => match us, hl with | [_], _ => rfl
  have blp := Flp.binds (ps := ["plan"]) fun _ _ _ _ _ _ us hl => match us, hl with | [_], _ => rfl
  have bE := FE.binds (ps := ["script"]) fun _ _ _ _ _ _ us hl => match us, hl with | [_], _ => rfl
  have bD := FD.binds (ps := ["reel", "many"]) fun _ _ _ _ _ _ us hl => match us, hl with | [_, _], _ => rfl
  have bpa := Fpa.binds (ps := ["reel", "most"]) fun _ _ _ _ _ _ us hl => match us, hl with | [_, _], _ => rfl
  have btu := Ftu.binds (ps := ["reel", "most"]) fun _ _ _ _ _ _ us hl => match us, hl with | [_, _], _ => rfl
  have bne := Fne.binds (ps := ["reel", "most", "ends"]) fun _ _ _ _ _ _ us hl => match us, hl with | [_, _, _], _ => rfl
  have bsd := Fsd.binds (ps := ["rows", "most"]) fun _ _ _ _ _ _ us hl => match us, hl with | [_, _], _ => rfl
  have blt := Flt.binds (ps := ["patiences"]) fun _ _ _ _ _ _ us hl => match us, hl with | [_], _ => rfl
  have bgt := Fgt.binds (ps := ["rows", "lasts", "most"]) fun _ _ _ _ _ _ us hl => match us, hl with | [_, _, _], _ => rfl
  have bdu := Fdu.binds (ps := ["rows"]) fun _ _ _ _ _ _ us hl => match us, hl with | [_], _ => rfl
  have bZ := FZ.binds (ps := ["script"]) fun _ _ _ _ _ _ us hl => match us, hl with | [_], _ => rfl
  have CT : FunC K "is_turns" "is_turns" sTurns fT _ cT := ⟨⟨ocT, odT, kVT, dcT, pmT, anT, ctT, slT, rfl, lT, Tc⟩, kT⟩
  have CL : FunC K "is_plan" "is_plan" sPlan fL _ cL := ⟨⟨ocL, odL, kVL, dcL, pmL, anL, ctL, slL, rfl, lL, Lc⟩, kL⟩
  have m := fun {n : Str} (e : PySem.W.nsIn K mainGlobals n = some none) => PySem.W.mg_none_of X G.g e
  have g := fun {n : Str} {v : Value} (e : PySem.W.nsIn K mainGlobals n = some (some v)) => PySem.W.mg_of X G.g e
  have T : Nm mg := ⟨m z_isinstance, m z_len, m z_all, m z_any, m z_sum, m z_int, m z_bool, m z_list, m z_tuple, ⟨_, g gG⟩, ⟨_, g gL⟩⟩
  have T2 : Nm2 mg := ⟨m z_range, m z_min, m z_repr, m z_enumerate⟩
  have XC1 : ExcC K mg "NoPlan" X1 := ⟨g xg1, xx1, xk1, xb1, xt1⟩
  have TR : RunC K mg CR fIn := ⟨⟨pgR, hdR, poR, saR⟩, nSt, nSp, nLe, nTi, g gR, ⟨mkR, aIn, iIn, kcR⟩⟩
  have nT' := Option.isNone_iff_eq_none.mp nT
  have nL' := Option.isNone_iff_eq_none.mp nL
  refine ⟨PySem.W.fnOf "law" "law" (defArgs sLaw) (defBody sLaw) (defScope sLaw) .none kVZ dcZ pmZ anZ cdZ ctZ, PT, PL, fun b hb => ?_, fun b hb => ?_, fun b hb => ?_, fun s v => .of_eq rfl, fun base _ _ hsys hB => ?_⟩
  · rcases List.mem_cons.mp hb with rfl | hb
    · exact tab_of G X rT (PySem.W.mg_of X G.g aT) lT rfl rfl qT
    · rw [List.mem_singleton.mp hb]
      exact tab_of G X rL (PySem.W.mg_of X G.g aL) lL rfl rfl qL
  · rcases List.mem_cons.mp hb with rfl | hb
    · exact ⟨_, qT⟩
    · rw [List.mem_singleton.mp hb]
      exact ⟨_, qL⟩
  · rcases List.mem_cons.mp hb with rfl | hb
    · exact nT'
    · rw [List.mem_singleton.mp hb]
      exact nL'
  · have XB : K.In base := ‹K.In base›
    have TB1 : GxR.TabB base mg cT PT := ⟨PySem.W.codeHd_of_K XB qT, (hB PT (by simp)).1, (hB PT (by simp)).2⟩
    have TB2 : GxR.TabB base mg cL PL := ⟨PySem.W.codeHd_of_K XB qL, (hB PL (by simp)).1, (hB PL (by simp)).2⟩
    have KW : Cal l.prog w K mg base 1 "is_whole" ["thing"] (spOne isWhole) := ⟨fW, _, g aW, kW, bW, ok_whole FW T⟩
    have KR : Cal l.prog w K mg base 1 "is_row" ["thing"] (spOne isRow) := ⟨fR, _, g aR, kR, bR, ok_row FR T⟩
    have KA : Cal l.prog w K mg base 2 "is_patience" ["thing"] (spOne isPatience) := ⟨fA, _, g aA, kA, bA, ok_pat FA T KW⟩
    have KT : Cal l.prog w K mg base 4 "is_turns" ["thing"] (spTab PT PL isTurns) := ⟨fT, _, g aT, kT, bT, ok_turns CT T TB1 KR KA⟩
    have KI : Cal l.prog w K mg base 5 "is_piece" ["thing"] (spTab PT PL isPiece) := ⟨fI, _, g aI, kI, bI, ok_piece FI T KW KR KT⟩
    have KP : Cal l.prog w K mg base 7 "is_plan" ["thing"] (spTab PT PL isPlan) := ⟨fL, _, g aL, kL, bL, ok_plan CL T TB2 KR KI⟩
    have Kck : CalX l.prog w K mg base 8 "check_plan" ["thing"] (spCheck PT PL X1) := ⟨fck, _, g ack, kck, bck, ok_check Fck XC1 KP⟩
    have KG : CalX l.prog w K mg base 9 "pieces_of" ["plan"] (spPieces PT PL X1) := ⟨fG, _, g aG, kG, bG, ok_pieces FG T Kck⟩
    have KM : Cal l.prog w K mg base 1 "many_in" ["pieces"] (spMany) := ⟨fM, _, g aM, kM, bM, ok_many FM⟩
    have KV : Cal l.prog w K mg base 1 "piece_number" ["pieces", "person"] (spPieceNo) := ⟨fV, _, g aV, kV, bV, ok_pieceNo FV⟩
    have Kta : Cal l.prog w K mg base 2 "turn_at" ["pieces", "person"] (spTurnAt) := ⟨fta, _, g ata, kta, bta, ok_turnAt Fta T KV⟩
    have Kse : Cal l.prog w K mg base 1 "stretch_end" ["piece", "start", "bound", "stop"] (spEnd) := ⟨fse, _, g ase, kse, bse, ok_end Fse (m z_min)⟩
    have Kwi : Cal l.prog w K mg base 1 "window_widths" ["turns", "start", "bound"] (spWid) := ⟨fwi, _, g awi, kwi, bwi, ok_wid Fwi⟩
    have Kss : Cal l.prog w K mg base 2 "stretch_steps" ["piece", "start", "bound", "end"] (spSteps) := ⟨fss, _, g ass, kss, bss, ok_steps Fss T (m z_max) Kwi⟩
    have FI1 := ok_init (P := l.prog) (w := w) (base := base) FIn T (m z_max) TR
    have Kro : Cal l.prog w K mg base 3 "runs_on" ["pieces", "start", "bound", "stop"] (spRuns CR) := ⟨fro, _, g aro, kro, bro, ok_runs Fro TR FI1 bIn KV Kse Kss⟩
    have Kob : Cal l.prog w K mg base 2 "outer_bound" ["pieces"] (spBnd) := ⟨fob, _, g aob, kob, bob, ok_bnd Fob KM⟩
    have Kls : Cal l.prog w K mg base 1 "last_step" ["runs"] (spLast CR) := ⟨fls, _, g als, kls, bls, ok_last Fls TR⟩
    have Kwk : Cal l.prog w K mg base 3 "window_kind" ["pieces", "opener", "last"] (spKind) := ⟨fwk, _, g awk, kwk, bwk, ok_kind Fwk Kta⟩
    have Kri : Cal l.prog w K mg base 4 "round_in" ["pieces"] (spRoundIn) := ⟨fri, _, g ari, kri, bri, ok_roundIn (fI := fIn) Fri T (m z_max) Kro Kls⟩
    have Knu : Cal l.prog w K mg base 1 "note_use" ["used", "turn", "many"] (spNote) := ⟨fnu, _, g anu, knu, bnu, ok_note Fnu (m z_max)⟩
    have Kul : Cal l.prog w K mg base 4 "use_level" ["pieces", "start", "bound", "stop", "used"] (spLevel CR) := ⟨ful, _, g aul, kul, bul, ok_level (fI := fIn) Ful TR Kro Kta Knu⟩
    have Kui : Cal l.prog w K mg base 5 "used_in" ["pieces"] (spUsedN) := ⟨fui, _, g aui, kui, bui, ok_usedN Fui Kri Kob Kul Kwk⟩
    have Klp : CalX l.prog w K mg base 10 "least_plan" ["plan"] (spLeastN PT PL) := ⟨flp, _, g alp, klp, blp, ok_leastN Flp (m z_zip) KG Kui⟩
    have KE : Cal l.prog w K mg base 1 "_law_reel" ["script"] (spReel K) := ⟨fE, _, g aE, kE, bE, ok_reel FE⟩
    have kd : ∀ r, Cal l.prog w K mg base 1 "_law_draw" ["reel", "many"] (spDraw r) := fun r => ⟨fD, _, g aD, kD, bD, ok_draw FD T⟩
    have kp : ∀ r, Cal l.prog w K mg base 2 "_law_patience" ["reel", "most"] (spPatL r) := fun r => ⟨fpa, _, g apa, kpa, bpa, ok_patL Fpa (kd r)⟩
    have kt : ∀ r, Cal l.prog w K mg base 3 "_law_turn" ["reel", "most"] (spTurn r) := fun r => ⟨ftu, _, g atu, ktu, btu, ok_turn Ftu T2.range ((kd r).mono (by decide)) (kp r)⟩
    have KB : Cal l.prog w K mg base 4 "_law_near_rows" ["reel", "most", "ends"] (spE spNear) := ⟨fne, _, g ane, kne, bne, fnE fun r => ok_near Fne T2.range ((kd r).mono (by decide)) (kt r)⟩
    have KSd : Cal l.prog w K mg base 1 "_law_said_over" ["rows", "most"] (spSaid) := ⟨fsd, _, g asd, ksd, bsd, ok_said Fsd T T2⟩
    have KLt : Cal l.prog w K mg base 1 "_law_lasts" ["patiences"] (spLasts) := ⟨flt, _, g alt, klt, blt, ok_lasts Flt T T2⟩
    have KGt : Cal l.prog w K mg base 1 "_law_greatest" ["rows", "lasts", "most"] (spGreat) := ⟨fgt, _, g agt, kgt, bgt, ok_great Fgt T T2 (m z_max)⟩
    have KDu : Cal l.prog w K mg base 2 "_law_due" ["rows"] (spDueN) := ⟨fdu, _, g adu, kdu, bdu, ok_dueN Fdu T KSd KLt KGt⟩
    exact ok_law FZ T T2 KE KB KDu Klp
end CL
open PySem PySem.W PyProof.Rows
set_option maxRecDepth 100000 in
set_option maxHeartbeats 0 in
theorem PySem.Challenge.cw_comersline_k28_least_plans_without_end_holds : PySem.Challenge.rw_comersline_k28_least_plans_without_end.Holds := by
  w_on; o_law; k_head; (case hw => w_witness2)
  k_fill
  refine CL.walk (l := PySem.Challenge.rw_comersline_k28_least_plans_without_end) rfl rfl (by decide +kernel) (fun w h Y => PySem.W.kIn_of Y) ?F
  case F =>
    intro w mg mb mean lo fa h KX G hmg
    refine' CL.all_mk KX G hmg ?gR ?pgR ?hdR ?poR ?saR ?mkR ?kcR ?nSt ?nSp ?nLe ?nTi ?aW ?lW ?Wc ?kW ?aR ?lR ?Rc ?kR ?aA ?lA ?Ac ?kA ?aT ?lT ?Tc ?kT ?aI ?lI ?Ic ?kI ?aL ?lL ?Lc ?kL ?ack ?lck ?ckc ?kck ?aG ?lG ?Gc ?kG ?aM ?lM ?Mc ?kM ?aV ?lV ?Vc ?kV ?ata ?lta ?tac ?kta ?aIn ?lIn ?Inc ?kIn ?ase ?lse ?sec ?kse ?awi ?lwi ?wic ?kwi ?ass ?lss ?ssc ?kss ?aro ?lro ?roc ?kro ?aob ?lob ?obc ?kob ?als ?lls ?lsc ?kls ?awk ?lwk ?wkc ?kwk ?ari ?lri ?ric ?kri ?anu ?lnu ?nuc ?knu ?aul ?lul ?ulc ?kul ?aui ?lui ?uic ?kui ?alp ?llp ?lpc ?klp ?aE ?lE ?Ec ?kE ?aD ?lD ?Dc ?kD ?apa ?lpa ?pac ?kpa ?atu ?ltu ?tuc ?ktu ?ane ?lne ?nec ?kne ?asd ?lsd ?sdc ?ksd ?alt ?llt ?ltc ?klt ?agt ?lgt ?gtc ?kgt ?adu ?ldu ?duc ?kdu ?aZ ?lZ ?Zc ?kZ ?iIn ?z_isinstance ?z_len ?z_all ?z_any ?z_sum ?z_int ?z_bool ?z_list ?z_tuple ?z_range ?z_min ?z_repr ?z_enumerate ?z_max ?z_zip ?mT ?pT ?qT ?nT ?rT ?mL ?pL ?qL ?nL ?rL ?xg1 ?xx1 ?xk1 ?xb1 ?xt1 ?gG ?gL
    (case gR => k_is)
    (case pgR => k_is)
    (case hdR => k_is)
    (case poR => k_is)
    (case saR => k_is)
    (case mkR => k_is)
    (case kcR => k_is)
    (case nSt => k_is)
    (case nSp => k_is)
    (case nLe => k_is)
    (case nTi => k_is)
    (case aW => k_is)
    (case lW => k_is)
    (case Wc => k_is)
    (case kW => k_is)
    (case aR => k_is)
    (case lR => k_is)
    (case Rc => k_is)
    (case kR => k_is)
    (case aA => k_is)
    (case lA => k_is)
    (case Ac => k_is)
    (case kA => k_is)
    (case aT => k_is)
    (case lT => k_is)
    (case Tc => k_is)
    (case kT => k_is)
    (case aI => k_is)
    (case lI => k_is)
    (case Ic => k_is)
    (case kI => k_is)
    (case aL => k_is)
    (case lL => k_is)
    (case Lc => k_is)
    (case kL => k_is)
    (case ack => k_is)
    (case lck => k_is)
    (case ckc => k_is)
    (case kck => k_is)
    (case aG => k_is)
    (case lG => k_is)
    (case Gc => k_is)
    (case kG => k_is)
    (case aM => k_is)
    (case lM => k_is)
    (case Mc => k_is)
    (case kM => k_is)
    (case aV => k_is)
    (case lV => k_is)
    (case Vc => k_is)
    (case kV => k_is)
    (case ata => k_is)
    (case lta => k_is)
    (case tac => k_is)
    (case kta => k_is)
    (case aIn => k_is)
    (case lIn => k_is)
    (case Inc => k_is)
    (case kIn => k_is)
    (case ase => k_is)
    (case lse => k_is)
    (case sec => k_is)
    (case kse => k_is)
    (case awi => k_is)
    (case lwi => k_is)
    (case wic => k_is)
    (case kwi => k_is)
    (case ass => k_is)
    (case lss => k_is)
    (case ssc => k_is)
    (case kss => k_is)
    (case aro => k_is)
    (case lro => k_is)
    (case roc => k_is)
    (case kro => k_is)
    (case aob => k_is)
    (case lob => k_is)
    (case obc => k_is)
    (case kob => k_is)
    (case als => k_is)
    (case lls => k_is)
    (case lsc => k_is)
    (case kls => k_is)
    (case awk => k_is)
    (case lwk => k_is)
    (case wkc => k_is)
    (case kwk => k_is)
    (case ari => k_is)
    (case lri => k_is)
    (case ric => k_is)
    (case kri => k_is)
    (case anu => k_is)
    (case lnu => k_is)
    (case nuc => k_is)
    (case knu => k_is)
    (case aul => k_is)
    (case lul => k_is)
    (case ulc => k_is)
    (case kul => k_is)
    (case aui => k_is)
    (case lui => k_is)
    (case uic => k_is)
    (case kui => k_is)
    (case alp => k_is)
    (case llp => k_is)
    (case lpc => k_is)
    (case klp => k_is)
    (case aE => k_is)
    (case lE => k_is)
    (case Ec => k_is)
    (case kE => k_is)
    (case aD => k_is)
    (case lD => k_is)
    (case Dc => k_is)
    (case kD => k_is)
    (case apa => k_is)
    (case lpa => k_is)
    (case pac => k_is)
    (case kpa => k_is)
    (case atu => k_is)
    (case ltu => k_is)
    (case tuc => k_is)
    (case ktu => k_is)
    (case ane => k_is)
    (case lne => k_is)
    (case nec => k_is)
    (case kne => k_is)
    (case asd => k_is)
    (case lsd => k_is)
    (case sdc => k_is)
    (case ksd => k_is)
    (case alt => k_is)
    (case llt => k_is)
    (case ltc => k_is)
    (case klt => k_is)
    (case agt => k_is)
    (case lgt => k_is)
    (case gtc => k_is)
    (case kgt => k_is)
    (case adu => k_is)
    (case ldu => k_is)
    (case duc => k_is)
    (case kdu => k_is)
    (case aZ => k_is)
    (case lZ => k_is)
    (case Zc => k_is)
    (case kZ => k_is)
    (case iIn => k_is)
    (case z_isinstance => k_is)
    (case z_len => k_is)
    (case z_all => k_is)
    (case z_any => k_is)
    (case z_sum => k_is)
    (case z_int => k_is)
    (case z_bool => k_is)
    (case z_list => k_is)
    (case z_tuple => k_is)
    (case z_range => k_is)
    (case z_min => k_is)
    (case z_repr => k_is)
    (case z_enumerate => k_is)
    (case z_max => k_is)
    (case z_zip => k_is)
    (case mT => k_is)
    (case pT => rfl)
    (case qT => kernel_rfl)
    (case nT => kernel_rfl)
    (case rT => kernel_rfl)
    (case mL => k_is)
    (case pL => rfl)
    (case qL => kernel_rfl)
    (case nL => kernel_rfl)
    (case rL => kernel_rfl)
    (case xg1 => k_is)
    (case xx1 => k_exc)
    (case xk1 => k_is)
    (case xb1 => k_is)
    (case xt1 => k_is)
    (case gG => k_is)
    (case gL => k_is)
