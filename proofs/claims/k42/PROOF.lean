import PyProof.Rows.All
import Wide.All
import OpenK.AllK
import Wide.FinOn
import HandS.ForMost
import HandS.ForExc
import HandS.AnyAll
import HandS.GenBody
import HandS.IsInst
import HandS.TupAny
import HandS.Wide
import HandS.Codes
import HandS.More
import HandS.Walk
import HandS.WideBits
import PyProof.Rows.FactsN_abs
import HandS.Text
import KE.IntTextLaws
import HandS.EndTab
import HandS.NestedK
import PySem.Challenge.RW_comersline_k42_whole_lines_by_plans
set_option Elab.async false
set_option linter.all false
set_option maxRecDepth 100000
set_option maxHeartbeats 1000000
namespace GE
open PySem PySem.Spec PyProof.Rows L2 GenW
open Sem (wp)

/-- what a consumer holds between two turns of a generator -/
structure Con (α : Type) where
  fp : List Addr
  at_ : α → Heap → Prop
structure ConOk {α : Type} (C : Con α) : Prop where
  obj : ∀ a h, C.at_ a h → ∀ b ∈ C.fp, ∃ o, h.get? b = some o ∧ ∀ v, o.data ≠ .cell v
  keep : ∀ a h h', C.at_ a h → (∀ b ∈ C.fp, ∀ o, h.get? b = some o → h'.get? b = some o) → C.at_ a h'
  inj : ∀ a b h, C.at_ a h → C.at_ b h → a = b
def conU : Con Unit := ⟨[], fun _ _ => True⟩
theorem conU_ok : ConOk conU := ⟨(fun _ _ _ b hb => nomatch hb), (fun _ _ _ _ _ => trivial), (fun _ _ _ _ _ => rfl)⟩

abbrev nones (n : Nat) : L2.St := List.replicate n none
theorem nones_some {n i : Nat} {v : V} (h : (nones n)[i]? = some (some v)) : False := by
  rw [List.getElem?_replicate] at h
  split at h <;> cases h

section
variable {α : Type}
def GI (Y : Cx) (C : Con α) (fpI : List Addr) (tn : Nat → Heap → Prop) (a : α) (i : Nat) (H : Hp) (s : Shared) : Prop :=
  Inv Y (pinsAt C.fp s.heap) (nones Y.N.length) H s ∧ C.at_ a s.heap ∧ tn i s.heap ∧ ∀ b ∈ fpI, H b = none
def GP (Y : Cx) (C : Con α) (fpI : List Addr) (tn : Nat → Heap → Prop) (Out : α → V → Hp → (α → Hp → Prop) → Prop) : Protocol := fun _ s₀ v s kap =>
  ∃ a i H y Nx, RelV y v ∧ GI Y C fpI tn a i H s ∧ Out a y H Nx ∧ (∀ b ∈ C.fp, ∀ o, s₀.heap.get? b = some o → s.heap.get? b = some o) ∧ ∀ a' s'', GI Y C fpI tn a' i H s'' → Nx a' H → kap (.send .none) s''
def GF (Y : Cx) (C : Con α) (Fin : α → Hp → Prop) : Nat → Shared → Shared → Prop := fun _ s₀ s₁ =>
  ∃ a H, Inv Y (pinsAt C.fp s₁.heap) (nones Y.N.length) H s₁ ∧ C.at_ a s₁.heap ∧ (∀ b ∈ C.fp, ∀ o, s₀.heap.get? b = some o → s₁.heap.get? b = some o) ∧ Fin a H
abbrev GRr (Y : Cx) (C : Con α) (Fin : α → Hp → Prop) : GenEnd := fun n s₀ r s₁ => r = .ok .next ∧ GF Y C Fin n s₀ s₁
def TurnOf (J : It) (n0 : Nat) (g : TG) (tt : TT) (te : TE) (Out : α → V → Hp → (α → Hp → Prop) → Prop) (Fin : α → Hp → Prop) (W : α → Nat → Nat → Hp → Prop) : Prop :=
  ∀ a i m H, W a i m H → (J.stop i H ∧ Fin a H) ∨ (J.go i H ∧ ∃ Nx : α → Hp → Prop, (∀ a' H', Nx a' H' → ∃ m', m' < m ∧ W a' (i + 1) m' H') ∧
    ∀ x H', J.yld i H x H' → g x (nones n0) H' fun σ2 H2 => tt σ2 H2 fun b H3 => if b = true then te σ2 H3 fun y H4 => Out a y H4 Nx else Nx a H3)

def GoOn (M : Model) (A : Around) (R : GenEnd) (P : Protocol) (gi : α → Shared → Prop) (nx : α → Prop) (gs1 : GenState) : Nat → Prop
  | 0 => ∀ a' s'', gi a' s'' → nx a' → False
  | n1 + 1 => ∀ a' s'', gi a' s'' → nx a' → gs1.Goes M A R P n1 (.send .none) s''
theorem over_loopG {A : Around} {elt tg iter : Expr} {ifs : List Expr} {scope : Scope} {pos : Pos} {it acc : Value} {env : Env} :
    A.over (.compLoop (.GeneratorExp elt [⟨tg, iter, ifs, 0⟩] scope pos) 0 it acc env) [] = A.deeper env := by
  first
    | rfl
    | (obtain ⟨hd, d, fr, gs, u⟩ := A; simp [Around.over, Around.deeper, marksOver, frameCount, unitsOf, envsOf, guardsOf, pushEnvs, pushGuards, Code.envs, Code.env?, Code.isFrame, Code.guards, Code.isGuard, Code.weight, Code.frames, Code.isCreation, Code.isCaller, Code.cUnits])
theorem over_startG {A : Around} {elt tg iter : Expr} {ifs : List Expr} {scope : Scope} {pos : Pos} {it acc : Value} {env : Env} :
    A.over (.compStart (.GeneratorExp elt [⟨tg, iter, ifs, 0⟩] scope pos) 0 it acc env) [] = A.deeper env := by
  first
    | rfl
    | (obtain ⟨hd, d, fr, gs, u⟩ := A; simp [Around.over, Around.deeper, marksOver, frameCount, unitsOf, envsOf, guardsOf, pushEnvs, pushGuards, Code.envs, Code.env?, Code.isFrame, Code.guards, Code.isGuard, Code.weight, Code.frames, Code.isCreation, Code.isCaller, Code.cUnits])

theorem Inv.gensG {X : Cx} {pins : List (Addr × Obj)} {σ : L2.St} {H : Hp} {s : Shared} (I : Inv X pins σ H s) {G : Array GenState} (h : AllBare G) : Inv X pins σ H { s with gens := G } :=
  ⟨I.ok, I.os, h, I.base, I.loc, I.cell, I.free, I.freeC, I.pin, I.hok, I.len⟩
theorem bare_setGen {s : Shared} {g : Nat} {x : GenState} (h : AllBare s.gens) (hx : x.bare = true) : AllBare (s.setGen g x).gens := by
  intro y hy
  show y.bare = true
  have hy : y ∈ s.gens.setIfInBounds g x := hy
  rcases Array.mem_or_eq_of_mem_setIfInBounds hy with h1 | h1
  · exact h y h1
  · rw [h1]; exact hx

section
variable {Y : Cx} {C : Con α} {tg elt iter : Expr} {ifs : List Expr} {scope : Scope} {pos : Pos} {J : It} {fpI : List Addr} {it : Addr} {tn : Nat → Heap → Prop} {g : TG} {tt : TT} {te : TE}
  {Out : α → V → Hp → (α → Hp → Prop) → Prop} {Fin : α → Hp → Prop} {W : α → Nat → Nat → Hp → Prop} {A : Around}
/-- the loop of a generator expression -/
theorem seg_loop (CO : ConOk C) (hcalm : Y.calm = true) (T : Turn Y.prog Y.w Y.K tg J fpI it tn) (hg : PG Y tg g) (ht : PTs Y ifs tt) (he : PE Y elt te) (hA : A.deeper Y.env = Y.A)
    (hex : ∀ b ∈ fpI, b ∈ Y.ex) (hdis : ∀ b ∈ C.fp, b ∉ fpI) (hpn : ∀ p ∈ Y.pn, p.1 ∉ fpI) (hxe : Y.xe = fun _ _ => False) (hco : Y.env.scope.isCoroutine = false) (turn : TurnOf J Y.N.length g tt te Out Fin W) :
    ∀ (m : Nat) (a : α) (i n : Nat) (H : Hp) (s₀ s : Shared), m < n → W a i m H → GI Y C fpI tn a i H s → (∀ b ∈ C.fp, ∀ o, s₀.heap.get? b = some o → s.heap.get? b = some o) →
      Seg (model Y.prog Y.w) A (GRr Y C Fin) (GP Y C fpI tn Out) n s₀ (.compLoop (.GeneratorExp elt [⟨tg, iter, ifs, 0⟩] scope pos) 0 (.ref it) .none Y.env)
        ((model Y.prog Y.w).den (.compLoop (.GeneratorExp elt [⟨tg, iter, ifs, 0⟩] scope pos) 0 (.ref it) .none Y.env)) [] s := by
  have ov : A.over (.compLoop (.GeneratorExp elt [⟨tg, iter, ifs, 0⟩] scope pos) 0 (.ref it) .none Y.env) [] = Y.A := over_loopG.trans hA
  have stat : ∀ {pins : List (Addr × Obj)} {σ' : L2.St} {H' : Hp} {s' : Shared}, Inv Y pins σ' H' s' → (∀ p ∈ pins, p.1 ∉ fpI) → (∀ b ∈ fpI, H' b = none) → ∀ b ∈ fpI, FpOk Y pins H' b := fun {pins σ' H' s'} I' hp hn b hb =>
    ⟨hn b hb, (I'.ok.exf b (hex b hb)).1, I'.ok.exfs b (hex b hb), .inl (hex b hb), fun x c e => (I'.ok.exf b (hex b hb)).2 x c e, fun p hp' z => (List.mem_append.mp hp').elim (fun q => hpn p q (z ▸ hb)) fun q => hp p q (z ▸ hb)⟩
  have pinN : ∀ h : Heap, ∀ p ∈ pinsAt C.fp h, p.1 ∉ fpI := fun h p hp => hdis p.1 (of_pinsAt hp).1
  intro m
  induction m using Nat.strongRecOn with
  | ind m ih =>
    intro a i n H s₀ s hmn hw hGI since
    obtain ⟨I, hat, st, hn0⟩ := hGI
    show Seg _ A _ _ n s₀ _ ((compTurn (.GeneratorExp elt [⟨tg, iter, ifs, 0⟩] scope pos) 0 (.ref it) .none Y.env).onRaise (leaving Y.env)) [] s
    rw [compTurn_gen, Sem.onRaise_eq_wrap]
    refine seg_bind_wrap (wpAny_standAt ?_)
    have sf := stat I (pinN s.heap) hn0
    rcases turn a i m H hw with ⟨stop, fin⟩ | ⟨go, Nx, hNx, step⟩
    · refine seg_bind_wrap ?_
      rw [ov]
      refine thnF (T.done Y rfl rfl rfl hcalm i _ s _ H (fun _ _ => False) I sf st stop) fun r s1 ⟨hr, I1⟩ => ?_
      subst hr
      have hk : ∀ b ∈ C.fp, ∀ o, s.heap.get? b = some o → s1.heap.get? b = some o := fun b hb o e => (I1.pin (b, o) (List.mem_append_right _ (mem_pinsAt hb e))).1
      refine seg_end (.ok .next) ⟨rfl, a, H, I1.pins_of fun p hp => ?_, CO.keep _ _ _ hat hk, fun b hb o e => hk b hb o (since b hb o e), fin⟩
      obtain ⟨hb, e⟩ := of_pinsAt hp
      obtain ⟨o, e2, _⟩ := CO.obj _ _ hat p.1 hb
      have e3 := hk p.1 hb o e2
      rw [e] at e3
      cases e3
      exact I1.pin (p.1, p.2) (List.mem_append_right _ (mem_pinsAt hb e2))
    · refine seg_bind_wrap ?_
      rw [ov]
      refine thnF (T.item Y rfl rfl rfl hcalm i _ s _ H (fun _ _ => False) I sf st go) fun r s1 ⟨u, hr, h1⟩ => ?_
      subst hr
      refine seg_bind_wrap ?_
      rw [ov]
      refine thnF h1 fun _ s2 ⟨x, H2, I2, r2, y2, st2, n2⟩ => ?_
      have I2' := I2.pinned (stat I2 (pinN s.heap) n2) (T.obj _ _ st2)
      refine seg_bind_wrap ?_
      rw [ov]
      have xf : ∀ {β : Type} {t : Sem β} {P P' : β → Shared → Prop} {E' : Value → Shared → Prop} {z : Shared}, wpAny (model Y.prog Y.w) Y.A t P Y.xe z → (∀ a s, P a s → P' a s) → wpAny (model Y.prog Y.w) Y.A t P' E' z := fun {β t P P' E' z} q hq => by
        rw [hxe] at q
        exact thnF q hq
      refine xf (hg.run _ s2 _ H2 x u _ I2' r2 (step x H2 y2)) fun _ s3 ⟨σ3, H3, I3, q3⟩ => ?_
      refine seg_bind_wrap ?_
      rw [ov]
      refine xf (ht.run _ s3 σ3 H3 _ I3 q3) fun ok s4 ⟨H4, I4, q4⟩ => ?_
      -- what stands at a turn's end
      have fin : ∀ {s' : Shared} {H' : Hp} {σ' : L2.St}, Inv Y (pinsAt C.fp s.heap ++ pinsAt fpI s2.heap) σ' H' s' →
          GI Y C fpI tn a (i + 1) H' s' ∧ ∀ b ∈ C.fp, ∀ o, s₀.heap.get? b = some o → s'.heap.get? b = some o := fun {s' H' σ'} I' => by
        have hk : ∀ b ∈ C.fp, ∀ o, s.heap.get? b = some o → s'.heap.get? b = some o := fun b hb o e => (I'.pin (b, o) (List.mem_append_right _ (List.mem_append_left _ (mem_pinsAt hb e)))).1
        have pin' : ∀ b ∈ fpI, ∀ o, s2.heap.get? b = some o → s'.heap.get? b = some o ∧ H' b = none := fun b hb o e =>
          let z := I'.pin (b, o) (List.mem_append_right _ (List.mem_append_right _ (mem_pinsAt hb e)))
          ⟨z.1, z.2.1⟩
        have I1 : Inv Y (pinsAt C.fp s'.heap) σ' H' s' := I'.pins_of fun p hp => by
          obtain ⟨hb, e⟩ := of_pinsAt hp
          obtain ⟨o, e2, _⟩ := CO.obj _ _ hat p.1 hb
          have e3 := hk p.1 hb o e2
          rw [e] at e3
          cases e3
          exact I'.pin (p.1, p.2) (List.mem_append_right _ (List.mem_append_left _ (mem_pinsAt hb e2)))
        refine ⟨⟨I1.weak (by rw [I1.len, List.length_replicate]) fun j v e => (nones_some e).elim, CO.keep _ _ _ hat hk, T.keep _ _ _ st2 fun b hb o e => (pin' b hb o e).1, fun b hb => ?_⟩, fun b hb o e => hk b hb o (since b hb o e)⟩
        obtain ⟨o, e, _⟩ := T.obj _ _ st2 b hb
        exact (pin' b hb o e).2
      cases ok with
      | false =>
        simp only [Bool.false_eq_true, if_false] at q4 ⊢
        obtain ⟨f1, f2⟩ := fin I4
        obtain ⟨m', hm', w'⟩ := hNx a H4 q4
        exact seg_again rfl (ih m' hm' a (i + 1) n H4 s₀ s4 (by omega) w' f1 f2)
      | true =>
        simp only [if_true] at q4 ⊢
        obtain ⟨n', rfl⟩ : ∃ n', n = n' + 1 := ⟨n - 1, by omega⟩
        have hy : ∀ v, yieldOut Y.env v = yieldValue v := fun v => by simp only [yieldOut, hco, Bool.false_eq_true, if_false]
        simp only [hy]
        rw [Sem.bind_eq_wrap', Sem.bind_eq_wrap', Sem.wrap_wrap, Sem.wrap_wrap]
        refine seg_wrap ?_
        rw [ov]
        refine xf (he.run _ s4 σ3 H4 _ I4 q4) fun y s5 ⟨yv, H5, I5, r5, o5⟩ => ?_
        obtain ⟨f1, f2⟩ := fin I5
        refine seg_at (seg_yield rfl rfl rfl ⟨a, i + 1, H5, yv, Nx, r5, f1, o5, f2, fun a' s'' hGI' hN' => ?_⟩)
        obtain ⟨m', hm', w'⟩ := hNx a' H5 hN'
        exact seg_again rfl (ih m' hm' a' (i + 1) n' H5 s'' s'' (by omega) w' hGI' fun _ _ _ e => e)

/-- .. and its start -/
theorem seg_start (CO : ConOk C) (hcalm : Y.calm = true) (T : Turn Y.prog Y.w Y.K tg J fpI it tn) (hg : PG Y tg g) (ht : PTs Y ifs tt) (he : PE Y elt te) (hA : A.deeper Y.env = Y.A)
    (hex : ∀ b ∈ fpI, b ∈ Y.ex) (hdis : ∀ b ∈ C.fp, b ∉ fpI) (hpn : ∀ p ∈ Y.pn, p.1 ∉ fpI) (hxe : Y.xe = fun _ _ => False) (hco : Y.env.scope.isCoroutine = false) (turn : TurnOf J Y.N.length g tt te Out Fin W)
    (m : Nat) (a : α) (n : Nat) (H : Hp) (s : Shared) (hm : m < n) (hw : W a 0 m H) (hGI : GI Y C fpI tn a 0 H s) :
      Seg (model Y.prog Y.w) A (GRr Y C Fin) (GP Y C fpI tn Out) n s (.compStart (.GeneratorExp elt [⟨tg, iter, ifs, 0⟩] scope pos) 0 (.ref it) .none Y.env)
        ((model Y.prog Y.w).den (.compStart (.GeneratorExp elt [⟨tg, iter, ifs, 0⟩] scope pos) 0 (.ref it) .none Y.env)) [] s := by
  have loop := seg_loop (iter := iter) (scope := scope) (pos := pos) CO hcalm T hg ht he hA hex hdis hpn hxe hco turn m a 0 n H s s hm hw hGI fun _ _ _ e => e
  show Seg _ A _ _ _ s _ ((compStart (.GeneratorExp elt [⟨tg, iter, ifs, 0⟩] scope pos) 0 (.ref it) .none Y.env).onRaise (leaving Y.env)) [] s
  unfold compStart
  rw [Sem.onRaise_eq_wrap]
  show Seg _ A _ _ _ s _ ((ask >>= _).wrap _ _ _ _) [] s
  refine seg_bind_wrap (wpAny_askSetting ?_)
  split
  · exact seg_again rfl loop
  · first
      | exact seg_bind_wrap (wpAny_rule (seg_bind_wrap (wpAny_standAt (seg_bind_wrap (T.self _ 0 s _ _ hGI.2.2.1 (seg_again rfl loop))))))
      | (refine seg_bind_wrap (wpAny_rule ?_); show Seg _ A _ _ _ s _ ((standAt iter.pos >>= _).wrap _ _ _ _) [] s; exact seg_bind_wrap (wpAny_standAt (seg_bind_wrap (T.self _ 0 s _ _ hGI.2.2.1 (seg_again rfl loop)))))

theorem repin {a : α} {h : Heap} {σ : L2.St} {H : Hp} {s' : Shared} (CO : ConOk C) (hat : C.at_ a h) (I : Inv Y (pinsAt C.fp h) σ H s') (hk : ∀ b ∈ C.fp, ∀ o, h.get? b = some o → s'.heap.get? b = some o) :
    Inv Y (pinsAt C.fp s'.heap) σ H s' := I.pins_of fun p hp => by
  obtain ⟨hb, e⟩ := of_pinsAt hp
  obtain ⟨o, e2, _⟩ := CO.obj _ _ hat p.1 hb
  have e3 := hk p.1 hb o e2
  rw [e] at e3
  cases e3
  exact I.pin (p.1, p.2) (List.mem_append_right _ (mem_pinsAt hb e2))

/-- one item of such a generator -/
theorem next_ge {A : Around} {ga : Addr} {go : Obj} {g i n : Nat} {gs : GenState} {a : α} {H : Hp} {Nx : α → Hp → Prop} {s : Shared} {Q : Option Value → Shared → Prop} {E : Value → Shared → Prop}
    (CO : ConOk C) (hh : A.handled = none) (hd : A.depth < recursionLimit) (hpn : (ga, go) ∈ Y.pn) (hgo : ∀ h : Heap, h.get? ga = some go → h.IsGen ga g) (hgs : s.gens[g]? = some gs)
    (gi : GI Y C fpI tn a i H s) (hN : Nx a H)
    (goes : ∀ a' s'', GI Y C fpI tn a' i H s'' → Nx a' H → gs.Goes (model Y.prog Y.w) A.in1 (GRr Y C Fin) (GP Y C fpI tn Out) n (.send .none) s'')
    (hsome : ∀ i1 H1 y v Nx1 s1 gs1, RelV y v → GI Y C fpI tn a i1 H1 s1 → Out a y H1 Nx1 → s1.gens[g]? = some gs1 →
      GoOn (model Y.prog Y.w) A.in1 (GRr Y C Fin) (GP Y C fpI tn Out) (fun a' s'' => GI Y C fpI tn a' i1 H1 s'') (fun a' => Nx1 a' H1) gs1 n → Q (some v) s1)
    (hnone : ∀ H1 s1, Inv Y (pinsAt C.fp s1.heap) (nones Y.N.length) H1 s1 → C.at_ a s1.heap → Fin a H1 → Q none s1) :
    wpAny (model Y.prog Y.w) A (pyNext (.ref ga)) Q E s := by
  obtain ⟨I, hat, st, hn0⟩ := id gi
  have hlt : g < s.gens.size := by
    rcases Nat.lt_or_ge g s.gens.size with h' | h'
    · exact h'
    · rw [Array.getElem?_eq_none h'] at hgs; cases hgs
  refine wpAny_gsz (n := g + 1) hlt ?_
  have gi' : GI Y C fpI tn a i H (s.setGen g .running) := ⟨Inv.gensG I (bare_setGen I.bare rfl), hat, st, hn0⟩
  have hig : s.heap.IsGen ga g := hgo _ (I.pin (ga, go) (List.mem_append_left _ hpn)).1
  refine wpAny_pyNext_genexpQ (P := GF Y C Fin) (Y := GP Y C fpI tn Out) hh I.nolimit hd hig hgs (goes a _ gi' hN) (fun v s1 gs1 hb hv => ?_) (fun s1 hp h' hk => ?_)
  · obtain ⟨a1, i1, H1, y, Nx1, rv, gi1, o1, since, kap⟩ := hv
    have hat1 : C.at_ a s1.heap := CO.keep _ _ _ hat since
    have ea : a1 = a := CO.inj _ _ _ gi1.2.1 hat1
    subst ea
    intro hsz
    have hlt1 : g < s1.gens.size := by
      rw [setGen_size] at hsz
      exact hsz
    have gi2 : GI Y C fpI tn a1 i1 H1 (s1.setGen g gs1) := ⟨Inv.gensG gi1.1 (bare_setGen gi1.1.bare hb), gi1.2.1, gi1.2.2.1, gi1.2.2.2⟩
    refine hsome i1 H1 y v Nx1 _ gs1 rv gi2 o1 (by simp [Shared.setGen, hlt1]) ?_
    cases n with
    | zero => exact fun a' s'' q1 q2 => kap a' s'' q1 q2
    | succ n1 => exact fun a' s'' q1 q2 => kap a' s'' q1 q2
  · obtain ⟨a1, H1, I1, hat1, since, fin⟩ := hp
    have ea : a1 = a := CO.inj _ _ _ hat1 (CO.keep _ _ _ hat since)
    subst ea
    intro _
    have I2 : Inv Y (pinsAt C.fp s1.heap) (nones Y.N.length) H1 { s1.setGen g .finished with heap := h' } := (Inv.gensG I1 (bare_setGen (x := .finished) (g := g) I1.bare rfl)).kept (t' := s1.toks) hk
    exact hnone H1 _ (repin CO hat1 I2 fun b _ o e => hk b o e) (CO.keep _ _ _ hat1 fun b _ o e => hk b o e) fin
end
end

section
variable {Y : Cx} {fpI : List Addr} {tn : Nat → Heap → Prop}
def outAll (QB : Bool → Hp → Prop) : Unit → V → Hp → (Unit → Hp → Prop) → Prop := fun _ y H Nx => ∃ c, y = .bl c ∧ if c = true then Nx () H else QB false H
def outAny (QB : Bool → Hp → Prop) : Unit → V → Hp → (Unit → Hp → Prop) → Prop := fun _ y H Nx => ∃ c, y = .bl c ∧ if c = true then QB true H else Nx () H
theorem all_loop {A : Around} {ga : Addr} {go : Obj} {g : Nat} {QB : Bool → Hp → Prop} {R : Result → Shared → Prop} (hh : A.handled = none) (hd : A.depth < recursionLimit) (hpn : (ga, go) ∈ Y.pn) (hgo : ∀ h : Heap, h.get? ga = some go → h.IsGen ga g)
    (hR : ∀ b s' H', Inv Y [] (nones Y.N.length) H' s' → QB b H' → R (.ok (.ret (.bool b))) s') :
    ∀ (n i : Nat) (H : Hp) (Nx : Unit → Hp → Prop) (s : Shared) (gs : GenState), s.gens[g]? = some gs → GI Y conU fpI tn () i H s → Nx () H →
      (∀ a' s'', GI Y conU fpI tn a' i H s'' → Nx a' H → gs.Goes (model Y.prog Y.w) A.in1.in1 (GRr Y conU fun _ H => QB true H) (GP Y conU fpI tn (outAll QB)) n (.send .none) s'') →
      codeAny (model Y.prog Y.w) A (.builtin "all.loop" ⟨[.ref ga], []⟩) R s := by
  intro n
  induction n with
  | zero =>
    intro i H Nx s gs hgs gi hN goes
    refine codeAny_builtin F.entry_all_loop ?_
    rw [Around.under_plainId F.plain_all_loop _]
    show wpAny _ A.in1 (pyNext (.ref ga) >>= _) _ _ s
    refine wpAny_bind (next_ge (A := A.in1) conU_ok hh hd hpn hgo hgs gi hN goes (fun i1 H1 y v Nx1 s1 gs1 rv gi1 o1 hg1 go1 => ?_) (fun H1 s1 I1 _ fin => ?_))
    · obtain ⟨c, rfl, hc⟩ := o1
      cases (show v = Value.bool c from rv)
      refine wpAny_bind (wpAny_holding (wpAny_truthy_bool ?_))
      refine wpAny_bind (wpAny_letGo ?_)
      cases c with
      | true => exact (go1 () s1 gi1 hc).elim
      | false =>
        simp only [Bool.false_eq_true, if_false]
        exact wpAny_bind (wpAny_rule (wpAny_pure (hR false s1 H1 gi1.1 hc)))
    · exact wpAny_bind (wpAny_rule (wpAny_pure (hR true s1 H1 I1 fin)))
  | succ n ih =>
    intro i H Nx s gs hgs gi hN goes
    refine codeAny_builtin F.entry_all_loop ?_
    rw [Around.under_plainId F.plain_all_loop _]
    show wpAny _ A.in1 (pyNext (.ref ga) >>= _) _ _ s
    refine wpAny_bind (next_ge (A := A.in1) conU_ok hh hd hpn hgo hgs gi hN goes (fun i1 H1 y v Nx1 s1 gs1 rv gi1 o1 hg1 go1 => ?_) (fun H1 s1 I1 _ fin => ?_))
    · obtain ⟨c, rfl, hc⟩ := o1
      cases (show v = Value.bool c from rv)
      refine wpAny_bind (wpAny_holding (wpAny_truthy_bool ?_))
      refine wpAny_bind (wpAny_letGo ?_)
      cases c with
      | true =>
        simp only [if_true]
        exact wpAny_pure ⟨plainId_quiet F.plain_all_loop _, ih i1 H1 Nx1 s1 gs1 hg1 gi1 hc go1⟩
      | false =>
        simp only [Bool.false_eq_true, if_false]
        exact wpAny_bind (wpAny_rule (wpAny_pure (hR false s1 H1 gi1.1 hc)))
    · exact wpAny_bind (wpAny_rule (wpAny_pure (hR true s1 H1 I1 fin)))
theorem any_loop {A : Around} {ga : Addr} {go : Obj} {g : Nat} {QB : Bool → Hp → Prop} {R : Result → Shared → Prop} (hh : A.handled = none) (hd : A.depth < recursionLimit) (hpn : (ga, go) ∈ Y.pn) (hgo : ∀ h : Heap, h.get? ga = some go → h.IsGen ga g)
    (hR : ∀ b s' H', Inv Y [] (nones Y.N.length) H' s' → QB b H' → R (.ok (.ret (.bool b))) s') :
    ∀ (n i : Nat) (H : Hp) (Nx : Unit → Hp → Prop) (s : Shared) (gs : GenState), s.gens[g]? = some gs → GI Y conU fpI tn () i H s → Nx () H →
      (∀ a' s'', GI Y conU fpI tn a' i H s'' → Nx a' H → gs.Goes (model Y.prog Y.w) A.in1.in1 (GRr Y conU fun _ H => QB false H) (GP Y conU fpI tn (outAny QB)) n (.send .none) s'') →
      codeAny (model Y.prog Y.w) A (.builtin "any.loop" ⟨[.ref ga], []⟩) R s := by
  intro n
  induction n with
  | zero =>
    intro i H Nx s gs hgs gi hN goes
    refine codeAny_builtin F.entry_any_loop ?_
    rw [Around.under_plainId F.plain_any_loop _]
    show wpAny _ A.in1 (pyNext (.ref ga) >>= _) _ _ s
    refine wpAny_bind (next_ge (A := A.in1) conU_ok hh hd hpn hgo hgs gi hN goes (fun i1 H1 y v Nx1 s1 gs1 rv gi1 o1 hg1 go1 => ?_) (fun H1 s1 I1 _ fin => ?_))
    · obtain ⟨c, rfl, hc⟩ := o1
      cases (show v = Value.bool c from rv)
      refine wpAny_bind (wpAny_holding (wpAny_truthy_bool ?_))
      refine wpAny_bind (wpAny_letGo ?_)
      cases c with
      | false => exact (go1 () s1 gi1 hc).elim
      | true =>
        simp only [if_true]
        exact wpAny_bind (wpAny_rule (wpAny_pure (hR true s1 H1 gi1.1 hc)))
    · exact wpAny_bind (wpAny_rule (wpAny_pure (hR false s1 H1 I1 fin)))
  | succ n ih =>
    intro i H Nx s gs hgs gi hN goes
    refine codeAny_builtin F.entry_any_loop ?_
    rw [Around.under_plainId F.plain_any_loop _]
    show wpAny _ A.in1 (pyNext (.ref ga) >>= _) _ _ s
    refine wpAny_bind (next_ge (A := A.in1) conU_ok hh hd hpn hgo hgs gi hN goes (fun i1 H1 y v Nx1 s1 gs1 rv gi1 o1 hg1 go1 => ?_) (fun H1 s1 I1 _ fin => ?_))
    · obtain ⟨c, rfl, hc⟩ := o1
      cases (show v = Value.bool c from rv)
      refine wpAny_bind (wpAny_holding (wpAny_truthy_bool ?_))
      refine wpAny_bind (wpAny_letGo ?_)
      cases c with
      | false =>
        simp only [Bool.false_eq_true, if_false]
        exact wpAny_pure ⟨plainId_quiet F.plain_any_loop _, ih i1 H1 Nx1 s1 gs1 hg1 gi1 hc go1⟩
      | true =>
        simp only [if_true]
        exact wpAny_bind (wpAny_rule (wpAny_pure (hR true s1 H1 gi1.1 hc)))
    · exact wpAny_bind (wpAny_rule (wpAny_pure (hR false s1 H1 I1 fin)))
end

/-! ### a generator expression is made -/
abbrev ce (X : Cx) (scope : Scope) (C : Addr) (code : Value) : Env := genEnv scope [] C code builtinsNs X.env
abbrev gx (X : Cx) (A : Around) (N : List Str) (s : Shared) (H : Hp) (cenv : Env) (fp : List Addr) (pn : List (Addr × Obj)) : Cx :=
  { X with A := A.deeper cenv, N := N, s_0 := s, H_0 := H, env := cenv, outer := X.stack, stack := cenv :: X.stack, ex := fp, fn := fun _ => false, calm := true, pn := pn, xe := fun _ _ => False }
structure GSc (scope : Scope) : Prop where
  kind : scope.kind = .function
  co : scope.isCoroutine = false
  own : ∀ y ∈ scope.names, y.2 ≠ .cell ∧ y.2 ≠ .free
  dot : scope.names.lookup (".0" : Str) = some NameKind.local
theorem cloFrom_nil {cells : List (Str × Addr)} : ∀ {names : List (Str × NameKind)} {acc : List (Str × Addr)}, (∀ y ∈ names, y.2 ≠ .free) → cloFrom cells names acc = acc
  | [], _, _ => rfl
  | (n, k) :: r, acc, h => by
    unfold cloFrom
    rw [if_neg (by simpa using h (n, k) List.mem_cons_self)]
    exact cloFrom_nil fun y hy => h y (List.mem_cons_of_mem _ hy)
theorem GSc.nocell {scope : Scope} (S : GSc scope) {x : Str} (h : scope.names.lookup x = some .cell ∨ scope.names.lookup x = some .free) : False := by
  rcases h with h | h
  · exact (S.own _ (PySem.mem_of_lookup h)).1 rfl
  · exact (S.own _ (PySem.mem_of_lookup h)).2 rfl
section
variable {X : Cx} {pins : List (Addr × Obj)} {σ : L2.St} {H : Hp} {s : Shared}
theorem ge_start {A : Around} {N : List Str} {scope : Scope} {code : Value} {fp : List Addr} {go : Obj} {G : Array GenState} {tk : Nat} {h5 : Heap} {m0 : Str → Option Value} (I : Inv X pins σ H s) (S : GSc scope) (hA : A.handled = none) (hf : A.frames = some X.stack)
    (hfp : ∀ b ∈ fp, FpOk X pins H b ∧ b < s.heap.objs.size) (hG : AllBare G) (hns : h5.Ns s.heap.objs.size m0) (hk : ∀ b o, s.heap.get? b = some o → h5.get? b = some o) (hgo : h5.get? (s.heap.objs.size + 1) = some go) (hgd : ∀ v, go.data ≠ .cell v) :
    Inv (gx X A N s H (ce X scope s.heap.objs.size code) fp [(s.heap.objs.size + 1, go)]) [] (nones N.length) H { s with gens := G, toks := tk, heap := h5 } := by
  have noc : ∀ x c, (ce X scope s.heap.objs.size code).cells.lookup x = some c → False := fun x c e => by simp [genEnv] at e
  have stkne : ∀ b, s.heap.objs.size ≤ b → b ∉ frs X.stack := fun b hb z => by
    rcases List.mem_cons.mp (I.stkSub b z) with e | e
    · exact absurd (Nat.lt_of_lt_of_le I.lt (by rw [← e]; exact hb)) (Nat.lt_irrefl _)
    · exact I.nofs hb e
  refine ⟨⟨I.ok.mod, S.kind, I.ok.glob, rfl, Nat.le_refl _, fun x y c h1 _ => (noc x c h1).elim, fun x hx => (S.nocell hx).elim, fun x c h _ => (by cases h), fun _ => hA, Around.frames_deeper hf, .inr ⟨rfl, rfl⟩, fun b hb => ⟨Nat.ne_of_lt (hfp b hb).2, fun x c e => (noc x c e).elim⟩,
    I.bs, Nat.le_trans I.ok.bsz I.sz, fun b o e hb => ?_, fun b hb z => ?_, I.stack, I.stkFree⟩, rfl, hG, Un.kept hk, ⟨m0, hns, fun i x v _ h2 _ => (nones_some h2).elim⟩, fun x c e => (noc x c e).elim, I.hok.fresh (Nat.le_refl _), fun x c e => (noc x c e).elim, fun p hp => ?_, I.hok.kept hk, List.length_replicate⟩
  · rcases (hfp b hb).1.2.2.2.1 with z | z
    · exact I.ok.noex b o e z
    · exact absurd (Nat.lt_of_lt_of_le (Heap.lt_size e) (Nat.le_trans I.ok.bsz z)) (Nat.lt_irrefl _)
  · rcases List.mem_cons.mp (I.stkSub b z) with e | e
    · exact (hfp b hb).1.2.1 e
    · exact (hfp b hb).1.2.2.1 e
  · have hp' : p ∈ [(s.heap.objs.size + 1, go)] := by simpa using hp
    rw [List.mem_singleton.mp hp']
    exact ⟨hgo, I.hok.fresh (Nat.le_succ _), Nat.succ_ne_self _, stkne _ (Nat.le_succ _), hgd⟩
/-- back in the def that asked -/
theorem ge_back {A : Around} {N : List Str} {cenv : Env} {fp : List Addr} {pn pins' : List (Addr × Obj)} {σ' : L2.St} {H' : Hp} {s' : Shared} (I : Inv X pins σ H s) (hfp : ∀ b ∈ fp, FpOk X pins H b ∧ b < s.heap.objs.size)
    (J : Inv (gx X A N s H cenv fp pn) pins' σ' H' s') : Inv X pins σ H' s' :=
  I.call' (ch := fp) J.os J.base J.hok J.bare fun b hb => ⟨(hfp b hb).1.2.2.2.1, (hfp b hb).1.2.1, (hfp b hb).1.2.2.2.2.1, (hfp b hb).1.2.2.2.2.2⟩
theorem room3 {k : Nat} {A : Around} (r : Room (k + 1) A) (env : Env) : Room k (A.in1.in1.deeper env) :=
  ⟨r.hd, by have := r.dp; show A.depth + 1 + 3 * k + 5 < _; omega, by have := r.un; show A.units + 1 + 1 + 3 + 16 * k + 200 < _; omega⟩

theorem gen_make {c P : Addr} {elt tg iter : Expr} {ifs : List Expr} {gpos : Pos} {scope : Scope} {wi : TI} {k : Nat} {Q' : Value → Shared → Prop} {R : It → Hp → Prop}
    (hr : Room k X.A) (TB : GxR.TabB X.base X.mg c P) (hcode : X.env.code = .ref c) (S : GSc scope) (hi : PI X tg iter wi) (hs : ∀ v, genFold iter X.env v = pure v) (I : Inv X pins σ H s) (h : wi σ H fun J H1 => GxR.TabG H1 P ∧ R J H1)
    (hQ : ∀ J H1 H2 s4 s5 code fp it tn go g, R J H1 → GxR.Tabbed P H1 H2 → Inv X pins σ H2 s4 → (∀ b ∈ fp, FpOk X pins H2 b ∧ b < s4.heap.objs.size) → Turn X.prog X.w X.K tg J fp it tn → tn 0 s5.heap →
      (∀ A N, A.handled = none → A.frames = some X.stack → Inv (gx X A N s4 H2 (ce X scope s4.heap.objs.size code) fp [(s4.heap.objs.size + 1, go)]) [] (nones N.length) H2 s5) →
      (∀ h : Heap, h.get? (s4.heap.objs.size + 1) = some go → h.IsGen (s4.heap.objs.size + 1) g) →
      s5.gens[g]? = some (.fresh (.compStart (.GeneratorExp elt [⟨tg, iter, ifs, 0⟩] scope gpos) 0 (.ref it) .none (ce X scope s4.heap.objs.size code))) → Q' (.ref (s4.heap.objs.size + 1)) s5) :
    wpAny (model X.prog X.w) X.A (eval (.GeneratorExp elt [⟨tg, iter, ifs, 0⟩] scope gpos) X.env) Q' X.xe s := by
  have hcl : closureFor scope X.env = pure [] := by
    rw [closure_ok fun y hy e => absurd e (S.own y hy).2, cloFrom_nil fun y hy => (S.own y hy).2]
  refine wpAny_GeneratorExp_make S.co hcl (fun y hy => (S.own y hy).1) S.dot S.kind (by have := hr.dp; omega) (thn (hi.run pins s σ H _ I h) fun xv s1 hx => thn hx fun itv s2 h2 => ?_) hs
  obtain ⟨it, fp, tn, J, H1, e, I2, T, st2, f2, ⟨ps, hP, ht⟩, q1⟩ := h2
  subst e
  have hPs : s2.heap.get? P = some { cls := .none, data := .fields ps } := I2.hok P _ hP
  have cd : PySem.W.CodeHd s2.heap c P := TB.code.keeps fun b u e => I2.bk b u e
  have nfp : ∀ b ∈ fp, b ≠ P := fun b hb z => by
    have := (f2 b hb).1
    rw [z, hP] at this
    cases this
  have szf : ∀ b ∈ fp, b < s2.heap.objs.size := fun b hb => by
    obtain ⟨o, e, _⟩ := T.obj _ _ st2 b hb
    exact Heap.lt_size e
  have cont : ∀ (code : Value) (h3 : Heap) (tk : Nat) (ps' : Array Value), Heap.ExtBut P s2.heap h3 → s2.heap.objs.size ≤ h3.objs.size → h3.get? P = some { cls := .none, data := .fields ps' } → (∃ more, ps' = ps ++ more) → TriplesOk ps'.toList →
      wpAny (model X.prog X.w) X.A (builtinsFor X.env.globals X.env.builtins) (fun bi s4 =>
        ∀ h', h'.Ns s4.heap.objs.size (fun y => if y = ".0" then some (.ref it) else none) → Heap.SameBut s4.heap.objs.size (s4.heap.push { cls := .type "frame", data := .dict #[] }) h' →
          Q' (.ref h'.objs.size) { s4 with
            gens := s4.gens.push (.fresh (.compStart (.GeneratorExp elt [⟨tg, iter, ifs, 0⟩] scope gpos) 0 (.ref it) .none (genEnv scope [] s4.heap.objs.size code bi X.env))),
            toks := s4.toks + 1 + 1 + 1,
            heap := h'.push { cls := .type "generator", data := .fields #[.int s4.gens.size 0, .str "<genexpr>" (s4.toks + 1), .str (X.env.qual ++ "<genexpr>") (s4.toks + 1 + 1)] } }) X.xe { s2 with heap := h3, toks := tk } := by
    intro code h3 tk ps' hx hsz hP3 hmore ht3
    obtain ⟨bm, ob, e1, e2, e3, e4, e5, e6, e7, e8⟩ := TB.bm
    obtain ⟨more, rfl⟩ := hmore
    have I3 : Inv X pins σ (upd H1 P (.tbl (ps ++ more))) { s2 with heap := h3, toks := tk } := GxR.inv_tab (more := more) (g' := s2.gens) (d' := s2.drawn) I2 hP (fun b u hb e => hx b u hb e) hP3 I2.bare
    have tab : GxR.Tabbed P H1 (upd H1 P (.tbl (ps ++ more))) := ⟨⟨_, upd_same, ht3⟩, fun b hb => upd_ne hb⟩
    have st3 : tn 0 h3 := T.keep _ _ _ st2 fun b hb o e => hx b o (nfp b hb) e
    have f3 : ∀ b ∈ fp, FpOk X pins (upd H1 P (.tbl (ps ++ more))) b ∧ b < h3.objs.size := fun b hb =>
      ⟨⟨by rw [upd_ne (nfp b hb)]; exact (f2 b hb).1, (f2 b hb).2⟩, Nat.lt_of_lt_of_le (szf b hb) hsz⟩
    refine wpAny_builtinsFor (m := X.mg) (by rw [I3.ok.glob]; exact I3.mod.glob.keeps I3.bk) e1 e2 (I3.bk _ _ e5) e6 e7 e8 ?_
    intro h' hns hsb
    have hsz' : h'.objs.size = h3.objs.size + 1 := by rw [hsb.1, Heap.size_push]
    have keep' : ∀ b o, h3.get? b = some o → h'.get? b = some o := fun b o e => hsb.extBut b o (Nat.ne_of_lt (Heap.lt_size e)) (Heap.get?_push_of_some _ e)
    have main : ∀ (go : Obj), go.cls = .type "generator" → (∃ nm qn, go.data = .fields #[.int s2.gens.size 0, nm, qn]) → go.slots = #[] → (∀ h : Heap, (h.push go).get? h.objs.size = some go) → ∀ t',
        Q' (.ref h'.objs.size) { s2 with heap := h'.push go, toks := t', gens := s2.gens.push (.fresh (.compStart (.GeneratorExp elt [⟨tg, iter, ifs, 0⟩] scope gpos) 0 (.ref it) .none (genEnv scope [] h3.objs.size code builtinsNs X.env))) } := by
      intro go gc ⟨nm, qn, gd⟩ gsl gp t'
      have hgp := gp h'
      rw [hsz'] at hgp ⊢
      have keep5 : ∀ b o, h3.get? b = some o → (h'.push go).get? b = some o := fun b o e => Heap.get?_push_of_some _ (keep' b o e)
      refine hQ J H1 (upd H1 P (.tbl (ps ++ more))) { s2 with heap := h3, toks := tk } _ code fp it tn go s2.gens.size q1 tab I3 f3 T (T.keep _ _ _ st3 fun b _ o e => keep5 b o e) (fun A N hA hf => ?_) (fun h e => ⟨go, nm, qn, e, gc, gd, gsl⟩) (Array.getElem?_push_size ..)
      exact ge_start (s := { s2 with heap := h3, toks := tk }) I3 S hA hf f3 (I2.bare.push rfl) (hns.push _) keep5 hgp (fun v z => by rw [gd] at z; cases z)
    exact main _ rfl ⟨_, _, rfl⟩ rfl (fun h => Heap.get?_push_size _ rfl) _
  refine ⟨I2.nolimit, ?_⟩
  cases hf : codeAmong gpos ps.toList with
  | none =>
    refine wpAny_genexprCodeX hcode (cd.code hPs ht) (cd.tab hPs) hf fun c' h' tk hx hge hlt hco' _ htab' _ => ?_
    obtain ⟨o1, vs, f1, tf, fl, tg', inF, tx, tt, op, _, _, _, _, _, _, _, _, _, htr, _⟩ := hco'
    exact cont _ h' tk _ hx (Nat.le_trans hge (Nat.le_of_lt hlt)) htab'.2 ⟨_, rfl⟩ htr
  | some cv =>
    refine wpAny_genexprCode_hit hcode (cd.code hPs ht) hf ?_
    exact cont cv s2.heap s2.toks ps (Heap.ExtBut.refl _ _) (Nat.le_refl _) hPs ⟨#[], by simp⟩ ht

/-! ### all and any of one -/
def tGen (P : Addr) (n0 : Nat) (wi : TI) (g : TG) (tt : TT) (te : TE) (Out : (Bool → Hp → Prop) → Unit → V → Hp → (Unit → Hp → Prop) → Prop) (fin : Bool) : TE := fun σ H Q => wi σ H fun J H1 => GxR.TabG H1 P ∧ ∀ H2, GxR.Tabbed P H1 H2 →
  ∃ W : Unit → Nat → Nat → Hp → Prop, (∃ m, W () 0 m H2) ∧ TurnOf J n0 g tt te (Out fun b H => Q (.bl b) H) (fun _ H => Q (.bl fin) H) W
theorem pe_allG {N : List Str} {c P : Addr} {elt tg iter : Expr} {ifs : List Expr} {p pos gpos : Pos} {scope : Scope} {wi : TI} {g : TG} {tt : TT} {te : TE} {k : Nat}
    (hr : Room (k + 1) X.A) (hgl : Gl X "all") (hm : X.mg "all" = none) (TB : GxR.TabB X.base X.mg c P) (hcode : X.env.code = .ref c) (S : GSc scope) (hi : PI X tg iter wi)
    (hg : ∀ (A : Around) (s : Shared) (H : Hp) (C : Addr) (code : Value) (fp : List Addr) (pn : List (Addr × Obj)), Room k (A.deeper (ce X scope C code)) → PG (gx X A N s H (ce X scope C code) fp pn) tg g)
    (ht : ∀ (A : Around) (s : Shared) (H : Hp) (C : Addr) (code : Value) (fp : List Addr) (pn : List (Addr × Obj)), Room k (A.deeper (ce X scope C code)) → PTs (gx X A N s H (ce X scope C code) fp pn) ifs tt)
    (he : ∀ (A : Around) (s : Shared) (H : Hp) (C : Addr) (code : Value) (fp : List Addr) (pn : List (Addr × Obj)), Room k (A.deeper (ce X scope C code)) → PE (gx X A N s H (ce X scope C code) fp pn) elt te)
    (hs : ∀ v, genFold iter X.env v = pure v := by intro _; rfl)
    (hb : bootBuiltins "all" = some (.builtin "all") := by decide +kernel)
    (hst : starEach [.GeneratorExp elt [⟨tg, iter, ifs, 0⟩] scope gpos] X.env = (false, eval (.GeneratorExp elt [⟨tg, iter, ifs, 0⟩] scope gpos) X.env) :: starEach [] X.env := by rfl) :
    PE X (.Call (.Name "all" p) [.GeneratorExp elt [⟨tg, iter, ifs, 0⟩] scope gpos] [] pos) (tGen P N.length wi g tt te outAll true) := by
  refine ⟨fun pins s σ H Q I h => ?_⟩
  refine wpAny_Call_Name_kw (ld_blt I hgl hm hb ?_)
  refine PyProof.Rows.callWith_builtin1 ?_ hst (by rfl)
  rw [hst]
  show wpAny _ _ (spliced ((false, eval (.GeneratorExp elt [⟨tg, iter, ifs, 0⟩] scope gpos) X.env) :: backTo pos (starEach [] X.env))) _ _ s
  refine Calls.spliced_cons (gen_make hr TB hcode S hi hs I h fun J H1 H2 s4 s5 code fp it tn go gn hR tab I4 f4 T st5 mk hgo hgs => ?_)
  refine Calls.spliced_nil ?_
  obtain ⟨W, ⟨m0, w0⟩, turn⟩ := hR H2 tab
  have rY := room3 hr (ce X scope s4.heap.objs.size code)
  have I5 := mk X.A.in1.in1 N hr.hd I.ok.frames
  generalize hpn : [(s4.heap.objs.size + 1, go)] = pn at I5
  have hpm : (s4.heap.objs.size + 1, go) ∈ pn := by rw [← hpn]; exact List.mem_singleton.mpr rfl
  have hpf : ∀ p ∈ pn, p.1 ∉ fp := fun p hp z => by
    rw [← hpn] at hp
    rw [List.mem_singleton.mp hp] at z
    exact absurd (f4 _ z).2 (Nat.not_lt.mpr (Nat.le_succ _))
  have gi0 : GI (gx X X.A.in1.in1 N s4 H2 (ce X scope s4.heap.objs.size code) fp pn) conU fp tn () 0 H2 s5 := ⟨I5, trivial, st5, fun b hb => (f4 b hb).1.1⟩
  have isg := hgo _ (I5.pin _ (List.mem_append_left _ hpm)).1
  refine call_function_tree F.kind_all F.plain_all F.entry_all (F.args_all1 _) ?_
  unfold Builtin.«all»
  refine wpAny_bind (m := oneArg "all" _) (wpAny_pure ?_)
  refine wpAny_bind (wpAny_pyIter_gen isg ?_)
  refine wpAny_pure ⟨plainId_quiet F.plain_all_loop _, ?_⟩
  refine all_loop (Y := gx X X.A.in1.in1 N s4 H2 (ce X scope s4.heap.objs.size code) fp pn) (A := X.A) (g := gn) (QB := fun b H => Q (.bl b) H) hr.hd hr.depth hpm hgo (fun b s' H' I' q => ?_) (m0 + 1) 0 H2 (fun a H => W a 0 m0 H) s5 _ hgs gi0 w0 (fun a' s'' gi' w' => ?_)
  · exact ⟨.bl b, H', ge_back I4 f4 I', rfl, q⟩
  · exact ⟨rfl, seg_start (Y := gx X X.A.in1.in1 N s4 H2 (ce X scope s4.heap.objs.size code) fp pn) conU_ok rfl T (hg _ _ _ _ _ _ _ rY) (ht _ _ _ _ _ _ _ rY) (he _ _ _ _ _ _ _ rY) rfl (fun b hb => hb) (fun b hb => nomatch hb) hpf rfl S.co turn m0 a' (m0 + 1) H2 s'' (Nat.lt_succ_self _) w' gi'⟩
theorem pe_anyG {N : List Str} {c P : Addr} {elt tg iter : Expr} {ifs : List Expr} {p pos gpos : Pos} {scope : Scope} {wi : TI} {g : TG} {tt : TT} {te : TE} {k : Nat}
    (hr : Room (k + 1) X.A) (hgl : Gl X "any") (hm : X.mg "any" = none) (TB : GxR.TabB X.base X.mg c P) (hcode : X.env.code = .ref c) (S : GSc scope) (hi : PI X tg iter wi)
    (hg : ∀ (A : Around) (s : Shared) (H : Hp) (C : Addr) (code : Value) (fp : List Addr) (pn : List (Addr × Obj)), Room k (A.deeper (ce X scope C code)) → PG (gx X A N s H (ce X scope C code) fp pn) tg g)
    (ht : ∀ (A : Around) (s : Shared) (H : Hp) (C : Addr) (code : Value) (fp : List Addr) (pn : List (Addr × Obj)), Room k (A.deeper (ce X scope C code)) → PTs (gx X A N s H (ce X scope C code) fp pn) ifs tt)
    (he : ∀ (A : Around) (s : Shared) (H : Hp) (C : Addr) (code : Value) (fp : List Addr) (pn : List (Addr × Obj)), Room k (A.deeper (ce X scope C code)) → PE (gx X A N s H (ce X scope C code) fp pn) elt te)
    (hs : ∀ v, genFold iter X.env v = pure v := by intro _; rfl)
    (hst : starEach [.GeneratorExp elt [⟨tg, iter, ifs, 0⟩] scope gpos] X.env = (false, eval (.GeneratorExp elt [⟨tg, iter, ifs, 0⟩] scope gpos) X.env) :: starEach [] X.env := by rfl) :
    PE X (.Call (.Name "any" p) [.GeneratorExp elt [⟨tg, iter, ifs, 0⟩] scope gpos] [] pos) (tGen P N.length wi g tt te outAny false) := by
  refine ⟨fun pins s σ H Q I h => ?_⟩
  refine wpAny_Call_Name_kw (ld_blt I hgl hm boot_any ?_)
  refine PyProof.Rows.callWith_builtin1 ?_ hst (by rfl)
  rw [hst]
  show wpAny _ _ (spliced ((false, eval (.GeneratorExp elt [⟨tg, iter, ifs, 0⟩] scope gpos) X.env) :: backTo pos (starEach [] X.env))) _ _ s
  refine Calls.spliced_cons (gen_make hr TB hcode S hi hs I h fun J H1 H2 s4 s5 code fp it tn go gn hR tab I4 f4 T st5 mk hgo hgs => ?_)
  refine Calls.spliced_nil ?_
  obtain ⟨W, ⟨m0, w0⟩, turn⟩ := hR H2 tab
  have rY := room3 hr (ce X scope s4.heap.objs.size code)
  have I5 := mk X.A.in1.in1 N hr.hd I.ok.frames
  generalize hpn : [(s4.heap.objs.size + 1, go)] = pn at I5
  have hpm : (s4.heap.objs.size + 1, go) ∈ pn := by rw [← hpn]; exact List.mem_singleton.mpr rfl
  have hpf : ∀ p ∈ pn, p.1 ∉ fp := fun p hp z => by
    rw [← hpn] at hp
    rw [List.mem_singleton.mp hp] at z
    exact absurd (f4 _ z).2 (Nat.not_lt.mpr (Nat.le_succ _))
  have gi0 : GI (gx X X.A.in1.in1 N s4 H2 (ce X scope s4.heap.objs.size code) fp pn) conU fp tn () 0 H2 s5 := ⟨I5, trivial, st5, fun b hb => (f4 b hb).1.1⟩
  have isg := hgo _ (I5.pin _ (List.mem_append_left _ hpm)).1
  refine call_function_tree F.kind_any F.plain_any F.entry_any (F.args_any1 _) ?_
  unfold Builtin.«any»
  refine wpAny_bind (m := oneArg "any" _) (wpAny_pure ?_)
  refine wpAny_bind (wpAny_pyIter_gen isg ?_)
  refine wpAny_pure ⟨plainId_quiet F.plain_any_loop _, ?_⟩
  refine any_loop (Y := gx X X.A.in1.in1 N s4 H2 (ce X scope s4.heap.objs.size code) fp pn) (A := X.A) (g := gn) (QB := fun b H => Q (.bl b) H) hr.hd hr.depth hpm hgo (fun b s' H' I' q => ?_) (m0 + 1) 0 H2 (fun a H => W a 0 m0 H) s5 _ hgs gi0 w0 (fun a' s'' gi' w' => ?_)
  · exact ⟨.bl b, H', ge_back I4 f4 I', rfl, q⟩
  · exact ⟨rfl, seg_start (Y := gx X X.A.in1.in1 N s4 H2 (ce X scope s4.heap.objs.size code) fp pn) conU_ok rfl T (hg _ _ _ _ _ _ _ rY) (ht _ _ _ _ _ _ _ rY) (he _ _ _ _ _ _ _ rY) rfl (fun b hb => hb) (fun b hb => nomatch hb) hpf rfl S.co turn m0 a' (m0 + 1) H2 s'' (Nat.lt_succ_self _) w' gi'⟩

/-! ### sum of one -/
def sumObj (a : Int) (t : Tok) (c : Nat) : Obj := { cls := .type "list", dict := none, data := .seq #[.int a t] c, slots := #[] }
def conS (S : Addr) : Con Int := ⟨[S], fun a h => ∃ t c, h.get? S = some (sumObj a t c)⟩
theorem conS_ok (S : Addr) : ConOk (conS S) :=
  ⟨(fun a h ⟨t, c, e⟩ b hb => by
      rw [List.mem_singleton.mp hb]
      exact ⟨_, e, fun v z => by cases z⟩),
   (fun a h h' ⟨t, c, e⟩ k => ⟨t, c, k S (List.mem_singleton.mpr rfl) _ e⟩),
   (fun a b h ⟨t, c, e⟩ ⟨t', c', e'⟩ => by
      rw [e] at e'
      have z : Data.seq #[Value.int a t] c = Data.seq #[Value.int b t'] c' := congrArg Obj.data (Option.some.inj e')
      injection z with z1 _
      have z2 : [Value.int a t] = [Value.int b t'] := congrArg Array.toList z1
      injection z2 with z3 _
      injection z3)⟩
def outSum : Int → V → Hp → (Int → Hp → Prop) → Prop := fun a y H Nx => ∃ v, y = .int v ∧ Nx (a + v) H
structure ApS (Y : Cx) (S : Addr) : Prop where
  young : Y.s_0.heap.objs.size ≤ S
  loc : S ≠ Y.env.locals
  cell : ∀ x c, Y.env.cells.lookup x = some c → c ≠ S
  pn : ∀ p ∈ Y.pn, p.1 ≠ S
theorem gi_upd {Y : Cx} {fpI : List Addr} {tn : Nat → Heap → Prop} {S : Addr} {a v : Int} {i : Nat} {H : Hp} {s : Shared} {tk : Nat} {h' : Heap} {t : Tok} {c : Nat} (hSf : S ∉ fpI) (ap : ApS Y S) (keepT : ∀ i h h', tn i h → (∀ b ∈ fpI, ∀ o, h.get? b = some o → h'.get? b = some o) → tn i h')
    (gi : GI Y (conS S) fpI tn a i H s) (hk : ∀ b o, b ≠ S → s.heap.get? b = some o → h'.get? b = some o) (hS : h'.get? S = some (sumObj v t c)) : GI Y (conS S) fpI tn v i H { s with heap := h', toks := tk } := by
  obtain ⟨I, ⟨t0, c0, e0⟩, st, hn⟩ := gi
  obtain ⟨_, p2, p3, p4, _⟩ := I.pin (S, sumObj a t0 c0) (List.mem_append_right _ (mem_pinsAt (List.mem_singleton.mpr rfl) e0))
  have I0 : Inv Y [] (nones Y.N.length) H s := I.pins_of fun p hp => by cases hp
  have I1 : Inv Y [] (nones Y.N.length) H { s with heap := h', toks := tk } := I0.turned (it := S) (fun b o hb e => hk b o hb e) p2 p3 (.inr ap.young) ap.cell fun p hp => (List.mem_append.mp hp).elim (fun z => ap.pn p z) fun z => by cases z
  refine ⟨I1.pins_of fun p hp => ?_, ⟨t, c, hS⟩, keepT _ _ _ st fun b hb o e => hk b o (fun z => hSf (z ▸ hb)) e, hn⟩
  obtain ⟨hb, e⟩ := of_pinsAt hp
  have eS : p.1 = S := List.mem_singleton.mp hb
  rw [eS] at e ⊢
  have e' : h'.get? S = some p.2 := e
  rw [hS] at e'
  refine ⟨e, p2, p3, p4, fun v z => ?_⟩
  rw [← Option.some.inj e'] at z
  cases z
theorem sum_loop {Y : Cx} {fpI : List Addr} {tn : Nat → Heap → Prop} {A : Around} {ga : Addr} {go : Obj} {g : Nat} {S : Addr} {QI : Int → Hp → Prop} {R : Result → Shared → Prop} (hSf : S ∉ fpI) (ap : ApS Y S) (keepT : ∀ i h h', tn i h → (∀ b ∈ fpI, ∀ o, h.get? b = some o → h'.get? b = some o) → tn i h')
    (hh : A.handled = none) (hd : A.depth < recursionLimit) (hpn : (ga, go) ∈ Y.pn) (hgo : ∀ h : Heap, h.get? ga = some go → h.IsGen ga g)
    (hR : ∀ a t' s' H', Inv Y [] (nones Y.N.length) H' s' → QI a H' → R (.ok (.ret (.int a t'))) s') :
    ∀ (n i : Nat) (H : Hp) (Nx : Int → Hp → Prop) (s : Shared) (gs : GenState) (a : Int) (t : Tok) (c : Nat) (st : Int), (st = 0 ∨ st = 2) → s.gens[g]? = some gs → GI Y (conS S) fpI tn a i H s → s.heap.get? S = some (sumObj a t c) → Nx a H →
      (∀ a' s'', GI Y (conS S) fpI tn a' i H s'' → Nx a' H → gs.Goes (model Y.prog Y.w) A.in1.in1 (GRr Y (conS S) QI) (GP Y (conS S) fpI tn outSum) n (.send .none) s'') →
      codeAny (model Y.prog Y.w) A (.builtin "sum.loop" ⟨[.ref ga, .ref S, rawInt st, rawInt 0], []⟩) R s := by
  -- what a turn comes to, the loop going on or not
  have turn : ∀ (n i : Nat) (H : Hp) (Nx : Int → Hp → Prop) (s : Shared) (gs : GenState) (a : Int) (t : Tok) (c : Nat) (st : Int), (st = 0 ∨ st = 2) → s.gens[g]? = some gs → GI Y (conS S) fpI tn a i H s → s.heap.get? S = some (sumObj a t c) → Nx a H →
      (∀ a' s'', GI Y (conS S) fpI tn a' i H s'' → Nx a' H → gs.Goes (model Y.prog Y.w) A.in1.in1 (GRr Y (conS S) QI) (GP Y (conS S) fpI tn outSum) n (.send .none) s'') →
      (∀ (i1 : Nat) (H1 : Hp) (Nx1 : Int → Hp → Prop) (s1 : Shared) (gs1 : GenState) (b : Int) (t1 : Tok) (c1 : Nat) (st1 : Int), (st1 = 0 ∨ st1 = 2) → s1.gens[g]? = some gs1 → GI Y (conS S) fpI tn b i1 H1 s1 → s1.heap.get? S = some (sumObj b t1 c1) → Nx1 b H1 →
        GoOn (model Y.prog Y.w) A.in1.in1 (GRr Y (conS S) QI) (GP Y (conS S) fpI tn outSum) (fun a' s'' => GI Y (conS S) fpI tn a' i1 H1 s'') (fun a' => Nx1 a' H1) gs1 n →
        codeAny (model Y.prog Y.w) A (.builtin "sum.loop" ⟨[.ref ga, .ref S, rawInt st1, rawInt 0], []⟩) R s1) →
      codeAny (model Y.prog Y.w) A (.builtin "sum.loop" ⟨[.ref ga, .ref S, rawInt st, rawInt 0], []⟩) R s := by
    intro n i H Nx s gs a t c st hst2 hgs gi hS hN goes again
    refine codeAny_builtin F.entry_sum_loop ?_
    rw [Around.under_plainId F.plain_sum_loop _]
    show wpAny _ A.in1 (seqItems? (.ref S) >>= _) _ _ s
    refine wpAny_bind (wpAny_seqItems hS rfl ?_)
    show wpAny _ A.in1 (tryCatch (pyNext (.ref ga)) _ >>= _) _ _ s
    refine wpAny_bind (wpAny_tryCatch (next_ge (A := A.in1) (conS_ok S) hh hd hpn hgo hgs gi hN goes (fun i1 H1 y v Nx1 s1 gs1 rv gi1 o1 hg1 go1 => ?_) (fun H1 s1 I1 _ fin => ?_)))
    · obtain ⟨v', rfl, hc⟩ := o1
      obtain ⟨t', rfl⟩ := (show ∃ t', v = Value.int v' t' from rv)
      obtain ⟨tS, cS, hS'⟩ := gi1.2.1
      rcases hst2 with rfl | rfl
      · show wpAny _ A.in1 (if (_ : Bool) = true then (mkInt (a + v') >>= _) else _) _ _ _
        split
        · refine wpAny_bind (wpAny_mkInt ?_)
          show wpAny _ A.in1 (updateSeq S (fun _ => #[.int (a + v') s1.toks]) >>= _) _ _ _
          refine wpAny_bind ?_
          refine wpAny_updateSeq hS' rfl (wpAny_pure ⟨plainId_quiet F.plain_sum_loop _, ?_⟩)
          refine again i1 H1 Nx1 _ gs1 (a + v') s1.toks _ 0 (.inl rfl) hg1 (gi_upd (t := s1.toks) (s := s1) hSf ap keepT gi1 (fun b o hb e => (Heap.get?_update_other _ _ (Ne.symm hb)).trans e) (Heap.get?_update_self _ hS' rfl)) (Heap.get?_update_self _ hS' rfl) hc go1
        · refine wpAny_bind (wpAny_rule ?_)
          refine wpAny_bind (wpAny_attempt (wpAny_holding (wpAny_add_int ?_)))
          show wpAny _ A.in1 (updateSeq S (fun _ => #[.int (a + v') s1.toks]) >>= _) _ _ _
          refine wpAny_bind (wpAny_updateSeq hS' rfl ?_)
          have hS₂ := Heap.get?_update_self (Obj.mapSeq fun _ => #[Value.int (a + v') s1.toks]) hS' rfl
          refine wpAny_bind (wpAny_letGo ?_)
          refine wpAny_bind (wpAny_updateSeq hS₂ rfl (wpAny_pure ⟨plainId_quiet F.plain_sum_loop _, ?_⟩))
          refine again i1 H1 Nx1 _ gs1 (a + v') s1.toks _ 2 (.inr rfl) hg1 (gi_upd (t := s1.toks) (s := s1) hSf ap keepT gi1 (fun b o hb e => (Heap.get?_update_other _ _ (Ne.symm hb)).trans ((Heap.get?_update_other _ _ (Ne.symm hb)).trans e)) (Heap.get?_update_self _ hS₂ rfl)) (Heap.get?_update_self _ hS₂ rfl) hc go1
      · show wpAny _ A.in1 ((holding [Value.int v' t'] (binaryOp .Add (.int a t) (.int v' t'))).attempt >>= _) _ _ _
        refine wpAny_bind (wpAny_attempt (wpAny_holding (wpAny_add_int ?_)))
        show wpAny _ A.in1 (updateSeq S (fun _ => #[.int (a + v') s1.toks]) >>= _) _ _ _
        refine wpAny_bind (wpAny_updateSeq hS' rfl ?_)
        have hS₂ := Heap.get?_update_self (Obj.mapSeq fun _ => #[Value.int (a + v') s1.toks]) hS' rfl
        refine wpAny_bind (wpAny_letGo ?_)
        refine wpAny_bind (wpAny_updateSeq hS₂ rfl (wpAny_pure ⟨plainId_quiet F.plain_sum_loop _, ?_⟩))
        refine again i1 H1 Nx1 _ gs1 (a + v') s1.toks _ 2 (.inr rfl) hg1 (gi_upd (t := s1.toks) (s := s1) hSf ap keepT gi1 (fun b o hb e => (Heap.get?_update_other _ _ (Ne.symm hb)).trans ((Heap.get?_update_other _ _ (Ne.symm hb)).trans e)) (Heap.get?_update_self _ hS₂ rfl)) (Heap.get?_update_self _ hS₂ rfl) hc go1
    · exact wpAny_pure (hR a t s1 H1 (I1.pins_of fun p hp => by cases hp) fin)
  intro n
  induction n with
  | zero => exact fun i H Nx s gs a t c st h1 h2 h3 h4 h5 h6 => turn 0 i H Nx s gs a t c st h1 h2 h3 h4 h5 h6 fun i1 H1 Nx1 s1 gs1 b t1 c1 st1 _ _ g1 _ g3 g4 => (g4 b s1 g1 g3).elim
  | succ n ih => exact fun i H Nx s gs a t c st h1 h2 h3 h4 h5 h6 => turn (n + 1) i H Nx s gs a t c st h1 h2 h3 h4 h5 h6 fun i1 H1 Nx1 s1 gs1 b t1 c1 st1 g0 g1 g2 g3 g4 g5 => ih i1 H1 Nx1 s1 gs1 b t1 c1 st1 g0 g1 g2 g3 g4 g5
def tSumG (P : Addr) (n0 : Nat) (wi : TI) (g : TG) (tt : TT) (te : TE) : TE := fun σ H Q => wi σ H fun J H1 => GxR.TabG H1 P ∧ ∀ H2, GxR.Tabbed P H1 H2 →
  ∃ W : Int → Nat → Nat → Hp → Prop, (∃ m, W 0 0 m H2) ∧ TurnOf J n0 g tt te outSum (fun a H => Q (.int a) H) W
theorem pe_sumG {N : List Str} {c P : Addr} {elt tg iter : Expr} {ifs : List Expr} {p pos gpos : Pos} {scope : Scope} {wi : TI} {g : TG} {tt : TT} {te : TE} {k : Nat}
    (hr : Room (k + 1) X.A) (hgl : Gl X "sum") (hm : X.mg "sum" = none) (TB : GxR.TabB X.base X.mg c P) (hcode : X.env.code = .ref c) (S : GSc scope) (hi : PI X tg iter wi)
    (hg : ∀ (A : Around) (s : Shared) (H : Hp) (C : Addr) (code : Value) (fp : List Addr) (pn : List (Addr × Obj)), Room k (A.deeper (ce X scope C code)) → PG (gx X A N s H (ce X scope C code) fp pn) tg g)
    (ht : ∀ (A : Around) (s : Shared) (H : Hp) (C : Addr) (code : Value) (fp : List Addr) (pn : List (Addr × Obj)), Room k (A.deeper (ce X scope C code)) → PTs (gx X A N s H (ce X scope C code) fp pn) ifs tt)
    (he : ∀ (A : Around) (s : Shared) (H : Hp) (C : Addr) (code : Value) (fp : List Addr) (pn : List (Addr × Obj)), Room k (A.deeper (ce X scope C code)) → PE (gx X A N s H (ce X scope C code) fp pn) elt te)
    (hs : ∀ v, genFold iter X.env v = pure v := by intro _; rfl)
    (hb : bootBuiltins "sum" = some (.builtin "sum") := by decide +kernel)
    (hst : starEach [.GeneratorExp elt [⟨tg, iter, ifs, 0⟩] scope gpos] X.env = (false, eval (.GeneratorExp elt [⟨tg, iter, ifs, 0⟩] scope gpos) X.env) :: starEach [] X.env := by rfl) :
    PE X (.Call (.Name "sum" p) [.GeneratorExp elt [⟨tg, iter, ifs, 0⟩] scope gpos] [] pos) (tSumG P N.length wi g tt te) := by
  refine ⟨fun pins s σ H Q I h => ?_⟩
  refine wpAny_Call_Name_kw (ld_blt I hgl hm hb ?_)
  refine PyProof.Rows.callWith_builtin1 ?_ hst (by rfl)
  rw [hst]
  show wpAny _ _ (spliced ((false, eval (.GeneratorExp elt [⟨tg, iter, ifs, 0⟩] scope gpos) X.env) :: backTo pos (starEach [] X.env))) _ _ s
  refine Calls.spliced_cons (gen_make hr TB hcode S hi hs I h fun J H1 H2 s4 s5 code fp it tn go gn hR tab I4 f4 T st5 mk hgo hgs => ?_)
  refine Calls.spliced_nil ?_
  obtain ⟨W, ⟨m0, w0⟩, turn⟩ := hR H2 tab
  have rY := room3 hr (ce X scope s4.heap.objs.size code)
  have I5 := mk X.A.in1.in1 N hr.hd I.ok.frames
  generalize hpn : [(s4.heap.objs.size + 1, go)] = pn at I5
  have hpm : (s4.heap.objs.size + 1, go) ∈ pn := by rw [← hpn]; exact List.mem_singleton.mpr rfl
  have hpf : ∀ p ∈ pn, p.1 ∉ fp := fun p hp z => by
    rw [← hpn] at hp
    rw [List.mem_singleton.mp hp] at z
    exact absurd (f4 _ z).2 (Nat.not_lt.mpr (Nat.le_succ _))
  have isg := hgo _ (I5.pin _ (List.mem_append_left _ hpm)).1
  have fpl : ∀ b ∈ fp, b < s5.heap.objs.size := fun b hb => Nat.lt_of_lt_of_le (f4 b hb).2 I5.sz
  refine call_function_tree F.kind_sum F.plain_sum F.entry_sum (F.args_sum1 _) ?_
  unfold Builtin.«sum»
  simp only [List.length_cons, List.length_nil]
  rw [if_neg (by decide)]
  refine wpAny_bind (wpAny_of_eq (show Builtin.Builtins.bindParams "sum" ["start"] 0 { } = pure [none] from rfl) ?_)
  refine wpAny_bind (wpAny_pyIter_gen isg ?_)
  refine wpAny_bind (wpAny_mkInt ?_)
  refine wpAny_bind (wpAny_pure ?_)
  simp only [List.forIn_cons, List.forIn_nil]
  refine wpAny_bind (wpAny_bind (wpAny_bind (wpAny_isInstance (T := "int") (b := false) (typeIs_int _ _ _) PySem.sub_int_str ?_)))
  simp only [Bool.false_eq_true, if_false]
  refine wpAny_pure (wpAny_bind (wpAny_bind (wpAny_isInstance (T := "int") (b := false) (typeIs_int _ _ _) PySem.sub_int_bytes ?_)))
  simp only [Bool.false_eq_true, if_false]
  refine wpAny_pure (wpAny_bind (wpAny_bind (wpAny_isInstance (T := "int") (b := false) (typeIs_int _ _ _) PySem.sub_int_bytearray ?_)))
  simp only [Bool.false_eq_true, if_false]
  refine wpAny_pure (wpAny_pure ?_)
  refine wpAny_bind (wpAny_newObj_type ?_)
  refine wpAny_pure ⟨plainId_quiet F.plain_sum_loop _, ?_⟩
  have hSf : s5.heap.objs.size ∉ fp := fun hm => Nat.lt_irrefl _ (fpl _ hm)
  have hget : (s5.heap.push (sumObj 0 s5.toks 0)).get? s5.heap.objs.size = some (sumObj 0 s5.toks 0) := Heap.get?_push_size _ rfl
  have I6 : Inv (gx X X.A.in1.in1 N s4 H2 (ce X scope s4.heap.objs.size code) fp pn) [] (nones N.length) H2 { s5 with heap := s5.heap.push (sumObj 0 s5.toks 0), toks := s5.toks + 1 } := I5.kept fun b o e => Heap.get?_push_of_some _ e
  have gi0 : GI (gx X X.A.in1.in1 N s4 H2 (ce X scope s4.heap.objs.size code) fp pn) (conS s5.heap.objs.size) fp tn 0 0 H2 { s5 with heap := s5.heap.push (sumObj 0 s5.toks 0), toks := s5.toks + 1 } := by
    refine ⟨I6.pins_of fun p hp => ?_, ⟨s5.toks, 0, hget⟩, T.keep _ _ _ st5 fun b _ o e => Heap.get?_push_of_some _ e, fun b hb => (f4 b hb).1.1⟩
    obtain ⟨hb, e⟩ := of_pinsAt hp
    have eS : p.1 = s5.heap.objs.size := List.mem_singleton.mp hb
    rw [eS] at e ⊢
    have e' : (s5.heap.push (sumObj 0 s5.toks 0)).get? s5.heap.objs.size = some p.2 := e
    rw [hget] at e'
    refine ⟨e, I5.hok.fresh (Nat.le_refl _), Nat.ne_of_gt I5.lt, I5.nofs (Nat.le_refl _), fun v z => ?_⟩
    rw [← Option.some.inj e'] at z
    cases z
  have ap : ApS (gx X X.A.in1.in1 N s4 H2 (ce X scope s4.heap.objs.size code) fp pn) s5.heap.objs.size := ⟨I5.sz, Nat.ne_of_gt I5.lt, fun x c e => by simp [genEnv] at e, fun p hp z => by
    have := Heap.lt_size (I5.pin p (List.mem_append_left _ hp)).1
    rw [z] at this
    exact Nat.lt_irrefl _ this⟩
  refine sum_loop (Y := gx X X.A.in1.in1 N s4 H2 (ce X scope s4.heap.objs.size code) fp pn) (A := X.A) (g := gn) (QI := fun a H => Q (.int a) H) hSf ap T.keep hr.hd hr.depth hpm hgo (fun a t' s' H' I' q => ?_) (m0 + 1) 0 H2 (fun a H => W a 0 m0 H) _ _ 0 s5.toks 0 0 (.inl rfl) hgs gi0 hget w0 (fun a' s'' gi' w' => ?_)
  · exact ⟨.int a, H', ge_back I4 f4 I', ⟨_, rfl⟩, q⟩
  · exact ⟨rfl, seg_start (Y := gx X X.A.in1.in1 N s4 H2 (ce X scope s4.heap.objs.size code) fp pn) (conS_ok _) rfl T (hg _ _ _ _ _ _ _ rY) (ht _ _ _ _ _ _ _ rY) (he _ _ _ _ _ _ _ rY) rfl (fun b hb => hb) (fun b hb => by rw [List.mem_singleton.mp hb]; exact hSf) hpf rfl S.co turn m0 a' (m0 + 1) H2 s'' (Nat.lt_succ_self _) w' gi'⟩
end
end GE
set_option Elab.async false
set_option linter.all false
set_option maxRecDepth 100000
set_option maxHeartbeats 1000000
namespace CL
open PySem PySem.Spec PyProof.Rows L2 GE
/-! ### what a value is worth, as data -/
mutual
inductive Rp (H : Hp) : V → PyData → Prop
  | non : Rp H .non .none
  | bl (b : Bool) : Rp H (.bl b) (.bool b)
  | int (i : Int) : Rp H (.int i) (.int i)
  | str (x : Str) : Rp H (.str x) (.str x)
  | lst {a : Addr} {xs : List V} {ds : List PyData} : H a = some (.lst xs) → RpAll H xs ds → Rp H (.ref a) (.list ds)
  | tup {a : Addr} {xs : List V} {ds : List PyData} : H a = some (.tup xs) → RpAll H xs ds → Rp H (.ref a) (.tuple ds)
  | dct {a : Addr} : H a = some (.dK []) → Rp H (.ref a) (.dict [])
inductive RpAll (H : Hp) : List V → List PyData → Prop
  | nil : RpAll H [] []
  | cons {v : V} {vs : List V} {d : PyData} {ds : List PyData} : Rp H v d → RpAll H vs ds → RpAll H (v :: vs) (d :: ds)
end
/-- all stays but tables, which may grow -/
def Ex (H H' : Hp) : Prop := ∀ b o, H b = some o → H' b = some o ∨ ∃ ps qs, o = .tbl ps ∧ H' b = some (.tbl qs)
theorem Ex.refl (H : Hp) : Ex H H := fun _ _ h => .inl h
theorem Ex.of {H H' : Hp} (s : Same H H') : Ex H H' := fun b o h => .inl (s b o h)
theorem Ex.trans {H H1 H2 : Hp} (a : Ex H H1) (b : Ex H1 H2) : Ex H H2 := fun c o h => by
  rcases a c o h with q | ⟨ps, qs, e, q⟩
  · exact b c o q
  · rcases b c _ q with r | ⟨ps', qs', _, r⟩
    · exact .inr ⟨ps, qs, e, r⟩
    · exact .inr ⟨ps, qs', e, r⟩
theorem Ex.keep {H H' : Hp} (e : Ex H H') {b : Addr} {o : HO} (h : H b = some o) (n : ∀ ps, o ≠ .tbl ps) : H' b = some o := by
  rcases e b o h with q | ⟨ps, _, z, _⟩
  · exact q
  · exact absurd z (n ps)
theorem Ex.lst {H H' : Hp} (e : Ex H H') {b : Addr} {xs : List V} (h : H b = some (.lst xs)) : H' b = some (.lst xs) := e.keep h fun _ => nofun
theorem Ex.tup {H H' : Hp} (e : Ex H H') {b : Addr} {xs : List V} (h : H b = some (.tup xs)) : H' b = some (.tup xs) := e.keep h fun _ => nofun
theorem Ex.free {H H' : Hp} (e : Ex H H') {l : Addr} (h : H' l = none) : H l = none := by
  cases q : H l with
  | none => rfl
  | some o =>
    rcases e l o q with r | ⟨_, _, _, r⟩
    · rw [h] at r; cases r
    · rw [h] at r; cases r
theorem Ex.new {H : Hp} {p : Addr} {o : HO} (h : H p = none) : Ex H (upd H p o) := fun b x e => .inl (by rw [upd_ne (ne_of_none e h)]; exact e)
theorem same_upd {H : Hp} {p : Addr} {o : HO} (h : H p = none) : Same H (upd H p o) := fun b x e => by
  rw [upd_ne (ne_of_none e h)]
  exact e
mutual
theorem Rp.ex {H H' : Hp} (e : Ex H H') : ∀ (d : PyData) (v : V), Rp H v d → Rp H' v d
  | .none, _, h => by cases h; exact .non
  | .bool b, _, h => by cases h; exact .bl b
  | .int i, _, h => by cases h; exact .int i
  | .str x, _, h => by cases h; exact .str x
  | .list ds, _, h => by
    cases h with
    | lst h1 h2 => exact .lst (e.lst h1) (RpAll.ex e ds _ h2)
  | .tuple ds, _, h => by
    cases h with
    | tup h1 h2 => exact .tup (e.tup h1) (RpAll.ex e ds _ h2)
  | .dict _, _, h => by
    cases h with
    | dct h1 => exact .dct (e.keep h1 fun _ => nofun)
theorem RpAll.ex {H H' : Hp} (e : Ex H H') : ∀ (ds : List PyData) (vs : List V), RpAll H vs ds → RpAll H' vs ds
  | [], _, h => by cases h; exact .nil
  | d :: ds, _, h => by
    cases h with
    | cons h1 h2 => exact .cons (Rp.ex e d _ h1) (RpAll.ex e ds _ h2)
end
theorem RpAll.length {H : Hp} : ∀ {vs : List V} {ds : List PyData}, RpAll H vs ds → vs.length = ds.length
  | _, _, .nil => rfl
  | _, _, .cons _ t => congrArg (· + 1) (RpAll.length t)
theorem RpAll.get {H : Hp} : ∀ {vs : List V} {ds : List PyData} {i : Nat} {v : V}, RpAll H vs ds → vs[i]? = some v → ∃ d, ds[i]? = some d ∧ Rp H v d
  | _, _, _, _, .nil, e => by simp at e
  | _, _, 0, _, .cons r _, e => by simp at e; subst e; exact ⟨_, rfl, r⟩
  | _, _, i + 1, _, .cons _ t, e => by
    obtain ⟨d, h1, h2⟩ := RpAll.get (i := i) t (by simpa using e)
    exact ⟨d, by simpa using h1, h2⟩
theorem RpAll.take {H : Hp} : ∀ {vs : List V} {ds : List PyData} (n : Nat), RpAll H vs ds → RpAll H (vs.take n) (ds.take n)
  | _, _, 0, _ => .nil
  | _, _, _ + 1, .nil => .nil
  | _, _, n + 1, .cons r t => .cons r (RpAll.take n t)
theorem RpAll.append {H : Hp} : ∀ {vs ws : List V} {ds es : List PyData}, RpAll H vs ds → RpAll H ws es → RpAll H (vs ++ ws) (ds ++ es)
  | _, _, _, _, .nil, s => s
  | _, _, _, _, .cons r t, s => .cons r (RpAll.append t s)
/-! ### plans, as the document tells -/
def tyName : PyData → String
  | .none => "NoneType" | .bool _ => "bool" | .int _ => "int" | .str _ => "str" | .list _ => "list" | .tuple _ => "tuple" | .dict _ => "dict"
def rowsD : PyData → Option (List PyData)
  | .list xs => some xs
  | .tuple xs => some xs
  | _ => none
def isRow (d : PyData) : Bool := (rowsD d).isSome
def isWhole : PyData → Bool
  | .int _ => true
  | _ => false
def isIntB : PyData → Bool
  | .int _ => true
  | .bool _ => true
  | _ => false
def isBoolB : PyData → Bool
  | .bool _ => true
  | _ => false
def isNone : PyData → Bool
  | .none => true
  | _ => false
abbrev GREAT : Int := 1000000000000000000000000000000
def isPatience : PyData → Bool
  | .none => true
  | .int i => decide (0 ≤ i) && decide (i ≤ GREAT)
  | _ => false
def isTurns (d : PyData) : Bool := match rowsD d with
  | some ds => decide (1 ≤ ds.length) && decide (ds.length ≤ 8) && ds.all isPatience
  | none => false
def isMany : PyData → Bool
  | .none => true
  | .int i => decide (0 ≤ i)
  | _ => false
def isPiece (d : PyData) : Bool := match rowsD d with
  | some [t, m] => isTurns t && isMany m
  | _ => false
def sndD (d : PyData) : PyData := match rowsD d with
  | some [_, m] => m
  | _ => .none
def worth : PyData → Int
  | .int i => i
  | _ => 0
def sumSnd (ds : List PyData) : Int := (ds.map fun d => worth (sndD d)).sum
def isPlanL (ds : List PyData) : Bool := decide (1 ≤ ds.length) && decide (ds.length ≤ 8) && ds.all isPiece && !((ds.take (ds.length - 1)).any fun d => isNone (sndD d)) && decide (sumSnd ds ≤ GREAT)
def isPlan (d : PyData) : Bool := match rowsD d with
  | some ds => isPlanL ds
  | none => false
theorem Rp.ty {K : PySem.W.Frag} {H : Hp} {v : V} {d : PyData} (h : Rp H v d) : TyX K H v (.type (tyName d)) := by
  cases h with
  | non => exact .base .non
  | bl b => exact .base (.bl b)
  | int i => exact .base (.int i)
  | str x => exact .base (.str x)
  | lst h _ => exact .base (.lst h)
  | tup h _ => exact .base (.tup h)
  | dct h => exact .base (.dK h)
theorem kit_int {K : PySem.W.Frag} (d : PyData) : PySem.W.kitOne K (.type (tyName d)) (.type "int") = some (isIntB d) := by cases d <;> (refine kit_ty ?_; dsimp only [tyName, isIntB]; decide +kernel)
theorem kit_bool {K : PySem.W.Frag} (d : PyData) : PySem.W.kitOne K (.type (tyName d)) (.type "bool") = some (isBoolB d) := by cases d <;> (refine kit_ty ?_; dsimp only [tyName, isBoolB]; decide +kernel)
theorem kit_list {K : PySem.W.Frag} (d : PyData) : PySem.W.kitOne K (.type (tyName d)) (.type "list") = some (match d with | .list _ => true | _ => false) := by cases d <;> (refine kit_ty ?_; dsimp only [tyName]; decide +kernel)
theorem kit_tuple {K : PySem.W.Frag} (d : PyData) : PySem.W.kitOne K (.type (tyName d)) (.type "tuple") = some (match d with | .tuple _ => true | _ => false) := by cases d <;> (refine kit_ty ?_; dsimp only [tyName]; decide +kernel)
theorem kit_rows {K : PySem.W.Frag} (d : PyData) : PySem.W.kitAny K (.type (tyName d)) [.type "list", .type "tuple"] = some (isRow d) := by
  refine kitAny_cons (kit_list d) (fun h => kitAny_cons (kit_tuple d) (fun h2 => ?_) fun h2 => ?_) fun h => ?_
  · cases d <;> first | exact kitAny_nil | (simp at h; done) | (simp at h2; done)
  · cases d <;> first | rfl | (simp at h; done) | (simp at h2; done)
  · cases d <;> first | rfl | (simp at h; done)
/-- a row's things -/
theorem Rp.rows {H : Hp} {v : V} {d : PyData} {ds : List PyData} (h : Rp H v d) (e : rowsD d = some ds) : ∃ a xs, v = .ref a ∧ RpAll H xs ds ∧ (H a = some (.lst xs) ∨ H a = some (.tup xs)) := by
  cases h with
  | lst h1 h2 => cases e; exact ⟨_, _, rfl, h2, .inl h1⟩
  | tup h1 h2 => cases e; exact ⟨_, _, rfl, h2, .inr h1⟩
  | _ => cases e
/-! ### for x in a list or a tuple -/
structure StSeq (H : Hp) (a : Addr) (xs : List V) : Prop where
  or : H a = some (.lst xs) ∨ H a = some (.tup xs)
theorem StSeq.ex {H H' : Hp} {a : Addr} {xs : List V} (s : StSeq H a xs) (e : Ex H H') : StSeq H' a xs := ⟨s.or.elim (fun h => .inl (e.lst h)) fun h => .inr (e.tup h)⟩
theorem StSeq.sq {K : PySem.W.Frag} {H : Hp} {a : Addr} {xs : List V} (s : StSeq H a xs) : SqL K H a xs ∨ SqT K H a xs := s.or.elim (fun h => .inl (SqL.of h)) fun h => .inr (SqT.of h)
/-- the thing that is walked stands -/
def StandsAs (K : PySem.W.Frag) (a : Addr) (xs : List V) (J : It) (H : Hp) : Prop := (J = Itl K a ∧ SqL K H a xs) ∨ (J = Itt K a ∧ SqT K H a xs)
section
variable {X : Cx} {tg : Expr}
def iSeq (K : PySem.W.Frag) (tl : TE) : TI := fun σ H R => tl σ H fun x H1 => ∃ a xs, x = .ref a ∧ StSeq H1 a xs ∧ ∀ J, (∀ H2, Ex H1 H2 → StandsAs K a xs J H2) → R J H1
theorem pi_seq {l : Expr} {tl : TE} (hl : PE X l tl) : PI X tg l (iSeq X.K tl) := by
  refine ⟨fun pins s σ H R I h => ?_⟩
  refine thn (hl.run pins s σ H _ I h) fun v s1 ⟨x, H1, I1, r1, q1⟩ => ?_
  obtain ⟨a, xs, e, st, q⟩ := q1
  subst e
  cases r1
  have new : ∀ b ∈ [s1.heap.objs.size], FpOk X pins H1 b := fun b hb => by
    rw [List.mem_singleton.mp hb]
    exact I1.fpOk (Nat.le_refl _) (I1.hok.fresh (Nat.le_refl _))
  rcases st.or with hq | hq
  · obtain ⟨its, rv, p, hz⟩ := I1.list (SqL.of hq)
    exact wpAny_pyIter_list p.isList ⟨s1.heap.objs.size, [s1.heap.objs.size], _, _, H1, rfl, I1.kept (t' := s1.toks) fun b o e => Heap.get?_push_of_some _ e, turn_list a _, ⟨_, Heap.get?_push_size _ rfl, rfl, rfl⟩, new, q _ fun H2 e => .inl ⟨rfl, SqL.of (e.lst hq)⟩⟩
  · obtain ⟨its, rv, p, hz⟩ := I1.tuple (SqT.of hq)
    exact wpAny_pyIter_tuple (show s1.heap.IsTuple a its.toArray from p) ⟨s1.heap.objs.size, [s1.heap.objs.size], _, _, H1, rfl, I1.kept (t' := s1.toks) fun b o e => Heap.get?_push_of_some _ e, turn_tuple a _, ⟨_, Heap.get?_push_size _ rfl, rfl, rfl⟩, new, q _ fun H2 e => .inr ⟨rfl, SqT.of (e.tup hq)⟩⟩
end
theorem StandsAs.go {K : PySem.W.Frag} {a : Addr} {xs : List V} {J : It} {H : Hp} {i : Nat} {x : V} (s : StandsAs K a xs J H) (h : xs[i]? = some x) : J.go i H := by
  rcases s with ⟨rfl, q⟩ | ⟨rfl, q⟩ <;> exact ⟨xs, x, q, h⟩
theorem StandsAs.stop {K : PySem.W.Frag} {a : Addr} {xs : List V} {J : It} {H : Hp} {i : Nat} (s : StandsAs K a xs J H) (h : xs.length ≤ i) : J.stop i H := by
  rcases s with ⟨rfl, q⟩ | ⟨rfl, q⟩ <;> exact ⟨xs, q, h⟩
theorem StandsAs.yld {K : PySem.W.Frag} {a : Addr} {xs : List V} {J : It} {H H' : Hp} {i : Nat} {x : V} (s : StandsAs K a xs J H) (h : J.yld i H x H') : H' = H ∧ xs[i]? = some x := by
  rcases s with ⟨rfl, q⟩ | ⟨rfl, q⟩ <;> exact ⟨h.1, h.2 xs q⟩
theorem turn_by {α : Type} {K : PySem.W.Frag} {ad : Addr} {xs : List V} {J : It} {n0 : Nat} {g : TG} {tt : TT} {te : TE} {Out : α → V → Hp → (α → Hp → Prop) → Prop} {Fin : α → Hp → Prop} (Pv : α → Nat → Hp → Prop)
    (stands : ∀ a i H, Pv a i H → StandsAs K ad xs J H)
    (step : ∀ a i x H, xs[i]? = some x → Pv a i H → g x (nones n0) H fun σ2 H2 => tt σ2 H2 fun b H3 => if b = true then te σ2 H3 fun y H4 => Out a y H4 (fun a' H' => Pv a' (i + 1) H') else Pv a (i + 1) H3)
    (done : ∀ a H, Pv a xs.length H → Fin a H) : TurnOf J n0 g tt te Out Fin (fun a i m H => m = xs.length - i ∧ i ≤ xs.length ∧ Pv a i H) := by
  rintro a i m H ⟨rfl, hi, p⟩
  have s := stands a i H p
  by_cases hlt : i < xs.length
  · refine .inr ⟨s.go (List.getElem?_eq_getElem hlt), fun a' H' => Pv a' (i + 1) H', fun a' H' p' => ⟨xs.length - (i + 1), by omega, rfl, hlt, p'⟩, fun x H' y => ?_⟩
    obtain ⟨rfl, hx⟩ := s.yld y
    exact step a i x _ hx p
  · have e : i = xs.length := by omega
    subst e
    exact .inl ⟨s.stop (Nat.le_refl _), done a H p⟩
end CL
set_option Elab.async false
set_option linter.all false
set_option maxRecDepth 100000
set_option maxHeartbeats 1000000
namespace CL
open PySem PySem.Spec PyProof.Rows L2 GE
def topS (i : Nat) : Stmt := PySem.Challenge.pw_comersline_k42_whole_lines_by_plans.main.body.getD i (.Pass ⟨0, 0, 0, 0⟩)
abbrev sWhole : Stmt := topS 10
abbrev sRow : Stmt := topS 11
abbrev sPat : Stmt := topS 16
abbrev sTurns : Stmt := topS 17
abbrev sPiece : Stmt := topS 18
abbrev sPlan : Stmt := topS 19
theorem scWhole : FnScope ["thing"] ["thing"] (defScope sWhole) := ⟨rfl, rfl, rfl, by decide +kernel, rfl, by decide +kernel, by decide +kernel⟩
theorem scRow : FnScope ["thing"] ["thing"] (defScope sRow) := ⟨rfl, rfl, rfl, by decide +kernel, rfl, by decide +kernel, by decide +kernel⟩
theorem scPat : FnScope ["thing"] ["thing"] (defScope sPat) := ⟨rfl, rfl, rfl, by decide +kernel, rfl, by decide +kernel, by decide +kernel⟩
theorem scTurns : FnScope ["thing"] ["thing"] (defScope sTurns) := ⟨rfl, rfl, rfl, by decide +kernel, rfl, by decide +kernel, by decide +kernel⟩
theorem scPiece : FnScope ["thing"] ["thing"] (defScope sPiece) := ⟨rfl, rfl, rfl, by decide +kernel, rfl, by decide +kernel, by decide +kernel⟩
theorem scPlan : FnScope ["thing"] ["thing"] (defScope sPlan) := ⟨rfl, rfl, rfl, by decide +kernel, rfl, by decide +kernel, by decide +kernel⟩

/-- a def whose code object is known -/
structure FunC (K : PySem.W.Frag) (x qual : Str) (st : Stmt) (f : Addr) (fd : FuncData) (c : Addr) : Prop where
  ex : ∃ (oc : Value) (od : Option Addr) (kV doc pm : Value) (an : Option Addr) (ct : Value) (osl : Array (Option Value)),
    fd = PySem.W.fnOf x qual (defArgs st) (defBody st) (defScope st) .none kV doc pm an (.ref c) ct ∧ K.lookup f = some ⟨oc, od, .func fd, osl⟩ ∧ PySem.W.codeIn K (.ref c) qual = true
  kp : PySem.W.keepIn K (.ref f) = true
theorem FunC.ok {P : Program} {w : World} {K : PySem.W.Frag} {mg : Str → Option Value} {base : Heap} {x qual : Str} {st : Stmt} {f c : Addr} {fd : FuncData} {N ps : List Str} {k : Nat} {sp : Sp} (F : FunC K x qual st f fd c) (S : FnScope N ps (defScope st)) (len : ∀ vs H Q E, sp vs H Q E → vs.length = ps.length)
    (hbody : ∀ (A : Around) (outer : List Env) (s : Shared) (H : Hp) (vs : List V) (Q : VK) (E : XK), Room k (A.deeper (envOfC qual (defScope st) s.heap.objs.size f (.ref c))) → sp vs H Q E →
      ∃ t, PSs (cxOf CX0 P w K mg base N qual (defScope st) f (.ref c) A outer s H E).nox (defBody st) t ∧ t { nx := fun _ H' => Q .non H', rt := Q } (start N vs) H) : FnOk P w K mg base CX0 (k + 1) f fd ps sp := by
  obtain ⟨oc, od, kV, doc, pm, an, ct, osl, rfl, lk, hcd⟩ := F.ex
  refine fn_of lk hcd S len fun A outer s H vs Q E hr hsp => ?_
  obtain ⟨t, h, q⟩ := hbody A outer s H vs Q E hr hsp
  exact ⟨t, h.nox, q⟩
/-- a def that may be called by its name -/
structure Cal (P : Program) (w : World) (K : PySem.W.Frag) (mg : Str → Option Value) (base : Heap) (k : Nat) (x : Str) (ps : List Str) (sp : Sp) : Prop where
  ex : ∃ f fd, mg x = some (.ref f) ∧ PySem.W.keepIn K (.ref f) = true ∧ Binds K fd ps [] ∧ FnOk P w K mg base CX0 k f fd ps sp
theorem pe_cal {X : Cx} {k : Nat} {x : Str} {ps : List Str} {sp : Sp} {p pos : Pos} {e : Expr} {es : List Expr} {t : TA} (C : Cal X.prog X.w X.K X.mg X.base k x ps sp) (hr : Room k X.A) (hg : Gl X x) (ha : PA X (e :: es) t) (hdb : (x == ("__debug__" : Str)) = false := by decide)
    (he : starEach (e :: es) X.env = (false, eval e X.env) :: starEach es X.env := by rfl) (hpl : (backTo pos (starEach es X.env)).any (·.1) = false := by rfl) : PE X (.Call (.Name x p) (e :: es) [] pos) (tCall sp [] E0 t) := by
  obtain ⟨f, fd, h1, h2, h3, h4⟩ := C.ex
  exact pe_call h4 hr hg h1 h2 h3 .nil pass0 ha hdb he hpl
theorem Cal.mono {P : Program} {w : World} {K : PySem.W.Frag} {mg : Str → Option Value} {base : Heap} {j k : Nat} {x : Str} {ps : List Str} {sp : Sp} (C : Cal P w K mg base j x ps sp) (h : j ≤ k) : Cal P w K mg base k x ps sp := by
  obtain ⟨f, fd, h1, h2, h3, h4⟩ := C.ex
  exact ⟨f, fd, h1, h2, h3, h4.mono h⟩
/-- names that are still the built-in ones, and constants -/
structure Nm (mg : Str → Option Value) : Prop where
  isi : mg "isinstance" = none
  len : mg "len" = none
  all : mg "all" = none
  any : mg "any" = none
  sum : mg "sum" = none
  int : mg "int" = none
  bool : mg "bool" = none
  list : mg "list" = none
  tuple : mg "tuple" = none
  great : ∃ t, mg "GREATEST" = some (.int GREAT t)
  longest : ∃ t, mg "LONGEST" = some (.int 8 t)
/-- the tables of the two defs that hold generator expressions -/
def Tb (P1 P2 : Addr) (H : Hp) : Prop := GxR.TabG H P1 ∧ GxR.TabG H P2
theorem tabG_same {P : Addr} {H H' : Hp} (s : Same H H') (h : GxR.TabG H P) : GxR.TabG H' P := by
  obtain ⟨ps, e, t⟩ := h
  exact ⟨ps, s _ _ e, t⟩
theorem Tb.same {P1 P2 : Addr} {H H' : Hp} (s : Same H H') (h : Tb P1 P2 H) : Tb P1 P2 H' := ⟨tabG_same s h.1, tabG_same s h.2⟩
theorem ex_tabbed {P : Addr} {H H' : Hp} (g : GxR.TabG H P) (t : GxR.Tabbed P H H') : Ex H H' := fun b o e => by
  by_cases hb : b = P
  · subst hb
    obtain ⟨ps, h1, _⟩ := g
    obtain ⟨⟨qs, h2, _⟩, _⟩ := t
    rw [h1] at e
    cases e
    exact .inr ⟨ps, qs, rfl, h2⟩
  · exact .inl (by rw [t.2 b hb]; exact e)
theorem Tb.tab1 {P1 P2 : Addr} {H H' : Hp} (h : Tb P1 P2 H) (t : GxR.Tabbed P1 H H') : Tb P1 P2 H' := ⟨t.1, by
  by_cases hb : P2 = P1
  · rw [hb]; exact t.1
  · obtain ⟨ps, e, q⟩ := h.2
    exact ⟨ps, by rw [t.2 P2 hb]; exact e, q⟩⟩
theorem Tb.tab2 {P1 P2 : Addr} {H H' : Hp} (h : Tb P1 P2 H) (t : GxR.Tabbed P2 H H') : Tb P1 P2 H' := ⟨by
  by_cases hb : P1 = P2
  · rw [hb]; exact t.1
  · obtain ⟨ps, e, q⟩ := h.1
    exact ⟨ps, by rw [t.2 P1 hb]; exact e, q⟩, t.1⟩
def spOne (g : PyData → Bool) : Sp := fun vs H Q _ => ∃ v d, vs = [v] ∧ Rp H v d ∧ ∀ H', Same H H' → Q (.bl (g d)) H'
def spTab (P1 P2 : Addr) (g : PyData → Bool) : Sp := fun vs H Q _ => ∃ v d, vs = [v] ∧ Rp H v d ∧ Tb P1 P2 H ∧ ∀ H', Ex H H' → Tb P1 P2 H' → Q (.bl (g d)) H'
theorem spOne_len {g : PyData → Bool} : ∀ vs H Q E, spOne g vs H Q E → vs.length = 1 := fun vs H Q E ⟨v, d, e, _⟩ => by rw [e]; rfl
theorem spTab_len {P1 P2 : Addr} {g : PyData → Bool} : ∀ vs H Q E, spTab P1 P2 g vs H Q E → vs.length = 1 := fun vs H Q E ⟨v, d, e, _⟩ => by rw [e]; rfl
section
variable {P : Program} {w : World} {K : PySem.W.Frag} {mg : Str → Option Value} {base : Heap}
theorem ok_whole {f : Addr} {fd : FuncData} (F : Fun K "is_whole" "is_whole" sWhole f fd) (T : Nm mg) : FnOk P w K mg base CX0 1 f fd ["thing"] (spOne isWhole) := by
  refine F.ok scWhole spOne_len (fun cdv A outer s H vs Q E hr h => ?_)
  obtain ⟨v, d, rfl, hR, q⟩ := h
  refine ⟨_, pss_one (ps_ret (pe_and (pe_callB call_isi (by rfl) T.isi (by decide +kernel) (pa_cons (pv 0) (pa_cons (pe_bltn (v := .ty "int") (by rfl) T.int PyProof.Rows.boot_int rfl) pa_nil)))
    (pe_one (pe_not (pe_callB call_isi (by rfl) T.isi (by decide +kernel) (pa_cons (pv 0) (pa_cons (pe_bltn (v := .ty "bool") (by rfl) T.bool PyProof.Rows.boot_bool rfl) pa_nil))))))), ?_⟩
  refine ⟨v, rfl, v, .ty "int", _, _, isIntB d, rfl, .ty _, hR.ty, kit_int d, isIntB d, rfl, ite2 (fun e => ?_) (fun e => ?_)⟩
  · refine ⟨v, rfl, v, .ty "bool", _, _, isBoolB d, rfl, .ty _, hR.ty, kit_bool d, isBoolB d, rfl, ?_⟩
    have z : (!isBoolB d) = isWhole d := by cases d <;> first | rfl | (exact absurd e Bool.false_ne_true)
    rw [z]
    exact q H (Same.refl H)
  · have z : isWhole d = false := by cases d <;> first | rfl | (exact absurd rfl e)
    have q' := q H (Same.refl H)
    rw [z] at q'
    exact q'
theorem ok_row {f : Addr} {fd : FuncData} (F : Fun K "is_row" "is_row" sRow f fd) (T : Nm mg) : FnOk P w K mg base CX0 1 f fd ["thing"] (spOne isRow) := by
  refine F.ok scRow spOne_len (fun cdv A outer s H vs Q E hr h => ?_)
  obtain ⟨v, d, rfl, hR, q⟩ := h
  refine ⟨_, pss_one (ps_ret (pe_callB call_isiT (by rfl) T.isi (by decide +kernel) (pa_cons (pv 0) (pa_cons (pe_tup (pa_cons (pe_bltn (v := .ty "list") (by rfl) T.list PyProof.Rows.boot_list rfl) (pa_cons (pe_bltn (v := .ty "tuple") (by rfl) T.tuple PyProof.Rows.boot_tuple rfl) pa_nil))) pa_nil)))), ?_⟩
  refine ⟨v, rfl, by show 2 ≤ sizeLine; decide, fun p np => ⟨v, p, [.ty "list", .ty "tuple"], _, _, isRow d, rfl, upd_same, .cons (.ty _) (.cons (.ty _) .nil), (Rp.ex (Ex.new np) d v hR).ty, kit_rows d, q _ (same_upd np)⟩⟩
theorem ok_pat {f : Addr} {fd : FuncData} (F : Fun K "is_patience" "is_patience" sPat f fd) (T : Nm mg) (CW : Cal P w K mg base 1 "is_whole" ["thing"] (spOne isWhole)) : FnOk P w K mg base CX0 2 f fd ["thing"] (spOne isPatience) := by
  refine F.ok scPat spOne_len (fun cdv A outer s H vs Q E hr h => ?_)
  obtain ⟨v, d, rfl, hR, q⟩ := h
  obtain ⟨tg, hgr⟩ := T.great
  refine ⟨_, pss_one (ps_ret (pe_or (pe_cmp (pc_isN (pv 0)) rfl) (pe_one (pe_and (pe_cal CW hr (by rfl) (pa_cons (pv 0) pa_nil))
    (pe_one (pe_chain op_le op_le pe_int (pv 0) (pe_glob (v := .int GREAT) (by rfl) hgr ⟨_, rfl⟩))))))), ?_⟩
  refine ⟨v, rfl, decide (v = .non), rfl, ite2 (fun e => ?_) (fun e => ?_)⟩
  · have ev : v = .non := of_decide_eq_true e
    subst ev
    cases hR
    exact q H (Same.refl H)
  · have nv : v ≠ .non := fun z => e (decide_eq_true z)
    refine ⟨v, rfl, v, d, rfl, hR, fun H1 s1 => ⟨isWhole d, rfl, ite2 (fun e2 => ?_) (fun e2 => ?_)⟩⟩
    · cases hR with
      | int i =>
        refine ⟨.int i, rfl, 0, i, rfl, rfl, decide (0 ≤ i), rfl, ite2 (fun e3 => ?_) (fun e3 => ?_)⟩
        · refine ⟨i, GREAT, rfl, rfl, ?_⟩
          have q' := q H1 s1
          have z : isPatience (.int i) = decide (i ≤ GREAT) := by
            show (decide (0 ≤ i) && decide (i ≤ GREAT)) = _
            rw [e3, Bool.true_and]
          rw [z] at q'
          exact q'
        · have q' := q H1 s1
          have z : isPatience (.int i) = false := by
            show (decide (0 ≤ i) && decide (i ≤ GREAT)) = _
            rw [Bool.eq_false_iff.mpr e3, Bool.false_and]
          rw [z] at q'
          exact q'
      | _ => exact absurd e2 Bool.false_ne_true
    · have q' := q H1 s1
      have z : isPatience d = false := by
        cases hR with
        | non => exact absurd rfl nv
        | int i => exact absurd rfl e2
        | _ => rfl
      rw [z] at q'
      exact q'
end
end CL
set_option Elab.async false
set_option linter.all false
set_option maxRecDepth 100000
set_option maxHeartbeats 1000000
namespace CL
open PySem PySem.Spec PyProof.Rows L2 GE
theorem all_take {p : PyData → Bool} {ds : List PyData} {i : Nat} {d : PyData} (h : ds[i]? = some d) : (ds.take (i + 1)).all p = ((ds.take i).all p && p d) := by
  rw [List.take_add_one, h, List.all_append]
  simp
theorem any_take {p : PyData → Bool} {ds : List PyData} {i : Nat} {d : PyData} (h : ds[i]? = some d) : (ds.take (i + 1)).any p = ((ds.take i).any p || p d) := by
  rw [List.take_add_one, h, List.any_append]
  simp
theorem all_false {p : PyData → Bool} {ds : List PyData} {i : Nat} {d : PyData} (h : ds[i]? = some d) (e : p d = false) : ds.all p = false := by
  rw [List.all_eq_false]
  exact ⟨d, List.mem_of_getElem? h, by rw [e]; exact Bool.false_ne_true⟩
theorem any_true {p : PyData → Bool} {ds : List PyData} {i : Nat} {d : PyData} (h : ds[i]? = some d) (e : p d = true) : ds.any p = true := by
  rw [List.any_eq_true]
  exact ⟨d, List.mem_of_getElem? h, e⟩
theorem rix_of {K : PySem.W.Frag} {H : Hp} {a : Addr} {xs : List V} {i : Nat} {v : V} {Q : VK} (s : StSeq H a xs) (e : xs[i]? = some v) (q : Q v H) : rIx K (.ref a) (.int (i : Int)) H Q := by
  rcases s.or with h | h
  · exact .inl ⟨a, xs, (i : Int), v, rfl, rfl, SqL.of h, atI_nat e, q⟩
  · exact .inr (.inl ⟨a, xs, (i : Int), v, rfl, rfl, SqT.of h, atI_nat e, q⟩)
theorem name_yes {i : Nat} {x : V} {σ : L2.St} {H : Hp} {A B : L2.St → Hp → Prop} (h : A (σ.set i (some x)) H) : gName i x σ H (fun σ2 H2 => tYes σ2 H2 fun b H3 => if b = true then A σ2 H3 else B σ2 H3) := by
  show if true = true then A (σ.set i (some x)) H else B (σ.set i (some x)) H
  exact iteT h
theorem nd1 {x : Str} : [x].Nodup := by simp
section
variable {P : Program} {w : World} {K : PySem.W.Frag} {mg : Str → Option Value} {base : Heap}
theorem ok_turns {f c P1 P2 : Addr} {fd : FuncData} (F : FunC K "is_turns" "is_turns" sTurns f fd c) (T : Nm mg) (TB : GxR.TabB base mg c P1) (CR : Cal P w K mg base 1 "is_row" ["thing"] (spOne isRow)) (CP : Cal P w K mg base 2 "is_patience" ["thing"] (spOne isPatience)) :
    FnOk P w K mg base CX0 4 f fd ["thing"] (spTab P1 P2 isTurns) := by
  refine F.ok scTurns spTab_len (fun A outer s H vs Q E hr h => ?_)
  obtain ⟨v, d, rfl, hR, hT, q⟩ := h
  obtain ⟨tl, hlo⟩ := T.longest
  refine ⟨_, pss_one (ps_ret (pe_and (pe_cal (CR.mono (by decide)) hr (by rfl) (pa_cons (pv 0) pa_nil))
    (pe_and (pe_chain op_le op_le pe_int (pe_callB call_len_seq (by rfl) T.len PySem.boot_len (pa_cons (pv 0) pa_nil)) (pe_glob (v := .int 8) (by rfl) hlo ⟨_, rfl⟩))
      (pe_one (pe_allG (N := ["patience"]) hr (by rfl) T.all TB rfl (by exact ⟨rfl, rfl, by decide +kernel, rfl⟩) (pi_seq (pv 0))
        (fun A s H C code fp pn rY => pg_name (i := 0) nd1 rfl (.inl rfl) (.inr rfl)) (fun A s H C code fp pn rY => pts_nil)
        (fun A s H C code fp pn rY => pe_cal CP rY (by rfl) (pa_cons (pv 0) pa_nil))))))), ?_⟩
  refine ⟨v, rfl, v, d, rfl, hR, fun H1 s1 => ⟨isRow d, rfl, ite2 (fun e => ?_) (fun e => ?_)⟩⟩
  · obtain ⟨ds, hds⟩ : ∃ ds, rowsD d = some ds := Option.isSome_iff_exists.mp e
    obtain ⟨a, xs, rfl, hA, hso⟩ := (Rp.ex (Ex.of s1) d v hR).rows hds
    have hst : StSeq H1 a xs := ⟨hso⟩
    have hlen := hA.length
    have val : isTurns d = (decide (1 ≤ ds.length) && decide (ds.length ≤ 8) && ds.all isPatience) := by
      unfold isTurns
      rw [hds]
    have hT1 := hT.same s1
    have no : ∀ {H2 : Hp}, Ex H1 H2 → Tb P1 P2 H2 → isTurns d = false → Q (.bl false) H2 := fun {H2} e2 t2 z => by
      have q' := q H2 ((Ex.of s1).trans e2) t2
      rw [z] at q'
      exact q'
    refine ⟨.ref a, rfl, a, xs, rfl, hst.sq, 1, xs.length, rfl, rfl, decide ((1 : Int) ≤ xs.length), rfl, ite2 (fun e1 => ?_) (fun e1 => ?_)⟩
    · refine ⟨xs.length, 8, rfl, rfl, decide ((xs.length : Int) ≤ 8), rfl, ite2 (fun e2 => ?_) (fun e2 => ?_)⟩
      · have l1 : 1 ≤ ds.length := by have := of_decide_eq_true e1; omega
        have l2 : ds.length ≤ 8 := by have := of_decide_eq_true e2; omega
        refine ⟨.ref a, rfl, a, xs, rfl, hst, fun J hJ => ⟨hT1.1, fun H2 tb => ⟨_, ⟨xs.length, rfl, Nat.zero_le _, ex_tabbed hT1.1 tb, hT1.tab1 tb, rfl⟩, turn_by (xs := xs) (fun _ i H => Ex H1 H ∧ Tb P1 P2 H ∧ (ds.take i).all isPatience = true)
          (fun _ i H ⟨eH, _, _⟩ => hJ H eH) (fun _ i x H hx ⟨eH, tH, aH⟩ => ?_) (fun _ H ⟨eH, tH, aH⟩ => ?_)⟩⟩⟩
        · obtain ⟨dx, hdx, hRx⟩ := hA.get hx
          refine name_yes ?_
          refine ⟨x, rfl, x, dx, rfl, Rp.ex eH dx x hRx, fun H4 s4 => ⟨isPatience dx, rfl, ite2 (fun e4 => ?_) (fun e4 => ?_)⟩⟩
          · exact ⟨eH.trans (Ex.of s4), tH.same s4, by rw [all_take hdx, aH, e4]; rfl⟩
          · refine no (eH.trans (Ex.of s4)) (tH.same s4) ?_
            rw [val, all_false hdx (Bool.eq_false_iff.mpr e4), Bool.and_false]
        · have q' := q H ((Ex.of s1).trans eH) tH
          rw [hlen, List.take_length] at aH
          rw [val, aH, decide_eq_true l1, decide_eq_true l2] at q'
          exact q'
      · refine no (Ex.refl H1) hT1 ?_
        have l2 : ¬ ds.length ≤ 8 := fun z => e2 (decide_eq_true (by omega))
        rw [val, decide_eq_false l2, Bool.and_false, Bool.false_and]
    · refine ⟨false, rfl, iteF (no (Ex.refl H1) hT1 ?_)⟩
      have l1 : ¬ 1 ≤ ds.length := fun z => e1 (decide_eq_true (by omega))
      rw [val, decide_eq_false l1, Bool.false_and, Bool.false_and]
  · have z : isTurns d = false := by
      unfold isTurns
      cases hds : rowsD d with
      | none => rfl
      | some ds => exact absurd (by unfold isRow; rw [hds]; rfl) e
    have q' := q H1 (Ex.of s1) (hT.same s1)
    rw [z] at q'
    exact q'
theorem two_of {α : Type} {xs : List α} (h : xs.length = 2) : ∃ x y, xs = [x, y] := match xs, h with
  | [x, y], _ => ⟨x, y, rfl⟩
theorem isPiece_two {d t m : PyData} (h : rowsD d = some [t, m]) : isPiece d = (isTurns t && isMany m) := by
  unfold isPiece
  rw [h]
theorem isPiece_not {d : PyData} {ds : List PyData} (h : rowsD d = some ds) (n : ds.length ≠ 2) : isPiece d = false := by
  unfold isPiece
  rw [h]
  match ds, n with
  | [], _ => rfl
  | [_], _ => rfl
  | [_, _], n => exact absurd rfl n
  | _ :: _ :: _ :: _, _ => rfl
theorem ok_piece {f P1 P2 : Addr} {fd : FuncData} (F : Fun K "is_piece" "is_piece" sPiece f fd) (T : Nm mg) (CW : Cal P w K mg base 1 "is_whole" ["thing"] (spOne isWhole)) (CR : Cal P w K mg base 1 "is_row" ["thing"] (spOne isRow)) (CT : Cal P w K mg base 4 "is_turns" ["thing"] (spTab P1 P2 isTurns)) :
    FnOk P w K mg base CX0 5 f fd ["thing"] (spTab P1 P2 isPiece) := by
  refine F.ok scPiece spTab_len (fun cdv A outer s H vs Q E hr h => ?_)
  obtain ⟨v, d, rfl, hR, hT, q⟩ := h
  refine ⟨_, pss_cons (ps_if (PW.pt (pw_or (pt_not (pt_val (pe_cal (CR.mono (by decide)) hr (by rfl) (pa_cons (pv 0) pa_nil))))
      (pw_or (pt_cmpR op_ne (pe_callB call_len_seq (by rfl) T.len PySem.boot_len (pa_cons (pv 0) pa_nil)) pe_int (nomark _))
        (pw_or1 (pt_not (pt_val (pe_cal CT hr (by rfl) (pa_cons (pe_ix ix_seq (pv 0) pe_int (fun _ _ => rfl)) pa_nil)))))))) (pss_one (ps_ret pe_bl)) pss_nil)
    (pss_one (ps_ret (pe_or (pe_cmp (pc_isN (pe_ix ix_seq (pv 0) pe_int (fun _ _ => rfl))) rfl)
      (pe_one (pe_and (pe_cal (CW.mono (by decide)) hr (by rfl) (pa_cons (pe_ix ix_seq (pv 0) pe_int (fun _ _ => rfl)) pa_nil)) (pe_one (pe_cmpR op_ge (pe_ix ix_seq (pv 0) pe_int (fun _ _ => rfl)) pe_int (nomark _)))))))), ?_⟩
  refine ⟨v, rfl, v, d, rfl, hR, fun H1 s1 => ⟨isRow d, rfl, ?_⟩⟩
  have hT1 := hT.same s1
  have at_ : ∀ {H2 : Hp} {b : Bool}, Ex H1 H2 → Tb P1 P2 H2 → isPiece d = b → Q (.bl b) H2 := fun {H2 b} e2 t2 z => by
    have q' := q H2 ((Ex.of s1).trans e2) t2
    rw [z] at q'
    exact q'
  cases hds : rowsD d with
  | none =>
    have e0 : isRow d = false := by unfold isRow; rw [hds]; rfl
    rw [e0]
    exact iteT (iteT (at_ (Ex.refl H1) hT1 (by unfold isPiece; rw [hds])))
  | some ds =>
    have e0 : isRow d = true := by unfold isRow; rw [hds]; rfl
    rw [e0]
    obtain ⟨a, xs, rfl, hA, hso⟩ := (Rp.ex (Ex.of s1) d v hR).rows hds
    have hst : StSeq H1 a xs := ⟨hso⟩
    have hlen := hA.length
    refine iteF ⟨.ref a, rfl, a, xs, rfl, hst.sq, rfl, _, rfl, ?_⟩
    by_cases h2 : ds.length = 2
    · have e1 : decide (V.int (xs.length : Int) = V.int 2) = true := decide_eq_true (by rw [hlen, h2]; rfl)
      refine ite2 (fun z => absurd z (by rw [e1]; exact Bool.false_ne_true)) (fun _ => ?_)
      obtain ⟨t, m, rfl⟩ := two_of h2
      obtain ⟨vt, vm, rfl⟩ := two_of (hlen.trans h2)
      cases hA with
      | cons ht hA2 =>
        cases hA2 with
        | cons hm _ =>
          refine ⟨.ref a, rfl, rix_of (i := 0) hst rfl ⟨vt, t, rfl, ht, hT1, fun H2 e2 t2 => ⟨isTurns t, rfl, ?_⟩⟩⟩
          have val := isPiece_two hds
          cases ht2 : isTurns t with
          | false => exact iteT (at_ e2 t2 (by rw [val, ht2]; rfl))
          | true =>
            refine iteF ⟨.ref a, rfl, rix_of (i := 1) (hst.ex e2) rfl ⟨decide (vm = .non), rfl, ite2 (fun e3 => ?_) (fun e3 => ?_)⟩⟩
            · have ev : vm = .non := of_decide_eq_true e3
              subst ev
              cases hm
              exact at_ e2 t2 (by rw [val, ht2]; rfl)
            · have nv : vm ≠ .non := fun z => e3 (decide_eq_true z)
              refine ⟨.ref a, rfl, rix_of (i := 1) (hst.ex e2) rfl ⟨vm, m, rfl, Rp.ex e2 m vm hm, fun H3 s3 => ⟨isWhole m, rfl, ite2 (fun e4 => ?_) (fun e4 => ?_)⟩⟩⟩
              · cases hm with
                | int i =>
                  refine ⟨.ref a, rfl, rix_of (i := 1) ((hst.ex e2).ex (Ex.of s3)) rfl ⟨i, 0, rfl, rfl, at_ (e2.trans (Ex.of s3)) (t2.same s3) ?_⟩⟩
                  rw [val, ht2]
                  rfl
                | _ => exact absurd e4 Bool.false_ne_true
              · refine at_ (e2.trans (Ex.of s3)) (t2.same s3) ?_
                rw [val, ht2]
                cases hm with
                | non => exact absurd rfl nv
                | int i => exact absurd rfl e4
                | _ => rfl
    · have e1 : decide (V.int (xs.length : Int) = V.int 2) = false := decide_eq_false fun z => h2 (by have := V.int.inj z; omega)
      refine ite2 (fun _ => iteT (at_ (Ex.refl H1) hT1 (isPiece_not hds h2))) (fun z => absurd (by rw [e1]; rfl) z)
end
end CL
set_option Elab.async false
set_option linter.all false
set_option maxRecDepth 100000
set_option maxHeartbeats 2000000
namespace CL
open PySem PySem.Spec PyProof.Rows L2 GE
theorem piece_parts {d : PyData} (h : isPiece d = true) : ∃ t m, rowsD d = some [t, m] ∧ isTurns t = true ∧ isMany m = true := by
  unfold isPiece at h
  split at h
  · rename_i t m e
    rw [Bool.and_eq_true] at h
    exact ⟨t, m, e, h.1, h.2⟩
  · cases h
theorem sndD_two {d t m : PyData} (h : rowsD d = some [t, m]) : sndD d = m := by
  unfold sndD
  rw [h]
theorem rp_none {H : Hp} {v : V} {m : PyData} (h : Rp H v m) : decide (v = .non) = isNone m := by
  cases h <;> first | rfl | exact decide_eq_false nofun
theorem all_get {p : PyData → Bool} {ds : List PyData} {i : Nat} {d : PyData} (h : ds.all p = true) (e : ds[i]? = some d) : p d = true := List.all_eq_true.mp h d (List.mem_of_getElem? e)
theorem sum_step {ds : List PyData} {i : Nat} {d : PyData} (h : ds[i]? = some d) : sumSnd (ds.take (i + 1)) = sumSnd (ds.take i) + worth (sndD d) := by
  unfold sumSnd
  rw [List.take_add_one, h, List.map_append, List.sum_append]
  simp
theorem cut_last (xs : List V) : cutV xs none (some (-1)) = xs.take (xs.length - 1) := by
  unfold cutV
  have e0 : HT.sIx xs.length 0 none = 0 := rfl
  have e1 : HT.sIx xs.length xs.length (some (-1)) = xs.length - 1 := by
    show (if (-1 : Int) < 0 then ((-1 : Int) + (xs.length : Int)).toNat else min (-1 : Int).toNat xs.length) = _
    rw [if_pos (by decide)]
    omega
  rw [e0, e1, List.drop_zero, Nat.sub_zero]
theorem ix_gx {X : Cx} {A : Around} {N : List Str} {s : Shared} {H : Hp} {cenv : Env} {fp : List Addr} {pn : List (Addr × Obj)} : IxR (gx X A N s H cenv fp pn) (rIx X.K) := ix_seq
/-- the second of a piece that stands -/
theorem piece_at {H : Hp} {x : V} {d : PyData} (hp : isPiece d = true) (hR : Rp H x d) : ∃ b vt vm m, x = .ref b ∧ StSeq H b [vt, vm] ∧ Rp H vm m ∧ sndD d = m ∧ isMany m = true := by
  obtain ⟨t, m, e, _, hm⟩ := piece_parts hp
  obtain ⟨b, ys, rfl, hA, hso⟩ := hR.rows e
  obtain ⟨vt, vm, rfl⟩ := two_of hA.length
  cases hA with
  | cons h1 h2 =>
    cases h2 with
    | cons h3 _ => exact ⟨b, vt, vm, m, rfl, ⟨hso⟩, h3, sndD_two e, hm⟩
section
variable {P : Program} {w : World} {K : PySem.W.Frag} {mg : Str → Option Value} {base : Heap}
theorem ok_plan {f c P1 P2 : Addr} {fd : FuncData} (F : FunC K "is_plan" "is_plan" sPlan f fd c) (T : Nm mg) (TB : GxR.TabB base mg c P2) (CR : Cal P w K mg base 1 "is_row" ["thing"] (spOne isRow)) (CP : Cal P w K mg base 5 "is_piece" ["thing"] (spTab P1 P2 isPiece)) :
    FnOk P w K mg base CX0 7 f fd ["thing"] (spTab P1 P2 isPlan) := by
  refine F.ok scPlan spTab_len (fun A outer s H vs Q E hr h => ?_)
  obtain ⟨v, d, rfl, hR, hT, q⟩ := h
  obtain ⟨tl, hlo⟩ := T.longest
  obtain ⟨tg, hgr⟩ := T.great
  refine ⟨_, pss_cons (ps_if (PW.pt (pw_or (pt_not (pt_val (pe_cal (CR.mono (by decide)) hr (by rfl) (pa_cons (pv 0) pa_nil))))
      (pw_or1 (pt_not (pt_chain op_le op_le pe_int (pe_callB call_len_seq (by rfl) T.len PySem.boot_len (pa_cons (pv 0) pa_nil)) (pe_glob (v := .int 8) (by rfl) hlo ⟨_, rfl⟩)))))) (pss_one (ps_ret pe_bl)) pss_nil)
    (pss_cons (ps_if (pt_not (pt_val (pe_allG (N := ["piece"]) hr (by rfl) T.all TB rfl (by exact ⟨rfl, rfl, by decide +kernel, rfl⟩) (pi_seq (pv 0))
        (fun A s H C code fp pn rY => pg_name (i := 0) nd1 rfl (.inl rfl) (.inr rfl)) (fun A s H C code fp pn rY => pts_nil)
        (fun A s H C code fp pn rY => pe_cal CP rY (by rfl) (pa_cons (pv 0) pa_nil))))) (pss_one (ps_ret pe_bl)) pss_nil)
    (pss_cons (ps_if (pt_val (pe_anyG (N := ["piece"]) hr (by rfl) T.any TB rfl (by exact ⟨rfl, rfl, by decide +kernel, rfl⟩) (pi_seq (pe_slice (SlR.or sl_list sl_tup) (pv 0) po_none (po_some (pe_un un_neg pe_int))))
        (fun A s H C code fp pn rY => pg_name (i := 0) nd1 rfl (.inl rfl) (.inr rfl)) (fun A s H C code fp pn rY => pts_nil)
        (fun A s H C code fp pn rY => pe_cmp (pc_isN (pe_ix ix_gx (pv 0) pe_int (fun _ _ => rfl))) rfl))) (pss_one (ps_ret pe_bl)) pss_nil)
    (pss_one (ps_ret (pe_cmpR op_le (pe_sumG (N := ["piece"]) hr (by rfl) T.sum TB rfl (by exact ⟨rfl, rfl, by decide +kernel, rfl⟩) (pi_seq (pv 0))
        (fun A s H C code fp pn rY => pg_name (i := 0) nd1 rfl (.inl rfl) (.inr rfl)) (fun A s H C code fp pn rY => pts_one (pt_cmp (pc_notN (pe_ix ix_gx (pv 0) pe_int (fun _ _ => rfl)))))
        (fun A s H C code fp pn rY => pe_ix ix_gx (pv 0) pe_int (fun _ _ => rfl))) (pe_glob (v := .int GREAT) (by rfl) hgr ⟨_, rfl⟩) (nomark _)))))), ?_⟩
  refine ⟨v, rfl, v, d, rfl, hR, fun H1 s1 => ⟨isRow d, rfl, ?_⟩⟩
  have hT1 := hT.same s1
  have at_ : ∀ {H2 : Hp} {b : Bool}, Ex H1 H2 → Tb P1 P2 H2 → isPlan d = b → Q (.bl b) H2 := fun {H2 b} e2 t2 z => by
    have q' := q H2 ((Ex.of s1).trans e2) t2
    rw [z] at q'
    exact q'
  cases hds : rowsD d with
  | none =>
    have e0 : isRow d = false := by unfold isRow; rw [hds]; rfl
    rw [e0]
    exact iteT (iteT (at_ (Ex.refl H1) hT1 (by unfold isPlan; rw [hds])))
  | some ds =>
    have e0 : isRow d = true := by unfold isRow; rw [hds]; rfl
    rw [e0]
    obtain ⟨a, xs, rfl, hA, hso⟩ := (Rp.ex (Ex.of s1) d v hR).rows hds
    have hst : StSeq H1 a xs := ⟨hso⟩
    have hlen := hA.length
    have val : isPlan d = (decide (1 ≤ ds.length) && decide (ds.length ≤ 8) && ds.all isPiece && !((ds.take (ds.length - 1)).any fun d => isNone (sndD d)) && decide (sumSnd ds ≤ GREAT)) := by
      unfold isPlan
      rw [hds]
      rfl
    refine iteF ⟨.ref a, rfl, a, xs, rfl, hst.sq, 1, xs.length, rfl, rfl, decide ((1 : Int) ≤ xs.length), rfl, ite2 (fun e1 => ?_) (fun e1 => ?_)⟩
    · have l1 : 1 ≤ ds.length := by have := of_decide_eq_true e1; omega
      refine ⟨xs.length, 8, rfl, rfl, decide ((xs.length : Int) ≤ 8), rfl, ?_⟩
      by_cases l2 : ds.length ≤ 8
      · have e2 : decide ((xs.length : Int) ≤ 8) = true := decide_eq_true (by omega)
        rw [e2]
        refine iteF ?_
        -- all
        refine ⟨.ref a, rfl, a, xs, rfl, hst, fun J hJ => ⟨hT1.2, fun H2 tb => ⟨_, ⟨xs.length, rfl, Nat.zero_le _, ex_tabbed hT1.2 tb, hT1.tab2 tb, rfl⟩, turn_by (xs := xs) (fun _ i H => Ex H1 H ∧ Tb P1 P2 H ∧ (ds.take i).all isPiece = true)
          (fun _ i H ⟨eH, _, _⟩ => hJ H eH) (fun _ i x H hx ⟨eH, tH, aH⟩ => ?_) (fun _ H ⟨eH, tH, pH⟩ => ?_)⟩⟩⟩
        · obtain ⟨dx, hdx, hRx⟩ := hA.get hx
          refine name_yes ?_
          refine ⟨x, rfl, x, dx, rfl, Rp.ex eH dx x hRx, tH, fun H4 e4 t4 => ⟨isPiece dx, rfl, ite2 (fun e5 => ?_) (fun e5 => ?_)⟩⟩
          · exact ⟨eH.trans e4, t4, by rw [all_take hdx, aH, e5]; rfl⟩
          · refine ⟨false, rfl, iteT (at_ (eH.trans e4) t4 ?_)⟩
            rw [val, all_false hdx (Bool.eq_false_iff.mpr e5), Bool.and_false, Bool.false_and, Bool.false_and]
        · rw [hlen, List.take_length] at pH
          refine ⟨true, rfl, iteF ?_⟩
          have hA' : RpAll H1 (xs.take (xs.length - 1)) (ds.take (ds.length - 1)) := by
            have z := hA.take (xs.length - 1)
            rw [show ds.take (xs.length - 1) = ds.take (ds.length - 1) by rw [hlen]] at z
            exact z
          have hp' : (ds.take (ds.length - 1)).all isPiece = true := by
            rw [List.all_eq_true]
            intro y hy
            exact List.all_eq_true.mp pH y (List.mem_of_mem_take hy)
          have hl' : (xs.take (xs.length - 1)).length = (ds.take (ds.length - 1)).length := hA'.length
          -- the walk, wherever the cut stands
          have walk : ∀ (p : Addr) (H3 : Hp), StSeq H3 p (xs.take (xs.length - 1)) → Ex H1 H3 → Tb P1 P2 H3 → ∀ QB : Bool → Hp → Prop,
              (∀ H', Ex H1 H' → Tb P1 P2 H' → QB ((ds.take (ds.length - 1)).any fun d => isNone (sndD d)) H') →
              ∀ J, (∀ H2, Ex H3 H2 → StandsAs K p (xs.take (xs.length - 1)) J H2) → GxR.TabG H3 P2 ∧ ∀ H2, GxR.Tabbed P2 H3 H2 →
                ∃ W : Unit → Nat → Nat → Hp → Prop, (∃ m, W () 0 m H2) ∧ TurnOf J 1 (gName 0) tYes (tIsN (tOp (rIx K) (tVar 0) (tC (.int 1)))) (outAny QB) (fun _ H => QB false H) W := by
            intro p H3 st3 e3 t3 QB hQB J hJ
            refine ⟨t3.2, fun H2 tb => ⟨_, ⟨(xs.take (xs.length - 1)).length, rfl, Nat.zero_le _, ex_tabbed t3.2 tb, t3.tab2 tb, rfl⟩, turn_by (xs := xs.take (xs.length - 1)) (fun _ i H => Ex H3 H ∧ Tb P1 P2 H ∧ ((ds.take (ds.length - 1)).take i).any (fun d => isNone (sndD d)) = false)
              (fun _ i H ⟨eH, _, _⟩ => hJ H eH) (fun _ i x H hx ⟨eH, tH, aH⟩ => ?_) (fun _ H ⟨eH, tH, aH⟩ => ?_)⟩⟩
            · obtain ⟨dx, hdx, hRx⟩ := hA'.get hx
              obtain ⟨b, vt, vm, m, rfl, stb, hRm, hsn, _⟩ := piece_at (all_get hp' hdx) (Rp.ex (e3.trans eH) dx x hRx)
              refine name_yes ?_
              refine ⟨.ref b, rfl, rix_of (i := 1) stb rfl ⟨decide (vm = .non), rfl, ite2 (fun e5 => ?_) (fun e5 => ?_)⟩⟩
              · have z := hQB H (e3.trans eH) tH
                rw [any_true (p := fun d => isNone (sndD d)) hdx (by rw [hsn, ← rp_none hRm]; exact e5)] at z
                exact z
              · refine ⟨eH, tH, ?_⟩
                rw [any_take hdx, aH, hsn, ← rp_none hRm, Bool.eq_false_iff.mpr e5]
                rfl
            · rw [hl', List.take_length] at aH
              have z := hQB H (e3.trans eH) tH
              rw [aH] at z
              exact z
          -- the sum
          have sums : ∀ (H3 : Hp), Ex H1 H3 → Tb P1 P2 H3 → ∀ QI : Int → Hp → Prop, (∀ H', Ex H1 H' → Tb P1 P2 H' → QI (sumSnd ds) H') →
              ∀ J, (∀ H2, Ex H3 H2 → StandsAs K a xs J H2) → GxR.TabG H3 P2 ∧ ∀ H2, GxR.Tabbed P2 H3 H2 →
                ∃ W : Int → Nat → Nat → Hp → Prop, (∃ m, W 0 0 m H2) ∧ TurnOf J 1 (gName 0) (tB (tNotN (tOp (rIx K) (tVar 0) (tC (.int 1))))) (tOp (rIx K) (tVar 0) (tC (.int 1))) outSum (fun a H => QI a H) W := by
            intro H3 e3 t3 QI hQI J hJ
            refine ⟨t3.2, fun H2 tb => ⟨_, ⟨xs.length, rfl, Nat.zero_le _, ex_tabbed t3.2 tb, t3.tab2 tb, rfl⟩, turn_by (xs := xs) (fun z i H => Ex H3 H ∧ Tb P1 P2 H ∧ z = sumSnd (ds.take i))
              (fun _ i H ⟨eH, _, _⟩ => hJ H eH) (fun z i x H hx ⟨eH, tH, aH⟩ => ?_) (fun z H ⟨eH, tH, zH⟩ => ?_)⟩⟩
            · obtain ⟨dx, hdx, hRx⟩ := hA.get hx
              obtain ⟨b, vt, vm, m, rfl, stb, hRm, hsn, hmm⟩ := piece_at (all_get pH hdx) (Rp.ex (e3.trans eH) dx x hRx)
              refine ⟨.ref b, rfl, rix_of (i := 1) stb rfl ⟨!decide (vm = .non), rfl, ite2 (fun e5 => ?_) (fun e5 => ?_)⟩⟩
              · refine ⟨.ref b, rfl, rix_of (i := 1) stb rfl ?_⟩
                cases hRm with
                | int j => exact ⟨j, rfl, eH, tH, by rw [sum_step hdx, hsn, aH]; rfl⟩
                | non => exact absurd e5 (by decide)
                | _ => cases hmm
              · refine ⟨eH, tH, ?_⟩
                rw [sum_step hdx, hsn, aH]
                cases hRm with
                | non => exact (Int.add_zero _).symm
                | _ => exact absurd rfl e5
            · rw [hlen, List.take_length] at zH
              subst zH
              exact hQI H (e3.trans eH) tH
          have hst2 := hst.ex eH
          have fin : ∀ (H' : Hp), Ex H1 H' → Tb P1 P2 H' → ((ds.take (ds.length - 1)).any fun d => isNone (sndD d)) = false → isPlan d = decide (sumSnd ds ≤ GREAT) := fun H' _ _ z => by
            rw [val, decide_eq_true l1, decide_eq_true l2, pH, z]
            rfl
          have bad : ∀ (H' : Hp), Ex H1 H' → Tb P1 P2 H' → ((ds.take (ds.length - 1)).any fun d => isNone (sndD d)) = true → Q (.bl false) H' := fun H' e' t' z => at_ e' t' (by
            rw [val, z]
            simp)
          refine ⟨.ref a, rfl, 1, rfl, -1, rfl, ?_⟩
          rcases hst2.or with hq | hq
          · refine .inl ⟨a, xs, rfl, SqL.of hq, fun p np => ?_⟩
            have st3 : StSeq (upd H p (.lst (cutV xs none (some (-1))))) p (xs.take (xs.length - 1)) := ⟨.inl (by rw [upd_same, cut_last])⟩
            refine ⟨p, _, rfl, st3, walk p _ st3 (eH.trans (Ex.new np)) (tH.same (same_upd np)) _ fun H' e' t' => ?_⟩
            refine ⟨_, rfl, ite2 (fun e5 => bad H' e' t' e5) (fun e5 => ?_)⟩
            refine ⟨.ref a, rfl, a, xs, rfl, hst.ex e', sums H' e' t' _ fun H'' e'' t'' => ⟨sumSnd ds, GREAT, rfl, rfl, at_ e'' t'' (fin H'' e'' t'' (Bool.eq_false_iff.mpr e5))⟩⟩
          · refine .inr ⟨a, xs, rfl, SqT.of hq, ?_, fun p np => ?_⟩
            · intro z
              have z2 : HT.sIx xs.length xs.length (some (-1)) = xs.length - 1 := by
                show (if (-1 : Int) < 0 then ((-1 : Int) + (xs.length : Int)).toNat else min (-1 : Int).toNat xs.length) = _
                rw [if_pos (by decide)]
                omega
              have z3 := z.2
              rw [z2] at z3
              omega
            have st3 : StSeq (upd H p (.tup (cutV xs none (some (-1))))) p (xs.take (xs.length - 1)) := ⟨.inr (by rw [upd_same, cut_last])⟩
            refine ⟨p, _, rfl, st3, walk p _ st3 (eH.trans (Ex.new np)) (tH.same (same_upd np)) _ fun H' e' t' => ?_⟩
            refine ⟨_, rfl, ite2 (fun e5 => bad H' e' t' e5) (fun e5 => ?_)⟩
            refine ⟨.ref a, rfl, a, xs, rfl, hst.ex e', sums H' e' t' _ fun H'' e'' t'' => ⟨sumSnd ds, GREAT, rfl, rfl, at_ e'' t'' (fin H'' e'' t'' (Bool.eq_false_iff.mpr e5))⟩⟩
      · have e2 : decide ((xs.length : Int) ≤ 8) = false := decide_eq_false (by omega)
        rw [e2]
        refine iteT (at_ (Ex.refl H1) hT1 ?_)
        rw [val, decide_eq_false l2, Bool.and_false, Bool.false_and, Bool.false_and, Bool.false_and]
    · have l1 : ¬ 1 ≤ ds.length := fun z => e1 (decide_eq_true (by omega))
      refine ⟨false, rfl, iteT (at_ (Ex.refl H1) hT1 ?_)⟩
      rw [val, decide_eq_false l1, Bool.false_and, Bool.false_and, Bool.false_and, Bool.false_and]
end
end CL
set_option Elab.async false
set_option linter.all false
set_option maxRecDepth 100000
set_option maxHeartbeats 4000000
namespace CL
open PySem PySem.Spec PyProof.Rows L2 GE
theorem p18 : (10 : Int) ^ (18 : Int).toNat = 1000000000000000000 := by decide +kernel
theorem p30 : (10 : Int) ^ (30 : Int).toNat = GREAT := by decide +kernel
theorem same_ne {H H' : Hp} (s : Same H H') {p b : Addr} (np : H' p = none) (hb : H b ≠ none) : b ≠ p := fun z => by
  rw [z] at hb
  cases q : H p with
  | none => exact hb q
  | some o =>
    rw [s p o q] at np
    cases np
theorem ints_dp {K : PySem.W.Frag} {H : Hp} : ∀ gs : List Int, DpAll K H (gs.map V.int) (gs.map PyData.int)
  | [] => .nil
  | x :: gs => .cons (.int x) (ints_dp gs)
theorem ints_lay : ∀ gs : List Int, PyData.canLayAll0 (gs.map PyData.int) = true
  | [] => by simp [PyData.canLayAll0]
  | x :: gs => by
    have := ints_lay gs
    simp [PyData.canLayAll0, PyData.canLay0, this]
theorem ints_depth : ∀ gs : List Int, PyData.depthAll (gs.map PyData.int) = 0
  | [] => rfl
  | x :: gs => by
    have := ints_depth gs
    show max 0 (PyData.depthAll (gs.map PyData.int)) = 0
    rw [this]
    rfl
theorem ints_shaped (gs : List Int) : SeqAt.shaped (.list (gs.map PyData.int)) = true := by
  unfold SeqAt.shaped
  have h1 : PyData.canLay0 (.list (gs.map PyData.int)) = true := by
    have := ints_lay gs
    simp [PyData.canLay0, this]
  have h2 : PyData.depth (.list (gs.map PyData.int)) = 1 := by
    show PyData.depthAll (gs.map PyData.int) + 1 = 1
    rw [ints_depth]
  rw [h1, h2]
  rfl
theorem ints_take (gs : List Int) (k : Nat) : (gs.map V.int).take k = (gs.take k).map V.int := List.map_take.symm
theorem cut_to (xs : List V) (k : Nat) : cutV xs none (some (k : Int)) = xs.take k := by
  unfold cutV
  have e0 : HT.sIx xs.length 0 none = 0 := rfl
  have e1 : HT.sIx xs.length xs.length (some (k : Int)) = min k xs.length := HT.sIx_nat _ _ _
  rw [e0, e1, List.drop_zero, Nat.sub_zero]
  rcases Nat.le_total k xs.length with h | h
  · rw [Nat.min_eq_left h]
  · rw [Nat.min_eq_right h, List.take_of_length_le h, List.take_of_length_le (Nat.le_refl _)]
theorem cut_from (xs : List V) (k : Nat) : cutV xs (some (k : Int)) none = xs.drop k := by
  unfold cutV
  have e0 : HT.sIx xs.length 0 (some (k : Int)) = min k xs.length := HT.sIx_nat _ _ _
  have e1 : HT.sIx xs.length xs.length none = xs.length := rfl
  rw [e0, e1]
  rcases Nat.le_total k xs.length with h | h
  · rw [Nat.min_eq_left h]
    exact List.take_of_length_le (by rw [List.length_drop]; exact Nat.le_refl _)
  · rw [Nat.min_eq_right h, List.drop_of_length_le (Nat.le_refl _), List.drop_of_length_le h]
    simp
theorem small_add {a b : Nat} (ha : a ≤ 1000) (hb : b ≤ 1000) : a + b ≤ sizeLine := by
  have : 2000 ≤ sizeLine := by decide
  omega
theorem small_le {a : Nat} (ha : a ≤ 1000) : a ≤ sizeLine := by
  have : 1000 ≤ sizeLine := by decide
  omega
theorem yesT {σ : L2.St} {H : Hp} {A B : Hp → Prop} (h : A H) : tYes σ H (fun b H3 => if b = true then A H3 else B H3) := by
  show if true = true then A H else B H
  exact iteT h
open Classical in
noncomputable def Hw (W : Addr → Prop) (H : Hp) : Hp := fun b => if W b then none else H b
theorem Hw.at {W : Addr → Prop} {H : Hp} {b : Addr} (n : ¬ W b) : Hw W H b = H b := by
  unfold Hw
  rw [if_neg n]
theorem Hw.ne {W : Addr → Prop} {H : Hp} {b : Addr} {o : HO} (e : Hw W H b = some o) : ¬ W b := fun z => by
  unfold Hw at e
  rw [if_pos z] at e
  cases e
theorem Hw.sub (W : Addr → Prop) (H : Hp) : Same (Hw W H) H := fun b o e => by rw [Hw.at (Hw.ne e)] at e; exact e
theorem Hw.less {W W' : Addr → Prop} {H : Hp} (h : ∀ b, W b → W' b) : Same (Hw W' H) (Hw W H) := fun b o e => by
  rw [Hw.at fun z => Hw.ne e (h b z)]
  exact Hw.sub W' H b o e
theorem Hw.more {W W' : Addr → Prop} {H : Hp} (h : ∀ b, W' b → W b ∨ H b = none) : Same (Hw W H) (Hw W' H) := fun b o e => by
  have e1 := Hw.sub W H b o e
  rw [Hw.at fun z => (h b z).elim (Hw.ne e) fun q => by rw [q] at e1; cases e1]
  exact e1
theorem hw_upd {W : Addr → Prop} {a : Addr} {H : Hp} {o : HO} (h : W a) : Hw W (upd H a o) = Hw W H := by
  funext b
  by_cases hb : W b
  · unfold Hw
    rw [if_pos hb, if_pos hb]
  · rw [Hw.at hb, Hw.at hb, upd_ne fun z => hb (by rw [z]; exact h)]
theorem Same.hw {W : Addr → Prop} {H H' : Hp} (m : Same H H') : Same (Hw W H) (Hw W H') := fun b o e => by
  rw [Hw.at (Hw.ne e)]
  exact m b o (Hw.sub W H b o e)
theorem Rp.sm {H H' : Hp} (s : Same H H') {v : V} {d : PyData} (h : Rp H v d) : Rp H' v d := Rp.ex (Ex.of s) d v h
theorem RpAll.sm {H H' : Hp} (s : Same H H') {vs : List V} {ds : List PyData} (h : RpAll H vs ds) : RpAll H' vs ds := RpAll.ex (Ex.of s) ds vs h
theorem RpAll.snoc {H : Hp} : ∀ {vs : List V} {ds : List PyData} {v : V} {d : PyData}, RpAll H vs ds → Rp H v d → RpAll H (vs ++ [v]) (ds ++ [d])
  | _, _, _, _, .nil, h => .cons h .nil
  | _, _, _, _, .cons a b, h => .cons a (RpAll.snoc b h)
end CL
set_option Elab.async false
set_option linter.all false
set_option maxRecDepth 100000
set_option maxHeartbeats 4000000
namespace CL
open PySem PySem.Spec PyProof.Rows L2 GE
/-! ### a, b = a list or a tuple -/
def gSeq (K : PySem.W.Frag) (n : Nat) (t : TGs) : TG := fun v σ H Q => ∃ a xs, v = .ref a ∧ StSeq H a xs ∧ xs.length = n ∧ t xs σ H Q
theorem pg_seq {X : Cx} {pos : Pos} {es : List Expr} {k : Nat} {t : TGs} {n : Nat} (hc : X.calm = true) (h : PGs X es t) (hn : (assignEach es X.env).length = n := by rfl) (hst : (assignEach es X.env).findIdx? (·.1) = none := by rfl) :
    PG X (.Tuple es k pos) (gSeq X.K n t) := by
  refine ⟨fun pins s σ H v u Q I r hw => ?_⟩
  obtain ⟨a, xs, e, hs, hl, q⟩ := hw
  rcases hs.or with hq | hq
  · exact (pg_lst hc h hn hst).run pins s σ H v u Q I r ⟨a, xs, e, SqL.of hq, hl, q⟩
  · exact (pg_tup hc h hn hst).run pins s σ H v u Q I r ⟨a, xs, e, SqT.of hq, hl, q⟩
/-! ### for x in a list or a tuple -/
def iSeqW (K : PySem.W.Frag) (tl : TE) : TI := fun σ H R => tl σ H fun x H1 => ∃ a xs, x = .ref a ∧ StSeq H1 a xs ∧ ∀ J, (∀ H2, (∀ o, H1 a = some o → H2 a = some o) → StandsAs K a xs J H2) → R J H1
theorem pi_seqW {X : Cx} {tg l : Expr} {tl : TE} (hl : PE X l tl) : PI X tg l (iSeqW X.K tl) := by
  refine ⟨fun pins s σ H R I h => thn (hl.run pins s σ H _ I h) fun v s1 ⟨x, H1, I1, r1, a, xs, e, st, q⟩ => ?_⟩
  subst e
  cases r1
  have new : ∀ b ∈ [s1.heap.objs.size], FpOk X pins H1 b := fun b hb => by
    rw [List.mem_singleton.mp hb]
    exact I1.fpOk (Nat.le_refl _) (I1.hok.fresh (Nat.le_refl _))
  have kept := fun {o : Obj} => I1.kept (h' := s1.heap.push o) (t' := s1.toks) fun b o' e => Heap.get?_push_of_some _ e
  rcases st.or with hq | hq
  · obtain ⟨its, rv, p, hz⟩ := I1.list (SqL.of hq)
    exact wpAny_pyIter_list p.isList ⟨s1.heap.objs.size, [s1.heap.objs.size], _, _, H1, rfl, kept, turn_list a _, ⟨_, Heap.get?_push_size _ rfl, rfl, rfl⟩, new, q _ fun H2 e => .inl ⟨rfl, SqL.of (e _ hq)⟩⟩
  · obtain ⟨its, rv, p, hz⟩ := I1.tuple (SqT.of hq)
    exact wpAny_pyIter_tuple (show s1.heap.IsTuple a its.toArray from p) ⟨s1.heap.objs.size, [s1.heap.objs.size], _, _, H1, rfl, kept, turn_tuple a _, ⟨_, Heap.get?_push_size _ rfl, rfl, rfl⟩, new, q _ fun H2 e => .inr ⟨rfl, SqT.of (e _ hq)⟩⟩
theorem for_seq {K : PySem.W.Frag} {a : Addr} {xs : List V} {J : It} {g : TG} {tb : TS} {D : Ends} {σ : L2.St} {H : Hp} (Pv : Nat → L2.St → Hp → Prop) (h0 : Pv 0 σ H) (hl : ∀ i σ H, Pv i σ H → StandsAs K a xs J H)
    (hs : ∀ i x σ H, xs[i]? = some x → Pv i σ H → g x σ H fun σ2 H2 => tb { D with nx := Pv (i + 1), ct := Pv (i + 1), bk := D.nx } σ2 H2) (hd : ∀ σ H, Pv xs.length σ H → D.nx σ H) :
    ∃ W : Nat → Nat → L2.St → Hp → Prop, (∃ m, W 0 m σ H) ∧ ∀ i m σ H, W i m σ H →
      (J.stop i H ∧ D.nx σ H) ∨ (J.go i H ∧ ∃ N : L2.St → Hp → Prop, (∀ σ' H', N σ' H' → ∃ m', m' < m ∧ W (i + 1) m' σ' H') ∧ ∀ x H', J.yld i H x H' → g x σ H' fun σ2 H2 => tb { D with nx := N, ct := N, bk := D.nx } σ2 H2) := by
  refine ⟨fun i m σ H => m + i = xs.length ∧ Pv i σ H, ⟨xs.length, rfl, h0⟩, ?_⟩
  rintro i m σ H ⟨hm, p⟩
  have s := hl i σ H p
  cases m with
  | zero =>
    obtain rfl : i = xs.length := by omega
    exact .inl ⟨s.stop (Nat.le_refl _), hd σ H p⟩
  | succ m =>
    have lt : i < xs.length := by omega
    refine .inr ⟨s.go (List.getElem?_eq_getElem lt), Pv (i + 1), fun σ' H' p' => ⟨m, Nat.lt_succ_self m, by omega, p'⟩, fun x H' y => ?_⟩
    obtain ⟨rfl, hx⟩ := s.yld y
    exact hs i x σ _ hx p
/-! ### a class of refusals -/
structure ExcC (K : PySem.W.Frag) (mg : Str → Option Value) (x : Str) (C : Addr) : Prop where
  g : mg x = some (.ref C)
  x : PySem.W.excIn K C [.type "ValueError", .type "Exception", .type "BaseException", .type "object"] "ValueError.__new__" = true
  k : PySem.W.keepIn K (.ref C) = true
  b : PySem.W.subIn K (.ref C) (.type "BaseException") = some true
  t : PySem.W.typeIn K (.ref C) = some (.type "type")
/-! ### pieces_of -/
abbrev sPieces : Stmt := topS 21
abbrev nPieces : List Str := ["plan", "pieces", "first", "turns", "many", "past"]
theorem scPieces : FnScope nPieces ["plan"] (defScope sPieces) := ⟨rfl, rfl, rfl, by decide +kernel, rfl, by decide +kernel, by decide +kernel⟩
abbrev PieceT := Int × Option Int × List PyData
def optD : Option Int → PyData
  | some i => .int i
  | none => .none
def pieceD (x : PieceT) : PyData := .tuple [.int x.1, optD x.2.1, .tuple x.2.2]
def turnsD (d : PyData) : List PyData := match rowsD d with
  | some (t :: _) => (rowsD t).getD []
  | _ => []
def pastO (f : Int) : PyData → Option Int
  | .int m => some (f + m)
  | _ => none
def pcs : Int → List PyData → List PieceT
  | _, [] => []
  | f, d :: ds => (f, pastO f (sndD d), turnsD d) :: pcs (f + worth (sndD d)) ds
theorem pcs_snoc : ∀ (f : Int) (ds : List PyData) (d : PyData), pcs f (ds ++ [d]) = pcs f ds ++ [(f + sumSnd ds, pastO (f + sumSnd ds) (sndD d), turnsD d)]
  | f, [], d => by
    have e : f + sumSnd [] = f := Int.add_zero f
    rw [e]
    rfl
  | f, c :: ds, d => by
    have e : f + sumSnd (c :: ds) = f + worth (sndD c) + sumSnd ds := by
      show f + (worth (sndD c) + sumSnd ds) = _
      omega
    rw [e]
    show _ :: pcs _ (ds ++ [d]) = _ :: (pcs _ ds ++ _)
    rw [pcs_snoc]
def piecesOf (d : PyData) : List PieceT := pcs 0 ((rowsD d).getD [])
def spPieces (P1 P2 C : Addr) : Sp := fun vs H Q E => ∃ v d, vs = [v] ∧ Rp H v d ∧ Tb P1 P2 H ∧ (isPlan d = false → ∀ H', Ex H H' → Tb P1 P2 H' → E (.ref C) none H') ∧
  (isPlan d = true → ∀ p H', Ex H H' → Tb P1 P2 H' → H p = none → Rp H' (.ref p) (.list ((piecesOf d).map pieceD)) → Q (.ref p) H')
theorem piece_at2 {H : Hp} {x : V} {d : PyData} (hp : isPiece d = true) (hR : Rp H x d) : ∃ b vt vm t m, x = .ref b ∧ StSeq H b [vt, vm] ∧ Rp H vt t ∧ Rp H vm m ∧ rowsD d = some [t, m] ∧ isTurns t = true ∧ isMany m = true := by
  obtain ⟨t, m, e, ht, hm⟩ := piece_parts hp
  obtain ⟨b, xs, rfl, hA, ho⟩ := hR.rows e
  cases hA with
  | cons h1 h2 =>
    cases h2 with
    | cons h3 h4 =>
      cases h4
      exact ⟨b, _, _, t, m, rfl, ⟨ho⟩, h1, h3, e, ht, hm⟩
theorem pieces_put {D : Addr} {ys : List V} {H2 H3 : Hp} {vs : List V} (eD : H2 D = some (.lst vs)) (s3 : Same H2 H3) {p : Addr} (np : H3 p = none) : upd H3 p (.tup ys) D = some (.lst vs) ∧
    Same (Hw (fun b => b = D) H3) (Hw (fun b => b = D) (upd (upd H3 p (.tup ys)) D (.lst (vs ++ [.ref p])))) ∧ Hw (fun b => b = D) (upd (upd H3 p (.tup ys)) D (.lst (vs ++ [.ref p]))) p = some (.tup ys) := by
  have e3 := s3 D _ eD
  have npD : p ≠ D := fun z => by rw [z, e3] at np; cases np
  have e4 : upd H3 p (.tup ys) D = some (.lst vs) := by rw [upd_ne (Ne.symm npD)]; exact e3
  rw [hw_upd (W := fun b => b = D) (a := D) rfl]
  refine ⟨e4, Same.hw (same_upd np), ?_⟩
  rw [Hw.at (W := fun b => b = D) npD]
  exact upd_same
/-- a def that may raise, called by its name -/
structure CalX (P : Program) (w : World) (K : PySem.W.Frag) (mg : Str → Option Value) (base : Heap) (k : Nat) (x : Str) (ps : List Str) (sp : Sp) : Prop where
  ex : ∃ f fd, mg x = some (.ref f) ∧ PySem.W.keepIn K (.ref f) = true ∧ Binds K fd ps [] ∧ FnOk P w K mg base (L2.CX P w) k f fd ps sp
theorem pe_calX {X : Cx} {k : Nat} {x : Str} {ps : List Str} {sp : Sp} {E : XK} {p pos : Pos} {e : Expr} {es : List Expr} {t : TA} (C : CalX X.prog X.w X.K X.mg X.base k x ps sp) (hr : Room k X.A) (hg : Gl X x) (hx : Passes (L2.CX X.prog X.w) X E) (ha : PA X (e :: es) t)
    (hdb : (x == ("__debug__" : Str)) = false := by decide) (he : starEach (e :: es) X.env = (false, eval e X.env) :: starEach es X.env := by rfl) (hpl : (backTo pos (starEach es X.env)).any (·.1) = false := by rfl) : PE X (.Call (.Name x p) (e :: es) [] pos) (tCall sp [] E t) := by
  obtain ⟨f, fd, a1, a2, a3, a4⟩ := C.ex
  exact pe_call a4 hr hg a1 a2 a3 .nil hx ha hdb he hpl
theorem CalX.mono {P : Program} {w : World} {K : PySem.W.Frag} {mg : Str → Option Value} {base : Heap} {j k : Nat} {x : Str} {ps : List Str} {sp : Sp} (C : CalX P w K mg base j x ps sp) (h : j ≤ k) : CalX P w K mg base k x ps sp := by
  obtain ⟨f, fd, a1, a2, a3, a4⟩ := C.ex
  exact ⟨f, fd, a1, a2, a3, a4.mono h⟩
abbrev sCheck : Stmt := topS 20
theorem scCheck : FnScope ["thing"] ["thing"] (defScope sCheck) := ⟨rfl, rfl, rfl, by decide +kernel, rfl, by decide +kernel, by decide +kernel⟩
def spCheck (P1 P2 C : Addr) : Sp := fun vs H Q E => ∃ v d, vs = [v] ∧ Rp H v d ∧ Tb P1 P2 H ∧ (isPlan d = false → ∀ H', Ex H H' → Tb P1 P2 H' → E (.ref C) none H') ∧ (isPlan d = true → ∀ H', Ex H H' → Tb P1 P2 H' → Q .non H')
section
variable {P : Program} {w : World} {K : PySem.W.Frag} {mg : Str → Option Value} {base : Heap}
theorem ok_check {f P1 P2 C : Addr} {fd : FuncData} (F : Fun K "check_plan" "check_plan" sCheck f fd) (XP : ExcC K mg "NoPlan" C) (CP : Cal P w K mg base 7 "is_plan" ["thing"] (spTab P1 P2 isPlan)) :
    FnOk P w K mg base (L2.CX P w) 8 f fd ["thing"] (spCheck P1 P2 C) := by
  refine F.okX scCheck (fun vs H Q E ⟨v, d, e, _⟩ => by rw [e]; rfl) (fun cdv A outer s H vs Q E hr h => ?_)
  obtain ⟨v, d, rfl, hR, hT, qE, q⟩ := h
  refine ⟨_, (pss_one (ps_if (pt_not (pt_val (pe_cal CP hr (by rfl) (pa_cons (pv 0) pa_nil)))) (pss_one (ps_raise rfl (takes_of rfl rfl rfl rfl) (pmk_own PySem.F.excBase_ValueError XP.x XP.g XP.k (raises_own XP.b XP.t) rfl))) pss_nil)), ?_⟩
  refine ⟨v, rfl, v, d, rfl, hR, hT, fun H1 e1 tb1 => ⟨isPlan d, rfl, ?_⟩⟩
  cases hp : isPlan d with
  | false => exact iteT (qE hp H1 e1 tb1)
  | true => exact iteF (q hp H1 e1 tb1)
theorem ok_pieces {f P1 P2 C : Addr} {fd : FuncData} (F : Fun K "pieces_of" "pieces_of" sPieces f fd) (T : Nm mg) (CK : CalX P w K mg base 8 "check_plan" ["thing"] (spCheck P1 P2 C)) :
    FnOk P w K mg base (L2.CX P w) 9 f fd ["plan"] (spPieces P1 P2 C) := by
  refine F.okX scPieces (fun vs H Q E ⟨v, d, e, _⟩ => by rw [e]; rfl) (fun cdv A outer s H vs Q E hr h => ?_)
  obtain ⟨v, d, rfl, hR, hT, qE, q⟩ := h
  have nd := scPieces.nd
  refine ⟨_, (pss_cons (ps_expr (pe_calX CK hr (by rfl) (passes_call (takes_of rfl rfl rfl rfl) fun _ _ _ _ h => h) (pa_cons (pv 0) pa_nil))) (PSs.nox (pss_cons (ps_set (i := 1) nd rfl (.inl rfl) (pe_lst pa_nil))
    (pss_cons (ps_set (i := 2) nd rfl (.inl rfl) pe_int)
    (pss_cons (ps_for PassesOwn.never rfl (pi_seqW (pv 0)) (pg_seq rfl (pgs_cons (pg_name (i := 3) nd rfl (.inl rfl)) (pgs_cons (pg_name (i := 4) nd rfl (.inl rfl)) pgs_nil))) (pss_cons (ps_set (i := 5) nd rfl (.inl rfl) (pe_ifExp (pt_cmp (pc_isN (pv 4))) pe_non (pe_op op_add (pv 2) (pv 4))))
    (pss_cons (ps_expr (pe_bm PySem.F.plainAttrs_list PySem.F.slot_list_append PySem.F.type_list_append mt_append (pv 1) (pa_cons (pe_tup (pa_cons (pv 2) (pa_cons (pv 5) (pa_cons (pe_callTy call_tuple_of (by rfl) T.tuple PyProof.Rows.boot_tuple (pa_cons (pv 3) pa_nil)) pa_nil)))) pa_nil)))
    (pss_one (ps_set (i := 2) nd rfl (.inl rfl) (pv 5))))))
    (pss_one (ps_ret (pv 1)))))))), ?_⟩
  refine ⟨v, rfl, v, d, rfl, hR, hT, qE, fun hp H1 e1 tb1 => ?_⟩
  · skip
    have hR1 := Rp.ex e1 d v hR
    obtain ⟨ds, hds⟩ : ∃ ds, rowsD d = some ds := by
      cases z : rowsD d with
      | none => unfold isPlan at hp; rw [z] at hp; cases hp
      | some ds => exact ⟨ds, rfl⟩
    have val : isPlan d = isPlanL ds := by unfold isPlan; rw [hds]
    have hp' := hp
    rw [val] at hp'
    unfold isPlanL at hp'
    simp only [Bool.and_eq_true, decide_eq_true_eq, Bool.not_eq_true'] at hp'
    obtain ⟨⟨⟨⟨l1, l8⟩, hpc⟩, hno⟩, hsum⟩ := hp'
    obtain ⟨a, xs, rfl, hA, hso⟩ := hR1.rows hds
    have hst : StSeq H1 a xs := ⟨hso⟩
    have hlen := hA.length
    refine ⟨Nat.zero_le _, fun D hD => ?_⟩
    have eD0 : (upd H1 D (.lst [])) D = some (.lst []) := upd_same
    have s0 : Same H1 (Hw (fun b => b = D) (upd H1 D (.lst []))) := fun b o e => by
      rw [Hw.at fun z => by rw [z, hD] at e; cases e]
      exact same_upd hD b o e
    generalize hH0 : upd H1 D (.lst []) = H0 at eD0 s0
    have ex0 : ∀ {H2 : Hp}, Same H1 (Hw (fun b => b = D) H2) → Ex H1 H2 := fun {H2} s => Ex.of fun b o e => Hw.sub _ _ _ _ (s b o e)
    have naD : a ≠ D := fun z => by
      rcases hso with z2 | z2 <;> (rw [z, hD] at z2; cases z2)
    have stay : ∀ {H2 : Hp} {o : HO}, Same H1 (Hw (fun b => b = D) H2) → H0 a = some o → H2 a = some o := fun {H2 o} s ho => by
      rw [← hH0, upd_ne naD] at ho
      exact Hw.sub _ _ _ _ (s _ _ ho)
    show tSeq _ _ _ [some (.ref a), some (.ref D), none, none, none, none] H0
    refine ⟨.ref a, rfl, a, xs, rfl, hst.ex (ex0 s0), fun J hJ => for_seq (K := K) (a := a) (xs := xs) (fun i σ H2 => ∃ fv y3 y4 y5 vs, σ = [some (.ref a), some (.ref D), some fv, y3, y4, y5] ∧ (i < ds.length → fv = .int (sumSnd (ds.take i))) ∧ Same H1 (Hw (fun b => b = D) H2) ∧
        H2 D = some (.lst vs) ∧ vs.length = i ∧ RpAll (Hw (fun b => b = D) H2) vs ((pcs 0 (ds.take i)).map pieceD))
      ⟨.int 0, none, none, none, [], rfl, fun _ => rfl, s0, eD0, rfl, .nil⟩ (fun i σ H2 ⟨_, _, _, _, _, _, _, e, _⟩ => hJ H2 fun o ho => stay e ho) (fun i x σ H2 hx ⟨fv, y3, y4, y5, vs, es, hfv, s2, eD, lv, hv⟩ => ?_) (fun σ H2 ⟨fv, y3, y4, y5, vs, es, _, s2, eD, lv, hv⟩ => ?_)⟩
    · subst es
      obtain ⟨dx, hdx, hRx⟩ := hA.get hx
      have li : i < ds.length := by
        obtain ⟨z, _⟩ := List.getElem?_eq_some_iff.mp hdx
        exact z
      obtain rfl := hfv li
      obtain ⟨b, vt, vm, t, m, rfl, hsb, hvt, hvm, hrx, htu, hma⟩ := piece_at2 (all_get hpc hdx) (Rp.sm s2 hRx)
      have hsnd : sndD dx = m := sndD_two hrx
      obtain ⟨ts, hts⟩ : ∃ ts, rowsD t = some ts := by
        cases z : rowsD t with
        | none => unfold isTurns at htu; rw [z] at htu; cases htu
        | some ts => exact ⟨ts, rfl⟩
      have htd : turnsD dx = ts := by unfold turnsD; rw [hrx]; show (rowsD t).getD [] = ts; rw [hts]; rfl
      obtain ⟨t0, zs, rfl, hzs, hto⟩ := hvt.rows hts
      refine ⟨b, [.ref t0, vm], rfl, hsb.ex (Ex.of (Hw.sub _ _)), rfl, .ref t0, [vm], rfl, vm, [], rfl, rfl, ?_⟩
      have hS := sum_step hdx
      have epc : (pcs 0 (ds.take (i + 1))).map pieceD = (pcs 0 (ds.take i)).map pieceD ++ [pieceD (sumSnd (ds.take i), pastO (sumSnd (ds.take i)) m, ts)] := by
        rw [List.take_add_one, hdx]
        show (pcs 0 (ds.take i ++ [dx])).map pieceD = _
        rw [pcs_snoc, List.map_append, Int.zero_add, hsnd, htd]
        rfl
      generalize hSS : sumSnd (ds.take i) = S at hS epc ⊢
      obtain ⟨pv, hp1, hp2, hc⟩ : ∃ pv, (∀ H3, Rp H3 pv (optD (pastO S m))) ∧ (i + 1 < ds.length → pv = .int (sumSnd (ds.take (i + 1)))) ∧ ((vm = .non ∧ pv = .non) ∨ ∃ k, vm = .int k ∧ pv = .int (S + k)) := by
        rw [hsnd] at hS
        cases hvm with
        | non =>
          refine ⟨.non, fun _ => .non, fun lt => ?_, .inl ⟨rfl, rfl⟩⟩
          have z := List.any_eq_false.mp hno dx (List.mem_of_getElem? (i := i) (by rw [List.getElem?_take_of_lt (by omega : i < ds.length - 1)]; exact hdx))
          rw [hsnd] at z
          exact absurd rfl z
        | int k => exact ⟨.int (S + k), fun _ => .int _, fun _ => by rw [hS]; rfl, .inr ⟨k, rfl, rfl⟩⟩
        | _ => cases hma
      have fin : ∀ (l : Addr) (H3 : Hp), Same H2 H3 → Hw (fun b => b = D) H3 l = some (.tup zs) → ∀ p, H3 p = none → upd H3 p (.tup [.int S, pv, .ref l]) D = some (.lst vs) ∧ Same H1 (Hw (fun b => b = D) (upd (upd H3 p (.tup [.int S, pv, .ref l])) D (.lst (vs ++ [.ref p])))) ∧
          RpAll (Hw (fun b => b = D) (upd (upd H3 p (.tup [.int S, pv, .ref l])) D (.lst (vs ++ [.ref p])))) (vs ++ [.ref p]) ((pcs 0 (ds.take (i + 1))).map pieceD) := fun l H3 s3 el p np => by
        obtain ⟨e4, s5, eb⟩ := pieces_put (ys := [.int S, pv, .ref l]) eD s3 np
        have s25 := Same.trans (Same.hw (W := fun b => b = D) s3) s5
        refine ⟨e4, Same.trans s2 s25, ?_⟩
        rw [epc]
        exact (RpAll.sm s25 hv).snoc (.tup eb (.cons (.int S) (.cons (hp1 _) (.cons (.tup (s5 _ _ el) (RpAll.sm s25 hzs)) .nil))))
      have l3 : ∀ l : Addr, [V.int S, pv, .ref l].length ≤ sizeLine := fun l => small_le (by show 3 ≤ 1000; decide)
      have lvs : vs.length < sizeLine := small1000 (by omega)
      have lv1 : ∀ p : Addr, (vs ++ [V.ref p]).length = i + 1 := fun p => by rw [List.length_append, lv]; rfl
      have nlD : ∀ {l : Addr}, H2 l = none → Hw (fun b => b = D) (upd H2 l (.tup zs)) l = some (.tup zs) := fun {l} nl => by
        rw [Hw.at (W := fun b => b = D) fun z => by rw [z, eD] at nl; cases nl]
        exact upd_same
      rcases hc with ⟨rfl, rfl⟩ | ⟨k, rfl, rfl⟩
      · refine ⟨.non, rfl, _, rfl, iteT ⟨.ref D, rfl, .inl ⟨rfl, _, SqL.of eD⟩, .int S, rfl, .non, rfl, .ref t0, rfl, t0, zs, rfl, ?_⟩⟩
        rcases hto with ht | ht
        · refine .inl ⟨SqL.of (Hw.sub _ _ _ _ ht), fun l nl => ⟨l3 l, fun p np => ?_⟩⟩
          obtain ⟨e4, a1, a2⟩ := fin l _ (same_upd nl) (nlD nl) p np
          exact ⟨D, vs, .ref p, rfl, rfl, e4, lvs, .non, rfl, .non, _, _, _, _, rfl, hp2, a1, upd_same, lv1 p, a2⟩
        · refine .inr ⟨SqT.of (Hw.sub _ _ _ _ ht), l3 t0, fun p np => ?_⟩
          obtain ⟨e4, a1, a2⟩ := fin t0 H2 (Same.refl H2) ht p np
          exact ⟨D, vs, .ref p, rfl, rfl, e4, lvs, .non, rfl, .non, _, _, _, _, rfl, hp2, a1, upd_same, lv1 p, a2⟩
      · refine ⟨.int k, rfl, _, rfl, iteF ⟨.int S, rfl, .int k, rfl, S, k, rfl, rfl, .ref D, rfl, .inl ⟨rfl, _, SqL.of eD⟩, .int S, rfl, .int (S + k), rfl, .ref t0, rfl, t0, zs, rfl, ?_⟩⟩
        rcases hto with ht | ht
        · refine .inl ⟨SqL.of (Hw.sub _ _ _ _ ht), fun l nl => ⟨l3 l, fun p np => ?_⟩⟩
          obtain ⟨e4, a1, a2⟩ := fin l _ (same_upd nl) (nlD nl) p np
          exact ⟨D, vs, .ref p, rfl, rfl, e4, lvs, .int (S + k), rfl, .int (S + k), _, _, _, _, rfl, hp2, a1, upd_same, lv1 p, a2⟩
        · refine .inr ⟨SqT.of (Hw.sub _ _ _ _ ht), l3 t0, fun p np => ?_⟩
          obtain ⟨e4, a1, a2⟩ := fin t0 H2 (Same.refl H2) ht p np
          exact ⟨D, vs, .ref p, rfl, rfl, e4, lvs, .int (S + k), rfl, .int (S + k), _, _, _, _, rfl, hp2, a1, upd_same, lv1 p, a2⟩
    · subst es
      rw [hlen, List.take_length] at hv
      have hpo : piecesOf d = pcs 0 ds := by unfold piecesOf; rw [hds]; rfl
      exact ⟨.ref D, rfl, q hp D H2 (e1.trans (ex0 s2)) (tb1.same fun b o e => Hw.sub _ _ _ _ (s2 b o e)) (e1.free hD) (by rw [hpo]; exact .lst eD (RpAll.sm (Hw.sub _ _) hv))⟩
end
end CL
set_option Elab.async false
set_option linter.all false
set_option maxRecDepth 100000
set_option maxHeartbeats 4000000
namespace CL
open PySem PySem.Spec PyProof.Rows L2 GE
abbrev sMany : Stmt := topS 22
theorem scMany : FnScope ["pieces"] ["pieces"] (defScope sMany) := ⟨rfl, rfl, rfl, by decide +kernel, rfl, by decide +kernel, by decide +kernel⟩
abbrev sPieceNo : Stmt := topS 23
theorem scPieceNo : FnScope ["pieces", "person", "at"] ["pieces", "person"] (defScope sPieceNo) := ⟨rfl, rfl, rfl, by decide +kernel, rfl, by decide +kernel, by decide +kernel⟩
abbrev sTurnAt : Stmt := topS 24
theorem scTurnAt : FnScope ["pieces", "person", "at", "first", "past", "turns"] ["pieces", "person"] (defScope sTurnAt) := ⟨rfl, rfl, rfl, by decide +kernel, rfl, by decide +kernel, by decide +kernel⟩
abbrev sPatAt : Stmt := topS 25
theorem scPatAt : FnScope ["pieces", "person", "at", "turn"] ["pieces", "person"] (defScope sPatAt) := ⟨rfl, rfl, rfl, by decide +kernel, rfl, by decide +kernel, by decide +kernel⟩
/-- the pieces stand as a list at a -/
structure PcsAt (H : Hp) (a : Addr) (ps : List PieceT) : Prop where
  ex : ∃ xs, H a = some (.lst xs) ∧ RpAll H xs (ps.map pieceD)
theorem PcsAt.of {H : Hp} {v : V} {ps : List PieceT} (h : Rp H v (.list (ps.map pieceD))) : ∃ a, v = .ref a ∧ PcsAt H a ps := by
  cases h with
  | lst h1 h2 => exact ⟨_, rfl, _, h1, h2⟩
def optV : Option Int → V
  | some i => .int i
  | none => .non
/-- a piece that stands -/
theorem pc_at {H : Hp} {a : Addr} {ps : List PieceT} {i : Nat} {pc : PieceT} (h : PcsAt H a ps) (e : ps[i]? = some pc) : ∃ xs b t zs, StSeq H a xs ∧ xs.length = ps.length ∧ xs[i]? = some (.ref b) ∧ H b = some (.tup [.int pc.1, optV pc.2.1, .ref t]) ∧ H t = some (.tup zs) ∧ RpAll H zs pc.2.2 := by
  obtain ⟨xs, h1, h2⟩ := h.ex
  have hl : xs.length = ps.length := by rw [h2.length, List.length_map]
  have hi : i < xs.length := by
    obtain ⟨z, _⟩ := List.getElem?_eq_some_iff.mp e
    omega
  obtain ⟨d, hd, hr⟩ := h2.get (List.getElem?_eq_getElem hi)
  obtain rfl : d = pieceD pc := by
    rw [List.getElem?_map, e] at hd
    exact (Option.some.inj hd).symm
  obtain ⟨f, po, ts⟩ := pc
  generalize hv : xs[i] = v at hr
  cases hr with
  | tup hb hys =>
    cases hys with
    | cons k1 k2 =>
      cases k2 with
      | cons k3 k4 =>
        cases k4 with
        | cons k5 k6 =>
          cases k6
          cases k1
          cases k5 with
          | tup ht hz =>
            have z : ∀ v, Rp H v (optD po) → v = optV po := fun v h => by cases po <;> cases h <;> rfl
            rw [z _ k3] at hb
            exact ⟨xs, _, _, _, ⟨.inl h1⟩, hl, by rw [List.getElem?_eq_getElem hi, hv], hb, ht, hz⟩
def spMany : Sp := fun vs H Q _ => ∃ a ps pc, vs = [.ref a] ∧ PcsAt H a (ps ++ [pc]) ∧ Q (optV pc.2.1) H
section
variable {P : Program} {w : World} {K : PySem.W.Frag} {mg : Str → Option Value} {base : Heap}
theorem ok_many {f : Addr} {fd : FuncData} (F : Fun K "many_in" "many_in" sMany f fd) : FnOk P w K mg base CX0 1 f fd ["pieces"] spMany := by
  refine F.ok scMany (fun vs H Q E ⟨a, ps, pc, e, _⟩ => by rw [e]; rfl) (fun cdv A outer s H vs Q E hr h => ?_)
  obtain ⟨a, ps, pc, rfl, hp, q⟩ := h
  refine ⟨_, pss_one (ps_ret (pe_ix ix_seq (pe_ix ix_seq (pv 0) (pe_un un_neg pe_int) (fun _ _ => rfl)) pe_int (fun _ _ => rfl))), ?_⟩
  obtain ⟨xs, b, t, zs, st, hl, hx, hb, _⟩ := pc_at (i := ps.length) (pc := pc) hp (by simp)
  obtain ⟨ys, z, rfl⟩ : ∃ ys z, xs = ys ++ [z] := ⟨xs.dropLast, xs.getLast (by intro z; rw [z] at hl; simp at hl), (List.dropLast_concat_getLast _).symm⟩
  have ey : ys.length = ps.length := by simpa using hl
  obtain rfl : z = .ref b := by
    rw [← ey] at hx
    simpa using hx
  have e1 : atI (ys ++ [V.ref b]) (-1) = some (.ref b) := atI_last _ _
  refine ⟨.ref a, rfl, 1, rfl, ?_⟩
  have fin : rIx K (.ref b) (.int 1) H Q := rix_of (i := 1) ⟨.inr hb⟩ rfl q
  rcases st.or with h | h
  · exact .inl ⟨a, _, -1, .ref b, rfl, rfl, SqL.of h, e1, fin⟩
  · exact .inr (.inl ⟨a, _, -1, .ref b, rfl, rfl, SqT.of h, e1, fin⟩)
/-- whether one of that number comes by the piece, or by one ahead of it -/
def comes (n : Int) (x : PieceT) : Bool := match x.2.1 with
  | none => true
  | some m => decide (n < m)
def spPieceNo : Sp := fun vs H Q _ => ∃ a n ps pc, vs = [.ref a, .int n] ∧ PcsAt H a ps ∧ ps.find? (comes n) = some pc ∧ ∀ i : Nat, ps[i]? = some pc → Q (.int (i : Int)) H
theorem ok_pieceNo {f : Addr} {fd : FuncData} (F : Fun K "piece_number" "piece_number" sPieceNo f fd) : FnOk P w K mg base CX0 1 f fd ["pieces", "person"] spPieceNo := by
  refine F.ok scPieceNo (fun vs H Q E ⟨a, n, ps, pc, e, _⟩ => by rw [e]; rfl) (fun cdv A outer s H vs Q E hr h => ?_)
  obtain ⟨a, n, ps, pc, rfl, hp, hf, q⟩ := h
  have nd := scPieceNo.nd
  refine ⟨_, (pss_cons (ps_set (i := 2) nd rfl (.inl rfl) pe_int) (pss_cons (ps_while PassesOwn.never (PW.pt (pw_and (pt_cmp (pc_notN (pe_ix ix_seq (pe_ix ix_seq (pv 0) (pv 2) (fun _ _ => rfl)) pe_int (fun _ _ => rfl)))) (pw_and1 (pt_cmpR op_le (pe_ix ix_seq (pe_ix ix_seq (pv 0) (pv 2) (fun _ _ => rfl)) pe_int (fun _ _ => rfl)) (pv 1) (nomark _))))) (pss_one (ps_aug (i := 2) nd rfl (.inl rfl) pe_int ip_add)))
    (pss_one (ps_ret (pv 2))))), ?_⟩
  refine ⟨fun m σ H' => ∃ i : Nat, m + i = ps.length ∧ σ = [some (.ref a), some (.int n), some (.int (i : Int))] ∧ H' = H ∧ (ps.drop i).find? (comes n) = some pc, ⟨ps.length, 0, rfl, rfl, rfl, hf⟩, fun m σ H' hW => ?_⟩
  obtain ⟨i, hm, rfl, rfl, hfi⟩ := hW
  have li : i < ps.length := by
    by_cases z : i < ps.length
    · exact z
    · rw [List.drop_eq_nil_of_le (by omega)] at hfi
      cases hfi
  obtain ⟨x, hx⟩ : ∃ x, ps[i]? = some x := ⟨_, List.getElem?_eq_getElem li⟩
  have ed : ps.drop i = x :: ps.drop (i + 1) := by
    rw [List.drop_eq_getElem_cons li]
    rw [List.getElem?_eq_getElem li] at hx
    rw [Option.some.inj hx]
  obtain ⟨xs, b, t, zs, st, hl, hxi, hb, ht, hz⟩ := pc_at hp hx
  have go : ∀ {R : VK}, R (optV x.2.1) H' → rIx K (.ref a) (.int (i : Int)) H' fun y H1 => rIx K y (.int 1) H1 R := fun {R} h => rix_of st hxi (rix_of (i := 1) ⟨.inr hb⟩ rfl h)
  rw [ed, List.find?_cons] at hfi
  refine ⟨.ref a, rfl, .int (i : Int), rfl, go ?_⟩
  cases hpo : x.2.1 with
  | none =>
    have hc : comes n x = true := by unfold comes; rw [hpo]
    rw [hc] at hfi
    obtain rfl : x = pc := Option.some.inj hfi
    exact ⟨_, rfl, iteF ⟨.int (i : Int), rfl, q i hx⟩⟩
  | some k =>
    refine ⟨_, rfl, iteT ⟨.ref a, rfl, .int (i : Int), rfl, go ?_⟩⟩
    rw [hpo]
    refine ⟨.int n, rfl, k, n, rfl, rfl, decide (k ≤ n), rfl, ?_⟩
    have hc : comes n x = decide (n < k) := by unfold comes; rw [hpo]
    rw [hc] at hfi
    refine ite2 (fun e => ?_) (fun e => ?_)
    · have e1 : decide (n < k) = false := decide_eq_false (by have := of_decide_eq_true e; omega)
      rw [e1] at hfi
      refine ⟨fun σ' H'' => σ' = [some (.ref a), some (.int n), some (.int ((i : Int) + 1))] ∧ H'' = H', fun σ' H'' z => ⟨m - 1, by omega, i + 1, by omega, z.1, z.2, hfi⟩, ?_⟩
      exact ⟨.int (i : Int), rfl, i, 1, rfl, rfl, rfl, rfl⟩
    · have e1 : decide (n < k) = true := decide_eq_true (by
        have : ¬ k ≤ n := fun z => e (decide_eq_true z)
        omega)
      rw [e1] at hfi
      obtain rfl : x = pc := Option.some.inj hfi
      exact ⟨.int (i : Int), rfl, q i hx⟩
/-- the number of its piece, its place in the round -/
def spTurnAt : Sp := fun vs H Q _ => ∃ a n ps pc, vs = [.ref a, .int n] ∧ PcsAt H a ps ∧ ps.find? (comes n) = some pc ∧ 0 < pc.2.2.length ∧ ∀ (i : Nat) p H', ps[i]? = some pc → Same H H' → H' p = some (.tup [.int (i : Int), .int ((n - pc.1) % (pc.2.2.length : Int))]) → Q (.ref p) H'
theorem ok_turnAt {f : Addr} {fd : FuncData} (F : Fun K "turn_at" "turn_at" sTurnAt f fd) (T : Nm mg) (CA : Cal P w K mg base 1 "piece_number" ["pieces", "person"] spPieceNo) : FnOk P w K mg base CX0 2 f fd ["pieces", "person"] spTurnAt := by
  refine F.ok scTurnAt (fun vs H Q E ⟨a, n, ps, pc, e, _⟩ => by rw [e]; rfl) (fun cdv A outer s H vs Q E hr h => ?_)
  obtain ⟨a, n, ps, pc, rfl, hp, hf, hl, q⟩ := h
  have nd := scTurnAt.nd
  refine ⟨_, (pss_cons (ps_set (i := 2) nd rfl (.inl rfl) (pe_cal CA hr (by rfl) (pa_cons (pv 0) (pa_cons (pv 1) pa_nil))))
    (pss_cons (ps_asg (pe_ix ix_seq (pv 0) (pv 2) (fun _ _ => rfl)) (pg_tup rfl (pgs_cons (pg_name (i := 3) nd rfl (.inl rfl)) (pgs_cons (pg_name (i := 4) nd rfl (.inl rfl)) (pgs_cons (pg_name (i := 5) nd rfl (.inl rfl)) pgs_nil)))))
    (pss_one (ps_ret (pe_tup (pa_cons (pv 2) (pa_cons (pe_op op_mod (pe_op op_sub (pv 1) (pv 3)) (pe_callB call_len_seq (by rfl) T.len PySem.boot_len (pa_cons (pv 5) pa_nil))) pa_nil))))))), ?_⟩
  refine ⟨.ref a, rfl, .int n, rfl, a, n, ps, pc, rfl, hp, hf, fun i hi => ?_⟩
  obtain ⟨xs, b, t, zs, st, _, hx, hb, ht, hz⟩ := pc_at hp hi
  have hzl := hz.length
  have st2 : StSeq H t zs := ⟨.inr ht⟩
  refine ⟨.ref a, rfl, .int (i : Int), rfl, rix_of st hx ?_⟩
  refine ⟨b, _, rfl, SqT.of hb, rfl, .int pc.1, _, rfl, optV pc.2.1, _, rfl, .ref t, _, rfl, rfl, ?_⟩
  refine ⟨.int (i : Int), rfl, .int n, rfl, .int pc.1, rfl, n, pc.1, rfl, rfl, .ref t, rfl, t, zs, rfl, st2.sq, n - pc.1, (zs.length : Int), rfl, rfl, by show (0 : Int) < (zs.length : Int); omega, small_le (by show 2 ≤ 1000; decide), fun p np => ?_⟩
  exact q i p _ hi (same_upd np) (by rw [upd_same, hzl])
def spPatAt : Sp := fun vs H Q _ => ∃ a n ps pc d, vs = [.ref a, .int n] ∧ PcsAt H a ps ∧ ps.find? (comes n) = some pc ∧ 0 < pc.2.2.length ∧ pc.2.2[((n - pc.1) % (pc.2.2.length : Int)).toNat]? = some d ∧ ∀ v H', Same H H' → Rp H' v d → Q v H'
theorem ok_patAt {f : Addr} {fd : FuncData} (F : Fun K "patience_at" "patience_at" sPatAt f fd) (CA : Cal P w K mg base 2 "turn_at" ["pieces", "person"] spTurnAt) : FnOk P w K mg base CX0 3 f fd ["pieces", "person"] spPatAt := by
  refine F.ok scPatAt (fun vs H Q E ⟨a, n, ps, pc, d, e, _⟩ => by rw [e]; rfl) (fun cdv A outer s H vs Q E hr h => ?_)
  obtain ⟨a, n, ps, pc, d, rfl, hp, hf, hl, hd, q⟩ := h
  have nd := scPatAt.nd
  refine ⟨_, (pss_cons (ps_asg (pe_cal CA hr (by rfl) (pa_cons (pv 0) (pa_cons (pv 1) pa_nil))) (pg_tup rfl (pgs_cons (pg_name (i := 2) nd rfl (.inl rfl)) (pgs_cons (pg_name (i := 3) nd rfl (.inl rfl)) pgs_nil))))
    (pss_one (ps_ret (pe_ix ix_seq (pe_ix ix_seq (pe_ix ix_seq (pv 0) (pv 2) (fun _ _ => rfl)) pe_int (fun _ _ => rfl)) (pv 3) (fun _ _ => rfl))))), ?_⟩
  refine ⟨.ref a, rfl, .int n, rfl, a, n, ps, pc, rfl, hp, hf, hl, fun i p H' hi s ep => ?_⟩
  obtain ⟨xs, b, t, zs, st, _, hx, hb, ht, hz⟩ := pc_at hp hi
  have hzl := hz.length
  obtain ⟨v, hv⟩ : ∃ v, zs[((n - pc.1) % (pc.2.2.length : Int)).toNat]? = some v := by
    obtain ⟨z, _⟩ := List.getElem?_eq_some_iff.mp hd
    exact ⟨_, List.getElem?_eq_getElem (by rw [hzl]; exact z)⟩
  obtain ⟨d', hd', hR⟩ := hz.get hv
  rw [hd] at hd'
  cases hd'
  have e0 : 0 ≤ (n - pc.1) % (pc.2.2.length : Int) := Int.emod_nonneg _ (by omega)
  have e1 : ((n - pc.1) % (pc.2.2.length : Int)) = ((((n - pc.1) % (pc.2.2.length : Int)).toNat : Nat) : Int) := by rw [Int.toNat_of_nonneg e0]
  refine ⟨p, _, rfl, SqT.of ep, rfl, .int (i : Int), _, rfl, .int ((n - pc.1) % (pc.2.2.length : Int)), _, rfl, rfl, ?_⟩
  refine ⟨.ref a, rfl, .int (i : Int), rfl, rix_of (st.ex (Ex.of s)) hx (rix_of (i := 2) ⟨.inr (s _ _ hb)⟩ rfl ⟨.int ((n - pc.1) % (pc.2.2.length : Int)), rfl, ?_⟩)⟩
  rw [e1]
  exact rix_of ⟨.inr (s _ _ ht)⟩ hv (q v H' s (Rp.sm s hR))
end
end CL
set_option Elab.async false
set_option linter.all false
set_option maxRecDepth 100000
set_option maxHeartbeats 4000000
namespace CL
open PySem PySem.Spec PyProof.Rows L2 GE
abbrev sCkP : Stmt := topS 26
theorem scCkP : FnScope ["pieces", "person", "many"] ["pieces", "person"] (defScope sCkP) := ⟨rfl, rfl, rfl, by decide +kernel, rfl, by decide +kernel, by decide +kernel⟩
abbrev sCkM : Stmt := topS 27
theorem scCkM : FnScope ["pieces", "moment", "many"] ["pieces", "moment"] (defScope sCkM) := ⟨rfl, rfl, rfl, by decide +kernel, rfl, by decide +kernel, by decide +kernel⟩
/-- whether anything is the number of one that comes before past, or ever -/
def under : Option Int → Int → Bool
  | none, _ => true
  | some m, n => decide (n < m)
def personOk (past : Option Int) : PyData → Bool
  | .int n => decide (0 ≤ n) && under past n
  | _ => false
theorem personOk_int (past : Option Int) (n : Int) : personOk past (.int n) = (decide (0 ≤ n) && under past n) := rfl
def spCkP (C : Addr) : Sp := fun vs H Q E => ∃ a v ps pc d, vs = [.ref a, v] ∧ PcsAt H a (ps ++ [pc]) ∧ Rp H v d ∧ (personOk pc.2.1 d = false → ∀ H', Same H H' → E (.ref C) none H') ∧ (personOk pc.2.1 d = true → ∀ H', Same H H' → Q .non H')
/-- whether anything is a moment by which no more come than come -/
def upto : Option Int → Int → Bool
  | none, _ => true
  | some m, n => decide (n ≤ m)
def momentOk (past : Option Int) : PyData → Bool
  | .int n => decide (0 ≤ n) && decide (n ≤ GREAT) && upto past n
  | _ => false
theorem momentOk_int (past : Option Int) (n : Int) : momentOk past (.int n) = (decide (0 ≤ n) && decide (n ≤ GREAT) && upto past n) := rfl
def spCkM (C : Addr) : Sp := fun vs H Q E => ∃ a v ps pc d, vs = [.ref a, v] ∧ PcsAt H a (ps ++ [pc]) ∧ Rp H v d ∧ (momentOk pc.2.1 d = false → ∀ H', Same H H' → E (.ref C) none H') ∧ (momentOk pc.2.1 d = true → ∀ H', Same H H' → Q .non H')
section
variable {P : Program} {w : World} {K : PySem.W.Frag} {mg : Str → Option Value} {base : Heap}
theorem ok_ckp {f C : Addr} {fd : FuncData} (F : Fun K "check_person" "check_person" sCkP f fd) (XN : ExcC K mg "NoPerson" C) (CM : Cal P w K mg base 1 "many_in" ["pieces"] spMany) (CW : Cal P w K mg base 1 "is_whole" ["thing"] (spOne isWhole)) :
    FnOk P w K mg base (L2.CX P w) 2 f fd ["pieces", "person"] (spCkP C) := by
  refine F.okX scCkP (fun vs H Q E ⟨a, v, ps, pc, d, e, _⟩ => by rw [e]; rfl) (fun cdv A outer s H vs Q E hr h => ?_)
  obtain ⟨a, v, ps, pc, d, rfl, hp, hR, qE, q⟩ := h
  have nd := scCkP.nd
  refine ⟨_, (pss_cons (ps_set (i := 2) nd rfl (.inl rfl) (pe_cal CM hr (by rfl) (pa_cons (pv 0) pa_nil)))
    (pss_one (ps_if (PW.pt (pw_or (pt_not (pt_val (pe_cal CW hr (by rfl) (pa_cons (pv 1) pa_nil)))) (pw_or (pt_cmpR op_lt (pv 1) pe_int (nomark _)) (pw_or1 (PW.pt (pw_and (pt_cmp (pc_notN (pv 2))) (pw_and1 (pt_cmpR op_ge (pv 1) (pv 2) (nomark _))))))))) (pss_one (ps_raise rfl (takes_of rfl rfl rfl rfl) (pmk_own PySem.F.excBase_ValueError XN.x XN.g XN.k (raises_own XN.b XN.t) rfl))) pss_nil))), ?_⟩
  refine ⟨.ref a, rfl, a, ps, pc, rfl, hp, v, rfl, v, d, rfl, hR, fun H1 s1 => ⟨isWhole d, rfl, ?_⟩⟩
  cases hR with
  | int n =>
    refine iteF ⟨.int n, rfl, n, 0, rfl, rfl, decide (n < 0), rfl, ite2 (fun e1 => ?_) (fun e1 => ?_)⟩
    · exact iteT (qE (by rw [personOk_int, decide_eq_false (by have := of_decide_eq_true e1; omega)]; rfl) H1 s1)
    · have n0 : 0 ≤ n := by
        have : ¬ n < 0 := fun z => e1 (decide_eq_true z)
        omega
      cases hpo : pc.2.1 with
      | none => 
        refine ⟨_, rfl, _, rfl, iteF (iteF ?_)⟩
        exact q (by rw [hpo, personOk_int, decide_eq_true n0]; rfl) H1 s1
      | some m =>
        refine ⟨_, rfl, _, rfl, iteT ⟨.int n, rfl, .int m, rfl, n, m, rfl, rfl, decide (m ≤ n), rfl, ?_⟩⟩
        refine ite2 (fun e2 => ?_) (fun e2 => ?_)
        · exact qE (by rw [hpo, personOk_int, decide_eq_true n0]; exact decide_eq_false (by have := of_decide_eq_true e2; omega)) H1 s1
        · exact q (by rw [hpo, personOk_int, decide_eq_true n0]; exact decide_eq_true (by have : ¬ m ≤ n := fun z => e2 (decide_eq_true z); omega)) H1 s1
  | _ => exact iteT (iteT (qE rfl H1 s1))
theorem ok_ckm {f C : Addr} {fd : FuncData} (F : Fun K "check_moment" "check_moment" sCkM f fd) (T : Nm mg) (XN : ExcC K mg "NoMoment" C) (CM : Cal P w K mg base 1 "many_in" ["pieces"] spMany) (CW : Cal P w K mg base 1 "is_whole" ["thing"] (spOne isWhole)) :
    FnOk P w K mg base (L2.CX P w) 2 f fd ["pieces", "moment"] (spCkM C) := by
  refine F.okX scCkM (fun vs H Q E ⟨a, v, ps, pc, d, e, _⟩ => by rw [e]; rfl) (fun cdv A outer s H vs Q E hr h => ?_)
  obtain ⟨a, v, ps, pc, d, rfl, hp, hR, qE, q⟩ := h
  obtain ⟨tg, hgr⟩ := T.great
  have nd := scCkM.nd
  refine ⟨_, (pss_cons (ps_set (i := 2) nd rfl (.inl rfl) (pe_cal CM hr (by rfl) (pa_cons (pv 0) pa_nil)))
    (pss_one (ps_if (PW.pt (pw_or (pt_not (pt_val (pe_cal CW hr (by rfl) (pa_cons (pv 1) pa_nil)))) (pw_or (pt_not (pt_chain op_le op_le pe_int (pv 1) (pe_glob (v := .int GREAT) (by rfl) hgr ⟨_, rfl⟩))) (pw_or1 (PW.pt (pw_and (pt_cmp (pc_notN (pv 2))) (pw_and1 (pt_cmpR op_gt (pv 1) (pv 2) (nomark _))))))))) (pss_one (ps_raise rfl (takes_of rfl rfl rfl rfl) (pmk_own PySem.F.excBase_ValueError XN.x XN.g XN.k (raises_own XN.b XN.t) rfl))) pss_nil))), ?_⟩
  refine ⟨.ref a, rfl, a, ps, pc, rfl, hp, v, rfl, v, d, rfl, hR, fun H1 s1 => ⟨isWhole d, rfl, ?_⟩⟩
  cases hR with
  | int n =>
    refine iteF ⟨.int n, rfl, 0, n, rfl, rfl, decide (0 ≤ n), rfl, ite2 (fun e1 => ?_) (fun e1 => ?_)⟩
    · refine ⟨n, GREAT, rfl, rfl, decide (n ≤ GREAT), rfl, ?_⟩
      cases e2 : decide (n ≤ GREAT) with
      | true =>
        refine iteF ?_
        cases hpo : pc.2.1 with
        | none =>
          refine ⟨_, rfl, _, rfl, iteF (iteF ?_)⟩
          exact q (by rw [hpo, momentOk_int, e1, e2]; rfl) H1 s1
        | some m =>
          refine ⟨_, rfl, _, rfl, iteT ⟨.int n, rfl, .int m, rfl, n, m, rfl, rfl, decide (m < n), rfl, ?_⟩⟩
          refine ite2 (fun e3 => ?_) (fun e3 => ?_)
          · exact qE (by rw [hpo, momentOk_int, e1, e2]; exact decide_eq_false (by have := of_decide_eq_true e3; omega)) H1 s1
          · exact q (by rw [hpo, momentOk_int, e1, e2]; exact decide_eq_true (by have : ¬ m < n := fun z => e3 (decide_eq_true z); omega)) H1 s1
      | false => exact iteT (iteT (qE (by rw [momentOk_int, e1, e2]; rfl) H1 s1))
    · exact ⟨false, rfl, iteT (iteT (qE (by rw [momentOk_int, Bool.eq_false_iff.mpr e1]; rfl) H1 s1))⟩
  | _ => exact iteT (iteT (qE rfl H1 s1))
/-- the patience of a person, as the pieces have it -/
def patD (ps : List PieceT) (n : Int) : Option PyData := (ps.find? (comes n)).bind fun pc => pc.2.2[((n - pc.1) % (pc.2.2.length : Int)).toNat]?
/-- each that comes has its piece, with a patience -/
def HasP (ps : List PieceT) (n : Int) (e : PyData) : Prop := ∃ pp, ps.find? (comes n) = some pp ∧ 0 < pp.2.2.length ∧ pp.2.2[((n - pp.1) % (pp.2.2.length : Int)).toNat]? = some e
abbrev sPatOf : Stmt := topS 28
theorem scPatOf : FnScope ["plan", "person", "pieces"] ["plan", "person"] (defScope sPatOf) := ⟨rfl, rfl, rfl, by decide +kernel, rfl, by decide +kernel, by decide +kernel⟩
def spPatOf (P1 P2 C C2 : Addr) : Sp := fun vs H Q E => ∃ v u d c, vs = [v, u] ∧ Rp H v d ∧ Rp H u c ∧ Tb P1 P2 H ∧ (isPlan d = false → ∀ H', Ex H H' → Tb P1 P2 H' → E (.ref C) none H') ∧
  (isPlan d = true → ∃ ps pc, piecesOf d = ps ++ [pc] ∧ (personOk pc.2.1 c = false → ∀ H', Ex H H' → Tb P1 P2 H' → E (.ref C2) none H') ∧
    (personOk pc.2.1 c = true → ∃ n e, c = .int n ∧ HasP (piecesOf d) n e ∧ ∀ x H', Ex H H' → Tb P1 P2 H' → Rp H' x e → Q x H'))
theorem ok_patOf {f P1 P2 C C2 : Addr} {fd : FuncData} (F : Fun K "patience_of" "patience_of" sPatOf f fd) (CP : CalX P w K mg base 9 "pieces_of" ["plan"] (spPieces P1 P2 C)) (CK : CalX P w K mg base 9 "check_person" ["pieces", "person"] (spCkP C2)) (CA : Cal P w K mg base 9 "patience_at" ["pieces", "person"] spPatAt) :
    FnOk P w K mg base (L2.CX P w) 10 f fd ["plan", "person"] (spPatOf P1 P2 C C2) := by
  refine F.okX scPatOf (fun vs H Q E ⟨v, u, d, c, e, _⟩ => by rw [e]; rfl) (fun cdv A outer s H vs Q E hr h => ?_)
  obtain ⟨v, u, d, c, rfl, hR, hU, hT, qE0, q⟩ := h
  have nd := scPatOf.nd
  refine ⟨_, (pss_cons (ps_set (i := 2) nd rfl (.inl rfl) (pe_calX CP hr (by rfl) (passes_call (takes_of rfl rfl rfl rfl) fun _ _ _ _ h => h) (pa_cons (pv 0) pa_nil)))
    (pss_cons (ps_expr (pe_calX CK hr (by rfl) (passes_call (takes_of rfl rfl rfl rfl) fun _ _ _ _ h => h) (pa_cons (pv 2) (pa_cons (pv 1) pa_nil))))
    (pss_one (ps_ret (pe_cal CA hr (by rfl) (pa_cons (pv 2) (pa_cons (pv 1) pa_nil))))))), ?_⟩
  refine ⟨v, rfl, v, d, rfl, hR, hT, qE0, fun z0 p H1 e1 t1 _ rp => ?_⟩
  obtain ⟨ps, pc, hps, qE, q⟩ := q z0
  have hU1 := Rp.ex e1 c u hU
  have rp' := rp
  rw [hps] at rp'
  obtain ⟨a, ea, h⟩ := PcsAt.of rp'
  obtain rfl : p = a := V.ref.inj ea
  refine ⟨.ref p, rfl, u, rfl, p, u, ps, pc, c, rfl, h, hU1, fun z H2 s2 => qE z H2 (e1.trans (Ex.of s2)) (t1.same s2), fun z H2 s2 => ?_⟩
  obtain ⟨n, e, rfl, ⟨pp, hf, hl, he⟩, q⟩ := q z
  cases hU1
  have rp2 : Rp H2 (.ref p) (.list ((piecesOf d).map pieceD)) := Rp.sm s2 rp
  obtain ⟨a, ea, h2⟩ := PcsAt.of rp2
  obtain rfl : p = a := V.ref.inj ea
  exact ⟨.ref p, rfl, .int n, rfl, p, n, piecesOf d, pp, e, rfl, h2, hf, hl, he, fun x H3 s3 hx => q x H3 (e1.trans (Ex.of (s2.trans s3))) (t1.same (s2.trans s3)) hx⟩
end
end CL
set_option Elab.async false
set_option linter.all false
set_option maxRecDepth 100000
set_option maxHeartbeats 4000000
namespace CL
open PySem PySem.Spec PyProof.Rows L2 GE
abbrev sLine : Stmt := topS 30
abbrev nLine : List Str := ["pieces", "moment", "people", "left", "person", "place"]
theorem scLine : FnScope nLine ["pieces", "moment"] (defScope sLine) := ⟨rfl, rfl, rfl, by decide +kernel, rfl, by decide +kernel, by decide +kernel⟩
abbrev sLet : Stmt := topS 29
theorem scLet : FnScope ["left", "place"] ["left"] (defScope sLet) := ⟨rfl, rfl, rfl, by decide +kernel, rfl, by decide +kernel, by decide +kernel⟩
/-! ### xs[i] -= e -/
theorem get_list {X : Cx} : PGet X (fun x y H Q => ∃ p xs, ∃ i : Nat, ∃ v, x = .ref p ∧ y = .int (i : Int) ∧ SqL X.K H p xs ∧ xs[i]? = some v ∧ Q v H) := by
  intro pins s σ H o k ov iv Q I ro ri h
  obtain ⟨p, xs, i, v, rfl, rfl, hs, hv, q⟩ := h
  cases ro
  obtain ⟨t, rfl⟩ := ri
  obtain ⟨its, r, pl, hz⟩ := I.list hs
  obtain ⟨w, ew, rw'⟩ := r.get hv
  have hn := line63
  have hl : i < xs.length := (List.getElem?_eq_some_iff.mp hv).1
  exact wpAny_getItem_list pl.isList (by omega) (by omega) (by simpa using ew) ⟨v, H, I, rw', q⟩
/-! ### who comes goes past all that let it -/
def goes : Nat → List (Option Int) → Nat × List (Option Int)
  | 0, l => (0, l)
  | p + 1, l => match l[p]? with
    | some (some k) => if k = 0 then (p + 1, l) else goes p (l.set p (some (k - 1)))
    | some none => goes p l
    | none => (p + 1, l)
theorem goes_le : ∀ (p : Nat) (l : List (Option Int)), (goes p l).1 ≤ p ∧ (goes p l).2.length = l.length
  | 0, l => ⟨Nat.le_refl 0, rfl⟩
  | p + 1, l => by
    unfold goes
    split
    · split
      · exact ⟨Nat.le_refl _, rfl⟩
      · have h := goes_le p (l.set p (some (‹Int› - 1)))
        exact ⟨Nat.le_succ_of_le h.1, by rw [h.2, List.length_set]⟩
    · have h := goes_le p l
      exact ⟨Nat.le_succ_of_le h.1, h.2⟩
    · exact ⟨Nat.le_refl _, rfl⟩
def stand (st : List Int × List (Option Int)) (who : Int) (e : Option Int) : List Int × List (Option Int) :=
  (st.1.take (goes st.1.length st.2).1 ++ [who] ++ st.1.drop (goes st.1.length st.2).1, (goes st.1.length st.2).2.take (goes st.1.length st.2).1 ++ [e] ++ (goes st.1.length st.2).2.drop (goes st.1.length st.2).1)
def lined (pat : Nat → Option Int) : Nat → List Int × List (Option Int)
  | 0 => ([], [])
  | n + 1 => stand (lined pat n) (n : Int) (pat n)
theorem lined_len (pat : Nat → Option Int) : ∀ n, (lined pat n).1.length = n ∧ (lined pat n).2.length = n
  | 0 => ⟨rfl, rfl⟩
  | n + 1 => by
    obtain ⟨h1, h2⟩ := lined_len pat n
    obtain ⟨g1, g2⟩ := goes_le (lined pat n).1.length (lined pat n).2
    rw [h1] at g1
    rw [h2] at g2
    unfold lined stand
    simp only [List.length_append, List.length_take, List.length_drop, List.length_singleton, h1]
    rw [h1] at g2
    constructor <;> omega
theorem rp_opt2 {H : Hp} : ∀ o : Option Int, Rp H (optV o) (optD o)
  | none => .non
  | some i => .int i
def spLet : Sp := fun vs H Q _ => ∃ (L : Addr) (l : List (Option Int)), vs = [.ref L] ∧ H L = some (.lst (l.map optV)) ∧ l.length ≤ 2000 ∧ ∀ H', (∀ b, b ≠ L → H' b = H b) → H' L = some (.lst ((goes l.length l).2.map optV)) → Q (.int ((goes l.length l).1 : Int)) H'
def spLine : Sp := fun vs H Q _ => ∃ a ps, ∃ m : Nat, ∃ pat : Nat → Option Int, vs = [.ref a, .int (m : Int)] ∧ PcsAt H a ps ∧ m ≤ 2000 ∧ (∀ n : Nat, n < m → HasP ps (n : Int) (optD (pat n))) ∧
  ∀ p L1 L2 H', Same H H' → H L1 = none → H L2 = none → L1 ≠ L2 → H' p = some (.tup [.ref L1, .ref L2]) → H' L1 = some (.lst ((lined pat m).1.map V.int)) → H' L2 = some (.lst ((lined pat m).2.map optV)) → Q (.ref p) H'
theorem optV_dp {K : PySem.W.Frag} {H : Hp} : ∀ o : Option Int, Dp K H (optV o) (optD o)
  | none => .non
  | some i => .int i
theorem optD_shaped : ∀ o : Option Int, SeqAt.shaped (optD o) = true
  | none => by decide
  | some i => by unfold SeqAt.shaped; simp [optD, PyData.canLay0, PyData.depth]
theorem optV_ne0 : ∀ o : Option Int, (!PyData.eqv (optD o) (.int 0)) = !decide (o = some 0)
  | none => by simp [optD, PyData.eqv]
  | some i => by
    by_cases h : i = 0
    · subst h; simp [optD, PyData.eqv]
    · simp [optD, PyData.eqv, h]
theorem rp_optV {H : Hp} {v : V} : ∀ {o : Option Int}, Rp H v (optD o) → v = optV o
  | none, h => by cases h; rfl
  | some i, h => by cases h; rfl
theorem stand_fin {st : List Int × List (Option Int)} {i k : Nat} {l : List (Option Int)} {e : Option Int} (l1 : st.1.length = i) (h : (k, l) = goes i st.2) :
    (st.1.map V.int).take k ++ [V.int (0 + (i : Int))] ++ (st.1.map V.int).drop k = (stand st (i : Int) e).1.map V.int ∧ (l.map optV).take k ++ [optV e] ++ (l.map optV).drop k = (stand st (i : Int) e).2.map optV := by
  unfold stand
  rw [l1, ← h]
  simp only [List.map_append, List.map_take, List.map_drop, List.map_cons, List.map_nil, Int.zero_add, and_self]
theorem ixN_nat {n j : Nat} (h : j < n) : ixN n (j : Int) = some j := by
  unfold ixN
  rw [if_pos (by omega)]
  simp [h]
section
variable {P : Program} {w : World} {K : PySem.W.Frag} {mg : Str → Option Value} {base : Heap}
theorem ok_let {f : Addr} {fd : FuncData} (F : Fun K "let_past" "let_past" sLet f fd) (T : Nm mg) : FnOk P w K mg base CX0 1 f fd ["left"] spLet := by
  refine F.ok scLet (fun vs H Q E ⟨L, l, e, _⟩ => by rw [e]; rfl) (fun cdv A outer s H vs Q E hr h => ?_)
  obtain ⟨L2, l0, rfl, eL, hl0, q⟩ := h
  have nd := scLet.nd
  refine ⟨_, (pss_cons (ps_set (i := 1) nd rfl (.inl rfl) (pe_callB call_len_seq (by rfl) T.len PySem.boot_len (pa_cons (pv 0) pa_nil)))
      (pss_cons (ps_while PassesOwn.never (PW.pt (pw_and (pt_cmpR op_gt (pv 1) pe_int (nomark _)) (pw_and1 (pt_cmpR (op_neD hr.units) (pe_ix ix_list (pv 0) (pe_op op_sub (pv 1) pe_int) (fun _ _ => rfl)) pe_int (nomark _)))))
        (pss_cons (ps_aug (i := 1) nd rfl (.inl rfl) pe_int ip_sub)
        (pss_one (ps_if (pt_cmp (pc_notN (pe_ix ix_list (pv 0) (pv 1) (fun _ _ => rfl)))) (pss_one (ps_augS (pv 0) (pv 1) get_list pe_int ip_sub set_list)) pss_nil))))
      (pss_one (ps_ret (pv 1))))), ?_⟩
  refine ⟨.ref L2, rfl, L2, _, rfl, .inl (SqL.of eL), ?_⟩
  rw [List.length_map]
  refine ⟨fun k σ H3 => ∃ l : List (Option Int), σ = [some (.ref L2), some (.int (k : Int))] ∧ (∀ b, b ≠ L2 → H3 b = H b) ∧ H3 L2 = some (.lst (l.map optV)) ∧ l.length = l0.length ∧ k ≤ l0.length ∧ goes k l = goes l0.length l0,
      ⟨l0.length, l0, rfl, fun b _ => rfl, eL, rfl, Nat.le_refl _, rfl⟩, fun k σ H3 hW => ?_⟩
  obtain ⟨l, rfl, s3, f2, hl, hk, hg⟩ := hW
  have ix : ∀ {b : Nat} {o : Option Int}, l[b]? = some o → (l.map optV)[b]? = some (optV o) := fun {b o} e => by rw [List.getElem?_map, e]; rfl
  have fin : ∀ {k : Nat}, (k, l) = goes l0.length l0 → Q (.int (k : Int)) H3 := fun {k} e => by
    have q' := q H3 s3
    rw [← e] at q'
    exact q' f2
  cases k with
  | zero =>
    refine ⟨.int ((0 : Nat) : Int), rfl, ((0 : Nat) : Int), 0, rfl, rfl, decide ((0 : Int) < ((0 : Nat) : Int)), rfl, iteF ?_⟩
    exact ⟨.int ((0 : Nat) : Int), rfl, fin hg⟩
  | succ k' =>
    have hk' : k' < l.length := by omega
    obtain ⟨o, ho⟩ : ∃ o, l[k']? = some o := ⟨_, List.getElem?_eq_getElem hk'⟩
    have hi1 : ((k' + 1 : Nat) : Int) - 1 = (k' : Int) := by omega
    refine ⟨.int ((k' + 1 : Nat) : Int), rfl, ((k' + 1 : Nat) : Int), 0, rfl, rfl, decide ((0 : Int) < ((k' + 1 : Nat) : Int)), rfl, ?_⟩
    rw [decide_eq_true (by omega : (0 : Int) < ((k' + 1 : Nat) : Int))]
    refine iteT ⟨.ref L2, rfl, .int ((k' + 1 : Nat) : Int), rfl, ((k' + 1 : Nat) : Int), 1, rfl, rfl, L2, _, ((k' + 1 : Nat) : Int) - 1, optV o, rfl, rfl, SqL.of f2, by rw [hi1]; exact atI_nat (ix ho), optD o, .int 0, optV_dp o, .int 0, optD_shaped o, optD_shaped (some 0), _, rfl, ?_⟩
    rw [optV_ne0]
    by_cases hz : o = some 0
    · rw [decide_eq_true hz]
      have hg2 : (k' + 1, l) = goes l0.length l0 := by
        rw [← hg]
        unfold goes
        rw [ho, hz]
        rfl
      exact iteF ⟨.int ((k' + 1 : Nat) : Int), rfl, fin hg2⟩
    · rw [decide_eq_false hz]
      cases o with
      | none =>
        have hg2 : goes k' l = goes l0.length l0 := by
          rw [← hg]
          conv => rhs; unfold goes
          rw [ho]
        refine iteT ⟨fun σ' H'' => σ' = [some (.ref L2), some (.int (((k' + 1 : Nat) : Int) - 1))] ∧ H'' = H3, fun σ' H'' z => ⟨k', Nat.lt_succ_self k', l, by rw [z.1, hi1], by rw [z.2]; exact s3, by rw [z.2]; exact f2, hl, by omega, hg2⟩, ?_⟩
        refine ⟨.int ((k' + 1 : Nat) : Int), rfl, ((k' + 1 : Nat) : Int), 1, rfl, rfl, .ref L2, rfl, .int (((k' + 1 : Nat) : Int) - 1), rfl, L2, _, ((k' + 1 : Nat) : Int) - 1, optV none, rfl, rfl, SqL.of f2, by rw [hi1]; exact atI_nat (ix ho), _, rfl, iteF ⟨rfl, rfl⟩⟩
      | some j =>
        have hj0 : j ≠ 0 := fun z => hz (by rw [z])
        have hg2 : goes k' (l.set k' (some (j - 1))) = goes l0.length l0 := by
          rw [← hg]
          conv => rhs; unfold goes
          rw [ho]
          exact (if_neg hj0).symm
        refine iteT ⟨fun σ' H'' => σ' = [some (.ref L2), some (.int (((k' + 1 : Nat) : Int) - 1))] ∧ H'' = upd H3 L2 (.lst ((l.set k' (some (j - 1))).map optV)), fun σ' H'' z => ⟨k', Nat.lt_succ_self k', l.set k' (some (j - 1)), by rw [z.1, hi1], by rw [z.2]; exact fun b hb => by rw [upd_ne hb]; exact s3 b hb, by rw [z.2]; exact upd_same, by rw [List.length_set]; exact hl, by omega, hg2⟩, ?_⟩
        refine ⟨.int ((k' + 1 : Nat) : Int), rfl, ((k' + 1 : Nat) : Int), 1, rfl, rfl, .ref L2, rfl, .int (((k' + 1 : Nat) : Int) - 1), rfl, L2, _, ((k' + 1 : Nat) : Int) - 1, optV (some j), rfl, rfl, SqL.of f2, by rw [hi1]; exact atI_nat (ix ho), _, rfl, iteT ?_⟩
        refine ⟨.ref L2, rfl, .int (((k' + 1 : Nat) : Int) - 1), rfl, L2, _, k', optV (some j), rfl, by rw [hi1], SqL.of f2, ix ho, j, 1, rfl, rfl, L2, _, (k' : Int), k', rfl, by rw [hi1], f2, ixN_nat (by rw [List.length_map]; exact hk'), rfl, ?_⟩
        rw [List.map_set]
        first | rfl | exact ⟨rfl, rfl⟩
theorem ok_line {f : Addr} {fd : FuncData} (F : Fun K "line_up" "line_up" sLine f fd) (T : Nm mg) (hrange : mg "range" = none) (CA : Cal P w K mg base 3 "patience_at" ["pieces", "person"] spPatAt) (CT : Cal P w K mg base 3 "let_past" ["left"] spLet) : FnOk P w K mg base CX0 4 f fd ["pieces", "moment"] spLine := by
  refine F.ok scLine (fun vs H Q E ⟨a, ps, m, pat, e, _⟩ => by rw [e]; rfl) (fun cdv A outer s H vs Q E hr h => ?_)
  obtain ⟨a, ps, m, pat, rfl, hp, hm, hh, q⟩ := h
  have nd := scLine.nd
  have sz : 2001 ≤ sizeLine := by decide
  refine ⟨_, (pss_cons (ps_set (i := 2) nd rfl (.inl rfl) (pe_lst pa_nil)) (pss_cons (ps_set (i := 3) nd rfl (.inl rfl) (pe_lst pa_nil))
    (pss_cons (ps_for PassesOwn.never rfl (pi_range1 (by rfl) hrange (pa_cons (pv 1) pa_nil)) (pg_name (i := 4) nd rfl (.inl rfl))
      (pss_cons (ps_set (i := 5) nd rfl (.inl rfl) (pe_cal CT hr (by rfl) (pa_cons (pv 3) pa_nil)))
      (pss_cons (ps_expr (pe_bm PySem.F.plainAttrs_list PySem.F.slot_list_insert PySem.F.type_list_insert mt_insert (pv 2) (pa_cons (pv 5) (pa_cons (pv 4) pa_nil))))
      (pss_one (ps_expr (pe_bm PySem.F.plainAttrs_list PySem.F.slot_list_insert PySem.F.type_list_insert mt_insert (pv 3) (pa_cons (pv 5) (pa_cons (pe_cal CA hr (by rfl) (pa_cons (pv 0) (pa_cons (pv 4) pa_nil))) pa_nil))))))))
    (pss_one (ps_ret (pe_tup (pa_cons (pv 2) (pa_cons (pv 3) pa_nil)))))))), ?_⟩
  refine ⟨Nat.zero_le _, fun L1 n1 => ⟨Nat.zero_le _, fun L2 n2 => ?_⟩⟩
  have s1 : Same H (upd H L1 (.lst [])) := same_upd n1
  have n2' : H L2 = none := by
    cases z : H L2 with
    | none => rfl
    | some o => rw [s1 _ _ z] at n2; cases n2
  have ne12 : L1 ≠ L2 := fun z => by rw [← z, upd_same] at n2; cases n2
  show tSeq _ _ _ [some (.ref a), some (.int (m : Int)), some (.ref L1), some (.ref L2), none, none] (upd (upd H L1 (.lst [])) L2 (.lst []))
  have s0 : Same H (upd (upd H L1 (.lst [])) L2 (.lst [])) := s1.trans (same_upd n2)
  have e1 : (upd (upd H L1 (.lst [])) L2 (.lst [])) L1 = some (.lst []) := by rw [upd_ne ne12]; exact upd_same
  have e2 : (upd (upd H L1 (.lst [])) L2 (.lst [])) L2 = some (.lst []) := upd_same
  generalize hG : upd (upd H L1 (.lst [])) L2 (.lst []) = G at s0 e1 e2
  have keep : ∀ {G1 : Hp} {o1 o2 : HO}, Same H G1 → Same H (upd (upd G1 L1 o1) L2 o2) := fun {G1 o1 o2} s b o e => by
    rw [upd_ne (fun z => by rw [z, n2'] at e; cases e), upd_ne (fun z => by rw [z, n1] at e; cases e)]
    exact s b o e
  have keep2 : ∀ {G1 : Hp} {o2 : HO}, Same H G1 → Same H (upd G1 L2 o2) := fun {G1 o2} s b o e => by
    rw [upd_ne (fun z => by rw [z, n2'] at e; cases e)]
    exact s b o e
  have keep1 : ∀ {G1 : Hp} {o2 : HO}, Same H G1 → Same H (upd G1 L1 o2) := fun {G1 o2} s b o e => by
    rw [upd_ne (fun z => by rw [z, n1] at e; cases e)]
    exact s b o e
  refine ⟨.int (m : Int), rfl, (m : Int), rfl, by omega, by omega, ?_⟩
  refine for_range (lo := 0) (n := ((m : Int)).toNat) (fun i σ H2 => ∃ y4 y5, σ = [some (.ref a), some (.int (m : Int)), some (.ref L1), some (.ref L2), y4, y5] ∧ Same H H2 ∧ H2 L1 = some (.lst ((lined pat i).1.map V.int)) ∧ H2 L2 = some (.lst ((lined pat i).2.map optV)))
    ⟨none, none, rfl, s0, e1, e2⟩ (fun i σ H2 hi hP => ?_) (fun σ H2 hP => ?_)
  · obtain ⟨y4, y5, rfl, s2, eL1, eL2⟩ := hP
    have hi' : i < m := by
      have : ((m : Int)).toNat = m := rfl
      omega
    obtain ⟨l1, l2⟩ := lined_len pat i
    generalize hst : lined pat i = st at eL1 eL2 l1 l2
    refine ⟨.ref L2, rfl, L2, st.2, rfl, eL2, by rw [l2]; omega, fun H3 k3 f2 => ?_⟩
    rw [l2] at f2 ⊢
    obtain ⟨hk, glen⟩ := goes_le i st.2
    have hl := glen.trans l2
    generalize hg : goes i st.2 = g at f2 hk hl ⊢
    obtain ⟨k, l⟩ := g
    have hg := hg.symm
    have hl : l.length = i := hl
    have hk : k ≤ i := hk
    have f2 : H3 L2 = some (.lst (l.map optV)) := f2
    have f1 : H3 L1 = some (.lst (st.1.map V.int)) := (k3 L1 ne12).trans eL1
    have s3 : Same H H3 := fun b o e => by
      rw [k3 b (fun z => by rw [z, n2'] at e; cases e)]
      exact s2 b o e
    obtain ⟨pp, hf, hpl, he⟩ := hh i hi'
    have hpA : ∀ (H3 : Hp) {o : HO}, Same H H3 → PcsAt (upd H3 L1 o) a ps := fun H3 {o} s => by
      obtain ⟨xs, h1, h2⟩ := hp.ex
      exact ⟨xs, keep1 s _ _ h1, RpAll.sm (keep1 s) h2⟩
    show tSeq _ _ _ [some (.ref a), some (.int (m : Int)), some (.ref L1), some (.ref L2), some (.int (0 + (i : Int))), some (.int (k : Int))] H3
    refine ⟨.ref L1, rfl, .inl ⟨rfl, _, SqL.of f1⟩, .int (k : Int), rfl, .int (0 + (i : Int)), rfl, L1, _, (k : Int), _, rfl, rfl, f1, by rw [List.length_map, l1]; omega, by omega, by omega,
      .ref L2, rfl, .inl ⟨rfl, _, SqL.of (show upd H3 L1 _ L2 = _ by rw [upd_ne (Ne.symm ne12)]; exact f2)⟩, .int (k : Int), rfl, .ref a, rfl, .int (0 + (i : Int)), rfl, a, 0 + (i : Int), ps, pp, optD (pat i), rfl, hpA H3 s3, by rw [Int.zero_add]; exact hf, hpl, by rw [Int.zero_add]; exact he, fun x H4 s4 rx => ?_⟩
    obtain rfl := rp_optV rx
    have g2 := s4 L2 _ (show upd H3 L1 _ L2 = _ by rw [upd_ne (Ne.symm ne12)]; exact f2)
    have g1 := s4 L1 _ upd_same
    obtain ⟨z1, z2⟩ := stand_fin (e := pat i) l1 (hg : (k, l) = goes i st.2)
    refine ⟨L2, _, (k : Int), _, rfl, rfl, g2, by rw [List.length_map, hl]; omega, by omega, by omega, some (.int (0 + (i : Int))), some (.int (k : Int)), rfl, ?_, ?_, ?_⟩
    · exact keep2 (fun b o e => s4 _ _ (keep1 s3 b o e))
    · rw [upd_ne ne12, g1]
      show _ = some (HO.lst ((stand (lined pat i) (i : Int) (pat i)).1.map V.int))
      rw [hst, ← z1]
      rfl
    · rw [upd_same]
      show _ = some (HO.lst ((stand (lined pat i) (i : Int) (pat i)).2.map optV))
      rw [hst, ← z2]
      rfl
  · obtain ⟨y4, y5, rfl, s2, eL1, eL2⟩ := hP
    refine ⟨.ref L1, rfl, .ref L2, rfl, small_le (by show 2 ≤ 1000; decide), fun p np => ?_⟩
    exact q p L1 L2 _ (s2.trans (same_upd np)) n1 n2' ne12 upd_same (same_upd np _ _ eL1) (same_upd np _ _ eL2)
end
end CL
set_option Elab.async false
set_option linter.all false
set_option pp.maxSteps 400
set_option maxRecDepth 100000
set_option maxHeartbeats 4000000
namespace CL
open PySem PySem.Spec PyProof.Rows L2 GE
abbrev sWid : Stmt := topS 40
theorem scWid : FnScope ["turns", "start", "bound", "widths", "patience", "opens"] ["turns", "start", "bound"] (defScope sWid) := ⟨rfl, rfl, rfl, by decide +kernel, rfl, by decide +kernel, by decide +kernel⟩
abbrev sEnd : Stmt := topS 39
abbrev nEnd : List Str := ["piece", "start", "bound", "stop", "first", "past", "turns", "end", "fits", "patience", "last"]
theorem scEnd : FnScope nEnd ["piece", "start", "bound", "stop"] (defScope sEnd) := ⟨rfl, rfl, rfl, by decide +kernel, rfl, by decide +kernel, by decide +kernel⟩
theorem sz5000 : 5000 ≤ sizeLine := by decide
/-- how many a window holds that one of that patience opens at x, 0 where it opens none -/
def wd (b : Option Int) (x : Int) : PyData → Int
  | .int p => match b with
    | none => p + 1
    | some m => if x + p ≤ m then p + 1 else 0
  | _ => 0
theorem pat_cases {t : PyData} (h : isPatience t = true) : t = .none ∨ ∃ p : Int, t = .int p ∧ 0 ≤ p ∧ p ≤ GREAT := by
  cases t with
  | none => exact .inl rfl
  | int i =>
    have h' : (decide (0 ≤ i) && decide (i ≤ GREAT)) = true := h
    simp only [Bool.and_eq_true, decide_eq_true_eq] at h'
    exact .inr ⟨i, rfl, h'.1, h'.2⟩
  | _ => cases h
theorem wd_nn {b : Option Int} {x : Int} {t : PyData} (h : isPatience t = true) : 0 ≤ wd b x t := by
  rcases pat_cases h with rfl | ⟨p, rfl, h0, _⟩
  · exact Int.le_refl 0
  · cases b with
    | none => show 0 ≤ p + 1; omega
    | some m =>
      show 0 ≤ if x + p ≤ m then p + 1 else 0
      split <;> omega
/-- a round of patiences that stands -/
structure TurnsAt (H : Hp) (t : Addr) (ts : List PyData) : Prop where
  ex : ∃ zs, H t = some (.tup zs) ∧ RpAll H zs ts
  pat : ∀ x ∈ ts, isPatience x = true
  lo : 1 ≤ ts.length
  hi : ts.length ≤ 8
theorem TurnsAt.same {H H' : Hp} {t : Addr} {ts : List PyData} (h : TurnsAt H t ts) (s : Same H H') : TurnsAt H' t ts := by
  obtain ⟨⟨zs, h1, h2⟩, h3, h4, h5⟩ := h
  exact ⟨⟨zs, s _ _ h1, RpAll.sm s h2⟩, h3, h4, h5⟩
theorem pat_val {H : Hp} {v : V} {t : PyData} (h : Rp H v t) (g : isPatience t = true) : (t = .none ∧ v = .non) ∨ ∃ p : Int, t = .int p ∧ v = .int p ∧ 0 ≤ p ∧ p ≤ GREAT := by
  rcases pat_cases g with rfl | ⟨p, rfl, h0, h1⟩
  · cases h; exact .inl ⟨rfl, rfl⟩
  · cases h; exact .inr ⟨p, rfl, rfl, h0, h1⟩
def spWid : Sp := fun vs H Q _ => ∃ t ts, ∃ start : Int, ∃ b : Option Int, vs = [.ref t, .int start, optV b] ∧ TurnsAt H t ts ∧ ∀ q H', Same H H' → H q = none → H' q = some (.lst ((ts.map (wd b start)).map V.int)) → Q (.ref q) H'
/-- the last number by which the same turns open windows -/
structure EndOk (past : Option Int) (ts : List PyData) (start : Int) (b : Option Int) (stop e : Int) : Prop where
  lo : start ≤ e
  hi : e ≤ stop
  pst : ∀ m, past = some m → e < m
  fit : ∀ m, b = some m → ∀ p : Int, PyData.int p ∈ ts → start ≤ m - p → e ≤ m - p
  from_ : e = stop ∨ past = some (e + 1) ∨ ∃ m p, b = some m ∧ PyData.int p ∈ ts ∧ e = m - p
def spEnd : Sp := fun vs H Q _ => ∃ a t ts, ∃ f start stop : Int, ∃ b past : Option Int, vs = [.ref a, .int start, optV b, .int stop] ∧ H a = some (.tup [.int f, optV past, .ref t]) ∧ TurnsAt H t ts ∧ start ≤ stop ∧ (∀ m, past = some m → start < m) ∧ ∀ e H', Same H H' → EndOk past ts start b stop e → Q (.int e) H'
section
variable {P : Program} {w : World} {K : PySem.W.Frag} {mg : Str → Option Value} {base : Heap}
theorem ok_wid {f : Addr} {fd : FuncData} (F : Fun K "window_widths" "window_widths" sWid f fd) : FnOk P w K mg base CX0 1 f fd ["turns", "start", "bound"] spWid := by
  refine F.ok scWid (fun vs H Q E ⟨t, ts, st0, b, e, _⟩ => by rw [e]; rfl) (fun cdv A outer s H vs Q E hr h => ?_)
  obtain ⟨t, ts, start, b, rfl, hT, q⟩ := h
  have nd := scWid.nd
  have sz := sz5000
  refine ⟨_, (pss_cons (ps_set (i := 3) nd rfl (.inl rfl) (pe_lst pa_nil))
    (pss_cons (ps_for PassesOwn.never rfl (pi_tup (pv 0)) (pg_name (i := 4) nd rfl (.inl rfl))
    (pss_cons (ps_set (i := 5) nd rfl (.inl rfl) (pe_and (pe_cmp (pc_notN (pv 4)) rfl) (pe_one (pe_or (pe_cmp (pc_isN (pv 2)) rfl) (pe_one (pe_cmpR op_le (pe_op op_add (pv 1) (pv 4)) (pv 2) (nomark _)))))))
    (pss_one (ps_expr (pe_bm PySem.F.plainAttrs_list PySem.F.slot_list_append PySem.F.type_list_append mt_append (pv 3) (pa_cons (pe_ifExp (pt_val (pv 5)) (pe_op op_add (pv 4) pe_int) pe_int) pa_nil))))))
    (pss_one (ps_ret (pv 3))))), ?_⟩
  obtain ⟨⟨zs, ht, hz⟩, hpat, lo, hi⟩ := hT
  refine ⟨Nat.zero_le _, fun D nD => ?_⟩
  have s0 := same_upd (o := .lst []) nD
  have e0 : (upd H D (.lst [])) D = some (.lst (([] : List Int).map V.int)) := upd_same
  generalize upd H D (.lst []) = H0 at s0 e0
  refine ⟨.ref t, rfl, t, rfl, ⟨zs, SqT.of (s0 _ _ ht)⟩, for_tup (xs := zs) (fun i σ H2 => ∃ y4 y5, σ = [some (.ref t), some (.int start), some (optV b), some (.ref D), y4, y5] ∧ Same H H2 ∧ H2 D = some (.lst (((ts.take i).map (wd b start)).map V.int)))
    ⟨none, none, rfl, s0, e0⟩ (fun i σ H2 _ ⟨_, _, _, s, _⟩ => SqT.of (s _ _ ht)) (fun i x σ H2 hx ⟨y4, y5, eσ, s2, eD⟩ => ?_) (fun σ H2 ⟨y4, y5, eσ, s2, eD⟩ => ?_)⟩
  · subst eσ
    obtain ⟨d, hd, hR⟩ := hz.get hx
    have ld : i < ts.length := (List.getElem?_eq_some_iff.mp hd).1
    have hlen : (((ts.take i).map (wd b start)).map V.int).length < sizeLine := by
      rw [List.length_map, List.length_map, List.length_take]
      omega
    have fin : ∀ {y5 : V}, ∃ y4 y5', ([some (.ref t), some (.int start), some (optV b), some (.ref D), some x, some y5] : L2.St) = [some (.ref t), some (.int start), some (optV b), some (.ref D), y4, y5'] ∧ Same H (upd H2 D (.lst (((ts.take i).map (wd b start)).map V.int ++ [.int (wd b start d)]))) ∧
        (upd H2 D (.lst (((ts.take i).map (wd b start)).map V.int ++ [.int (wd b start d)]))) D = some (.lst (((ts.take (i + 1)).map (wd b start)).map V.int)) := fun {y5} => by
      refine ⟨_, _, rfl, fun c o hc => ?_, ?_⟩
      · rw [upd_ne (fun z => by rw [z, nD] at hc; cases hc)]
        exact s2 _ _ hc
      · rw [upd_same, List.take_add_one, hd, List.map_append, List.map_append]
        rfl
    rcases pat_val hR (hpat d (List.mem_of_getElem? hd)) with ⟨rfl, rfl⟩ | ⟨p, rfl, rfl, h0, h1⟩
    · refine ⟨.non, rfl, false, rfl, iteF ?_⟩
      exact ⟨.ref D, rfl, .inl ⟨rfl, _, SqL.of eD⟩, .bl false, rfl, false, rfl, iteF ⟨D, _, .int 0, rfl, rfl, eD, hlen, fin⟩⟩
    · refine ⟨.int p, rfl, true, rfl, iteT ?_⟩
      cases b with
      | none =>
        refine ⟨.non, rfl, true, rfl, iteT ?_⟩
        exact ⟨.ref D, rfl, .inl ⟨rfl, _, SqL.of eD⟩, .bl true, rfl, true, rfl, iteT ⟨.int p, rfl, p, 1, rfl, rfl, D, _, .int (p + 1), rfl, rfl, eD, hlen, fin⟩⟩
      | some m =>
        refine ⟨.int m, rfl, false, rfl, iteF ?_⟩
        refine ⟨.int start, rfl, .int p, rfl, start, p, rfl, rfl, .int m, rfl, start + p, m, rfl, rfl, ?_⟩
        refine ⟨.ref D, rfl, .inl ⟨rfl, _, SqL.of eD⟩, .bl (decide (start + p ≤ m)), rfl, _, rfl, ?_⟩
        by_cases c : start + p ≤ m
        · have e : wd (some m) start (.int p) = p + 1 := if_pos c
          rw [e] at fin
          rw [decide_eq_true c]
          exact iteT ⟨.int p, rfl, p, 1, rfl, rfl, D, _, .int (p + 1), rfl, rfl, eD, hlen, fin⟩
        · have e : wd (some m) start (.int p) = 0 := if_neg c
          rw [e] at fin
          rw [decide_eq_false c]
          exact iteF ⟨D, _, .int 0, rfl, rfl, eD, hlen, fin⟩
  · subst eσ
    have lz : zs.length = ts.length := hz.length
    rw [lz, List.take_length] at eD
    exact ⟨.ref D, rfl, q D H2 s2 nD eD⟩
def fitsOf (m : Int) (ts : List PyData) : List Int := ts.filterMap fun
  | .int p => some (m - p)
  | _ => none
theorem mem_fits {m x : Int} {ts : List PyData} : x ∈ fitsOf m ts ↔ ∃ p : Int, PyData.int p ∈ ts ∧ x = m - p := by
  unfold fitsOf
  rw [List.mem_filterMap]
  constructor
  · rintro ⟨d, hd, h⟩
    cases d <;> first | (cases h; exact ⟨_, hd, rfl⟩) | cases h
  · rintro ⟨p, hp, rfl⟩
    exact ⟨.int p, hp, rfl⟩
theorem ok_end {f : Addr} {fd : FuncData} (F : Fun K "stretch_end" "stretch_end" sEnd f fd) (hmin : mg "min" = none) : FnOk P w K mg base CX0 1 f fd ["piece", "start", "bound", "stop"] spEnd := by
  refine F.ok scEnd (fun vs H Q E ⟨a, t, ts, f, st0, stop, b, past, e, _⟩ => by rw [e]; rfl) (fun cdv A outer s H vs Q E hr h => ?_)
  obtain ⟨a, t, ts, ff, start, stop, b, past, rfl, ha, hT, hss, hsp, q⟩ := h
  have nd := scEnd.nd
  have sz := sz5000
  refine ⟨_, (pss_cons (ps_asg (pv 0) (pg_tup rfl (pgs_cons (pg_name (i := 4) nd rfl (.inl rfl)) (pgs_cons (pg_name (i := 5) nd rfl (.inl rfl)) (pgs_cons (pg_name (i := 6) nd rfl (.inl rfl)) pgs_nil)))))
    (pss_cons (ps_set (i := 7) nd rfl (.inl rfl) (pe_ifExp (pt_cmp (pc_isN (pv 5))) (pv 3) (pe_callB (call_min2 rfl) (by rfl) hmin (by decide +kernel) (pa_cons (pv 3) (pa_cons (pe_op op_sub (pv 5) pe_int) pa_nil)))))
    (pss_cons (ps_if (pt_cmp (pc_isN (pv 2))) (pss_one (ps_ret (pv 7))) pss_nil)
    (pss_cons (ps_setLc (i := 8) (own := [("patience", 9)]) (g := gName 9) rfl nd rfl rfl (sw_true rfl rfl rfl (by decide +kernel)) (pi_tup (pv 6)) (blkOk_by (N := nEnd) (sc := defScope sEnd) (by decide +kernel))
        (fun _ _ _ _ _ => pg_name (i := 9) nd rfl (.inl rfl) (.inr rfl)) (fun _ _ _ _ _ => pts_one (pt_cmp (pc_notN (pv 9)))) (fun _ _ _ _ _ => (pe_op op_sub (pv 2) (pv 9))))
    (pss_one (ps_ret (pe_callB (cr_min rfl) (by rfl) hmin (by decide +kernel) (pa_cons (pe_op op_cat (pe_lst (pa_cons (pv 7) pa_nil)) (pe_lc (own := [("last", 10)]) (g := gName 10) rfl nd (pi_list (pv 8)) (blkOk_by (N := nEnd) (sc := defScope sEnd) (by decide +kernel))
        (fun _ _ _ _ _ => pg_name (i := 10) nd rfl (.inl rfl) (.inr rfl)) (fun _ _ _ _ _ => pts_one (pt_cmpR op_ge (pv 10) (pv 1) (nomark _))) (fun _ _ _ _ _ => (pv 10)))) pa_nil)))))))), ?_⟩
  obtain ⟨⟨zs, ht, hz⟩, hpat, lo, hi⟩ := hT
  refine ⟨.ref a, rfl, a, _, rfl, SqT.of ha, rfl, .int ff, _, rfl, optV past, _, rfl, .ref t, _, rfl, rfl, ?_⟩
  obtain ⟨e1, h1, h2, h3, h4, hev⟩ : ∃ e1 : Int, start ≤ e1 ∧ e1 ≤ stop ∧ (∀ m, past = some m → e1 < m) ∧ (e1 = stop ∨ past = some (e1 + 1)) ∧ ∀ {σ : L2.St} {R : VK}, σ[5]? = some (some (optV past)) → σ[3]? = some (some (.int stop)) → R (.int e1) H →
      (tIf (tB (tIsN (tVar 5))) (tVar 3) (tCB (fun xs H Q => ∃ i j, xs = [.int i, .int j] ∧ Q (.int (if j < i then j else i)) H) (tCons (tVar 3) (tCons (tOp (rI0 fun i j => .int (i - j)) (tVar 5) (tC (.int 1))) tNil)))) σ H R := by
    cases past with
    | none => exact ⟨stop, hss, Int.le_refl _, fun m e => (by cases e), .inl rfl, fun {σ R} h5 h3 h => ⟨.non, h5, _, rfl, iteT ⟨.int stop, h3, h⟩⟩⟩
    | some m =>
      have hm := hsp m rfl
      by_cases c : m - 1 < stop
      · exact ⟨m - 1, by omega, by omega, fun m' e => (by cases e; omega), .inr (by rw [show m - 1 + 1 = m by omega]), fun {σ R} h5 h3 h => ⟨.int m, h5, _, rfl, iteF ⟨.int stop, h3, .int m, h5, m, 1, rfl, rfl, stop, m - 1, rfl, by rw [if_pos c]; exact h⟩⟩⟩
      · exact ⟨stop, hss, Int.le_refl _, fun m' e => (by cases e; omega), .inl rfl, fun {σ R} h5 h3 h => ⟨.int m, h5, _, rfl, iteF ⟨.int stop, h3, .int m, h5, m, 1, rfl, rfl, stop, m - 1, rfl, by rw [if_neg c]; exact h⟩⟩⟩
  refine hev rfl rfl ?_
  cases b with
  | none =>
    refine ⟨.non, rfl, _, rfl, iteT ⟨.int e1, rfl, q e1 H (Same.refl H) ⟨h1, h2, h3, fun m e => (by cases e), ?_⟩⟩⟩
    rcases h4 with h4 | h4
    · exact .inl h4
    · exact .inr (.inl h4)
  | some m =>
    refine ⟨.int m, rfl, _, rfl, iteF ?_⟩
    refine ⟨.ref t, rfl, t, rfl, ⟨zs, SqT.of ht⟩, fun D nD => ?_⟩
    refine lc_tup (xs := zs) (fun i H5 => H5 = upd H D (.lst ((fitsOf m (ts.take i)).map V.int))) rfl (fun i H5 _ e => by rw [e]; exact SqT.of (same_upd nD _ _ ht)) (fun i x H5 hx e => ?_) (fun H5 e => ?_)
    · subst e
      obtain ⟨d, hd, hR⟩ := hz.get hx
      have hl : ((fitsOf m (ts.take i)).map V.int).length < sizeLine := by
        rw [List.length_map]
        have h1 := List.length_filterMap_le (fun | PyData.int p => some (m - p) | _ => none) (ts.take i)
        have h2 : (ts.take i).length ≤ 8 := by rw [List.length_take]; omega
        have h3 : (fitsOf m (ts.take i)).length ≤ (ts.take i).length := h1
        omega
      rcases pat_val hR (hpat d (List.mem_of_getElem? hd)) with ⟨rfl, rfl⟩ | ⟨p, rfl, rfl, _, _⟩
      · refine ⟨rfl, .non, rfl, _, rfl, iteF ?_⟩
        rw [List.take_add_one, hd]
        unfold fitsOf
        rw [List.filterMap_append]
        show _ = upd H D (.lst ((_ ++ []).map V.int))
        rw [List.append_nil]
      · refine ⟨rfl, .int p, rfl, _, rfl, iteT ⟨.int m, rfl, .int p, rfl, m, p, rfl, rfl, _, upd_same, hl, ?_⟩⟩
        rw [upd_upd, List.take_add_one, hd]
        unfold fitsOf
        rw [List.filterMap_append, List.map_append]
        rfl
    · have lz : zs.length = ts.length := hz.length
      rw [lz, List.take_length] at e
      subst e
      have sD := same_upd (o := .lst ((fitsOf m ts).map V.int)) nD
      have eD : (upd H D (.lst ((fitsOf m ts).map V.int))) D = some (.lst ((fitsOf m ts).map V.int)) := upd_same
      generalize upd H D (.lst ((fitsOf m ts).map V.int)) = H2 at sD eD
      have hfl : (fitsOf m ts).length ≤ 8 := by
        have h1 := List.length_filterMap_le (fun | PyData.int p => some (m - p) | _ => none) ts
        have h3 : (fitsOf m ts).length ≤ ts.length := h1
        omega
      refine ⟨.int e1, rfl, small_le (by show 1 ≤ 1000; decide), fun L nL => ?_⟩
      have sL := same_upd (o := .lst [.int e1]) nL
      have eL : (upd H2 L (.lst [.int e1])) L = some (.lst [.int e1]) := upd_same
      generalize upd H2 L (.lst [.int e1]) = H3 at sL eL
      have eD3 := sL _ _ eD
      refine ⟨.ref D, rfl, D, rfl, ⟨_, SqL.of eD3⟩, fun D2 nD2 => ?_⟩
      refine lc_list (xs := (fitsOf m ts).map V.int) (fun i H5 => H5 = upd H3 D2 (.lst ((((fitsOf m ts).take i).filter fun x => decide (start ≤ x)).map V.int))) rfl (fun i H5 _ e => by rw [e]; exact SqL.of (same_upd nD2 _ _ eD3)) (fun i x H5 hx e => ?_) (fun H5 e => ?_)
      · subst e
        obtain ⟨y, hy, rfl⟩ : ∃ y, (fitsOf m ts)[i]? = some y ∧ x = .int y := by
          rw [List.getElem?_map] at hx
          cases z : (fitsOf m ts)[i]? with
          | none => rw [z] at hx; cases hx
          | some y => rw [z] at hx; cases hx; exact ⟨y, rfl, rfl⟩
        have hl : ((((fitsOf m ts).take i).filter fun x => decide (start ≤ x)).map V.int).length < sizeLine := by
          rw [List.length_map]
          have h1 := List.length_filter_le (fun x => decide (start ≤ x)) ((fitsOf m ts).take i)
          rw [List.length_take] at h1
          omega
        refine ⟨rfl, .int y, rfl, .int start, rfl, y, start, rfl, rfl, _, rfl, ?_⟩
        rw [List.take_add_one, hy, List.filter_append]
        by_cases c : start ≤ y
        · rw [decide_eq_true c]
          refine iteT ⟨.int y, rfl, _, upd_same, hl, ?_⟩
          rw [upd_upd]
          show _ = upd H3 D2 (.lst (((_ : List Int) ++ List.filter (fun x => decide (start ≤ x)) [y]).map V.int))
          rw [List.filter_cons, if_pos (by simpa using c), List.map_append]
          rfl
        · rw [decide_eq_false c]
          refine iteF ?_
          show _ = upd H3 D2 (.lst (((_ : List Int) ++ List.filter (fun x => decide (start ≤ x)) [y]).map V.int))
          rw [List.filter_cons, if_neg (by simpa using c)]
          show _ = upd H3 D2 (.lst (((_ : List Int) ++ []).map V.int))
          rw [List.append_nil]
      · have e' : H5 = upd H3 D2 (.lst (((fitsOf m ts).filter fun x => decide (start ≤ x)).map V.int)) := by rw [e, List.length_map, List.take_length]
        clear e
        subst e'
        have s4 := same_upd (o := .lst (((fitsOf m ts).filter fun x => decide (start ≤ x)).map V.int)) nD2
        have e4 : (upd H3 D2 (.lst (((fitsOf m ts).filter fun x => decide (start ≤ x)).map V.int))) D2 = some (.lst (((fitsOf m ts).filter fun x => decide (start ≤ x)).map V.int)) := upd_same
        generalize upd H3 D2 (.lst (((fitsOf m ts).filter fun x => decide (start ≤ x)).map V.int)) = H4 at s4 e4
        have hfl2 := List.length_filter_le (fun x => decide (start ≤ x)) (fitsOf m ts)
        refine ⟨L, D2, _, _, rfl, rfl, s4 _ _ eL, e4, by rw [List.length_map]; show 1 + _ ≤ sizeLine; omega, fun M nM => ?_⟩
        have s5 := same_upd (o := .lst ([.int e1] ++ ((fitsOf m ts).filter fun x => decide (start ≤ x)).map V.int)) nM
        have e5 : (upd H4 M (.lst ([.int e1] ++ ((fitsOf m ts).filter fun x => decide (start ≤ x)).map V.int))) M = some (.lst ((e1 :: (fitsOf m ts).filter fun x => decide (start ≤ x)).map V.int)) := upd_same
        generalize upd H4 M (.lst ([.int e1] ++ ((fitsOf m ts).filter fun x => decide (start ≤ x)).map V.int)) = H6 at s5 e5
        refine ⟨M, e1 :: (fitsOf m ts).filter (fun x => decide (start ≤ x)), rfl, SqL.of e5, Nat.succ_pos _, fun e hm hle => ?_⟩
        have hle1 : e ≤ e1 := hle e1 List.mem_cons_self
        refine q e H6 (((sD.trans sL).trans s4).trans s5) ⟨?_, by omega, fun m' e' => by have := h3 m' e'; omega, fun m' e' p hp hs => ?_, ?_⟩
        · rcases List.mem_cons.mp hm with rfl | hm
          · exact h1
          · simpa using (List.mem_filter.mp hm).2
        · cases e'
          exact hle (m - p) (List.mem_cons_of_mem _ (List.mem_filter.mpr ⟨mem_fits.mpr ⟨p, hp, rfl⟩, by simpa using hs⟩))
        · rcases List.mem_cons.mp hm with rfl | hm
          · rcases h4 with h4 | h4
            · exact .inl h4
            · exact .inr (.inl h4)
          · obtain ⟨p, hp, e'⟩ := mem_fits.mp (List.mem_filter.mp hm).1
            exact .inr (.inr ⟨m, p, rfl, hp, e'⟩)
end
end CL
set_option Elab.async false
set_option linter.all false
set_option pp.maxSteps 400
set_option maxRecDepth 100000
set_option maxHeartbeats 4000000
namespace CL
open PySem PySem.Spec PyProof.Rows L2 GE
abbrev sSteps : Stmt := topS 41
abbrev nSteps : List Str := ["piece", "start", "bound", "end", "first", "past", "turns", "widths", "steps", "met", "ahead", "turn"]
theorem scSteps : FnScope nSteps ["piece", "start", "bound", "end"] (defScope sSteps) := ⟨rfl, rfl, rfl, by decide +kernel, rfl, by decide +kernel, by decide +kernel⟩
theorem hu1 {k : Nat} {A : Around} (hr : Room k A) : A.units + 1 < cLine := by have := hr.un; omega
/-- whom a step meets, how many its window holds -/
abbrev StepT := Int × Int
def Pth (W : Int → Int → Prop) : Int → List StepT → Int → Prop
  | a, [], c => a = c
  | a, s :: ss, c => s.1 = a ∧ W s.1 s.2 ∧ Pth W (a + max s.2 1) ss c
theorem Pth.snoc {W : Int → Int → Prop} : ∀ {S : List StepT} {a x w : Int}, Pth W a S x → W x w → Pth W a (S ++ [(x, w)]) (x + max w 1)
  | [], a, x, w, h, hw => by
    obtain rfl : a = x := h
    exact ⟨rfl, hw, rfl⟩
  | s :: S, a, x, w, h, hw => ⟨h.1, h.2.1, Pth.snoc h.2.2 hw⟩
theorem Pth.split {W : Int → Int → Prop} : ∀ {S T : List StepT} {a c : Int}, Pth W a (S ++ T) c → ∃ m, Pth W a S m ∧ Pth W m T c
  | [], T, a, c, h => ⟨a, rfl, h⟩
  | s :: S, T, a, c, h => by
    obtain ⟨m, h1, h2⟩ := Pth.split h.2.2
    exact ⟨m, ⟨h.1, h.2.1, h1⟩, h2⟩
theorem Pth.le {W : Int → Int → Prop} : ∀ {S : List StepT} {a c : Int}, Pth W a S c → a + S.length ≤ c ∧ ∀ s ∈ S, a ≤ s.1 ∧ s.1 + max s.2 1 ≤ c ∧ W s.1 s.2
  | [], a, c, h => by
    obtain rfl : a = c := h
    exact ⟨by simp, fun s hs => nomatch hs⟩
  | s :: S, a, c, h => by
    obtain ⟨h1, h2⟩ := Pth.le h.2.2
    refine ⟨by rw [List.length_cons]; omega, fun x hx => ?_⟩
    rcases List.mem_cons.mp hx with rfl | hx
    · have := h.1
      exact ⟨by omega, by omega, h.2.1⟩
    · obtain ⟨a1, a2, a3⟩ := h2 x hx
      exact ⟨by omega, a2, a3⟩
/-- the place in the round -/
def tnI (f : Int) (L : Nat) (x : Int) : Int := (x - f) % (L : Int)
/-- on a stretch -/
def Wst (f : Int) (ts : List PyData) (b : Option Int) (start e : Int) (x w : Int) : Prop := x ≤ e ∧ ∃ t, ts[(tnI f ts.length x).toNat]? = some t ∧ w = wd b start t
structure Stp (f : Int) (ts : List PyData) (b : Option Int) (start e : Int) (once again : List StepT) (c : Int) : Prop where
  path : Pth (Wst f ts b start e) start (once ++ again) c
  ne : once ++ again ≠ []
  len : (once ++ again).length ≤ 8
  nil : again = [] → e < c
  rep : ∀ s T, again = s :: T → c ≤ e ∧ tnI f ts.length c = tnI f ts.length s.1
/-- steps that stand, as tuples -/
structure StAt (H : Hp) (vs : List V) (S : List StepT) : Prop where
  len : vs.length = S.length
  at_ : ∀ (i : Nat) (s : StepT), S[i]? = some s → ∃ b, vs[i]? = some (.ref b) ∧ H b = some (.tup [.int s.1, .int s.2])
/-- tuples stay -/
def KT (H H' : Hp) : Prop := ∀ b xs, H b = some (.tup xs) → H' b = some (.tup xs)
theorem KT.of {H H' : Hp} (s : Same H H') : KT H H' := fun b xs h => s b _ h
theorem KT.trans {H H1 H2 : Hp} (a : KT H H1) (b : KT H1 H2) : KT H H2 := fun c xs h => b c xs (a c xs h)
theorem KT.upd {H : Hp} {p : Addr} {o : HO} (n : ∀ xs, H p ≠ some (.tup xs)) : KT H (upd H p o) := fun b xs h => by
  rw [upd_ne (fun z => n xs (by rw [← z]; exact h))]
  exact h
theorem StAt.kt {H H' : Hp} {vs : List V} {S : List StepT} (h : StAt H vs S) (k : KT H H') : StAt H' vs S := ⟨h.len, fun i s hs => by
  obtain ⟨b, h1, h2⟩ := h.at_ i s hs
  exact ⟨b, h1, k _ _ h2⟩⟩
theorem StAt.snoc {H : Hp} {vs : List V} {S : List StepT} {b : Addr} {s : StepT} (h : StAt H vs S) (hb : H b = some (.tup [.int s.1, .int s.2])) : StAt H (vs ++ [.ref b]) (S ++ [s]) := ⟨by rw [List.length_append, List.length_append, h.len]; rfl, fun i x hx => by
  by_cases c : i < S.length
  · rw [List.getElem?_append_left c] at hx
    obtain ⟨b, h1, h2⟩ := h.at_ i x hx
    exact ⟨b, by rw [List.getElem?_append_left (by rw [h.len]; exact c)]; exact h1, h2⟩
  · have hi : i = S.length := by
      obtain ⟨l, _⟩ := List.getElem?_eq_some_iff.mp hx
      rw [List.length_append, List.length_singleton] at l
      omega
    subst hi
    rw [List.getElem?_concat_length] at hx
    cases hx
    exact ⟨b, by rw [← h.len]; exact List.getElem?_concat_length, hb⟩⟩
theorem StAt.take {H : Hp} {vs : List V} {S : List StepT} (k : Nat) (h : StAt H vs S) : StAt H (vs.take k) (S.take k) := ⟨by rw [List.length_take, List.length_take, h.len], fun i s hs => by
  rw [List.getElem?_take] at hs
  split at hs
  · obtain ⟨b, h1, h2⟩ := h.at_ i s hs
    exact ⟨b, by rw [List.getElem?_take, if_pos ‹_›]; exact h1, h2⟩
  · cases hs⟩
theorem StAt.drop {H : Hp} {vs : List V} {S : List StepT} (k : Nat) (h : StAt H vs S) : StAt H (vs.drop k) (S.drop k) := ⟨by rw [List.length_drop, List.length_drop, h.len], fun i s hs => by
  rw [List.getElem?_drop] at hs
  obtain ⟨b, h1, h2⟩ := h.at_ (k + i) s hs
  exact ⟨b, by rw [List.getElem?_drop]; exact h1, h2⟩⟩
theorem pig : ∀ (n : Nat) (l : List Int), l.Nodup → (∀ x ∈ l, 0 ≤ x ∧ x < (n : Int)) → l.length ≤ n
  | 0, [], _, _ => Nat.le_refl 0
  | 0, x :: l, _, h => by have := h x List.mem_cons_self; omega
  | n + 1, l, nd, h => by
    by_cases c : (n : Int) ∈ l
    · have e := List.length_erase_of_mem c
      have ih := pig n (l.erase (n : Int)) (nd.erase _) fun x hx => by
        have h1 := (nd.mem_erase_iff).mp hx
        have := h x h1.2
        have := h1.1
        omega
      omega
    · have ih := pig n l nd fun x hx => by
        have := h x hx
        have : x ≠ (n : Int) := fun z => c (by rw [← z]; exact hx)
        omega
      omega
def spSteps : Sp := fun vs H Q _ => ∃ a t ts, ∃ f start e : Int, ∃ b past : Option Int, vs = [.ref a, .int start, optV b, .int e] ∧ H a = some (.tup [.int f, optV past, .ref t]) ∧ TurnsAt H t ts ∧ start ≤ e ∧
  ∀ pr A B va vb once again c H', Same H H' → H A = none → H B = none → H' pr = some (.tup [.ref A, .ref B]) → H' A = some (.lst va) → H' B = some (.lst vb) → StAt H' va once → StAt H' vb again → Stp f ts b start e once again c → Q (.ref pr) H'
section
variable {P : Program} {w : World} {K : PySem.W.Frag} {mg : Str → Option Value} {base : Heap}
theorem ok_steps {f : Addr} {fd : FuncData} (F : Fun K "stretch_steps" "stretch_steps" sSteps f fd) (T : Nm mg) (hmax : mg "max" = none) (CW : Cal P w K mg base 1 "window_widths" ["turns", "start", "bound"] spWid) : FnOk P w K mg base CX0 2 f fd ["piece", "start", "bound", "end"] spSteps := by
  refine F.ok scSteps (fun vs H Q E ⟨a, t, ts, f, st0, e0, b, past, e, _⟩ => by rw [e]; rfl) (fun cdv A outer s H vs Q E hr h => ?_)
  obtain ⟨a, t, ts, ff, start, e, b, past, rfl, ha, hT, hse, q⟩ := h
  have nd := scSteps.nd
  have sz := sz5000
  have hu := hu1 hr
  refine ⟨_, (pss_cons (ps_asg (pv 0) (pg_tup rfl (pgs_cons (pg_name (i := 4) nd rfl (.inl rfl)) (pgs_cons (pg_name (i := 5) nd rfl (.inl rfl)) (pgs_cons (pg_name (i := 6) nd rfl (.inl rfl)) pgs_nil)))))
    (pss_cons (ps_set (i := 7) nd rfl (.inl rfl) (pe_cal (CW.mono (by decide)) hr (by rfl) (pa_cons (pv 6) (pa_cons (pv 1) (pa_cons (pv 2) pa_nil)))))
    (pss_cons (ps_set (i := 8) nd rfl (.inl rfl) (pe_lst pa_nil))
    (pss_cons (ps_set (i := 9) nd rfl (.inl rfl) pe_dnewK)
    (pss_cons (ps_set (i := 10) nd rfl (.inl rfl) (pv 1))
    (pss_cons (ps_while PassesOwn.never (pt_cmpR op_le (pv 10) (pv 3) (nomark _))
    (pss_cons (ps_set (i := 11) nd rfl (.inl rfl) (pe_op op_mod (pe_op op_sub (pv 10) (pv 4)) (pe_callB call_len_seq (by rfl) T.len PySem.boot_len (pa_cons (pv 6) pa_nil))))
    (pss_cons (ps_if (pt_cmp (pc_din hu (pv 11) (pv 9))) (pss_one (ps_ret (pe_tup (pa_cons (pe_slice sl_list (pv 8) po_none (po_some (pe_dget hu (pv 9) (pv 11) (fun _ _ => rfl)))) (pa_cons (pe_slice sl_list (pv 8) (po_some (pe_dget hu (pv 9) (pv 11) (fun _ _ => rfl))) po_none) pa_nil))))) pss_nil)
    (pss_cons (ps_dput hu (pv 9) (pv 11) (pe_callB call_len_seq (by rfl) T.len PySem.boot_len (pa_cons (pv 8) pa_nil)) rfl)
    (pss_cons (ps_expr (pe_bm PySem.F.plainAttrs_list PySem.F.slot_list_append PySem.F.type_list_append mt_append (pv 8) (pa_cons (pe_tup (pa_cons (pv 10) (pa_cons (pe_ix ix_list (pv 7) (pv 11) (fun _ _ => rfl)) pa_nil))) pa_nil)))
    (pss_one (ps_aug (i := 10) nd rfl (.inl rfl) (pe_callB (call_max2 rfl) (by rfl) hmax (by decide +kernel) (pa_cons (pe_ix ix_list (pv 7) (pv 11) (fun _ _ => rfl)) (pa_cons pe_int pa_nil))) ip_add)))))))
    (pss_one (ps_ret (pe_tup (pa_cons (pv 8) (pa_cons (pe_lst pa_nil) pa_nil))))))))))), ?_⟩
  refine ⟨.ref a, rfl, a, _, rfl, SqT.of ha, rfl, .int ff, _, rfl, optV past, _, rfl, .ref t, _, rfl, rfl, ?_⟩
  refine ⟨.ref t, rfl, .int start, rfl, optV b, rfl, t, ts, start, b, rfl, hT, fun wq H1 s1 n1 ew => ?_⟩
  refine ⟨Nat.zero_le _, fun Ls nL => ?_⟩
  have s2 := same_upd (o := .lst []) nL
  have eL : (upd H1 Ls (.lst [])) Ls = some (.lst []) := upd_same
  generalize upd H1 Ls (.lst []) = H2 at s2 eL
  intro M nM
  have s3 := same_upd (o := .dK []) nM
  have eM : (upd H2 M (.dK [])) M = some (.dK []) := upd_same
  generalize upd H2 M (.dK []) = H3 at s3 eM
  have nLH : H Ls = none := s1.free nL
  have nMH : H M = none := (s1.trans s2).free nM
  have nLM : Ls ≠ M := fun z => by rw [z] at eL; rw [eL] at nM; cases nM
  have nwL : wq ≠ Ls := fun z => by rw [z, nL] at ew; cases ew
  have nwM : wq ≠ M := fun z => by
    have := s2 _ _ ew
    rw [z, nM] at this
    cases this
  have lo := hT.lo
  have hi := hT.hi
  refine ⟨.int start, rfl, ?_⟩
  refine ⟨fun k σ H4 => ∃ vs S, ∃ kvs : List (Key × V), ∃ x : Int, ∃ y11, σ = [some (.ref a), some (.int start), some (optV b), some (.int e), some (.int ff), some (optV past), some (.ref t), some (.ref wq), some (.ref Ls), some (.ref M), some (.int x), y11] ∧ Same H H4 ∧ H4 wq = some (.lst ((ts.map (wd b start)).map V.int)) ∧
      H4 Ls = some (.lst vs) ∧ H4 M = some (.dK kvs) ∧ StAt H4 vs S ∧ Pth (Wst ff ts b start e) start S x ∧ (S.map fun s => tnI ff ts.length s.1).Nodup ∧ kvs.length ≤ S.length ∧ (∀ (i : Nat) (s : StepT), S[i]? = some s → valV kvs (Sum.inl (tnI ff ts.length s.1)) = some (.int (i : Int))) ∧
      (∀ n : Int, (∀ s ∈ S, tnI ff ts.length s.1 ≠ n) → valV kvs (Sum.inl n) = none) ∧ (S = [] → x = start) ∧ k = (e + 1 - x).toNat, ⟨_, [], [], [], start, none, rfl, (s1.trans s2).trans s3, s3 _ _ (s2 _ _ ew), s3 _ _ eL, eM, ⟨rfl, fun i s h => by cases i <;> cases h⟩, rfl, List.nodup_nil, Nat.le_refl 0, fun i s h => (by cases i <;> cases h), fun n _ => rfl, fun _ => rfl, rfl⟩, fun k σ H4 ⟨vs, S, kvs, x, y11, eσ, s4, ew4, eL4, eM4, hSt, hP, hnd, hkl, hm1, hm2, hS0, hk⟩ => ?_⟩
  subst eσ
  have hS8 : S.length ≤ 8 := by
    have h1 := pig ts.length (S.map fun s => tnI ff ts.length s.1) hnd fun y hy => by
      obtain ⟨s, _, rfl⟩ := List.mem_map.mp hy
      exact ⟨Int.emod_nonneg _ (by omega), Int.emod_lt_of_pos _ (by omega)⟩
    rw [List.length_map] at h1
    omega
  refine ⟨.int x, rfl, .int e, rfl, x, e, rfl, rfl, _, rfl, ?_⟩
  by_cases c : x ≤ e
  · rw [decide_eq_true c]
    refine iteT ⟨fun σ' H' => ∃ m', m' < k ∧ ∃ vs S, ∃ kvs : List (Key × V), ∃ x : Int, ∃ y11, σ' = [some (.ref a), some (.int start), some (optV b), some (.int e), some (.int ff), some (optV past), some (.ref t), some (.ref wq), some (.ref Ls), some (.ref M), some (.int x), y11] ∧ Same H H' ∧ H' wq = some (.lst ((ts.map (wd b start)).map V.int)) ∧
      H' Ls = some (.lst vs) ∧ H' M = some (.dK kvs) ∧ StAt H' vs S ∧ Pth (Wst ff ts b start e) start S x ∧ (S.map fun s => tnI ff ts.length s.1).Nodup ∧ kvs.length ≤ S.length ∧ (∀ (i : Nat) (s : StepT), S[i]? = some s → valV kvs (Sum.inl (tnI ff ts.length s.1)) = some (.int (i : Int))) ∧
      (∀ n : Int, (∀ s ∈ S, tnI ff ts.length s.1 ≠ n) → valV kvs (Sum.inl n) = none) ∧ (S = [] → x = start) ∧ m' = (e + 1 - x).toNat, fun σ' H' ⟨m', h1, h2⟩ => ⟨m', h1, h2⟩, ?_⟩
    obtain ⟨zs, ht, hz⟩ := hT.ex
    have lz : zs.length = ts.length := hz.length
    refine ⟨.int x, rfl, .int ff, rfl, x, ff, rfl, rfl, .ref t, rfl, t, zs, rfl, .inr (SqT.of (s4 _ _ ht)), x - ff, (zs.length : Int), rfl, rfl, by show (0 : Int) < (zs.length : Int); omega, ?_⟩
    dsimp only
    have etn : (x - ff) % (zs.length : Int) = tnI ff ts.length x := by rw [lz]; rfl
    rw [etn]
    have tn0 : 0 ≤ tnI ff ts.length x := Int.emod_nonneg _ (by omega)
    have tn1 : tnI ff ts.length x < (ts.length : Int) := Int.emod_lt_of_pos _ (by omega)
    refine ⟨.int (tnI ff ts.length x), rfl, .ref M, rfl, M, _, rfl, DGet.k (k := Sum.inl (tnI ff ts.length x)) eM4, _, rfl, ?_⟩
    cases hv : valV kvs (Sum.inl (tnI ff ts.length x)) with
    | some v =>
      -- it comes again
      obtain ⟨s, hs, hst⟩ : ∃ s ∈ S, tnI ff ts.length s.1 = tnI ff ts.length x := by
        by_cases h : ∃ s ∈ S, tnI ff ts.length s.1 = tnI ff ts.length x
        · exact h
        · rw [hm2 _ fun s hs z => h ⟨s, hs, z⟩] at hv
          cases hv
      obtain ⟨i, hi'⟩ := List.getElem?_of_mem hs
      have hvi := hm1 i s hi'
      rw [hst, hv] at hvi
      cases hvi
      have li : i < S.length := (List.getElem?_eq_some_iff.mp hi').1
      refine iteT ?_
      refine ⟨.ref Ls, rfl, .ref M, rfl, .int (tnI ff ts.length x), rfl, M, .int (i : Int), rfl, by rw [← hv]; exact DGet.k (k := Sum.inl (tnI ff ts.length x)) eM4, (i : Int), rfl, Ls, vs, rfl, SqL.of eL4, fun A1 nA => ?_⟩
      rw [cut_to]
      have s5 := same_upd (o := .lst (vs.take i)) nA
      have eA : (upd H4 A1 (.lst (vs.take i))) A1 = some (.lst (vs.take i)) := upd_same
      generalize upd H4 A1 (.lst (vs.take i)) = H5 at s5 eA
      refine ⟨.ref Ls, rfl, .ref M, rfl, .int (tnI ff ts.length x), rfl, M, .int (i : Int), rfl, by rw [← hv]; exact DGet.k (k := Sum.inl (tnI ff ts.length x)) (s5 _ _ eM4), (i : Int), rfl, Ls, vs, rfl, SqL.of (s5 _ _ eL4), fun B1 nB => ?_⟩
      rw [cut_from]
      have s6 := same_upd (o := .lst (vs.drop i)) nB
      have eB : (upd H5 B1 (.lst (vs.drop i))) B1 = some (.lst (vs.drop i)) := upd_same
      generalize upd H5 B1 (.lst (vs.drop i)) = H6 at s6 eB
      refine ⟨small_le (by show 2 ≤ 1000; decide), fun pr npr => ?_⟩
      have s7 := same_upd (o := .tup [.ref A1, .ref B1]) npr
      have s47 := (s5.trans s6).trans s7
      refine q pr A1 B1 (vs.take i) (vs.drop i) (S.take i) (S.drop i) x _ (s4.trans s47) (s4.free nA) ((s4.trans s5).free nB) upd_same (s7 _ _ (s6 _ _ eA)) (s7 _ _ eB) ((hSt.take i).kt (KT.of s47)) ((hSt.drop i).kt (KT.of s47)) ⟨?_, ?_, ?_, fun z => ?_, fun s' T' z => ?_⟩
      · rw [List.take_append_drop]; exact hP
      · rw [List.take_append_drop]
        intro z
        rw [z] at li
        exact absurd li (Nat.not_lt_zero _)
      · rw [List.take_append_drop]; exact hS8
      · have := congrArg List.length z
        rw [List.length_drop] at this
        simp at this
        omega
      · refine ⟨c, ?_⟩
        have h0 : (S.drop i)[0]? = some s' := by rw [z]; rfl
        rw [List.getElem?_drop, Nat.add_zero, hi'] at h0
        cases h0
        exact hst.symm
    | none =>
      refine iteF ?_
      obtain ⟨d, hd⟩ : ∃ d, ts[(tnI ff ts.length x).toNat]? = some d := ⟨_, List.getElem?_eq_getElem (by omega)⟩
      have hnew : ∀ s ∈ S, tnI ff ts.length s.1 ≠ tnI ff ts.length x := fun s hs z => by
        obtain ⟨i, hi'⟩ := List.getElem?_of_mem hs
        have := hm1 i s hi'
        rw [z, hv] at this
        cases this
      have hl := hSt.len
      -- met[turn] = len(steps)
      refine ⟨.ref Ls, rfl, Ls, vs, rfl, .inl (SqL.of eL4), .ref M, rfl, .int (tnI ff ts.length x), rfl, M, _, rfl, DPut.k (k := Sum.inl (tnI ff ts.length x)) eM4 (by omega), ?_⟩
      have eM5 : (upd H4 M (.dK (putK kvs (Sum.inl (tnI ff ts.length x)) (.int (vs.length : Int))))) M = some (.dK (putK kvs (Sum.inl (tnI ff ts.length x)) (.int (vs.length : Int)))) := upd_same
      have k45 : KT H4 (upd H4 M (.dK (putK kvs (Sum.inl (tnI ff ts.length x)) (.int (vs.length : Int))))) := KT.upd fun xs z => by rw [eM4] at z; cases z
      have s5 : Same H (upd H4 M (.dK (putK kvs (Sum.inl (tnI ff ts.length x)) (.int (vs.length : Int))))) := fun p o hp => by
        rw [upd_ne (fun z => by rw [z, nMH] at hp; cases hp)]
        exact s4 _ _ hp
      have eL5 : (upd H4 M (.dK (putK kvs (Sum.inl (tnI ff ts.length x)) (.int (vs.length : Int))))) Ls = some (.lst vs) := by rw [upd_ne nLM]; exact eL4
      have ew5 : (upd H4 M (.dK (putK kvs (Sum.inl (tnI ff ts.length x)) (.int (vs.length : Int))))) wq = some (.lst ((ts.map (wd b start)).map V.int)) := by rw [upd_ne nwM]; exact ew4
      generalize upd H4 M (.dK (putK kvs (Sum.inl (tnI ff ts.length x)) (.int (vs.length : Int)))) = H5 at eM5 k45 s5 eL5 ew5
      have hw : atI ((ts.map (wd b start)).map V.int) (tnI ff ts.length x) = some (.int (wd b start d)) := by
        have := atI_nat (xs := (ts.map (wd b start)).map V.int) (j := (tnI ff ts.length x).toNat) (v := .int (wd b start d)) (by rw [List.getElem?_map, List.getElem?_map, hd]; rfl)
        rw [Int.toNat_of_nonneg tn0] at this
        exact this
      refine ⟨.ref Ls, rfl, .inl ⟨rfl, _, SqL.of eL5⟩, .int x, rfl, .ref wq, rfl, .int (tnI ff ts.length x), rfl, wq, _, tnI ff ts.length x, .int (wd b start d), rfl, rfl, SqL.of ew5, hw, small_le (by show 2 ≤ 1000; decide), fun u nu => ?_⟩
      have s6 := same_upd (o := .tup [.int x, .int (wd b start d)]) nu
      have eu : (upd H5 u (.tup [.int x, .int (wd b start d)])) u = some (.tup [.int x, .int (wd b start d)]) := upd_same
      generalize upd H5 u (.tup [.int x, .int (wd b start d)]) = H6 at s6 eu
      have eL6 := s6 _ _ eL5
      refine ⟨Ls, _, _, rfl, rfl, eL6, by omega, ?_⟩
      have k67 : KT H6 (upd H6 Ls (.lst (vs ++ [.ref u]))) := KT.upd fun xs z => by rw [eL6] at z; cases z
      have ew7 : (upd H6 Ls (.lst (vs ++ [.ref u]))) wq = some (.lst ((ts.map (wd b start)).map V.int)) := by rw [upd_ne nwL]; exact s6 _ _ ew5
      have eM7 : (upd H6 Ls (.lst (vs ++ [.ref u]))) M = some (.dK (putK kvs (Sum.inl (tnI ff ts.length x)) (.int (vs.length : Int)))) := by rw [upd_ne (Ne.symm nLM)]; exact s6 _ _ eM5
      have s7 : Same H (upd H6 Ls (.lst (vs ++ [.ref u]))) := fun p o hp => by
        rw [upd_ne (fun z => by rw [z, nLH] at hp; cases hp)]
        exact s6 _ _ (s5 _ _ hp)
      refine ⟨.int x, rfl, .ref wq, rfl, .int (tnI ff ts.length x), rfl, wq, _, tnI ff ts.length x, .int (wd b start d), rfl, rfl, SqL.of ew7, hw, wd b start d, 1, rfl, x, _, rfl, rfl, ?_⟩
      have hmx : (if (1 : Int) > wd b start d then 1 else wd b start d) = max (wd b start d) 1 := by split <;> omega
      have hst7 := (hSt.kt ((k45.trans (KT.of s6)).trans k67)).snoc (b := u) (s := (x, wd b start d)) (k67 _ _ eu)
      refine ⟨(e + 1 - (x + max (wd b start d) 1)).toNat, by omega, vs ++ [.ref u], S ++ [(x, wd b start d)], _, x + max (wd b start d) 1, some (.int (tnI ff ts.length x)), by rw [hmx]; rfl, s7, ew7, upd_same, eM7, hst7, hP.snoc ⟨c, d, hd, rfl⟩, ?_, ?_, fun i s hs => ?_, fun n hn => ?_, fun z => by simp at z, rfl⟩
      · rw [List.map_append, List.nodup_append]
        refine ⟨hnd, List.pairwise_singleton _ _, fun y hy z hz => ?_⟩
        obtain ⟨s, hs, rfl⟩ := List.mem_map.mp hy
        have : z = tnI ff ts.length x := List.mem_singleton.mp hz
        rw [this]
        exact hnew s hs
      · rw [List.length_append, List.length_singleton]
        have : (putK kvs (Sum.inl (tnI ff ts.length x)) (V.int (vs.length : Int))).length ≤ kvs.length + 1 := by
          unfold putK
          split
          · rw [List.length_map]; exact Nat.le_succ _
          · rw [List.length_append]; exact Nat.le_refl _
        omega
      · rw [valV_put]
        by_cases c2 : i < S.length
        · rw [List.getElem?_append_left c2] at hs
          rw [if_neg (fun z => hnew s (List.mem_of_getElem? hs) (Sum.inl.inj z))]
          exact hm1 i s hs
        · have hi2 : i = S.length := by
            obtain ⟨l, _⟩ := List.getElem?_eq_some_iff.mp hs
            rw [List.length_append, List.length_singleton] at l
            omega
          subst hi2
          rw [List.getElem?_concat_length] at hs
          cases hs
          rw [if_pos rfl, hl]
      · rw [valV_put, if_neg (fun z => hn (x, wd b start d) (List.mem_append_right _ (List.mem_singleton.mpr rfl)) (Sum.inl.inj z).symm)]
        exact hm2 n fun s hs => hn s (List.mem_append_left _ hs)
  · rw [decide_eq_false c]
    refine iteF ?_
    refine ⟨.ref Ls, rfl, Nat.zero_le _, fun B1 nB => ?_⟩
    have s5 := same_upd (o := .lst []) nB
    have eB : (upd H4 B1 (.lst [])) B1 = some (.lst []) := upd_same
    generalize upd H4 B1 (.lst []) = H5 at s5 eB
    refine ⟨small_le (by show 2 ≤ 1000; decide), fun pr npr => ?_⟩
    have s6 := same_upd (o := .tup [.ref Ls, .ref B1]) npr
    have s46 := s5.trans s6
    refine q pr Ls B1 vs [] S [] x _ (s4.trans s46) nLH (s4.free nB) upd_same (s46 _ _ eL4) (s6 _ _ eB) (hSt.kt (KT.of s46)) ⟨rfl, fun i s h => by cases i <;> cases h⟩ ⟨?_, ?_, ?_, fun _ => by omega, fun s' T' z => by cases z⟩
    · rw [List.append_nil]; exact hP
    · rw [List.append_nil]
      intro z
      have := hS0 z
      omega
    · rw [List.append_nil]; exact hS8
end
end CL
set_option Elab.async false
set_option linter.all false
set_option pp.maxSteps 400
set_option maxRecDepth 100000
set_option maxHeartbeats 4000000
namespace CL
open PySem PySem.Spec PyProof.Rows L2 GE
abbrev sInit : Stmt := inClass (topS 37) 0
abbrev nInit : List Str := ["self", "steps", "room", "person", "width"]
theorem scInit : FnScope nInit ["self", "steps", "room"] (defScope sInit) := ⟨rfl, rfl, rfl, by decide +kernel, rfl, by decide +kernel, by decide +kernel⟩
abbrev sRuns : Stmt := topS 38
abbrev nRuns : List Str := ["pieces", "start", "bound", "stop", "runs", "ahead", "piece", "end", "once", "again"]
theorem scRuns : FnScope nRuns ["pieces", "start", "bound", "stop"] (defScope sRuns) := ⟨rfl, rfl, rfl, by decide +kernel, rfl, by decide +kernel, by decide +kernel⟩
/-! ### how far the steps go -/
def lenR (S : List StepT) : Int := (S.map fun s => max s.2 1).sum
def spareR (S : List StepT) : Nat := (S.filter fun s => decide (s.2 = 0)).length
theorem lenR_cons (s : StepT) (S : List StepT) : lenR (s :: S) = max s.2 1 + lenR S := rfl
theorem lenR_pos : ∀ S : List StepT, (S.length : Int) ≤ lenR S
  | [] => Int.le_refl 0
  | s :: S => by
    have := lenR_pos S
    rw [lenR_cons, List.length_cons]
    omega
theorem lenR_sum : ∀ S : List StepT, (∀ s ∈ S, 0 ≤ s.2) → (spareR S : Int) + (S.map (·.2)).sum = lenR S
  | [], _ => rfl
  | s :: S, h => by
    have ih := lenR_sum S fun x hx => h x (List.mem_cons_of_mem _ hx)
    have h0 := h s List.mem_cons_self
    rw [lenR_cons, List.map_cons, List.sum_cons]
    by_cases c : s.2 = 0
    · have e : spareR (s :: S) = spareR S + 1 := by unfold spareR; rw [List.filter_cons, if_pos (by simpa using c)]; rfl
      rw [e]
      omega
    · have e : spareR (s :: S) = spareR S := by unfold spareR; rw [List.filter_cons, if_neg (by simpa using c)]
      rw [e]
      omega
theorem lenR_le {m : Int} : ∀ S : List StepT, (∀ s ∈ S, s.2 ≤ m) → 1 ≤ m → lenR S ≤ S.length * m
  | [], _, _ => by simp [lenR]
  | s :: S, h, hm => by
    have ih := lenR_le S (fun x hx => h x (List.mem_cons_of_mem _ hx)) hm
    have h0 := h s List.mem_cons_self
    have e : ((s :: S).length : Int) * m = m + S.length * m := by
      rw [List.length_cons, Int.natCast_add, Int.add_mul]
      omega
    rw [lenR_cons, e]
    omega
theorem Pth.end_ {W : Int → Int → Prop} : ∀ {S : List StepT} {a c : Int}, Pth W a S c → c = a + lenR S
  | [], a, c, h => by
    obtain rfl : a = c := h
    exact (Int.add_zero a).symm
  | s :: S, a, c, h => by
    have := Pth.end_ h.2.2
    rw [lenR_cons]
    omega
def shift (d : Int) (S : List StepT) : List StepT := S.map fun s => (s.1 + d, s.2)
theorem Pth.shift {W W' : Int → Int → Prop} {d : Int} : ∀ {S : List StepT} {a c : Int}, Pth W a S c → (∀ s ∈ S, W s.1 s.2 → W' (s.1 + d) s.2) → Pth W' (a + d) (shift d S) (c + d)
  | [], a, c, h, _ => by
    obtain rfl : a = c := h
    exact rfl
  | s :: S, a, c, h, hw => by
    have ih := Pth.shift h.2.2 fun x hx => hw x (List.mem_cons_of_mem _ hx)
    refine ⟨by show s.1 + d = a + d; rw [h.1], hw s List.mem_cons_self h.2.1, ?_⟩
    rw [show a + d + max s.2 1 = a + max s.2 1 + d by omega]
    exact ih
theorem Pth.imp {W W' : Int → Int → Prop} : ∀ {S : List StepT} {a c : Int}, Pth W a S c → (∀ s ∈ S, W s.1 s.2 → W' s.1 s.2) → Pth W' a S c
  | [], a, c, h, _ => h
  | s :: S, a, c, h, hw => ⟨h.1, hw s List.mem_cons_self h.2.1, Pth.imp h.2.2 fun x hx => hw x (List.mem_cons_of_mem _ hx)⟩
/-! ### runs -/
structure RunT where
  steps : List StepT
  times : Nat
/-- the window of the one who comes at x -/
def WP (ps : List PieceT) (b : Option Int) (x w : Int) : Prop := ∃ pc t, ps.find? (comes x) = some pc ∧ pc.2.2[(tnI pc.1 pc.2.2.length x).toNat]? = some t ∧ w = wd b x t
def WS (ps : List PieceT) (b : Option Int) (stop x w : Int) : Prop := x ≤ stop ∧ WP ps b x w
structure RunOk (ps : List PieceT) (b : Option Int) (stop a : Int) (r : RunT) : Prop where
  ne : r.steps ≠ []
  times : 1 ≤ r.times
  len : r.steps.length ≤ 8
  path : ∀ k : Nat, k < r.times → Pth (WS ps b stop) (a + k * lenR r.steps) (shift (k * lenR r.steps) r.steps) (a + (k * lenR r.steps + lenR r.steps))
  rep : ∀ (y : Int) pc t, a ≤ y → y + lenR r.steps < a + r.times * lenR r.steps → ps.find? (comes y) = some pc → pc.2.2[(tnI pc.1 pc.2.2.length y).toNat]? = some t → ps.find? (comes (y + lenR r.steps)) = some pc ∧ pc.2.2[(tnI pc.1 pc.2.2.length (y + lenR r.steps)).toNat]? = some t
def Lvl (ps : List PieceT) (b : Option Int) (stop : Int) : Int → List RunT → Int → Prop
  | a, [], c => a = c
  | a, r :: rs, c => RunOk ps b stop a r ∧ Lvl ps b stop (a + r.times * lenR r.steps) rs c
theorem Lvl.snoc {ps : List PieceT} {b : Option Int} {stop : Int} : ∀ {rs : List RunT} {a x : Int} {r : RunT}, Lvl ps b stop a rs x → RunOk ps b stop x r → Lvl ps b stop a (rs ++ [r]) (x + r.times * lenR r.steps)
  | [], a, x, r, h, hr => by
    obtain rfl : a = x := h
    exact ⟨hr, rfl⟩
  | s :: rs, a, x, r, h, hr => ⟨h.1, Lvl.snoc h.2 hr⟩
theorem comes_on {ps : List PieceT} {pc : PieceT} {x y : Int} (h : ps.find? (comes x) = some pc) (hxy : x ≤ y) (hp : ∀ m, pc.2.1 = some m → y < m) : ps.find? (comes y) = some pc := by
  rw [List.find?_eq_some_iff_append] at h ⊢
  obtain ⟨h1, as, bs, e, h2⟩ := h
  refine ⟨?_, as, bs, e, fun z hz => ?_⟩
  · unfold comes
    cases e2 : pc.2.1 with
    | none => rfl
    | some m => exact decide_eq_true (hp m e2)
  · have := h2 z hz
    unfold comes at this ⊢
    cases e2 : z.2.1 with
    | none => rw [e2] at this; cases this
    | some m =>
      rw [e2] at this
      have h3 : ¬ x < m := by simpa using this
      show (!decide (y < m)) = true
      rw [decide_eq_false (by omega)]
      rfl
theorem wd_on {past : Option Int} {ts : List PyData} {start x e stop : Int} {b : Option Int} (E : EndOk past ts start b stop e) {t : PyData} (ht : t ∈ ts) (h1 : start ≤ x) (h2 : x ≤ e) : wd b start t = wd b x t := by
  cases t with
  | int p =>
    cases b with
    | none => rfl
    | some m =>
      show (if start + p ≤ m then p + 1 else 0) = if x + p ≤ m then p + 1 else 0
      by_cases c : start + p ≤ m
      · have := E.fit m rfl p ht (by omega)
        rw [if_pos c, if_pos (by omega)]
      · rw [if_neg c, if_neg (by omega)]
  | _ => cases b <;> rfl
theorem wst_on {ps : List PieceT} {pc : PieceT} {start x e stop w : Int} {b : Option Int} (hf : ps.find? (comes start) = some pc) (E : EndOk pc.2.1 pc.2.2 start b stop e) (h1 : start ≤ x) (hw : Wst pc.1 pc.2.2 b start e x w) {d : Int} (h0 : 0 ≤ d) (h2 : x + d ≤ e) (hd : d % (pc.2.2.length : Int) = 0) : WS ps b stop (x + d) w := by
  obtain ⟨_, t, ht, rfl⟩ := hw
  have hi := E.hi
  refine ⟨by omega, pc, t, comes_on hf (by omega) fun m e2 => by have := E.pst m e2; omega, ?_, wd_on E (List.mem_of_getElem? ht) (by omega) h2⟩
  have e3 : tnI pc.1 pc.2.2.length (x + d) = tnI pc.1 pc.2.2.length x := by
    unfold tnI
    rw [show x + d - pc.1 = x - pc.1 + d by omega, Int.add_emod, hd, Int.add_zero, Int.emod_emod_of_dvd _ (Int.dvd_refl _)]
  rw [e3]
  exact ht
/-! ### how many runs there may be -/
def lgp (z : Int) : Nat := if z ≤ 0 then 0 else z.toNat.log2 + 1
theorem lgp_mono {a b : Int} (h : a ≤ b) : lgp a ≤ lgp b := by
  unfold lgp
  by_cases ha : a ≤ 0
  · rw [if_pos ha]; exact Nat.zero_le _
  · rw [if_neg ha, if_neg (by omega)]
    have h1 : 2 ^ a.toNat.log2 ≤ a.toNat := Nat.log2_self_le (by omega)
    have h2 : a.toNat.log2 ≤ b.toNat.log2 := (Nat.le_log2 (by omega)).mpr (Nat.le_trans h1 (by omega))
    omega
theorem lgp_half {a b : Int} (h : 2 * a < b) (hb : 0 < b) : lgp a < lgp b := by
  unfold lgp
  rw [if_neg (by omega : ¬ b ≤ 0)]
  by_cases ha : a ≤ 0
  · rw [if_pos ha]; omega
  · rw [if_neg ha]
    have h1 : 2 ^ a.toNat.log2 ≤ a.toNat := Nat.log2_self_le (by omega)
    have h2 : a.toNat.log2 + 1 ≤ b.toNat.log2 := (Nat.le_log2 (by omega)).mpr (by rw [Nat.pow_succ]; omega)
    omega
theorem lgp_le {z : Int} (h : z < 2 ^ 140) : lgp z ≤ 140 := by
  unfold lgp
  split
  · exact Nat.zero_le _
  · have : z.toNat.log2 < 140 := (Nat.log2_lt (by omega)).mpr (by omega)
    omega
def phi (B : List Int) (x : Int) : Nat := (B.map fun b => lgp (b + 1 - x)).sum
theorem phi_cons (b : Int) (B : List Int) (x : Int) : phi (b :: B) x = lgp (b + 1 - x) + phi B x := rfl
theorem phi_mono : ∀ (B : List Int) {x y : Int}, x ≤ y → phi B y ≤ phi B x
  | [], _, _, _ => Nat.le_refl 0
  | b :: B, x, y, h => by
    have h1 := phi_mono B h
    have h2 := lgp_mono (show b + 1 - y ≤ b + 1 - x by omega)
    rw [phi_cons, phi_cons]
    omega
theorem phi_less : ∀ (B : List Int) {e x y : Int}, e ∈ B → x ≤ y → lgp (e + 1 - y) < lgp (e + 1 - x) → phi B y < phi B x
  | b :: B, e, x, y, he, h, hl => by
    rw [phi_cons, phi_cons]
    rcases List.mem_cons.mp he with rfl | he
    · have := phi_mono B h
      omega
    · have h1 := phi_less B he h hl
      have h2 := lgp_mono (show b + 1 - y ≤ b + 1 - x by omega)
      omega
theorem phi_le : ∀ (B : List Int) {x : Int}, (∀ b ∈ B, b + 1 - x < 2 ^ 140) → phi B x ≤ 140 * B.length
  | [], _, _ => Nat.le_refl 0
  | b :: B, x, h => by
    have h1 := phi_le B fun y hy => h y (List.mem_cons_of_mem _ hy)
    have h2 := lgp_le (h b List.mem_cons_self)
    rw [phi_cons, List.length_cons]
    omega
/-- all numbers at which a stretch may end -/
def breaks (ps : List PieceT) (b : Option Int) (stop : Int) : List Int := stop :: ((ps.filterMap fun pc => pc.2.1.map fun m => m - 1) ++ match b with
  | some m => ps.flatMap fun pc => fitsOf m pc.2.2
  | none => [])
theorem mem_breaks {ps : List PieceT} {pc : PieceT} {start e stop : Int} {b : Option Int} (hm : pc ∈ ps) (E : EndOk pc.2.1 pc.2.2 start b stop e) : e ∈ breaks ps b stop := by
  unfold breaks
  rcases E.from_ with h | h | ⟨m, p, rfl, hp, rfl⟩
  · rw [h]; exact List.mem_cons_self
  · refine List.mem_cons_of_mem _ (List.mem_append_left _ (List.mem_filterMap.mpr ⟨pc, hm, ?_⟩))
    rw [h]
    show some (e + 1 - 1) = some e
    rw [Int.add_sub_cancel]
  · exact List.mem_cons_of_mem _ (List.mem_append_right _ (List.mem_flatMap.mpr ⟨pc, hm, mem_fits.mpr ⟨p, hp, rfl⟩⟩))
theorem fits_len (m : Int) (ts : List PyData) : (fitsOf m ts).length ≤ ts.length := List.length_filterMap_le _ ts
theorem breaks_len {ps : List PieceT} {b : Option Int} {stop : Int} (h8 : ps.length ≤ 8) (ht : ∀ pc ∈ ps, pc.2.2.length ≤ 8) : (breaks ps b stop).length ≤ 73 := by
  have h1 := List.length_filterMap_le (fun pc : PieceT => pc.2.1.map fun m => m - 1) ps
  have h2 : ∀ (m : Int) (ps : List PieceT), (∀ pc ∈ ps, pc.2.2.length ≤ 8) → (ps.flatMap fun pc => fitsOf m pc.2.2).length ≤ 8 * ps.length := fun m ps => by
    induction ps with
    | nil => intro _; exact Nat.le_refl 0
    | cons pc ps ih =>
      intro h
      have i1 := ih fun x hx => h x (List.mem_cons_of_mem _ hx)
      have i2 := fits_len m pc.2.2
      have i3 := h pc List.mem_cons_self
      rw [List.flatMap_cons, List.length_append, List.length_cons]
      omega
  unfold breaks
  rw [List.length_cons, List.length_append]
  cases b with
  | none => show _ + 0 + 1 ≤ 73; omega
  | some m =>
    have := h2 m ps ht
    show _ + (ps.flatMap fun pc => fitsOf m pc.2.2).length + 1 ≤ 73
    omega
/-- what the class of runs is -/
structure RunC (K : PySem.W.Frag) (mg : Str → Option Value) (C fI : Addr) : Prop where
  cl : Cls K C
  nSt : NoAttr K C "steps"
  nSp : NoAttr K C "spare"
  nLe : NoAttr K C "length"
  nTi : NoAttr K C "times"
  g : mg "Run" = some (.ref C)
  make : Mk K C fI
/-- what a run holds -/
def rf (p : Addr) (S : List StepT) (t : Int) : List (Str × V) := putF "times" (.int t) (putF "length" (.int (lenR S)) (putF "spare" (.int (spareR S : Nat)) (putF "steps" (.ref p) [])))
theorem putF_len (f : Str) (v : V) : ∀ fs : List (Str × V), (putF f v fs).length ≤ fs.length + 1
  | [] => Nat.le_refl _
  | (g, x) :: r => by
    have ih := putF_len f v r
    unfold putF
    split
    · exact Nat.le_succ _
    · rw [List.length_cons, List.length_cons]
      omega
theorem pl1 (f : Str) (v : V) : (putF f v []).length < 1000 := Nat.lt_of_le_of_lt (putF_len f v []) (by show 0 + 1 < 1000; decide)
theorem pl2 (f g : Str) (v y : V) : (putF f v (putF g y [])).length < 1000 := by
  have := putF_len f v (putF g y [])
  have := putF_len g y []
  simp at *
  omega
theorem pl3 (f g h : Str) (v y z : V) : (putF f v (putF g y (putF h z []))).length < 1000 := by
  have := putF_len f v (putF g y (putF h z []))
  have := putF_len g y (putF h z [])
  have := putF_len h z []
  simp at *
  omega
theorem rf_times (p : Addr) (S : List StepT) (t : Int) : (rf p S t).lookup ("times" : Str) = some (.int t) := by
  unfold rf
  rw [lookup_putF, if_pos rfl]
theorem rf_length (p : Addr) (S : List StepT) (t : Int) : (rf p S t).lookup ("length" : Str) = some (.int (lenR S)) := by
  unfold rf
  rw [lookup_putF, if_neg (by decide +kernel), lookup_putF, if_pos rfl]
theorem rf_spare (p : Addr) (S : List StepT) (t : Int) : (rf p S t).lookup ("spare" : Str) = some (.int (spareR S : Nat)) := by
  unfold rf
  rw [lookup_putF, if_neg (by decide +kernel), lookup_putF, if_neg (by decide +kernel), lookup_putF, if_pos rfl]
theorem rf_steps (p : Addr) (S : List StepT) (t : Int) : (rf p S t).lookup ("steps" : Str) = some (.ref p) := by
  unfold rf
  rw [lookup_putF, if_neg (by decide +kernel), lookup_putF, if_neg (by decide +kernel), lookup_putF, if_neg (by decide +kernel), lookup_putF, if_pos rfl]
def timesOf (S : List StepT) (room : Int) : Int := max 1 (room / lenR S)
def spInit (C : Addr) : Sp := fun vs H Q _ => ∃ x p dx vs' S, ∃ room : Int, vs = [.ref x, .ref p, .int room] ∧ H x = some (.ins C dx []) ∧ H p = some (.lst vs') ∧ StAt H vs' S ∧ S ≠ [] ∧ S.length ≤ 8 ∧ (∀ s ∈ S, 0 ≤ s.2 ∧ s.2 ≤ GREAT + 1) ∧ ∀ H' dx, (∀ c o, H c = some o → c ≠ x → H' c = some o) → H' x = some (.ins C dx (rf p S (timesOf S room))) → Q .non H'
section
variable {P : Program} {w : World} {K : PySem.W.Frag} {mg : Str → Option Value} {base : Heap}
theorem ok_init {f C : Addr} {fd : FuncData} (F : Fun K "__init__" "Run.__init__" sInit f fd) (T : Nm mg) (hmax : mg "max" = none) {fI : Addr} (TC : RunC K mg C fI) : FnOk P w K mg base CX0 1 f fd ["self", "steps", "room"] (spInit C) := by
  refine F.ok scInit (fun vs H Q E ⟨x, p, dx, vs', S, room, e, _⟩ => by rw [e]; rfl) (fun cdv A outer s H vs Q E hr h => ?_)
  obtain ⟨x, p, dx, vs', S, room, rfl, hx, hp, hSt, hne, h8, hw, q⟩ := h
  have nd := scInit.nd
  have sz := sz5000
  refine ⟨_, (pss_cons (ps_fld (pv 0) (pv 1) rfl)
    (pss_cons (ps_fld (pv 0) (pe_callB call_len_seq (by rfl) T.len PySem.boot_len (pa_cons (pe_lc (own := [("person", 3), ("width", 4)]) (g := gTup K 2 (gCons (gName 3) (gCons (gName 4) gNil)))  rfl nd (pi_list (pv 1)) (blkOk_by (N := nInit) (sc := defScope sInit) (by decide +kernel))
        (fun _ _ _ _ _ => pg_tup rfl (pgs_cons (pg_name (i := 3) nd rfl (.inl rfl) (.inr rfl)) (pgs_cons (pg_name (i := 4) nd rfl (.inl rfl) (.inr rfl)) pgs_nil))) (fun _ _ _ _ _ => pts_one (pt_cmpR op_eq (pv 4) pe_int (nomark _))) (fun _ _ _ _ _ => (pv 4))) pa_nil)) rfl)
    (pss_cons (ps_fld (pv 0) (pe_op op_add (pe_fld (pv 0) rfl) (pe_callB (cr_sum rfl) (by rfl) T.sum (by decide +kernel) (pa_cons (pe_lc (own := [("person", 3), ("width", 4)]) (g := gTup K 2 (gCons (gName 3) (gCons (gName 4) gNil))) (tt := tYes) rfl nd (pi_list (pv 1)) (blkOk_by (N := nInit) (sc := defScope sInit) (by decide +kernel))
        (fun _ _ _ _ _ => pg_tup rfl (pgs_cons (pg_name (i := 3) nd rfl (.inl rfl) (.inr rfl)) (pgs_cons (pg_name (i := 4) nd rfl (.inl rfl) (.inr rfl)) pgs_nil))) (fun _ _ _ _ _ => pts_nil) (fun _ _ _ _ _ => (pv 4))) pa_nil))) rfl)
    (pss_one (ps_fld (pv 0) (pe_callB (call_max2 rfl) (by rfl) hmax (by decide +kernel) (pa_cons pe_int (pa_cons (pe_op op_fdivW (pv 2) (pe_fld (pv 0) rfl)) pa_nil))) rfl))))), ?_⟩
  have npx : p ≠ x := fun z => by rw [z, hx] at hp; cases hp
  have lv := hSt.len
  -- self.steps = steps
  refine ⟨.ref p, rfl, .ref x, rfl, x, C, dx, [], rfl, hx, TC.cl, TC.nSt, by decide, ?_⟩
  have k1 : ∀ c o, H c = some o → c ≠ x → (upd H x (.ins C dx (putF "steps" (.ref p) []))) c = some o := fun c o h n => by rw [upd_ne n]; exact h
  have e1 : (upd H x (.ins C dx (putF "steps" (.ref p) []))) x = some (.ins C dx (putF "steps" (.ref p) [])) := upd_same
  generalize upd H x (.ins C dx (putF "steps" (.ref p) [])) = H1 at k1 e1
  have tupx : ∀ {c : Addr} {xs : List V}, H c = some (.tup xs) → c ≠ x := fun {c xs} h z => by rw [z, hx] at h; cases h
  have st1 : StAt H1 vs' S := hSt.kt fun c xs h => k1 c _ h (tupx h)
  have hp1 := k1 p _ hp npx
  -- the spare ones
  have comp : ∀ {H1 : Hp} {Qd : Hp → Prop} {D : Addr} {σ : L2.St}, H1 D = none → H1 p = some (.lst vs') → StAt H1 vs' S → True := fun _ _ _ => trivial
  refine ⟨.ref p, rfl, p, rfl, ⟨vs', SqL.of hp1⟩, fun D nD => ?_⟩
  refine lc_list (xs := vs') (fun i H5 => H5 = upd H1 D (.lst ((((S.take i).filter fun s => decide (s.2 = 0)).map (·.2)).map V.int))) rfl (fun i H5 _ e => by rw [e]; exact SqL.of (same_upd nD _ _ hp1)) (fun i v H5 hv e => ?_) (fun H5 e => ?_)
  · subst e
    have li : i < S.length := by rw [← lv]; exact (List.getElem?_eq_some_iff.mp hv).1
    obtain ⟨⟨a, w'⟩, hs⟩ : ∃ s, S[i]? = some s := ⟨_, List.getElem?_eq_getElem li⟩
    obtain ⟨b, hb1, hb2⟩ := st1.at_ i _ hs
    rw [hb1] at hv
    cases hv
    have hl : ((((S.take i).filter fun s => decide (s.2 = 0)).map (·.2)).map V.int).length < sizeLine := by
      rw [List.length_map, List.length_map]
      have h1 := List.length_filter_le (fun s : StepT => decide (s.2 = 0)) (S.take i)
      rw [List.length_take] at h1
      omega
    refine ⟨b, [.int a, .int w'], rfl, SqT.of (same_upd nD _ _ hb2), rfl, .int a, [.int w'], rfl, .int w', [], rfl, rfl, rfl, .int w', rfl, rfl, _, rfl, ?_⟩
    rw [List.take_add_one, hs, List.filter_append]
    by_cases c : w' = 0
    · rw [decide_eq_true (by rw [c])]
      refine iteT ⟨.int w', rfl, _, upd_same, hl, ?_⟩
      rw [upd_upd]
      show _ = upd H1 D (.lst ((((_ : List StepT) ++ List.filter (fun s : StepT => decide (s.2 = 0)) [(a, w')]).map (fun s : StepT => s.2)).map V.int))
      rw [List.filter_cons, if_pos (by simpa using c), List.map_append, List.map_append]
      rfl
    · rw [decide_eq_false (fun z => c (V.int.inj z))]
      refine iteF ?_
      show _ = upd H1 D (.lst ((((_ : List StepT) ++ List.filter (fun s : StepT => decide (s.2 = 0)) [(a, w')]).map (fun s : StepT => s.2)).map V.int))
      rw [List.filter_cons, if_neg (by simpa using c)]
      show _ = upd H1 D (.lst ((((_ : List StepT) ++ []).map (fun s : StepT => s.2)).map V.int))
      rw [List.append_nil]
  · have e' : H5 = upd H1 D (.lst (((S.filter fun s => decide (s.2 = 0)).map (·.2)).map V.int)) := by rw [e, lv, List.take_length]
    clear e
    subst e'
    have s2 := same_upd (o := .lst (((S.filter fun s => decide (s.2 = 0)).map (·.2)).map V.int)) nD
    have eD : (upd H1 D (.lst (((S.filter fun s => decide (s.2 = 0)).map (·.2)).map V.int))) D = some (.lst (((S.filter fun s => decide (s.2 = 0)).map (·.2)).map V.int)) := upd_same
    generalize upd H1 D (.lst (((S.filter fun s => decide (s.2 = 0)).map (·.2)).map V.int)) = H2 at s2 eD
    refine ⟨D, _, rfl, .inl (SqL.of eD), .ref x, rfl, x, C, dx, _, rfl, s2 _ _ e1, TC.cl, TC.nSp, pl1 _ _, ?_⟩
    have esp : ((((S.filter fun s => decide (s.2 = 0)).map (·.2)).map V.int).length : Int) = ((spareR S : Nat) : Int) := by
      rw [List.length_map, List.length_map]
      rfl
    rw [esp]
    have k3 : ∀ c o, H c = some o → c ≠ x → (upd H2 x (.ins C dx (putF "spare" (.int (spareR S : Nat)) (putF "steps" (.ref p) [])))) c = some o := fun c o h n => by rw [upd_ne n]; exact s2 _ _ (k1 c o h n)
    have e3 : (upd H2 x (.ins C dx (putF "spare" (.int (spareR S : Nat)) (putF "steps" (.ref p) [])))) x = some (.ins C dx (putF "spare" (.int (spareR S : Nat)) (putF "steps" (.ref p) []))) := upd_same
    generalize upd H2 x (.ins C dx (putF "spare" (.int (spareR S : Nat)) (putF "steps" (.ref p) []))) = H3 at k3 e3
    have hp3 := k3 p _ hp npx
    have st3 : StAt H3 vs' S := hSt.kt fun c xs h => k3 c _ h (tupx h)
    -- self.length
    refine ⟨.ref x, rfl, x, C, dx, _, .int ((spareR S : Nat) : Int), rfl, e3, TC.cl, TC.nSp, by rw [lookup_putF, if_pos rfl], ?_⟩
    refine ⟨.ref p, rfl, p, rfl, ⟨vs', SqL.of hp3⟩, fun D2 nD2 => ?_⟩
    refine lc_list (xs := vs') (fun i H5 => H5 = upd H3 D2 (.lst (((S.take i).map (·.2)).map V.int))) rfl (fun i H5 _ e => by rw [e]; exact SqL.of (same_upd nD2 _ _ hp3)) (fun i v H5 hv e => ?_) (fun H5 e => ?_)
    · subst e
      have li : i < S.length := by rw [← lv]; exact (List.getElem?_eq_some_iff.mp hv).1
      obtain ⟨⟨a, w'⟩, hs⟩ : ∃ s, S[i]? = some s := ⟨_, List.getElem?_eq_getElem li⟩
      obtain ⟨b, hb1, hb2⟩ := st3.at_ i _ hs
      rw [hb1] at hv
      cases hv
      refine ⟨b, [.int a, .int w'], rfl, SqT.of (same_upd nD2 _ _ hb2), rfl, .int a, [.int w'], rfl, .int w', [], rfl, rfl, rfl, yesT ⟨.int w', rfl, _, upd_same, by rw [List.length_map, List.length_map, List.length_take]; omega, ?_⟩⟩
      rw [upd_upd, List.take_add_one, hs, List.map_append, List.map_append]
      rfl
    · have e' : H5 = upd H3 D2 (.lst ((S.map (·.2)).map V.int)) := by rw [e, lv, List.take_length]
      clear e
      subst e'
      have s4 := same_upd (o := .lst ((S.map (·.2)).map V.int)) nD2
      have eD2 : (upd H3 D2 (.lst ((S.map (·.2)).map V.int))) D2 = some (.lst ((S.map (·.2)).map V.int)) := upd_same
      generalize upd H3 D2 (.lst ((S.map (·.2)).map V.int)) = H4 at s4 eD2
      refine ⟨D2, S.map (·.2), rfl, SqL.of eD2, ((spareR S : Nat) : Int), _, rfl, rfl, .ref x, rfl, x, C, dx, _, rfl, s4 _ _ e3, TC.cl, TC.nLe, pl2 _ _ _ _, ?_⟩
      have elen : ((spareR S : Nat) : Int) + (S.map (·.2)).sum = lenR S := lenR_sum S fun s hs => (hw s hs).1
      dsimp only
      rw [elen]
      have k5 : ∀ c o, H c = some o → c ≠ x → (upd H4 x (.ins C dx (putF "length" (.int (lenR S)) (putF "spare" (.int (spareR S : Nat)) (putF "steps" (.ref p) []))))) c = some o := fun c o h n => by rw [upd_ne n]; exact s4 _ _ (k3 c o h n)
      have e5 : (upd H4 x (.ins C dx (putF "length" (.int (lenR S)) (putF "spare" (.int (spareR S : Nat)) (putF "steps" (.ref p) []))))) x = some (.ins C dx (putF "length" (.int (lenR S)) (putF "spare" (.int (spareR S : Nat)) (putF "steps" (.ref p) [])))) := upd_same
      generalize upd H4 x (.ins C dx (putF "length" (.int (lenR S)) (putF "spare" (.int (spareR S : Nat)) (putF "steps" (.ref p) [])))) = H6 at k5 e5
      have hl1 : 1 ≤ lenR S := by
        have := lenR_pos S
        have : S.length ≠ 0 := fun z => hne (List.length_eq_zero_iff.mp z)
        omega
      have hl2 : lenR S < 2 ^ 140 := by
        have h1 := lenR_le (m := 1000000000000000000000000000001) S (fun s hs => (hw s hs).2) (by decide)
        have h2 : (S.length : Int) * 1000000000000000000000000000001 ≤ 8 * 1000000000000000000000000000001 := Int.mul_le_mul_of_nonneg_right (by omega) (by decide)
        omega
      refine ⟨.int room, rfl, .ref x, rfl, x, C, dx, _, .int (lenR S), rfl, e5, TC.cl, TC.nLe, by rw [lookup_putF, if_pos rfl], room, lenR S, rfl, rfl, wide_div (b := 140) (by omega) (by omega) (by decide) (by decide), 1, room / lenR S, rfl, .ref x, rfl, x, C, dx, _, rfl, e5, TC.cl, TC.nTi, pl3 _ _ _ _ _ _, ?_⟩
      have et : (if room / lenR S > 1 then room / lenR S else 1) = timesOf S room := by unfold timesOf; split <;> omega
      rw [et]
      exact q _ dx (fun c o h n => by rw [upd_ne n]; exact k5 c o h n) upd_same
end
end CL
set_option Elab.async false
set_option linter.all false
set_option pp.maxSteps 400
set_option maxRecDepth 100000
set_option maxHeartbeats 4000000
namespace CL
open PySem PySem.Spec PyProof.Rows L2 GE
theorem Int.dvd_sub_of_emod_eq' {a b n : Int} (h : a % n = b % n) : n ∣ a - b := Int.dvd_of_emod_eq_zero (by rw [Int.sub_emod, h, Int.sub_self, Int.zero_emod])
def RunAt (C D : Addr) (H : Hp) (v : V) (r : RunT) : Prop := ∃ x dx p vs, v = .ref x ∧ p ≠ D ∧ H x = some (.ins C dx (rf p r.steps (r.times : Int))) ∧ H p = some (.lst vs) ∧ StAt H vs r.steps
structure RunsAt (C D : Addr) (H : Hp) (vs : List V) (rs : List RunT) : Prop where
  len : vs.length = rs.length
  at_ : ∀ (i : Nat) (r : RunT), rs[i]? = some r → ∃ v, vs[i]? = some v ∧ RunAt C D H v r
theorem RunAt.kd {C D : Addr} {H H' : Hp} {v : V} {r : RunT} {ws : List V} (h : RunAt C D H v r) (hD : H D = some (.lst ws)) (k : ∀ b o, b ≠ D → H b = some o → H' b = some o) : RunAt C D H' v r := by
  obtain ⟨x, dx, p, vs, e, n, h1, h2, h3⟩ := h
  exact ⟨x, dx, p, vs, e, n, k _ _ (fun z => by rw [z, hD] at h1; cases h1) h1, k _ _ n h2, h3.kt fun b xs hb => k _ _ (fun z => by rw [z, hD] at hb; cases hb) hb⟩
theorem RunsAt.kd {C D : Addr} {H H' : Hp} {vs : List V} {rs : List RunT} {ws : List V} (h : RunsAt C D H vs rs) (hD : H D = some (.lst ws)) (k : ∀ b o, b ≠ D → H b = some o → H' b = some o) : RunsAt C D H' vs rs := ⟨h.len, fun i r hr => by
  obtain ⟨v, h1, h2⟩ := h.at_ i r hr
  exact ⟨v, h1, h2.kd hD k⟩⟩
theorem RunsAt.same {C D : Addr} {H H' : Hp} {vs : List V} {rs : List RunT} {ws : List V} (h : RunsAt C D H vs rs) (hD : H D = some (.lst ws)) (s : Same H H') : RunsAt C D H' vs rs := h.kd hD fun b o _ e => s b o e
theorem RunsAt.add {C D : Addr} {H H' : Hp} {vs : List V} {rs : List RunT} {v : V} {r : RunT} (h : RunsAt C D H vs rs) (s : Same H H') (hD' : H' D = some (.lst vs)) (hr : RunAt C D H' v r) : RunsAt C D (upd H' D (.lst (vs ++ [v]))) (vs ++ [v]) (rs ++ [r]) := by
  have k : ∀ b o, b ≠ D → H' b = some o → (upd H' D (.lst (vs ++ [v]))) b = some o := fun b o n e => by rw [upd_ne n]; exact e
  refine ⟨by rw [List.length_append, List.length_append, h.len]; rfl, fun i x hx => ?_⟩
  by_cases c : i < rs.length
  · rw [List.getElem?_append_left c] at hx
    obtain ⟨w, h1, x1, dx, p, ws, e, n, h2, h3, h4⟩ := h.at_ i x hx
    refine ⟨w, by rw [List.getElem?_append_left (by rw [h.len]; exact c)]; exact h1, RunAt.kd (ws := vs) ⟨x1, dx, p, ws, e, n, s _ _ h2, s _ _ h3, h4.kt (KT.of s)⟩ hD' k⟩
  · have hi : i = rs.length := by
      obtain ⟨l, _⟩ := List.getElem?_eq_some_iff.mp hx
      rw [List.length_append, List.length_singleton] at l
      omega
    subst hi
    rw [List.getElem?_concat_length] at hx
    cases hx
    exact ⟨v, by rw [← h.len]; exact List.getElem?_concat_length, hr.kd hD' k⟩
theorem runOk_of {ps : List PieceT} {pc : PieceT} {x a c e stop : Int} {b : Option Int} {S : List StepT} {T : Nat} (hf : ps.find? (comes x) = some pc) (E : EndOk pc.2.1 pc.2.2 x b stop e) (hxa : x ≤ a) (hP : Pth (Wst pc.1 pc.2.2 b x e) a S c) (hne : S ≠ []) (h8 : S.length ≤ 8) (hT : 1 ≤ T)
    (hd : T = 1 ∨ lenR S % (pc.2.2.length : Int) = 0) (hrp : T = 1 ∨ a + T * lenR S ≤ e + 1) (hle : ∀ s ∈ S, s.1 + ((T : Int) - 1) * lenR S ≤ e) : RunOk ps b stop a ⟨S, T⟩ := by
  have hl : 0 ≤ lenR S := by have := lenR_pos S; omega
  refine ⟨hne, hT, h8, fun k hk => ?_, fun y pc' t h1 h2 h3 h4 => ?_⟩
  rotate_left
  · have h2 : y + lenR S < a + T * lenR S := h2
    rcases Nat.lt_or_ge 1 T with c | c
    · have hd' : lenR S % (pc.2.2.length : Int) = 0 := by
        rcases hd with z | z
        · omega
        · exact z
      have he : a + T * lenR S ≤ e + 1 := by
        rcases hrp with z | z
        · omega
        · exact z
      have f1 := comes_on hf (show x ≤ y by omega) fun m e2 => by have := E.pst m e2; omega
      have f2 := comes_on hf (show x ≤ y + lenR S by omega) fun m e2 => by have := E.pst m e2; omega
      rw [f1] at h3
      cases h3
      refine ⟨f2, ?_⟩
      have e3 : tnI pc.1 pc.2.2.length (y + lenR S) = tnI pc.1 pc.2.2.length y := by
        unfold tnI
        rw [show y + lenR S - pc.1 = y - pc.1 + lenR S by omega, Int.add_emod, hd', Int.add_zero, Int.emod_emod_of_dvd _ (Int.dvd_refl _)]
      show pc.2.2[(tnI pc.1 pc.2.2.length (y + lenR S)).toNat]? = some t
      rw [e3]
      exact h4
    · have : T = 1 := by omega
      rw [this, show (((1 : Nat) : Int)) * lenR S = lenR S from Int.one_mul _] at h2
      omega
  have hk' : k < T := hk
  have h0 : 0 ≤ (k : Int) * lenR S := Int.mul_nonneg (by omega) hl
  have hk1 : (k : Int) * lenR S ≤ ((T : Int) - 1) * lenR S := Int.mul_le_mul_of_nonneg_right (by omega) hl
  have hz : (k : Int) * lenR S % (pc.2.2.length : Int) = 0 := by
    rcases hd with h | h
    · have : k = 0 := by omega
      rw [this, show ((0 : Nat) : Int) * lenR S = 0 from Int.zero_mul _, Int.zero_emod]
    · rw [Int.mul_emod, h, Int.mul_zero, Int.zero_emod]
  have hend := hP.end_
  show Pth (WS ps b stop) (a + k * lenR S) (shift (k * lenR S) S) (a + (k * lenR S + lenR S))
  rw [show a + ((k : Int) * lenR S + lenR S) = c + k * lenR S by omega]
  refine hP.shift fun s hs hw => ?_
  have h1 := (hP.le.2 s hs).1
  have h2 := hle s hs
  exact wst_on hf E (by omega) hw h0 (by omega) hz
structure PsOk (ps : List PieceT) : Prop where
  len : ps.length ≤ 8
  turns : ∀ pc ∈ ps, 1 ≤ pc.2.2.length ∧ pc.2.2.length ≤ 8 ∧ ∀ t ∈ pc.2.2, isPatience t = true
def spRuns (C : Addr) : Sp := fun vs H Q _ => ∃ a ps, ∃ start stop : Int, ∃ b : Option Int, vs = [.ref a, .int start, optV b, .int stop] ∧ PcsAt H a ps ∧ PsOk ps ∧ 0 ≤ start ∧ (∀ x, start ≤ x → x ≤ stop → ∃ pc, ps.find? (comes x) = some pc) ∧ (∀ y ∈ breaks ps b stop, y < 2 ^ 139) ∧
  ∀ D ws rs c H', Same H H' → H D = none → H' D = some (.lst ws) → RunsAt C D H' ws rs → Lvl ps b stop start rs c → stop < c → rs.length ≤ 20440 → (rs = [] → stop < start) → Q (.ref D) H'
section
variable {P : Program} {w : World} {K : PySem.W.Frag} {mg : Str → Option Value} {base : Heap}
theorem ok_runs {f C fI : Addr} {fd fdI : FuncData} (F : Fun K "runs_on" "runs_on" sRuns f fd) (TC : RunC K mg C fI) (FI : FnOk P w K mg base CX0 1 fI fdI ["self", "steps", "room"] (spInit C)) (bI : Binds K fdI ["self", "steps", "room"] [])
    (CP : Cal P w K mg base 1 "piece_number" ["pieces", "person"] spPieceNo) (CE : Cal P w K mg base 1 "stretch_end" ["piece", "start", "bound", "stop"] spEnd) (CT : Cal P w K mg base 2 "stretch_steps" ["piece", "start", "bound", "end"] spSteps) : FnOk P w K mg base CX0 3 f fd ["pieces", "start", "bound", "stop"] (spRuns C) := by
  refine F.ok scRuns (fun vs H Q E ⟨a, ps, st0, stop, b, e, _⟩ => by rw [e]; rfl) (fun cdv A0 outer s H vs Q E hr h => ?_)
  obtain ⟨a, ps, start, stop, b, rfl, hp, hps, h0, hfind, hB, q⟩ := h
  have nd := scRuns.nd
  have sz : 30000 ≤ sizeLine := by decide
  refine ⟨_, (pss_cons (ps_set (i := 4) nd rfl (.inl rfl) (pe_lst pa_nil))
    (pss_cons (ps_set (i := 5) nd rfl (.inl rfl) (pv 1))
    (pss_cons (ps_while PassesOwn.never (pt_cmpR op_le (pv 5) (pv 3) (nomark _))
    (pss_cons (ps_set (i := 6) nd rfl (.inl rfl) (pe_ix ix_seq (pv 0) (pe_cal (CP.mono (by decide)) hr (by rfl) (pa_cons (pv 0) (pa_cons (pv 5) pa_nil))) (fun _ _ => rfl)))
    (pss_cons (ps_set (i := 7) nd rfl (.inl rfl) (pe_cal (CE.mono (by decide)) hr (by rfl) (pa_cons (pv 6) (pa_cons (pv 5) (pa_cons (pv 2) (pa_cons (pv 3) pa_nil))))))
    (pss_cons (ps_asg (pe_cal (CT.mono (by decide)) hr (by rfl) (pa_cons (pv 6) (pa_cons (pv 5) (pa_cons (pv 2) (pa_cons (pv 7) pa_nil))))) (pg_tup rfl (pgs_cons (pg_name (i := 8) nd rfl (.inl rfl)) (pgs_cons (pg_name (i := 9) nd rfl (.inl rfl)) pgs_nil))))
    (pss_cons (ps_if (pt_truth (pv 8) (by intro _; rfl)) (pss_cons (ps_expr (pe_bm PySem.F.plainAttrs_list PySem.F.slot_list_append PySem.F.type_list_append mt_append (pv 4) (pa_cons (pe_make TC.make FI hr (by rfl) TC.g bI .nil pass0 (pa_cons (pv 8) (pa_cons pe_int pa_nil))) pa_nil)))
    (pss_one (ps_aug (i := 5) nd rfl (.inl rfl) (pe_fld (pe_ix ix_list (pv 4) (pe_un un_neg pe_int) (fun _ _ => rfl)) rfl) ip_add))) pss_nil)
    (pss_one (ps_if (pt_truth (pv 9) (by intro _; rfl)) (pss_cons (ps_expr (pe_bm PySem.F.plainAttrs_list PySem.F.slot_list_append PySem.F.type_list_append mt_append (pv 4) (pa_cons (pe_make TC.make FI hr (by rfl) TC.g bI .nil pass0 (pa_cons (pv 9) (pa_cons (pe_op op_sub (pe_op op_add (pv 7) pe_int) (pv 5)) pa_nil))) pa_nil)))
    (pss_one (ps_aug (i := 5) nd rfl (.inl rfl) (pe_op op_mulW (pe_fld (pe_ix ix_list (pv 4) (pe_un un_neg pe_int) (fun _ _ => rfl)) rfl) (pe_fld (pe_ix ix_list (pv 4) (pe_un un_neg pe_int) (fun _ _ => rfl)) rfl)) ip_add))) pss_nil)))))))
    (pss_one (ps_ret (pv 4)))))), ?_⟩
  have hblen := breaks_len (b := b) (stop := stop) hps.len fun pc hpc => (hps.turns pc hpc).2.1
  have hphi0 : phi (breaks ps b stop) start ≤ 10220 := by
    have := phi_le (breaks ps b stop) (x := start) fun y hy => by have := hB y hy; omega
    omega
  refine ⟨Nat.zero_le _, fun D nDH => ?_⟩
  have s1 := same_upd (o := .lst []) nDH
  have e1D : (upd H D (.lst [])) D = some (.lst []) := upd_same
  generalize upd H D (.lst []) = H1 at s1 e1D
  refine ⟨.int start, rfl, ?_⟩
  refine ⟨fun k σ H4 => ∃ ws rs, ∃ x : Int, ∃ y6 y7 y8 y9, σ = [some (.ref a), some (.int start), some (optV b), some (.int stop), some (.ref D), some (.int x), y6, y7, y8, y9] ∧ Same H H4 ∧ H4 D = some (.lst ws) ∧ RunsAt C D H4 ws rs ∧ Lvl ps b stop start rs x ∧ start ≤ x ∧
      rs.length + 2 * phi (breaks ps b stop) x ≤ 2 * phi (breaks ps b stop) start ∧ (rs = [] → x = start) ∧ k = (stop + 1 - x).toNat, ⟨_, [], [], start, none, none, none, none, rfl, s1, e1D, ⟨rfl, fun i r h => by cases i <;> cases h⟩, rfl, Int.le_refl _, by show 0 + _ ≤ _; omega, fun _ => rfl, rfl⟩, fun k σ H4 ⟨ws, rs, x, y6, y7, y8, y9, eσ, s4, e4D, ra, lv, hsx, hlen, hr0, hk⟩ => ?_⟩
  subst eσ
  refine ⟨.int x, rfl, .int stop, rfl, x, stop, rfl, rfl, _, rfl, ?_⟩
  by_cases cx : x ≤ stop
  · rw [decide_eq_true cx]
    refine iteT ⟨fun σ' H' => ∃ m', m' < k ∧ ∃ ws rs, ∃ x : Int, ∃ y6 y7 y8 y9, σ' = [some (.ref a), some (.int start), some (optV b), some (.int stop), some (.ref D), some (.int x), y6, y7, y8, y9] ∧ Same H H' ∧ H' D = some (.lst ws) ∧ RunsAt C D H' ws rs ∧ Lvl ps b stop start rs x ∧ start ≤ x ∧
      rs.length + 2 * phi (breaks ps b stop) x ≤ 2 * phi (breaks ps b stop) start ∧ (rs = [] → x = start) ∧ m' = (stop + 1 - x).toNat, fun σ' H' ⟨m', h1, h2⟩ => ⟨m', h1, h2⟩, ?_⟩
    obtain ⟨pc, hfd⟩ := hfind x hsx cx
    have hmem := List.mem_of_find?_eq_some hfd
    obtain ⟨tl, th, tp⟩ := hps.turns pc hmem
    have hp4 : PcsAt H4 a ps := by
      obtain ⟨xs, h1, h2⟩ := hp.ex
      exact ⟨xs, s4 _ _ h1, RpAll.sm s4 h2⟩
    refine ⟨.ref a, rfl, .ref a, rfl, .int x, rfl, a, x, ps, pc, rfl, hp4, hfd, fun i hi => ?_⟩
    obtain ⟨xs, b0, t, zs, st, _, hxi, hb0, ht, hz⟩ := pc_at hp4 hi
    refine rix_of st hxi ?_
    have hT : TurnsAt H4 t pc.2.2 := ⟨⟨zs, ht, hz⟩, tp, tl, th⟩
    have hpast : ∀ m, pc.2.1 = some m → x < m := fun m e => by
      have := (List.find?_eq_some_iff_append.mp hfd).1
      unfold comes at this
      rw [e] at this
      exact of_decide_eq_true this
    refine ⟨.ref b0, rfl, .int x, rfl, optV b, rfl, .int stop, rfl, b0, t, pc.2.2, pc.1, x, stop, b, pc.2.1, rfl, hb0, hT, cx, hpast, fun e H5 s5 hE => ?_⟩
    refine ⟨.ref b0, rfl, .int x, rfl, optV b, rfl, .int e, rfl, b0, t, pc.2.2, pc.1, x, e, b, pc.2.1, rfl, s5 _ _ hb0, hT.same s5, hE.lo, fun pr A B va vb once again c H6 s6 nA nB epr eA eB stA stB hStp => ?_⟩
    refine ⟨pr, _, rfl, SqT.of epr, rfl, .ref A, _, rfl, .ref B, _, rfl, rfl, ?_⟩
    have s46 := s5.trans s6
    have s06 := s4.trans s46
    have e6D := s46 _ _ e4D
    have ra6 := ra.same e4D s46
    have nAD : A ≠ D := fun z => by rw [z, s5 _ _ e4D] at nA; cases nA
    have nBD : B ≠ D := fun z => by rw [z, s5 _ _ e4D] at nB; cases nB
    have hbr := mem_breaks hmem hE
    have hlo := hE.lo
    have hhi := hE.hi
    have hwid : ∀ s ∈ once ++ again, 0 ≤ s.2 ∧ s.2 ≤ GREAT + 1 := fun s hs => by
      obtain ⟨_, t', ht', hw'⟩ := (hStp.path.le.2 s hs).2.2
      have hpt := tp t' (List.mem_of_getElem? ht')
      rw [hw']
      refine ⟨wd_nn hpt, ?_⟩
      rcases pat_cases hpt with rfl | ⟨p, rfl, h1, h2⟩
      · show (0 : Int) ≤ GREAT + 1; decide
      · cases b with
        | none => show p + 1 ≤ GREAT + 1; omega
        | some m =>
          show (if x + p ≤ m then p + 1 else 0) ≤ GREAT + 1
          have : (0 : Int) ≤ GREAT := by decide
          split <;> omega
    by_cases hon : once = []
    · have hva : va = [] := List.length_eq_zero_iff.mp (by rw [stA.len, hon]; rfl)
      refine ⟨.ref A, rfl, false, .inl ⟨va, SqL.of eA, by rw [hva]; rfl⟩, iteF ?_⟩
      have hlen6 : rs.length + 2 * phi (breaks ps b stop) x ≤ 2 * phi (breaks ps b stop) start := hlen
      have hm6 : rs = [] → x = x := fun _ => rfl
      have k66 : ∀ c o, c ≠ D → H6 c = some o → H6 c = some o := fun _ _ _ h => h
      by_cases hag : again = []
      · exact absurd (by rw [hon, hag]; rfl) hStp.ne
      · -- some of them again and again
        have hvb : vb.isEmpty = false := by
          cases vb with
          | nil => exact absurd (List.length_eq_zero_iff.mp (by rw [← stB.len]; rfl)) hag
          | cons _ _ => rfl
        obtain ⟨s0, T0, eag⟩ : ∃ s0 T0, again = s0 :: T0 := by
          cases again with
          | nil => exact absurd rfl hag
          | cons s0 T0 => exact ⟨s0, T0, rfl⟩
        obtain ⟨hce, htn⟩ := hStp.rep s0 T0 eag
        obtain ⟨m2, hp1, hp2⟩ := hStp.path.split
        have hm2 : m2 = x := by
          have e := hp1.end_
          first | exact e | (rw [e, hon]; exact Int.add_zero x)
        rw [hm2] at hp1 hp2
        have hc2 := hp2.end_
        have hs0 : s0.1 = x := by
          rw [eag] at hp2
          exact hp2.1
        have hl1 : 1 ≤ lenR again := by
          have := lenR_pos again
          have : again.length ≠ 0 := fun z => hag (List.length_eq_zero_iff.mp z)
          omega
        have hdiv : lenR again % (pc.2.2.length : Int) = 0 := by
          have h1 : (c - pc.1) % (pc.2.2.length : Int) = (s0.1 - pc.1) % (pc.2.2.length : Int) := htn
          have h2 : lenR again = (c - pc.1) - (s0.1 - pc.1) := by omega
          rw [h2]
          exact Int.emod_eq_zero_of_dvd (Int.dvd_sub_of_emod_eq' h1)
        have hroom : lenR again < e + 1 - x := by omega
        generalize hrm : e + 1 - x = room at hroom
        have hT1 : 1 ≤ room / lenR again := Int.le_ediv_of_mul_le (by omega) (by omega)
        have hT2 : room / lenR again * lenR again ≤ room := Int.ediv_mul_le _ (by omega)
        have hT3 : room - room / lenR again * lenR again < lenR again := by
          have h1 := Int.emod_lt_of_pos room (show 0 < lenR again by omega)
          have h2 := Int.emod_add_mul_ediv room (lenR again)
          have h3 : lenR again * (room / lenR again) = room / lenR again * lenR again := Int.mul_comm _ _
          omega
        have hTt : timesOf again room = room / lenR again := by unfold timesOf; omega
        obtain ⟨tn, htn2⟩ : ∃ tn : Nat, room / lenR again = (tn : Int) := ⟨(room / lenR again).toNat, by omega⟩
        rw [htn2] at hT1 hT2 hT3
        have hTl : lenR again ≤ (tn : Int) * lenR again := by
          have := Int.mul_le_mul_of_nonneg_right hT1 (show 0 ≤ lenR again by omega)
          rw [Int.one_mul] at this
          exact this
        have hok : RunOk ps b stop (x) ⟨again, tn⟩ := runOk_of hfd hE (show x ≤ x by omega) hp2 hag (by have := hStp.len; rw [List.length_append] at this; omega) (by omega) (.inr hdiv) (.inr (by omega)) fun s hs => by
          have h1 := (hp2.le.2 s hs).2.1
          have h2 : ((tn : Int) - 1) * lenR again = (tn : Int) * lenR again - lenR again := by rw [Int.sub_mul, Int.one_mul]
          rw [h2]
          omega
        have hwb : ∀ s ∈ again, 0 ≤ s.2 ∧ s.2 ≤ GREAT + 1 := fun s hs => hwid s (List.mem_append_right _ hs)
        refine ⟨.ref B, rfl, true, .inl ⟨vb, SqL.of (k66 _ _ nBD eB), by rw [hvb]; rfl⟩, iteT ?_⟩
        refine ⟨.ref D, rfl, .inl ⟨rfl, _, SqL.of e6D⟩, .ref B, rfl, .int e, rfl, e, 1, rfl, rfl, .int (x), rfl, e + 1, x, rfl, rfl, fun x2 dx2 nx2 ndx2 nex2 => ?_⟩
        dsimp only
        rw [hrm]
        have nDx : D ≠ x2 := fun z => by rw [← z, e6D] at nx2; cases nx2
        have nDd : D ≠ dx2 := fun z => by rw [← z, e6D] at ndx2; cases ndx2
        have nBx : B ≠ x2 := fun z => by rw [← z, k66 _ _ nBD eB] at nx2; cases nx2
        have sx : Same H6 (upd (upd H6 dx2 (.own x2)) x2 (.ins C dx2 [])) := fun p o hp => by
          rw [upd_ne (fun z => by rw [z, nx2] at hp; cases hp), upd_ne (fun z => by rw [z, ndx2] at hp; cases hp)]
          exact hp
        refine ⟨x2, B, dx2, vb, again, room, rfl, upd_same, sx _ _ (k66 _ _ nBD eB), (stB.kt fun p o hp => k66 _ _ (fun z => by rw [z, e6D] at hp; cases hp) hp).kt (KT.of sx), hag, by have := hStp.len; rw [List.length_append] at this; omega, hwb, fun H10 dx3 k10 e10 => ⟨rfl, ?_⟩⟩
        rw [hTt, htn2] at e10
        have s10 : Same H6 H10 := fun p o hp => k10 p o (sx _ _ hp) (fun z => by rw [z, nx2] at hp; cases hp)
        have eD10 := s10 _ _ e6D
        refine ⟨D, _, .ref x2, rfl, rfl, eD10, by rw [ra6 |>.len]; have := hlen6; omega, ?_⟩
        have ra11 : RunsAt C D (upd H10 D (.lst (ws ++ [.ref x2]))) (ws ++ [.ref x2]) (rs ++ [⟨again, tn⟩]) := (ra6).add s10 eD10 ⟨x2, dx3, B, vb, rfl, nBD, e10, s10 _ _ (k66 _ _ nBD eB), (stB.kt fun p o hp => k66 _ _ (fun z => by rw [z, e6D] at hp; cases hp) hp).kt (KT.of s10)⟩
        have s11 : Same H (upd H10 D (.lst (ws ++ [.ref x2]))) := fun p o hp => by
          rw [upd_ne (fun z => by rw [z, nDH] at hp; cases hp)]
          exact s10 _ _ (s06 _ _ hp)
        have e11x : (upd H10 D (.lst (ws ++ [.ref x2]))) x2 = some (.ins C dx3 (rf B again (tn : Int))) := by rw [upd_ne (Ne.symm nDx)]; exact e10
        have e11D : (upd H10 D (.lst (ws ++ [.ref x2]))) D = some (.lst (ws ++ [.ref x2])) := upd_same
        generalize upd H10 D (.lst (ws ++ [.ref x2])) = H11 at ra11 s11 e11x e11D
        have hw2 := lenR_le (m := 1000000000000000000000000000001) again (fun s hs => (hwb s hs).2) (by decide)
        have hw3 : (again.length : Int) * 1000000000000000000000000000001 ≤ 8 * 1000000000000000000000000000001 := Int.mul_le_mul_of_nonneg_right (by have := hStp.len; rw [List.length_append] at this; omega) (by decide)
        have htr : (tn : Int) ≤ room := by
          have := Int.mul_le_mul_of_nonneg_left hl1 (show (0 : Int) ≤ (tn : Int) by omega)
          rw [Int.mul_one] at this
          omega
        have hbe := hB _ hbr
        refine ⟨.int (x), rfl, .ref D, rfl, 1, rfl, D, _, -1, .ref x2, rfl, rfl, SqL.of e11D, atI_last _ _, x2, C, dx3, _, .int (tn : Int), rfl, e11x, TC.cl, TC.nTi, rf_times _ _ _, .ref D, rfl, 1, rfl, D, _, -1, .ref x2, rfl, rfl, SqL.of e11D, atI_last _ _, x2, C, dx3, _, .int (lenR again), rfl, e11x, TC.cl, TC.nLe, rf_length _ _ _, (tn : Int), lenR again, rfl, rfl, wide_mul (a := 140) (b := 140) (by omega) (by omega) (by decide) (by decide) (by decide), x, (tn : Int) * lenR again, rfl, rfl, ?_⟩
        refine ⟨(stop + 1 - (x + (tn : Int) * lenR again)).toNat, by omega, _, _, x + (tn : Int) * lenR again, _, _, _, _, rfl, s11, e11D, ra11, Lvl.snoc lv hok, by omega, ?_, fun z => by simp at z, rfl⟩
        have hphi := phi_less (breaks ps b stop) hbr (show x ≤ x + (tn : Int) * lenR again by omega) (lgp_half (by omega) (by omega))
        have := hlen6
        rw [List.length_append, List.length_singleton]
        omega
    · have hva : va.isEmpty = false := by
        cases va with
        | nil => exact absurd (List.length_eq_zero_iff.mp (by rw [← stA.len]; rfl)) hon
        | cons _ _ => rfl
      obtain ⟨m0, hq1, _⟩ := hStp.path.split
      have ho1 : 1 ≤ lenR once := by
        have := lenR_pos once
        have : once.length ≠ 0 := fun z => hon (List.length_eq_zero_iff.mp z)
        omega
      have hwa : ∀ s ∈ once, 0 ≤ s.2 ∧ s.2 ≤ GREAT + 1 := fun s hs => hwid s (List.mem_append_left _ hs)
      have hto : timesOf once 0 = 1 := by unfold timesOf; rw [Int.zero_ediv]; rfl
      have hok1 : RunOk ps b stop x ⟨once, 1⟩ := runOk_of hfd hE (Int.le_refl _) hq1 hon (by have := hStp.len; rw [List.length_append] at this; omega) (Nat.le_refl 1) (.inl rfl) (.inl rfl) fun s hs => by
        have h1 := (hq1.le.2 s hs).2.2.1
        rw [show (((1 : Nat) : Int) - 1) * lenR once = 0 from Int.zero_mul _]
        omega
      refine ⟨.ref A, rfl, true, .inl ⟨va, SqL.of eA, by rw [hva]; rfl⟩, iteT ?_⟩
      refine ⟨.ref D, rfl, .inl ⟨rfl, _, SqL.of e6D⟩, .ref A, rfl, fun x1 dx1 nx1 ndx1 nex1 => ?_⟩
      have nDx1 : D ≠ x1 := fun z => by rw [← z, e6D] at nx1; cases nx1
      have sx1 : Same H6 (upd (upd H6 dx1 (.own x1)) x1 (.ins C dx1 [])) := fun p o hp => by
        rw [upd_ne (fun z => by rw [z, nx1] at hp; cases hp), upd_ne (fun z => by rw [z, ndx1] at hp; cases hp)]
        exact hp
      refine ⟨x1, A, dx1, va, once, 0, rfl, upd_same, sx1 _ _ eA, stA.kt (KT.of sx1), hon, by have := hStp.len; rw [List.length_append] at this; omega, hwa, fun H8 dx3 k8 e8 => ⟨rfl, ?_⟩⟩
      rw [hto] at e8
      have s8 : Same H6 H8 := fun p o hp => k8 p o (sx1 _ _ hp) (fun z => by rw [z, nx1] at hp; cases hp)
      have e8D := s8 _ _ e6D
      refine ⟨D, _, .ref x1, rfl, rfl, e8D, by rw [ra6.len]; omega, ?_⟩
      have ra9 : RunsAt C D (upd H8 D (.lst (ws ++ [.ref x1]))) (ws ++ [.ref x1]) (rs ++ [⟨once, 1⟩]) := ra6.add s8 e8D ⟨x1, dx3, A, va, rfl, nAD, e8, s8 _ _ eA, stA.kt (KT.of s8)⟩
      have s9 : Same H (upd H8 D (.lst (ws ++ [.ref x1]))) := fun p o hp => by
        rw [upd_ne (fun z => by rw [z, nDH] at hp; cases hp)]
        exact s8 _ _ (s06 _ _ hp)
      have k69 : ∀ c o, c ≠ D → H6 c = some o → (upd H8 D (.lst (ws ++ [.ref x1]))) c = some o := fun c o n h => by rw [upd_ne n]; exact s8 _ _ h
      have e9x : (upd H8 D (.lst (ws ++ [.ref x1]))) x1 = some (.ins C dx3 (rf A once 1)) := by rw [upd_ne (Ne.symm nDx1)]; exact e8
      have e9D : (upd H8 D (.lst (ws ++ [.ref x1]))) D = some (.lst (ws ++ [.ref x1])) := upd_same
      generalize upd H8 D (.lst (ws ++ [.ref x1])) = H9 at ra9 s9 k69 e9x e9D
      refine ⟨.int x, rfl, .ref D, rfl, 1, rfl, D, _, -1, .ref x1, rfl, rfl, SqL.of e9D, atI_last _ _, x1, C, dx3, _, .int (lenR once), rfl, e9x, TC.cl, TC.nLe, rf_length _ _ _, x, lenR once, rfl, rfl, ?_⟩
      have lv9 : Lvl ps b stop start (rs ++ [⟨once, 1⟩]) (x + lenR once) := by
        have := lv.snoc hok1
        rw [show (((⟨once, 1⟩ : RunT).times : Nat) : Int) * lenR (⟨once, 1⟩ : RunT).steps = lenR once from Int.one_mul _] at this
        exact this
      have hlen9 : (rs ++ [(⟨once, 1⟩ : RunT)]).length + 2 * phi (breaks ps b stop) x ≤ 2 * phi (breaks ps b stop) start + 1 := by rw [List.length_append, List.length_singleton]; omega
      have hm9 : rs ++ [(⟨once, 1⟩ : RunT)] = [] → x + lenR once = x := fun z => by simp at z
      by_cases hag : again = []
      · -- none of them again
        have hvb : vb = [] := List.length_eq_zero_iff.mp (by rw [stB.len, hag]; rfl)
        refine ⟨.ref B, rfl, false, .inl ⟨vb, SqL.of (k69 _ _ nBD eB), by rw [hvb]; rfl⟩, iteF ?_⟩
        have hc := hStp.nil hag
        have hcm : c = (x + lenR once) := by
          have e1 := hStp.path.end_
          rw [hag, List.append_nil] at e1
          exact e1
        refine ⟨(stop + 1 - (x + lenR once)).toNat, by omega, (ws ++ [.ref x1]), (rs ++ [⟨once, 1⟩]), (x + lenR once), _, _, _, _, rfl, s9, e9D, ra9, lv9, by omega, ?_, fun z => ?_, rfl⟩
        · have hphi := phi_less (breaks ps b stop) hbr (show x ≤ (x + lenR once) by omega) (by
            unfold lgp
            rw [if_pos (by omega), if_neg (by omega)]
            omega)
          have := hlen9
          omega
        · exact absurd (show c = x by rw [hcm]; exact hm9 z) (by omega)
      · -- some of them again and again
        have hvb : vb.isEmpty = false := by
          cases vb with
          | nil => exact absurd (List.length_eq_zero_iff.mp (by rw [← stB.len]; rfl)) hag
          | cons _ _ => rfl
        obtain ⟨s0, T0, eag⟩ : ∃ s0 T0, again = s0 :: T0 := by
          cases again with
          | nil => exact absurd rfl hag
          | cons s0 T0 => exact ⟨s0, T0, rfl⟩
        obtain ⟨hce, htn⟩ := hStp.rep s0 T0 eag
        obtain ⟨m2, hp1, hp2⟩ := hStp.path.split
        have hm2 : m2 = (x + lenR once) := by
          have e := hp1.end_
          first | exact e | (rw [e, hon]; exact Int.add_zero x)
        rw [hm2] at hp1 hp2
        have hc2 := hp2.end_
        have hs0 : s0.1 = (x + lenR once) := by
          rw [eag] at hp2
          exact hp2.1
        have hl1 : 1 ≤ lenR again := by
          have := lenR_pos again
          have : again.length ≠ 0 := fun z => hag (List.length_eq_zero_iff.mp z)
          omega
        have hdiv : lenR again % (pc.2.2.length : Int) = 0 := by
          have h1 : (c - pc.1) % (pc.2.2.length : Int) = (s0.1 - pc.1) % (pc.2.2.length : Int) := htn
          have h2 : lenR again = (c - pc.1) - (s0.1 - pc.1) := by omega
          rw [h2]
          exact Int.emod_eq_zero_of_dvd (Int.dvd_sub_of_emod_eq' h1)
        have hroom : lenR again < e + 1 - (x + lenR once) := by omega
        generalize hrm : e + 1 - (x + lenR once) = room at hroom
        have hT1 : 1 ≤ room / lenR again := Int.le_ediv_of_mul_le (by omega) (by omega)
        have hT2 : room / lenR again * lenR again ≤ room := Int.ediv_mul_le _ (by omega)
        have hT3 : room - room / lenR again * lenR again < lenR again := by
          have h1 := Int.emod_lt_of_pos room (show 0 < lenR again by omega)
          have h2 := Int.emod_add_mul_ediv room (lenR again)
          have h3 : lenR again * (room / lenR again) = room / lenR again * lenR again := Int.mul_comm _ _
          omega
        have hTt : timesOf again room = room / lenR again := by unfold timesOf; omega
        obtain ⟨tn, htn2⟩ : ∃ tn : Nat, room / lenR again = (tn : Int) := ⟨(room / lenR again).toNat, by omega⟩
        rw [htn2] at hT1 hT2 hT3
        have hTl : lenR again ≤ (tn : Int) * lenR again := by
          have := Int.mul_le_mul_of_nonneg_right hT1 (show 0 ≤ lenR again by omega)
          rw [Int.one_mul] at this
          exact this
        have hok : RunOk ps b stop ((x + lenR once)) ⟨again, tn⟩ := runOk_of hfd hE (show x ≤ (x + lenR once) by omega) hp2 hag (by have := hStp.len; rw [List.length_append] at this; omega) (by omega) (.inr hdiv) (.inr (by omega)) fun s hs => by
          have h1 := (hp2.le.2 s hs).2.1
          have h2 : ((tn : Int) - 1) * lenR again = (tn : Int) * lenR again - lenR again := by rw [Int.sub_mul, Int.one_mul]
          rw [h2]
          omega
        have hwb : ∀ s ∈ again, 0 ≤ s.2 ∧ s.2 ≤ GREAT + 1 := fun s hs => hwid s (List.mem_append_right _ hs)
        refine ⟨.ref B, rfl, true, .inl ⟨vb, SqL.of (k69 _ _ nBD eB), by rw [hvb]; rfl⟩, iteT ?_⟩
        refine ⟨.ref D, rfl, .inl ⟨rfl, _, SqL.of e9D⟩, .ref B, rfl, .int e, rfl, e, 1, rfl, rfl, .int ((x + lenR once)), rfl, e + 1, (x + lenR once), rfl, rfl, fun x2 dx2 nx2 ndx2 nex2 => ?_⟩
        dsimp only
        rw [hrm]
        have nDx : D ≠ x2 := fun z => by rw [← z, e9D] at nx2; cases nx2
        have nDd : D ≠ dx2 := fun z => by rw [← z, e9D] at ndx2; cases ndx2
        have nBx : B ≠ x2 := fun z => by rw [← z, k69 _ _ nBD eB] at nx2; cases nx2
        have sx : Same H9 (upd (upd H9 dx2 (.own x2)) x2 (.ins C dx2 [])) := fun p o hp => by
          rw [upd_ne (fun z => by rw [z, nx2] at hp; cases hp), upd_ne (fun z => by rw [z, ndx2] at hp; cases hp)]
          exact hp
        refine ⟨x2, B, dx2, vb, again, room, rfl, upd_same, sx _ _ (k69 _ _ nBD eB), (stB.kt fun p o hp => k69 _ _ (fun z => by rw [z, e6D] at hp; cases hp) hp).kt (KT.of sx), hag, by have := hStp.len; rw [List.length_append] at this; omega, hwb, fun H10 dx3 k10 e10 => ⟨rfl, ?_⟩⟩
        rw [hTt, htn2] at e10
        have s10 : Same H9 H10 := fun p o hp => k10 p o (sx _ _ hp) (fun z => by rw [z, nx2] at hp; cases hp)
        have eD10 := s10 _ _ e9D
        refine ⟨D, _, .ref x2, rfl, rfl, eD10, by rw [ra9 |>.len]; have := hlen9; omega, ?_⟩
        have ra11 : RunsAt C D (upd H10 D (.lst ((ws ++ [.ref x1]) ++ [.ref x2]))) ((ws ++ [.ref x1]) ++ [.ref x2]) ((rs ++ [⟨once, 1⟩]) ++ [⟨again, tn⟩]) := (ra9).add s10 eD10 ⟨x2, dx3, B, vb, rfl, nBD, e10, s10 _ _ (k69 _ _ nBD eB), (stB.kt fun p o hp => k69 _ _ (fun z => by rw [z, e6D] at hp; cases hp) hp).kt (KT.of s10)⟩
        have s11 : Same H (upd H10 D (.lst ((ws ++ [.ref x1]) ++ [.ref x2]))) := fun p o hp => by
          rw [upd_ne (fun z => by rw [z, nDH] at hp; cases hp)]
          exact s10 _ _ (s9 _ _ hp)
        have e11x : (upd H10 D (.lst ((ws ++ [.ref x1]) ++ [.ref x2]))) x2 = some (.ins C dx3 (rf B again (tn : Int))) := by rw [upd_ne (Ne.symm nDx)]; exact e10
        have e11D : (upd H10 D (.lst ((ws ++ [.ref x1]) ++ [.ref x2]))) D = some (.lst ((ws ++ [.ref x1]) ++ [.ref x2])) := upd_same
        generalize upd H10 D (.lst ((ws ++ [.ref x1]) ++ [.ref x2])) = H11 at ra11 s11 e11x e11D
        have hw2 := lenR_le (m := 1000000000000000000000000000001) again (fun s hs => (hwb s hs).2) (by decide)
        have hw3 : (again.length : Int) * 1000000000000000000000000000001 ≤ 8 * 1000000000000000000000000000001 := Int.mul_le_mul_of_nonneg_right (by have := hStp.len; rw [List.length_append] at this; omega) (by decide)
        have htr : (tn : Int) ≤ room := by
          have := Int.mul_le_mul_of_nonneg_left hl1 (show (0 : Int) ≤ (tn : Int) by omega)
          rw [Int.mul_one] at this
          omega
        have hbe := hB _ hbr
        refine ⟨.int ((x + lenR once)), rfl, .ref D, rfl, 1, rfl, D, _, -1, .ref x2, rfl, rfl, SqL.of e11D, atI_last _ _, x2, C, dx3, _, .int (tn : Int), rfl, e11x, TC.cl, TC.nTi, rf_times _ _ _, .ref D, rfl, 1, rfl, D, _, -1, .ref x2, rfl, rfl, SqL.of e11D, atI_last _ _, x2, C, dx3, _, .int (lenR again), rfl, e11x, TC.cl, TC.nLe, rf_length _ _ _, (tn : Int), lenR again, rfl, rfl, wide_mul (a := 140) (b := 140) (by omega) (by omega) (by decide) (by decide) (by decide), (x + lenR once), (tn : Int) * lenR again, rfl, rfl, ?_⟩
        refine ⟨(stop + 1 - ((x + lenR once) + (tn : Int) * lenR again)).toNat, by omega, _, _, (x + lenR once) + (tn : Int) * lenR again, _, _, _, _, rfl, s11, e11D, ra11, Lvl.snoc lv9 hok, by omega, ?_, fun z => by simp at z, rfl⟩
        have hphi := phi_less (breaks ps b stop) hbr (show x ≤ (x + lenR once) + (tn : Int) * lenR again by omega) (lgp_half (by omega) (by omega))
        have := hlen9
        rw [List.length_append, List.length_singleton]
        omega
  · rw [decide_eq_false cx]
    exact iteF ⟨.ref D, rfl, q D ws rs x H4 s4 nDH e4D ra lv (by omega) (by omega) fun z => by have := hr0 z; omega⟩
end
end CL
set_option Elab.async false
set_option linter.all false
set_option pp.maxSteps 400
set_option maxRecDepth 100000
set_option maxHeartbeats 4000000
namespace CL
open PySem PySem.Spec PyProof.Rows L2 GE
/-! ### walks along one level, and the last of a person -/
/-- met on the level that begins at s -/
inductive Rch (ps : List PieceT) (b : Option Int) : Int → Int → Prop
  | here (x : Int) : Rch ps b x x
  | on {s x w : Int} : WP ps b s w → Rch ps b (s + max w 1) x → Rch ps b s x
/-- met there, and left over -/
inductive SpR (ps : List PieceT) (b : Option Int) : Int → Int → Prop
  | here {x : Int} : WP ps b x 0 → SpR ps b x x
  | on {s x w : Int} : WP ps b s w → s + max w 1 ≤ x → SpR ps b (s + max w 1) x → SpR ps b s x
/-- the last one that goes past x, where s is on the level of that bound -/
inductive Las (ps : List PieceT) : Option Int → Int → Int → Option Int → Prop
  | spare {b : Option Int} {x : Int} : WP ps b x 0 → Las ps b x x b
  | own {b : Option Int} {x w : Int} : WP ps b x w → 0 < w → Las ps b x x (some (x + w - 1))
  | inn {b l : Option Int} {s x w : Int} : WP ps b s w → s < x → x < s + w → Las ps (some (s + w - 1)) (s + 1) x l → Las ps b s x l
  | skip {b l : Option Int} {s x w : Int} : WP ps b s w → s + max w 1 ≤ x → Las ps b (s + max w 1) x l → Las ps b s x l
/-- the patience of one that comes -/
def Pt (ps : List PieceT) (x : Int) (t : PyData) : Prop := ∃ pc, ps.find? (comes x) = some pc ∧ pc.2.2[(tnI pc.1 pc.2.2.length x).toNat]? = some t
theorem pt_uniq {ps : List PieceT} {x : Int} {t t' : PyData} (h : Pt ps x t) (h' : Pt ps x t') : t = t' := by
  obtain ⟨pc, h1, h2⟩ := h
  obtain ⟨pc', h3, h4⟩ := h'
  rw [h1] at h3
  cases h3
  rw [h2] at h4
  exact Option.some.inj h4
theorem wp_pt {ps : List PieceT} {b : Option Int} {x w : Int} (h : WP ps b x w) : ∃ t, Pt ps x t ∧ w = wd b x t := by
  obtain ⟨pc, t, h1, h2, h3⟩ := h
  exact ⟨t, ⟨pc, h1, h2⟩, h3⟩
theorem pt_wp {ps : List PieceT} (b : Option Int) {x : Int} {t : PyData} (h : Pt ps x t) : WP ps b x (wd b x t) := by
  obtain ⟨pc, h1, h2⟩ := h
  exact ⟨pc, t, h1, h2, rfl⟩
theorem wp_uniq {ps : List PieceT} {b : Option Int} {x w w' : Int} (h : WP ps b x w) (h' : WP ps b x w') : w = w' := by
  obtain ⟨t, h1, rfl⟩ := wp_pt h
  obtain ⟨t', h2, rfl⟩ := wp_pt h'
  rw [pt_uniq h1 h2]
theorem rch_le {ps : List PieceT} {b : Option Int} {s x : Int} (h : Rch ps b s x) : s ≤ x := by
  induction h with
  | here => omega
  | on _ _ ih => omega
theorem rch_trans {ps : List PieceT} {b : Option Int} {s x y : Int} (h : Rch ps b s x) (h' : Rch ps b x y) : Rch ps b s y := by
  induction h with
  | here => exact h'
  | on h1 _ ih => exact .on h1 (ih h')
theorem spr_le {ps : List PieceT} {b : Option Int} {s x : Int} (h : SpR ps b s x) : s ≤ x := by
  induction h with
  | here => omega
  | on _ _ _ ih => omega
theorem spr_wp {ps : List PieceT} {b : Option Int} {s x : Int} (h : SpR ps b s x) : WP ps b x 0 := by
  induction h with
  | here h => exact h
  | on _ _ _ ih => exact ih
theorem spr_of {ps : List PieceT} {b : Option Int} {s y x : Int} (h : Rch ps b s y) (h' : SpR ps b y x) : SpR ps b s x := by
  induction h with
  | here => exact h'
  | on h1 _ ih => exact .on h1 (spr_le (ih h')) (ih h')
theorem las_ge {ps : List PieceT} {b l : Option Int} {s x : Int} (h : Las ps b s x l) : s ≤ x := by
  induction h with
  | spare => omega
  | own => omega
  | inn => omega
  | skip => omega
theorem las_of {ps : List PieceT} {b l : Option Int} {s y x : Int} (h : Rch ps b s y) (h' : Las ps b y x l) : Las ps b s x l := by
  induction h with
  | here => exact h'
  | on h1 _ ih => exact .skip h1 (las_ge (ih h')) (ih h')
theorem spr_las {ps : List PieceT} {b : Option Int} {s x : Int} (h : SpR ps b s x) : Las ps b s x b := by
  induction h with
  | here h => exact .spare h
  | on h1 h2 _ ih => exact .skip h1 h2 ih
/-! ### steps and runs -/
theorem pth_rch {ps : List PieceT} {b : Option Int} {stop : Int} : ∀ {S : List StepT} {a c : Int}, Pth (WS ps b stop) a S c → Rch ps b a c
  | [], a, c, h => by
    obtain rfl : a = c := h
    exact .here _
  | s :: S, a, c, h => by
    have e : s.1 = a := h.1
    exact .on (e ▸ h.2.1.2) (pth_rch h.2.2)
theorem pth_zero {ps : List PieceT} {b : Option Int} {stop : Int} : ∀ {S : List StepT} {a c : Int}, Pth (WS ps b stop) a S c → (∀ s ∈ S, s.2 = 0) → ∀ x, a ≤ x → x < c → SpR ps b a x
  | [], a, c, h, _, x, h1, h2 => by
    obtain rfl : a = c := h
    omega
  | s :: S, a, c, h, hz, x, h1, h2 => by
    have e : s.1 = a := h.1
    have e0 := hz s List.mem_cons_self
    have hw : WP ps b a 0 := by
      have := h.2.1.2
      rw [e, e0] at this
      exact this
    rcases Int.lt_or_eq_of_le h1 with c1 | c1
    · have h3 := h.2.2
      rw [e0] at h3
      exact .on hw (by omega) (pth_zero h3 (fun y hy => hz y (List.mem_cons_of_mem _ hy)) x (by omega) h2)
    · rw [← c1]
      exact .here hw
theorem shift_zero {d : Int} {S : List StepT} (h : ∀ s ∈ S, s.2 = 0) : ∀ s ∈ shift d S, s.2 = 0 := fun s hs => by
  obtain ⟨t, h1, rfl⟩ := List.mem_map.mp hs
  exact h t h1
theorem run_rch {ps : List PieceT} {b : Option Int} {stop a : Int} {r : RunT} (h : RunOk ps b stop a r) : ∀ k : Nat, k ≤ r.times → Rch ps b a (a + k * lenR r.steps)
  | 0, _ => by
    rw [show a + ((0 : Nat) : Int) * lenR r.steps = a by rw [show ((0 : Nat) : Int) = 0 from rfl, Int.zero_mul, Int.add_zero]]
    exact .here _
  | k + 1, hk => by
    have h1 := run_rch h k (by omega)
    have h2 := pth_rch (h.path k (by omega))
    have e : a + ((k + 1 : Nat) : Int) * lenR r.steps = a + ((k : Int) * lenR r.steps + lenR r.steps) := by
      rw [Int.natCast_add, Int.add_mul, show ((1 : Nat) : Int) = 1 from rfl, Int.one_mul]
    rw [e]
    exact rch_trans h1 h2
theorem run_zero {ps : List PieceT} {b : Option Int} {stop a : Int} {r : RunT} (h : RunOk ps b stop a r) (hz : ∀ s ∈ r.steps, s.2 = 0) : ∀ k : Nat, k ≤ r.times → ∀ x, a ≤ x → x < a + k * lenR r.steps → SpR ps b a x
  | 0, _, x, h1, h2 => by
    rw [show ((0 : Nat) : Int) = 0 from rfl, Int.zero_mul] at h2
    omega
  | k + 1, hk, x, h1, h2 => by
    have e : a + ((k + 1 : Nat) : Int) * lenR r.steps = a + ((k : Int) * lenR r.steps + lenR r.steps) := by
      rw [Int.natCast_add, Int.add_mul, show ((1 : Nat) : Int) = 1 from rfl, Int.one_mul]
    rw [e] at h2
    by_cases c : x < a + k * lenR r.steps
    · exact run_zero h hz k (by omega) x h1 c
    · exact spr_of (run_rch h k (by omega)) (pth_zero (h.path k (by omega)) (shift_zero hz) x (by omega) h2)
theorem lvl_rch {ps : List PieceT} {b : Option Int} {stop : Int} : ∀ {rs : List RunT} {a c : Int}, Lvl ps b stop a rs c → Rch ps b a c
  | [], a, c, h => by
    obtain rfl : a = c := h
    exact .here _
  | r :: rs, a, c, h => rch_trans (run_rch h.1 r.times (Nat.le_refl _)) (lvl_rch h.2)
theorem lvl_zero {ps : List PieceT} {b : Option Int} {stop : Int} : ∀ {rs : List RunT} {a c : Int}, Lvl ps b stop a rs c → (∀ r ∈ rs, ∀ s ∈ r.steps, s.2 = 0) → ∀ x, a ≤ x → x < c → SpR ps b a x
  | [], a, c, h, _, x, h1, h2 => by
    obtain rfl : a = c := h
    omega
  | r :: rs, a, c, h, hz, x, h1, h2 => by
    by_cases c : x < a + r.times * lenR r.steps
    · exact run_zero h.1 (hz r List.mem_cons_self) r.times (Nat.le_refl _) x h1 c
    · exact spr_of (run_rch h.1 r.times (Nat.le_refl _)) (lvl_zero h.2 (fun y hy => hz y (List.mem_cons_of_mem _ hy)) x (by omega) h2)
theorem lvl_split {ps : List PieceT} {b : Option Int} {stop : Int} : ∀ {rs ts : List RunT} {a c : Int}, Lvl ps b stop a (rs ++ ts) c → ∃ m, Lvl ps b stop a rs m ∧ Lvl ps b stop m ts c
  | [], ts, a, c, h => ⟨a, rfl, h⟩
  | r :: rs, ts, a, c, h => by
    obtain ⟨m, h1, h2⟩ := lvl_split h.2
    exact ⟨m, ⟨h.1, h1⟩, h2⟩
/-- the last opener of a level, with those left over behind its window -/
theorem lvl_opener {ps : List PieceT} {b : Option Int} {stop a c : Int} {rs ts : List RunT} {r : RunT} {S1 S2 : List StepT} {s : StepT} (h : Lvl ps b stop a (rs ++ r :: ts) c) (eS : r.steps = S1 ++ s :: S2) (h0 : 0 < s.2) (hz : ∀ x ∈ S2, x.2 = 0) (hzz : ∀ r ∈ ts, ∀ s ∈ r.steps, s.2 = 0) :
    Rch ps b a (s.1 + ((r.times : Int) - 1) * lenR r.steps) ∧ WS ps b stop (s.1 + ((r.times : Int) - 1) * lenR r.steps) s.2 ∧ (∀ x, s.1 + ((r.times : Int) - 1) * lenR r.steps + s.2 ≤ x → x < c → SpR ps b a x) ∧ s.1 + ((r.times : Int) - 1) * lenR r.steps + s.2 ≤ c := by
  obtain ⟨m, h1, h2, h3⟩ := lvl_split h
  have ht := h2.times
  have hk := h2.path (r.times - 1) (by omega)
  have e1 : ((r.times - 1 : Nat) : Int) = (r.times : Int) - 1 := by omega
  have hr := run_rch h2 (r.times - 1) (by omega)
  rw [e1] at hk hr
  have e5 : ((r.times : Int) - 1) * lenR r.steps + lenR r.steps = (r.times : Int) * lenR r.steps := by rw [Int.sub_mul, Int.one_mul]; omega
  rw [e5] at hk
  generalize hd : ((r.times : Int) - 1) * lenR r.steps = d at hk hr ⊢
  have es : shift d r.steps = shift d S1 ++ (s.1 + d, s.2) :: shift d S2 := by rw [eS]; unfold shift; rw [List.map_append]; rfl
  rw [es] at hk
  obtain ⟨m2, k1, k2, k3, k4⟩ := hk.split
  have k2' : s.1 + d = m2 := k2
  have k3' : WS ps b stop (s.1 + d) s.2 := k3
  have k4' : Pth (WS ps b stop) (m2 + max s.2 1) (shift d S2) (m + r.times * lenR r.steps) := k4
  have r1 : Rch ps b a (s.1 + d) := by
    rw [k2']
    exact rch_trans (lvl_rch h1) (rch_trans hr (pth_rch k1))
  have r2 : Rch ps b a (m2 + max s.2 1) := rch_trans r1 (.on k3'.2 (by rw [k2']; exact .here _))
  have r3 : Rch ps b a (m + r.times * lenR r.steps) := rch_trans r2 (pth_rch k4')
  have l1 := rch_le (pth_rch k4')
  have l2 := rch_le (lvl_rch h3)
  refine ⟨r1, k3', fun x hx hc => ?_, by omega⟩
  by_cases cx : x < m + r.times * lenR r.steps
  · exact spr_of r2 (pth_zero k4' (shift_zero hz) x (by omega) cx)
  · exact spr_of r3 (lvl_zero h3 hzz x (by omega) hc)
/-- the last step of a level is met there -/
theorem lvl_lastR {ps : List PieceT} {b : Option Int} {stop a c : Int} {rs : List RunT} {r : RunT} {S1 : List StepT} {s : StepT} (h : Lvl ps b stop a (rs ++ [r]) c) (eS : r.steps = S1 ++ [s]) : Rch ps b a (s.1 + ((r.times : Int) - 1) * lenR r.steps) := by
  obtain ⟨m, h1, h2, h3⟩ := lvl_split h
  have ht := h2.times
  have hk := h2.path (r.times - 1) (by omega)
  have e1 : ((r.times - 1 : Nat) : Int) = (r.times : Int) - 1 := by omega
  have hr := run_rch h2 (r.times - 1) (by omega)
  rw [e1] at hk hr
  generalize ((r.times : Int) - 1) * lenR r.steps = d at hk hr ⊢
  have es : shift d r.steps = shift d S1 ++ [(s.1 + d, s.2)] := by rw [eS]; unfold shift; rw [List.map_append]; rfl
  rw [es] at hk
  obtain ⟨m2, k1, k2, k3⟩ := hk.split
  have k2' : s.1 + d = m2 := k2
  rw [k2']
  exact rch_trans (lvl_rch h1) (rch_trans hr (pth_rch k1))
end CL
set_option Elab.async false
set_option linter.all false
set_option pp.maxSteps 400
set_option maxRecDepth 100000
set_option maxHeartbeats 4000000
namespace CL
open PySem PySem.Spec PyProof.Rows L2 GE
/-! ### the windows around a person -/
/-- the last of the innermost window around, or the bound -/
def lastB (b : Option Int) (S : List StepT) : Option Int := match S.getLast? with
  | none => b
  | some s => some s.2
theorem lastB_add (b : Option Int) (S : List StepT) (s : StepT) : lastB b (S ++ [s]) = some s.2 := by unfold lastB; rw [List.getLast?_concat]
/-- the windows around x, the outermost first, where s is on the level of that bound -/
inductive Road (ps : List PieceT) : Option Int → Int → Int → List StepT → Prop
  | spare {b : Option Int} {x : Int} : WP ps b x 0 → Road ps b x x []
  | own {b : Option Int} {x w : Int} : WP ps b x w → 0 < w → Road ps b x x [(x, x + w - 1)]
  | inn {b : Option Int} {s x w : Int} {S : List StepT} : WP ps b s w → s < x → x < s + w → Road ps (some (s + w - 1)) (s + 1) x S → Road ps b s x ((s, s + w - 1) :: S)
  | skip {b : Option Int} {s x w : Int} {S : List StepT} : WP ps b s w → s + max w 1 ≤ x → Road ps b (s + max w 1) x S → Road ps b s x S
theorem road_ge {ps : List PieceT} {b : Option Int} {s x : Int} {S : List StepT} (h : Road ps b s x S) : s ≤ x := by
  induction h with
  | spare => omega
  | own => omega
  | inn => omega
  | skip => omega
theorem road_of {ps : List PieceT} {b : Option Int} {s y x : Int} {S : List StepT} (h : Rch ps b s y) (h' : Road ps b y x S) : Road ps b s x S := by
  induction h with
  | here => exact h'
  | on h1 _ ih => exact .skip h1 (road_ge (ih h')) (ih h')
theorem road_uniq {ps : List PieceT} {b : Option Int} {s x : Int} {S : List StepT} (h : Road ps b s x S) : ∀ {S' : List StepT}, Road ps b s x S' → S = S' := by
  induction h with
  | spare h =>
    intro S' h'
    cases h' with
    | spare => rfl
    | own h2 h3 => have := wp_uniq h h2; omega
    | inn h2 h3 => omega
    | skip h2 h3 => omega
  | own h h0 =>
    intro S' h'
    cases h' with
    | spare h2 => have := wp_uniq h h2; omega
    | own h2 h3 => rw [wp_uniq h h2]
    | inn h2 h3 => omega
    | skip h2 h3 => omega
  | inn h h0 h1 _ ih =>
    intro S' h'
    cases h' with
    | spare h2 => omega
    | own h2 h3 => omega
    | inn h2 h3 h4 h5 => have e := wp_uniq h h2; subst e; rw [ih h5]
    | skip h2 h3 => have := wp_uniq h h2; omega
  | skip h h0 _ ih =>
    intro S' h'
    cases h' with
    | spare h2 => omega
    | own h2 h3 => omega
    | inn h2 h3 h4 => have := wp_uniq h h2; omega
    | skip h2 h3 h4 => have e := wp_uniq h h2; subst e; exact ih h4
theorem lastB_cons (b : Option Int) (s : StepT) (S : List StepT) : lastB b (s :: S) = lastB (some s.2) S := by
  unfold lastB
  cases S with
  | nil => rfl
  | cons t S => rw [List.getLast?_cons_cons]; cases h : (t :: S).getLast? with
    | none => simp at h
    | some z => rfl
theorem las_road {ps : List PieceT} {b : Option Int} {s x : Int} {S : List StepT} (h : Road ps b s x S) : Las ps b s x (lastB b S) := by
  induction h with
  | spare h => exact .spare h
  | own h h0 => exact .own h h0
  | inn h h0 h1 _ ih => rw [lastB_cons]; exact .inn h h0 h1 ih
  | skip h h0 _ ih => exact .skip h h0 ih
theorem road_in {ps : List PieceT} {b : Option Int} {s x : Int} {S : List StepT} (h : Road ps b s x S) : ∀ z ∈ S, s ≤ z.1 ∧ z.1 ≤ x := by
  induction h with
  | spare h => intro z hz; cases hz
  | own h h0 => intro z hz; rw [List.mem_singleton.mp hz]; exact ⟨Int.le_refl _, Int.le_refl _⟩
  | inn h h0 h1 _ ih =>
    intro z hz
    rcases List.mem_cons.mp hz with rfl | hz
    · exact ⟨Int.le_refl _, by show _ ≤ _; omega⟩
    · have := ih z hz; omega
  | skip h h0 _ ih =>
    intro z hz
    have := ih z hz
    omega
end CL
set_option Elab.async false
set_option linter.all false
set_option pp.maxSteps 400
set_option maxRecDepth 100000
set_option maxHeartbeats 4000000
namespace CL
open PySem PySem.Spec PyProof.Rows L2 GE
theorem turns_ok {d : PyData} (h : isPiece d = true) : 1 ≤ (turnsD d).length ∧ ∀ x ∈ turnsD d, isPatience x = true := by
  obtain ⟨t, m, e, ht, _⟩ := piece_parts h
  unfold turnsD
  rw [e]
  show 1 ≤ ((rowsD t).getD []).length ∧ ∀ x ∈ (rowsD t).getD [], isPatience x = true
  unfold isTurns at ht
  cases z : rowsD t with
  | none => rw [z] at ht; cases ht
  | some ts =>
    rw [z] at ht
    simp only [Bool.and_eq_true, decide_eq_true_eq, List.all_eq_true] at ht
    exact ⟨ht.1.1, ht.2⟩
theorem find_pcs (n : Int) : ∀ (ds : List PyData) (f : Int), ds.all isPiece = true → (ds.take (ds.length - 1)).any (fun d => isNone (sndD d)) = false → ∀ ps pc, pcs f ds = ps ++ [pc] → under pc.2.1 n = true → ∃ pp, (pcs f ds).find? (comes n) = some pp ∧ ∃ d ∈ ds, pp.2.2 = turnsD d
  | [], f, _, _, ps, pc, e, _ => by
    have := congrArg List.length e
    simp [pcs] at this
  | d :: ds, f, ha, hn, ps, pc, e, hu => by
    have hd : isPiece d = true := by
      simp only [List.all_cons, Bool.and_eq_true] at ha
      exact ha.1
    have hds : ds.all isPiece = true := by
      simp only [List.all_cons, Bool.and_eq_true] at ha
      exact ha.2
    have ec : pcs f (d :: ds) = (f, pastO f (sndD d), turnsD d) :: pcs (f + worth (sndD d)) ds := rfl
    rw [ec, List.find?_cons]
    cases hc : comes n (f, pastO f (sndD d), turnsD d) with
    | true => exact ⟨_, rfl, d, List.mem_cons_self, rfl⟩
    | false =>
      cases ds with
      | nil =>
        have e2 : [(f, pastO f (sndD d), turnsD d)] = ps ++ [pc] := e
        have e3 : pc = (f, pastO f (sndD d), turnsD d) := by
          cases ps with
          | nil => exact (List.cons.inj e2).1.symm
          | cons x xs =>
            have := congrArg List.length e2
            simp at this
        rw [e3] at hu
        exfalso
        unfold comes at hc
        cases hp : pastO f (sndD d) with
        | none => simp [hp] at hc
        | some m =>
          simp only [hp] at hc
          rw [hp] at hu
          have h1 : decide (n < m) = true := hu
          rw [h1] at hc
          cases hc
      | cons d2 ds2 =>
        obtain ⟨ps', e4⟩ : ∃ ps', pcs (f + worth (sndD d)) (d2 :: ds2) = ps' ++ [pc] := by
          cases ps with
          | nil =>
            have := congrArg List.length e
            simp [pcs] at this
          | cons x xs => exact ⟨xs, (List.cons.inj e).2⟩
        have hn2 : ((d2 :: ds2).take ((d2 :: ds2).length - 1)).any (fun d => isNone (sndD d)) = false := by
          have : (d :: d2 :: ds2).take ((d :: d2 :: ds2).length - 1) = d :: (d2 :: ds2).take ((d2 :: ds2).length - 1) := rfl
          rw [this, List.any_cons, Bool.or_eq_false_iff] at hn
          exact hn.2
        obtain ⟨pp, h1, d', h2, h3⟩ := find_pcs n (d2 :: ds2) _ hds hn2 ps' pc e4 hu
        exact ⟨pp, h1, d', List.mem_cons_of_mem _ h2, h3⟩
theorem plan_parts {d : PyData} (h : isPlan d = true) : ∃ ds, rowsD d = some ds ∧ piecesOf d = pcs 0 ds ∧ 1 ≤ ds.length ∧ ds.length ≤ 8 ∧ ds.all isPiece = true ∧ (ds.take (ds.length - 1)).any (fun d => isNone (sndD d)) = false ∧ sumSnd ds ≤ GREAT := by
  cases z : rowsD d with
  | none => unfold isPlan at h; rw [z] at h; cases h
  | some ds =>
    have e : isPlan d = isPlanL ds := by unfold isPlan; rw [z]
    rw [e] at h
    unfold isPlanL at h
    simp only [Bool.and_eq_true, decide_eq_true_eq, Bool.not_eq_true'] at h
    obtain ⟨⟨⟨⟨l1, l8⟩, hpc⟩, hno⟩, hsum⟩ := h
    exact ⟨ds, rfl, by unfold piecesOf; rw [z]; rfl, l1, l8, hpc, hno, hsum⟩
theorem pcs_len : ∀ (f : Int) (ds : List PyData), (pcs f ds).length = ds.length
  | _, [] => rfl
  | f, d :: ds => congrArg (· + 1) (pcs_len _ ds)
theorem plan_last {d : PyData} (h : isPlan d = true) : ∃ ps pc, piecesOf d = ps ++ [pc] := by
  obtain ⟨ds, _, e, l1, _⟩ := plan_parts h
  have hl : (piecesOf d).length = ds.length := by rw [e, pcs_len]
  have ne : piecesOf d ≠ [] := fun z => by rw [z] at hl; simp at hl; omega
  exact ⟨_, _, (List.dropLast_concat_getLast ne).symm⟩
abbrev sBnd : Stmt := topS 42
theorem scBnd : FnScope ["pieces", "many"] ["pieces"] (defScope sBnd) := ⟨rfl, rfl, rfl, by decide +kernel, rfl, by decide +kernel, by decide +kernel⟩
abbrev sLstStep : Stmt := topS 43
theorem scLstStep : FnScope ["runs", "run", "person", "width"] ["runs"] (defScope sLstStep) := ⟨rfl, rfl, rfl, by decide +kernel, rfl, by decide +kernel, by decide +kernel⟩
abbrev sWins : Stmt := topS 46
theorem scWins : FnScope ["pieces", "person", "around", "start", "bound", "here", "width"] ["pieces", "person"] (defScope sWins) := ⟨rfl, rfl, rfl, by decide +kernel, rfl, by decide +kernel, by decide +kernel⟩
abbrev sSpareOn : Stmt := topS 44
theorem scSpareOn : FnScope ["runs", "run"] ["runs"] (defScope sSpareOn) := ⟨rfl, rfl, rfl, by decide +kernel, rfl, by decide +kernel, by decide +kernel⟩
theorem fld_blk {X : Cx} {s : Shared} {H : Hp} {scope : Scope} {cenv : Env} {fp : List Addr} {e : Expr} {f : Str} {pos : Pos} {ta : TE} (he : PE (X.blk s H scope cenv fp) e ta) (hb : attributeBase e f (X.blk s H scope cenv fp).env (eval e (X.blk s H scope cenv fp).env) = eval e (X.blk s H scope cenv fp).env) : PE (X.blk s H scope cenv fp) (.Attribute e f pos) (tFld X.K ta f) := pe_fld he hb
/-! ### each run of a level -/
theorem lvl_le {ps : List PieceT} {b : Option Int} {stop : Int} : ∀ {rs : List RunT} {a c : Int}, Lvl ps b stop a rs c → a ≤ c ∧ ∀ r ∈ rs, ∃ a', a ≤ a' ∧ RunOk ps b stop a' r
  | [], a, c, h => by
    obtain rfl : a = c := h
    exact ⟨Int.le_refl _, fun r hr => nomatch hr⟩
  | r :: rs, a, c, h => by
    obtain ⟨h1, h2⟩ := lvl_le h.2
    have hl := lenR_pos r.steps
    have h0 : 0 ≤ (r.times : Int) * lenR r.steps := Int.mul_nonneg (by omega) (by omega)
    refine ⟨by omega, fun x hx => ?_⟩
    rcases List.mem_cons.mp hx with rfl | hx
    · exact ⟨a, Int.le_refl _, h.1⟩
    · obtain ⟨a', h3, h4⟩ := h2 x hx
      exact ⟨a', by omega, h4⟩
theorem lvl_last {ps : List PieceT} {b : Option Int} {stop : Int} : ∀ {rs : List RunT} {r : RunT} {a c : Int}, Lvl ps b stop a (rs ++ [r]) c → ∃ a', a ≤ a' ∧ RunOk ps b stop a' r ∧ c = a' + r.times * lenR r.steps
  | [], r, a, c, h => ⟨a, Int.le_refl _, h.1, (show a + r.times * lenR r.steps = c from h.2).symm⟩
  | s :: rs, r, a, c, h => by
    obtain ⟨a', h1, h2, h3⟩ := lvl_last h.2
    have hl := lenR_pos s.steps
    have h0 : 0 ≤ (s.times : Int) * lenR s.steps := Int.mul_nonneg (by omega) (by omega)
    exact ⟨a', by omega, h2, h3⟩
theorem shift_len (d : Int) (S : List StepT) : (shift d S).length = S.length := List.length_map ..
theorem wp_le {ps : List PieceT} {b : Option Int} {x w : Int} (hp : PsOk ps) (h : WP ps b x w) : 0 ≤ w ∧ w ≤ GREAT + 1 ∧ (w ≠ 0 → ∃ pc p, pc ∈ ps ∧ PyData.int p ∈ pc.2.2 ∧ w = p + 1 ∧ 0 ≤ p ∧ p ≤ GREAT ∧ ∀ m, b = some m → x + p ≤ m) := by
  obtain ⟨pc, t, hf, ht, rfl⟩ := h
  have hm := List.mem_of_find?_eq_some hf
  have htm := List.mem_of_getElem? ht
  have hpt := (hp.turns pc hm).2.2 t htm
  refine ⟨wd_nn hpt, ?_⟩
  rcases pat_cases hpt with rfl | ⟨p, rfl, h1, h2⟩
  · exact ⟨by show (0 : Int) ≤ GREAT + 1; decide, fun z => absurd rfl z⟩
  · cases b with
    | none => exact ⟨by show p + 1 ≤ GREAT + 1; omega, fun _ => ⟨pc, p, hm, htm, rfl, h1, h2, fun m e => by cases e⟩⟩
    | some m =>
      by_cases c : x + p ≤ m
      · have e : wd (some m) x (.int p) = p + 1 := if_pos c
        rw [e]
        exact ⟨by omega, fun _ => ⟨pc, p, hm, htm, rfl, h1, h2, fun m' e => by cases e; exact c⟩⟩
      · have e : wd (some m) x (.int p) = 0 := if_neg c
        rw [e]
        exact ⟨by show (0 : Int) ≤ GREAT + 1; decide, fun z => absurd rfl z⟩
/-- how far a run may go -/
theorem runOk_le {ps : List PieceT} {b : Option Int} {stop a : Int} {r : RunT} (hp : PsOk ps) (h : RunOk ps b stop a r) (h0 : 0 ≤ a) (hs : stop < 2 ^ 139) : 1 ≤ lenR r.steps ∧ lenR r.steps < 2 ^ 140 ∧ ((r.times : Int) - 1) * lenR r.steps ≤ stop - a ∧ (r.times : Int) < 2 ^ 140 := by
  have hne : r.steps.length ≠ 0 := fun z => h.ne (List.length_eq_zero_iff.mp z)
  have hl := lenR_pos r.steps
  have ht := h.times
  have hP0 := h.path 0 (by omega)
  have hw : ∀ s ∈ r.steps, s.2 ≤ GREAT + 1 := fun s hs' => by
    have := (hP0.le.2 (s.1 + (0 : Nat) * lenR r.steps, s.2) (List.mem_map.mpr ⟨s, hs', rfl⟩)).2.2.2
    exact (wp_le hp this).2.1
  have hl2 := lenR_le (m := 1000000000000000000000000000001) r.steps hw (by decide)
  have hl3 : (r.steps.length : Int) * 1000000000000000000000000000001 ≤ 8 * 1000000000000000000000000000001 := Int.mul_le_mul_of_nonneg_right (by have := h.len; omega) (by decide)
  obtain ⟨s0, S0, e0⟩ : ∃ s0 S0, r.steps = s0 :: S0 := by
    cases e : r.steps with
    | nil => exact absurd e h.ne
    | cons s0 S0 => exact ⟨s0, S0, rfl⟩
  have hk := h.path (r.times - 1) (by omega)
  have h1 : a + ((r.times - 1 : Nat) : Int) * lenR r.steps ≤ stop := by
    rw [e0] at hk
    have h2 := hk.1
    have h3 := hk.2.1.1
    rw [e0]
    have h4 : s0.1 + ((r.times - 1 : Nat) : Int) * lenR (s0 :: S0) = a + ((r.times - 1 : Nat) : Int) * lenR (s0 :: S0) := h2
    have h5 : s0.1 + ((r.times - 1 : Nat) : Int) * lenR (s0 :: S0) ≤ stop := h3
    omega
  have e1 : ((r.times - 1 : Nat) : Int) = (r.times : Int) - 1 := by omega
  rw [e1] at h1
  refine ⟨by omega, by omega, by omega, ?_⟩
  have h2 : ((r.times : Int) - 1) * 1 ≤ ((r.times : Int) - 1) * lenR r.steps := Int.mul_le_mul_of_nonneg_left (by omega) (by omega)
  omega
def spBnd : Sp := fun vs H Q _ => ∃ a ps pc, vs = [.ref a] ∧ PcsAt H a (ps ++ [pc]) ∧ Q (optV (pc.2.1.map (· - 1))) H
def spLast (C : Addr) : Sp := fun vs H Q _ => ∃ D ws ps b, ∃ start stop c : Int, ∃ rs, vs = [.ref D] ∧ H D = some (.lst ws) ∧ RunsAt C D H ws rs ∧ rs ≠ [] ∧ Lvl ps b stop start rs c ∧ PsOk ps ∧ 0 ≤ start ∧ stop < 2 ^ 139 ∧
  ∀ x w p H', Same H H' → H' p = some (.tup [.int x, .int w]) → Rch ps b start x → start ≤ x → WS ps b stop x w → x + max w 1 = c → Q (.ref p) H'
def spWins : Sp := fun vs H Q _ => ∃ a ps pc, ∃ person : Int, vs = [.ref a, .int person] ∧ PcsAt H a (ps ++ [pc]) ∧ PsOk (ps ++ [pc]) ∧ 0 ≤ person ∧ person < 2 ^ 138 ∧ (∀ x, 0 ≤ x → x ≤ person → ∃ pc', (ps ++ [pc]).find? (comes x) = some pc') ∧ (∀ q ∈ ps ++ [pc], ∀ m, q.2.1 = some m → m ≤ 2 ^ 138) ∧
  ∀ D ws S H', Same H H' → H' D = some (.lst ws) → StAt H' ws S → Road (ps ++ [pc]) (pc.2.1.map (· - 1)) 0 person S → S.length ≤ 64 → Q (.ref D) H'
def spSpareOn (C : Addr) : Sp := fun vs H Q _ => ∃ D ws ps b, ∃ start stop c : Int, ∃ rs, vs = [.ref D] ∧ H D = some (.lst ws) ∧ RunsAt C D H ws rs ∧ rs.length ≤ 20440 ∧ Lvl ps b stop start rs c ∧ PsOk ps ∧ 0 ≤ start ∧ stop < 2 ^ 139 ∧ ∀ H', Same H H' → Q (.int (rs.map fun r => (r.times : Int) * (spareR r.steps : Nat)).sum) H'
section
variable {P : Program} {w : World} {K : PySem.W.Frag} {mg : Str → Option Value} {base : Heap}
theorem ok_bnd {f : Addr} {fd : FuncData} (F : Fun K "outer_bound" "outer_bound" sBnd f fd) (CM : Cal P w K mg base 1 "many_in" ["pieces"] spMany) : FnOk P w K mg base CX0 2 f fd ["pieces"] spBnd := by
  refine F.ok scBnd (fun vs H Q E ⟨a, ps, pc, e, _⟩ => by rw [e]; rfl) (fun cdv A0 outer s H vs Q E hr h => ?_)
  obtain ⟨a, ps, pc, rfl, hp, q⟩ := h
  have nd := scBnd.nd
  refine ⟨_, (pss_cons (ps_set (i := 1) nd rfl (.inl rfl) (pe_cal (CM.mono (by decide)) hr (by rfl) (pa_cons (pv 0) pa_nil)))
    (pss_one (ps_ret (pe_ifExp (pt_cmp (pc_isN (pv 1))) pe_non (pe_op op_sub (pv 1) pe_int))))), ?_⟩
  refine ⟨.ref a, rfl, a, ps, pc, rfl, hp, ?_⟩
  cases e : pc.2.1 with
  | none => rw [e] at q; exact ⟨.non, rfl, _, rfl, iteT q⟩
  | some m => rw [e] at q; exact ⟨.int m, rfl, _, rfl, iteF ⟨.int m, rfl, m, 1, rfl, rfl, q⟩⟩
theorem ok_last {f C fI : Addr} {fd : FuncData} (F : Fun K "last_step" "last_step" sLstStep f fd) (TC : RunC K mg C fI) : FnOk P w K mg base CX0 1 f fd ["runs"] (spLast C) := by
  refine F.ok scLstStep (fun vs H Q E ⟨D, ws, ps, b, st0, stop, c, rs, e, _⟩ => by rw [e]; rfl) (fun cdv A0 outer s H vs Q E hr h => ?_)
  obtain ⟨D, ws, ps, b, start, stop, c, rs, rfl, hD, hra, hne, hlv, hps, h0, hst, q⟩ := h
  have nd := scLstStep.nd
  refine ⟨_, (pss_cons (ps_set (i := 1) nd rfl (.inl rfl) (pe_ix ix_list (pv 0) (pe_un un_neg pe_int) (fun _ _ => rfl)))
    (pss_cons (ps_asg (pe_ix ix_list (pe_fld (pv 1) rfl) (pe_un un_neg pe_int) (fun _ _ => rfl)) (pg_tup rfl (pgs_cons (pg_name (i := 2) nd rfl (.inl rfl)) (pgs_cons (pg_name (i := 3) nd rfl (.inl rfl)) pgs_nil))))
    (pss_one (ps_ret (pe_tup (pa_cons (pe_op op_add (pv 2) (pe_op op_mulW (pe_op op_sub (pe_fld (pv 1) rfl) pe_int) (pe_fld (pv 1) rfl))) (pa_cons (pv 3) pa_nil))))))), ?_⟩
  obtain ⟨rs', r, rfl⟩ : ∃ rs' r, rs = rs' ++ [r] := ⟨rs.dropLast, rs.getLast hne, (List.dropLast_concat_getLast hne).symm⟩
  obtain ⟨a', ha', hok, hc⟩ := lvl_last hlv
  obtain ⟨b1, b2, b3, b4⟩ := runOk_le hps hok (by omega) hst
  obtain ⟨v, hv, x, dx, p, vs', rfl, npD, hx, hp, hS⟩ := hra.at_ rs'.length r (by simp)
  have hl := hra.len
  obtain ⟨ws', v', rfl⟩ : ∃ ws' v', ws = ws' ++ [v'] := by
    have : ws ≠ [] := fun z => by rw [z] at hl; simp at hl
    exact ⟨ws.dropLast, ws.getLast this, (List.dropLast_concat_getLast this).symm⟩
  have hl' : ws'.length = rs'.length := by simpa using hl
  obtain rfl : v' = .ref x := by
    rw [← hl', List.getElem?_concat_length] at hv
    exact Option.some.inj hv
  obtain ⟨S', s, eS⟩ : ∃ S' s, r.steps = S' ++ [s] := ⟨r.steps.dropLast, r.steps.getLast hok.ne, (List.dropLast_concat_getLast hok.ne).symm⟩
  obtain ⟨bb, hbb, htb⟩ := hS.at_ S'.length s (by rw [eS]; simp)
  obtain ⟨vs2, v2, rfl⟩ : ∃ ws' v', vs' = ws' ++ [v'] := by
    have : vs' ≠ [] := fun z => by rw [z] at hbb; simp at hbb
    exact ⟨vs'.dropLast, vs'.getLast this, (List.dropLast_concat_getLast this).symm⟩
  have hl2 : vs2.length = S'.length := by
    have := hS.len
    rw [eS] at this
    simpa using this
  obtain rfl : v2 = .ref bb := by
    rw [← hl2, List.getElem?_concat_length] at hbb
    exact Option.some.inj hbb
  refine ⟨.ref D, rfl, 1, rfl, D, _, -1, .ref x, rfl, rfl, SqL.of hD, atI_last _ _, ?_⟩
  refine ⟨.ref x, rfl, x, C, dx, _, .ref p, rfl, hx, TC.cl, TC.nSt, rf_steps _ _ _, 1, rfl, p, _, -1, .ref bb, rfl, rfl, SqL.of hp, atI_last _ _, bb, _, rfl, SqT.of htb, rfl, .int s.1, _, rfl, .int s.2, _, rfl, rfl, ?_⟩
  refine ⟨.int s.1, rfl, .ref x, rfl, x, C, dx, _, .int (r.times : Int), rfl, hx, TC.cl, TC.nTi, rf_times _ _ _, (r.times : Int), 1, rfl, rfl, .ref x, rfl, x, C, dx, _, .int (lenR r.steps), rfl, hx, TC.cl, TC.nLe, rf_length _ _ _, (r.times : Int) - 1, lenR r.steps, rfl, rfl, wide_mul (a := 140) (b := 140) (by have := hok.times; omega) (by omega) (by decide) (by decide) (by decide), s.1, ((r.times : Int) - 1) * lenR r.steps, rfl, rfl, .int s.2, rfl, small_le (by show 2 ≤ 1000; decide), fun pr npr => ?_⟩
  have hk := hok.path (r.times - 1) (by have := hok.times; omega)
  have e1 : ((r.times - 1 : Nat) : Int) = (r.times : Int) - 1 := by have := hok.times; omega
  rw [e1] at hk
  have hm := hk.le.2 (s.1 + ((r.times : Int) - 1) * lenR r.steps, s.2) (List.mem_map.mpr ⟨s, by rw [eS]; exact List.mem_append_right _ (List.mem_singleton.mpr rfl), rfl⟩)
  have h00 : 0 ≤ ((r.times : Int) - 1) * lenR r.steps := Int.mul_nonneg (by have := hok.times; omega) (by omega)
  refine q _ _ pr _ (same_upd npr) upd_same (lvl_lastR hlv eS) (by have := hm.1; omega) hm.2.2 ?_
  -- where the last step leads
  have hsp : Pth (WS ps b stop) (a' + ((r.times : Int) - 1) * lenR r.steps) (shift (((r.times : Int) - 1) * lenR r.steps) S' ++ [(s.1 + ((r.times : Int) - 1) * lenR r.steps, s.2)]) (a' + (((r.times : Int) - 1) * lenR r.steps + lenR r.steps)) := by
    have : shift (((r.times : Int) - 1) * lenR r.steps) r.steps = shift (((r.times : Int) - 1) * lenR r.steps) S' ++ [(s.1 + ((r.times : Int) - 1) * lenR r.steps, s.2)] := by
      conv => lhs; rw [show shift (((r.times : Int) - 1) * lenR r.steps) r.steps = shift (((r.times : Int) - 1) * lenR r.steps) (S' ++ [s]) by rw [← eS]]
      unfold shift
      rw [List.map_append]
      rfl
    rw [← this]
    exact hk
  obtain ⟨m, _, h2⟩ := hsp.split
  have h3 : m + max s.2 1 = a' + (((r.times : Int) - 1) * lenR r.steps + lenR r.steps) := h2.2.2
  have h4 : s.1 + ((r.times : Int) - 1) * lenR r.steps = m := h2.1
  have h5 : (r.times : Int) * lenR r.steps = ((r.times : Int) - 1) * lenR r.steps + lenR r.steps := by rw [Int.sub_mul, Int.one_mul]; omega
  omega
theorem ok_spareOn {f C fI : Addr} {fd : FuncData} (F : Fun K "spare_on" "spare_on" sSpareOn f fd) (T : Nm mg) (TC : RunC K mg C fI) : FnOk P w K mg base CX0 1 f fd ["runs"] (spSpareOn C) := by
  refine F.ok scSpareOn (fun vs H Q E ⟨D, ws, ps, b, st0, stop, c, rs, e, _⟩ => by rw [e]; rfl) (fun cdv A0 outer s H vs Q E hr h => ?_)
  obtain ⟨D, ws, ps, b, start, stop, c, rs, rfl, hD, hra, hlen, hlv, hps, h0, hst, q⟩ := h
  have nd := scSpareOn.nd
  have sz : 30000 ≤ sizeLine := by decide
  refine ⟨_, (pss_one (ps_ret (pe_callB (cr_sum rfl) (by rfl) T.sum (by decide +kernel) (pa_cons (pe_lc (own := [("run", 1)]) (g := gName 1) (tt := tYes) rfl nd (pi_list (pv 0)) (blkOk_by (N := ["runs", "run"]) (sc := defScope sSpareOn) (by decide +kernel))
        (fun _ _ _ _ _ => pg_name (i := 1) nd rfl (.inl rfl) (.inr rfl)) (fun _ _ _ _ _ => pts_nil) (fun _ _ _ _ _ => (pe_op op_mulW (fld_blk (pv 1) (by rfl)) (fld_blk (pv 1) (by rfl))))) pa_nil)))), ?_⟩
  have hl := hra.len
  refine ⟨.ref D, rfl, D, rfl, ⟨ws, SqL.of hD⟩, fun D2 nD2 => ?_⟩
  refine lc_list (xs := ws) (fun i H5 => H5 = upd H D2 (.lst (((rs.take i).map fun r => (r.times : Int) * (spareR r.steps : Nat)).map V.int))) rfl (fun i H5 _ e => by rw [e]; exact SqL.of (same_upd nD2 _ _ hD)) (fun i v H5 hv e => ?_) (fun H5 e => ?_)
  · subst e
    have li : i < rs.length := by rw [← hl]; exact (List.getElem?_eq_some_iff.mp hv).1
    obtain ⟨r, hr'⟩ : ∃ r, rs[i]? = some r := ⟨_, List.getElem?_eq_getElem li⟩
    obtain ⟨v', hv', x, dx, p, vs', rfl, npD, hx, hp, hS⟩ := hra.at_ i r hr'
    rw [hv'] at hv
    cases hv
    obtain ⟨a', ha', hok⟩ := (lvl_le hlv).2 r (List.mem_of_getElem? hr')
    obtain ⟨b1, b2, b3, b4⟩ := runOk_le hps hok (by omega) hst
    have hsl : spareR r.steps ≤ r.steps.length := List.length_filter_le _ _
    have h8 := hok.len
    have hx' := same_upd (o := .lst (((rs.take i).map fun r => (r.times : Int) * (spareR r.steps : Nat)).map V.int)) nD2 _ _ hx
    refine ⟨rfl, yesT ⟨.ref x, rfl, x, C, dx, _, .int (r.times : Int), rfl, hx', TC.cl, TC.nTi, rf_times _ _ _, .ref x, rfl, x, C, dx, _, .int ((spareR r.steps : Nat) : Int), rfl, hx', TC.cl, TC.nSp, rf_spare _ _ _, (r.times : Int), ((spareR r.steps : Nat) : Int), rfl, rfl, wide_mul (a := 140) (b := 140) (by omega) (by omega) (by decide) (by decide) (by decide), _, upd_same, by rw [List.length_map, List.length_map, List.length_take]; omega, ?_⟩⟩
    rw [upd_upd, List.take_add_one, hr', List.map_append, List.map_append]
    rfl
  · have e' : H5 = upd H D2 (.lst ((rs.map fun r => (r.times : Int) * (spareR r.steps : Nat)).map V.int)) := by rw [e, hl, List.take_length]
    clear e
    subst e'
    exact ⟨D2, _, rfl, SqL.of upd_same, q _ (same_upd nD2)⟩
end
end CL
set_option Elab.async false
set_option linter.all false
set_option maxRecDepth 100000
set_option maxHeartbeats 4000000
namespace CL
open PySem PySem.Spec PyProof.Rows L2 GE
abbrev sListed : Stmt := topS 31
theorem scListed : FnScope ["plan", "moment", "pieces"] ["plan", "moment"] (defScope sListed) := ⟨rfl, rfl, rfl, by decide +kernel, rfl, by decide +kernel, by decide +kernel⟩
abbrev sQueue : Stmt := topS 32
theorem scQueue : FnScope ["plan", "moment", "people", "left"] ["plan", "moment"] (defScope sQueue) := ⟨rfl, rfl, rfl, by decide +kernel, rfl, by decide +kernel, by decide +kernel⟩
abbrev sLeft : Stmt := topS 33
theorem scLeft : FnScope ["plan", "moment", "people", "left"] ["plan", "moment"] (defScope sLeft) := ⟨rfl, rfl, rfl, by decide +kernel, rfl, by decide +kernel, by decide +kernel⟩
/-- raise C(), C a class of one's own over a built-in one -/
theorem pmk_own0 {X : Cx} {x : Str} {p pos : Pos} {B newId initId : String} {bmB : List Value} {C : Addr} (F : ExcBaseFacts B newId initId bmB) (q : PySem.W.excIn X.K C bmB newId = true) (gC : X.mg x = some (.ref C)) (kC : PySem.W.keepIn X.K (.ref C) = true) (r : Raises X (.ref C)) (hg : Gl X x)
    (hdb : (x == ("__debug__" : Str)) = false := by decide) : PMk X (.Call (.Name x p) [] [] pos) (fun _ H Q => Q (.ref C) none H) := by
  intro pins s σ H Q I h
  refine wpAny_Call_Name_kw (ld_glob I hg gC ?_ hdb)
  refine PySem.W.callWith_K0 I.kIn kC ?_
  show wpAny _ _ (call (.ref C) []) _ _ _
  obtain ⟨bm, N, nm, qn, bs, hdct, sn, sub, ab, col, dd, k0, k1, k2, k3, k5, mN, hC, hN, hni, T⟩ := exc_obj I.kIn q
  refine wpAny_call_exc_subT F T hC hN hni (fun h' e hm => ?_) (Nat.zero_le _)
  exact mk_of I hm r h (I.hok.gone hm.new)
/-! ### whoever comes by a plan has a patience -/
/-- a patience as a value that may be none -/
def patO : PyData → Option Int
  | .int i => some i
  | _ => none
theorem pat_optD {d : PyData} (h : isPatience d = true) : d = optD (patO d) := by
  cases d <;> first | rfl | cases h
theorem plan_has {d : PyData} (h : isPlan d = true) {ps : List PieceT} {pc : PieceT} (e : piecesOf d = ps ++ [pc]) {n : Int} (hu : under pc.2.1 n = true) : ∃ o : Option Int, HasP (piecesOf d) n (optD o) := by
  obtain ⟨ds, _, e2, _, _, hpc, hno, _⟩ := plan_parts h
  rw [e2] at e ⊢
  obtain ⟨pp, h1, d', h2, h3⟩ := find_pcs n ds 0 hpc hno ps pc e hu
  obtain ⟨t1, t2⟩ := turns_ok (List.all_eq_true.mp hpc d' h2)
  have hl : 0 < pp.2.2.length := by rw [h3]; omega
  have m1 : 0 ≤ (n - pp.1) % (pp.2.2.length : Int) := Int.emod_nonneg _ (by omega)
  have m2 : (n - pp.1) % (pp.2.2.length : Int) < (pp.2.2.length : Int) := Int.emod_lt_of_pos _ (by omega)
  have m3 : ((n - pp.1) % (pp.2.2.length : Int)).toNat < pp.2.2.length := by omega
  have m4 : isPatience (pp.2.2[((n - pp.1) % (pp.2.2.length : Int)).toNat]) = true := t2 _ (by rw [← h3]; exact List.getElem_mem m3)
  exact ⟨patO (pp.2.2[((n - pp.1) % (pp.2.2.length : Int)).toNat]), pp, h1, hl, by rw [List.getElem?_eq_getElem m3, ← pat_optD m4]⟩
/-- what is told at a moment, or which refusal -/
def MomP (P1 P2 C C3 C4 : Addr) (d c : PyData) (H : Hp) (E : XK) (R : (Nat → Option Int) → Nat → Prop) : Prop :=
  (isPlan d = false → ∀ H', Ex H H' → Tb P1 P2 H' → E (.ref C) none H') ∧ (isPlan d = true → ∃ ps pc, piecesOf d = ps ++ [pc] ∧ (momentOk pc.2.1 c = false → ∀ H', Ex H H' → Tb P1 P2 H' → E (.ref C3) none H') ∧
    (momentOk pc.2.1 c = true → ∃ n : Nat, c = .int (n : Int) ∧ (2000 < n → ∀ H', Ex H H' → Tb P1 P2 H' → E (.ref C4) none H') ∧ (n ≤ 2000 → ∀ pat : Nat → Option Int, (∀ k : Nat, k < n → HasP (piecesOf d) (k : Int) (optD (pat k))) → R pat n)))
def spListed (P1 P2 C C3 C4 : Addr) : Sp := fun vs H Q E => ∃ v u d c, vs = [v, u] ∧ Rp H v d ∧ Rp H u c ∧ Tb P1 P2 H ∧ MomP P1 P2 C C3 C4 d c H E fun pat n => ∀ p L1 L2 H', Ex H H' → Tb P1 P2 H' → H L1 = none → H L2 = none → L1 ≠ L2 → H' p = some (.tup [.ref L1, .ref L2]) →
  H' L1 = some (.lst ((lined pat n).1.map V.int)) → H' L2 = some (.lst ((lined pat n).2.map optV)) → Q (.ref p) H'
def spQueue (P1 P2 C C3 C4 : Addr) : Sp := fun vs H Q E => ∃ v u d c, vs = [v, u] ∧ Rp H v d ∧ Rp H u c ∧ Tb P1 P2 H ∧ MomP P1 P2 C C3 C4 d c H E fun pat n => ∀ L H', Ex H H' → Tb P1 P2 H' → H L = none → H' L = some (.lst ((lined pat n).1.map V.int)) → Q (.ref L) H'
def spLeft (P1 P2 C C3 C4 : Addr) : Sp := fun vs H Q E => ∃ v u d c, vs = [v, u] ∧ Rp H v d ∧ Rp H u c ∧ Tb P1 P2 H ∧ MomP P1 P2 C C3 C4 d c H E fun pat n => ∀ L H', Ex H H' → Tb P1 P2 H' → H L = none → H' L = some (.lst ((lined pat n).2.map optV)) → Q (.ref L) H'
theorem momentOk_nat {past : Option Int} {c : PyData} (h : momentOk past c = true) : ∃ n : Nat, c = .int (n : Int) := by
  cases c with
  | int i =>
    rw [momentOk_int] at h
    simp only [Bool.and_eq_true, decide_eq_true_eq] at h
    exact ⟨i.toNat, by rw [Int.toNat_of_nonneg h.1.1]⟩
  | _ => cases h
section
variable {P : Program} {w : World} {K : PySem.W.Frag} {mg : Str → Option Value} {base : Heap}
theorem ok_listed {f P1 P2 C C3 C4 : Addr} {fd : FuncData} (F : Fun K "listed_at" "listed_at" sListed f fd) (hmost : ∃ t, mg "MOST_LISTED" = some (.int 2000 t)) (X4 : ExcC K mg "TooMany" C4) (CP : CalX P w K mg base 9 "pieces_of" ["plan"] (spPieces P1 P2 C)) (CK : CalX P w K mg base 9 "check_moment" ["pieces", "moment"] (spCkM C3))
    (CL : Cal P w K mg base 9 "line_up" ["pieces", "moment"] spLine) : FnOk P w K mg base (L2.CX P w) 10 f fd ["plan", "moment"] (spListed P1 P2 C C3 C4) := by
  refine F.okX scListed (fun vs H Q E ⟨v, u, d, c, e, _⟩ => by rw [e]; rfl) (fun cdv A outer s H vs Q E hr h => ?_)
  obtain ⟨v, u, d, c, rfl, hR, hU, hT, qE0, q⟩ := h
  obtain ⟨tm, hmo⟩ := hmost
  have nd := scListed.nd
  refine ⟨_, (pss_cons (ps_set (i := 2) nd rfl (.inl rfl) (pe_calX CP hr (by rfl) (passes_call (takes_of rfl rfl rfl rfl) fun _ _ _ _ h => h) (pa_cons (pv 0) pa_nil)))
    (pss_cons (ps_expr (pe_calX CK hr (by rfl) (passes_call (takes_of rfl rfl rfl rfl) fun _ _ _ _ h => h) (pa_cons (pv 2) (pa_cons (pv 1) pa_nil))))
    (pss_cons (ps_if (pt_cmpR op_gt (pv 1) (pe_glob (v := .int 2000) (by rfl) hmo ⟨_, rfl⟩) (nomark _)) (pss_one (ps_raise rfl (takes_of rfl rfl rfl rfl) (pmk_own0 PySem.F.excBase_ValueError X4.x X4.g X4.k (raises_own X4.b X4.t) rfl))) pss_nil)
    (pss_one (ps_ret (pe_cal CL hr (by rfl) (pa_cons (pv 2) (pa_cons (pv 1) pa_nil)))))))), ?_⟩
  refine ⟨v, rfl, v, d, rfl, hR, hT, qE0, fun z0 p H1 e1 t1 np rp => ?_⟩
  obtain ⟨ps, pc, hps, qE, q⟩ := q z0
  have hU1 := Rp.ex e1 c u hU
  have rp' := rp
  rw [hps] at rp'
  obtain ⟨a, ea, h⟩ := PcsAt.of rp'
  obtain rfl : p = a := V.ref.inj ea
  refine ⟨.ref p, rfl, u, rfl, p, u, ps, pc, c, rfl, h, hU1, fun z H2 s2 => qE z H2 (e1.trans (Ex.of s2)) (t1.same s2), fun z H2 s2 => ?_⟩
  obtain ⟨n, rfl, qB, q⟩ := q z
  cases hU1
  have rp2 : Rp H2 (.ref p) (.list ((piecesOf d).map pieceD)) := Rp.sm s2 rp
  obtain ⟨a, ea, h2⟩ := PcsAt.of rp2
  obtain rfl : p = a := V.ref.inj ea
  refine ⟨.int (n : Int), rfl, (n : Int), 2000, rfl, rfl, decide ((2000 : Int) < (n : Int)), rfl, ite2 (fun e2 => ?_) (fun e2 => ?_)⟩
  · exact qB (by have := of_decide_eq_true e2; omega) H2 (e1.trans (Ex.of s2)) (t1.same s2)
  · have hn : n ≤ 2000 := by
      have : ¬ (2000 : Int) < (n : Int) := fun z => e2 (decide_eq_true z)
      omega
    have hall : ∀ k : Nat, ∃ o : Option Int, k < n → HasP (piecesOf d) (k : Int) (optD o) := fun k => by
      by_cases hk : k < n
      · have hu : under pc.2.1 (k : Int) = true := by
          rw [momentOk_int] at z
          simp only [Bool.and_eq_true, decide_eq_true_eq] at z
          have z2 := z.2
          cases hp : pc.2.1 with
          | none => rfl
          | some m =>
            rw [hp] at z2
            have z3 : (n : Int) ≤ m := of_decide_eq_true z2
            exact decide_eq_true (by omega)
        obtain ⟨o, ho⟩ := plan_has z0 hps hu
        exact ⟨o, fun _ => ho⟩
      · exact ⟨none, fun z => absurd z hk⟩
    obtain ⟨pat, hpat⟩ : ∃ pat : Nat → Option Int, ∀ k : Nat, k < n → HasP (piecesOf d) (k : Int) (optD (pat k)) := ⟨fun k => Classical.choose (hall k), fun k => Classical.choose_spec (hall k)⟩
    refine ⟨.ref p, rfl, .int (n : Int), rfl, p, piecesOf d, n, pat, rfl, h2, hn, hpat, fun p2 L1 L2 H3 s3 m1 m2 ne a1 a2 a3 => ?_⟩
    have e3 := e1.trans (Ex.of s2)
    exact q hn pat hpat p2 L1 L2 H3 (e3.trans (Ex.of s3)) ((t1.same s2).same s3) (e3.free m1) (e3.free m2) ne a1 a2 a3
theorem MomP.imp {P1 P2 C C3 C4 : Addr} {d c : PyData} {H : Hp} {E : XK} {R R' : (Nat → Option Int) → Nat → Prop} (m : MomP P1 P2 C C3 C4 d c H E R) (h : ∀ pat n, R pat n → R' pat n) : MomP P1 P2 C C3 C4 d c H E R' :=
  ⟨m.1, fun z => let ⟨ps, pc, e, a, b⟩ := m.2 z; ⟨ps, pc, e, a, fun y => let ⟨n, e2, a2, b2⟩ := b y; ⟨n, e2, a2, fun l pat hp => h _ _ (b2 l pat hp)⟩⟩⟩
theorem ok_queue {f P1 P2 C C3 C4 : Addr} {fd : FuncData} (F : Fun K "queue_at" "queue_at" sQueue f fd) (CL : CalX P w K mg base 10 "listed_at" ["plan", "moment"] (spListed P1 P2 C C3 C4)) : FnOk P w K mg base (L2.CX P w) 11 f fd ["plan", "moment"] (spQueue P1 P2 C C3 C4) := by
  refine F.okX scQueue (fun vs H Q E ⟨v, u, d, c, e, _⟩ => by rw [e]; rfl) (fun cdv A outer s H vs Q E hr h => ?_)
  obtain ⟨v, u, d, c, rfl, hR, hU, hT, hm⟩ := h
  have nd := scQueue.nd
  refine ⟨_, (pss_cons (ps_asg (pe_calX CL hr (by rfl) (passes_call (takes_of rfl rfl rfl rfl) fun _ _ _ _ h => h) (pa_cons (pv 0) (pa_cons (pv 1) pa_nil))) (pg_tup rfl (pgs_cons (pg_name (i := 2) nd rfl (.inl rfl)) (pgs_cons (pg_name (i := 3) nd rfl (.inl rfl)) pgs_nil))))
    (pss_one (ps_ret (pv 2)))), ?_⟩
  refine ⟨v, rfl, u, rfl, v, u, d, c, rfl, hR, hU, hT, hm.imp fun pat n q p L1 L2 H' e1 t1 m1 m2 ne a1 a2 a3 => ?_⟩
  exact ⟨p, _, rfl, SqT.of a1, rfl, .ref L1, _, rfl, .ref L2, _, rfl, rfl, .ref L1, rfl, q L1 H' e1 t1 m1 a2⟩
theorem ok_left {f P1 P2 C C3 C4 : Addr} {fd : FuncData} (F : Fun K "left_at" "left_at" sLeft f fd) (CL : CalX P w K mg base 10 "listed_at" ["plan", "moment"] (spListed P1 P2 C C3 C4)) : FnOk P w K mg base (L2.CX P w) 11 f fd ["plan", "moment"] (spLeft P1 P2 C C3 C4) := by
  refine F.okX scLeft (fun vs H Q E ⟨v, u, d, c, e, _⟩ => by rw [e]; rfl) (fun cdv A outer s H vs Q E hr h => ?_)
  obtain ⟨v, u, d, c, rfl, hR, hU, hT, hm⟩ := h
  have nd := scLeft.nd
  refine ⟨_, (pss_cons (ps_asg (pe_calX CL hr (by rfl) (passes_call (takes_of rfl rfl rfl rfl) fun _ _ _ _ h => h) (pa_cons (pv 0) (pa_cons (pv 1) pa_nil))) (pg_tup rfl (pgs_cons (pg_name (i := 2) nd rfl (.inl rfl)) (pgs_cons (pg_name (i := 3) nd rfl (.inl rfl)) pgs_nil))))
    (pss_one (ps_ret (pv 3)))), ?_⟩
  refine ⟨v, rfl, u, rfl, v, u, d, c, rfl, hR, hU, hT, hm.imp fun pat n q p L1 L2 H' e1 t1 m1 m2 ne a1 a2 a3 => ?_⟩
  exact ⟨p, _, rfl, SqT.of a1, rfl, .ref L1, _, rfl, .ref L2, _, rfl, rfl, .ref L2, rfl, q L2 H' e1 t1 m2 a3⟩
end
end CL
set_option Elab.async false
set_option linter.all false
set_option pp.maxSteps 400
set_option maxRecDepth 100000
set_option maxHeartbeats 4000000
namespace CL
open PySem PySem.Spec PyProof.Rows L2 GE
theorem wd_pos {b : Option Int} {x : Int} {t : PyData} (h : 0 < wd b x t) : ∃ p, t = .int p ∧ wd b x t = p + 1 ∧ ∀ m, b = some m → x + p ≤ m := by
  cases t with
  | int p =>
    cases b with
    | none => exact ⟨p, rfl, rfl, fun m e => by cases e⟩
    | some m =>
      by_cases c : x + p ≤ m
      · have e : wd (some m) x (.int p) = p + 1 := if_pos c
        exact ⟨p, rfl, e, fun m' e' => by cases e'; exact c⟩
      · have e : wd (some m) x (.int p) = 0 := if_neg c
        rw [e] at h
        omega
  | _ => cases b <;> exact absurd h (Int.lt_irrefl 0)
theorem pt_ok {ps : List PieceT} (hp : PsOk ps) {x : Int} {t : PyData} (h : Pt ps x t) : isPatience t = true := by
  obtain ⟨pc, h1, h2⟩ := h
  exact (hp.turns pc (List.mem_of_find?_eq_some h1)).2.2 t (List.mem_of_getElem? h2)
theorem wp_pos {ps : List PieceT} {b : Option Int} {x w : Int} (h : WP ps b x w) (h0 : 0 < w) : ∃ p, Pt ps x (.int p) ∧ w = p + 1 ∧ ∀ m, b = some m → x + p ≤ m := by
  obtain ⟨t, h1, rfl⟩ := wp_pt h
  obtain ⟨p, rfl, h2, h3⟩ := wd_pos h0
  exact ⟨p, h1, h2, h3⟩
theorem wp_zero {ps : List PieceT} (hp : PsOk ps) {b : Option Int} {x : Int} {t : PyData} (h : WP ps b x 0) (ht : Pt ps x t) : t = .none ∨ ∃ p m : Int, t = .int p ∧ b = some m ∧ m < x + p := by
  obtain ⟨t', h1, h2⟩ := wp_pt h
  obtain rfl := pt_uniq ht h1
  rcases pat_cases (pt_ok hp ht) with rfl | ⟨p, rfl, h3, h4⟩
  · exact .inl rfl
  · cases b with
    | none => exact absurd (show (0 : Int) = p + 1 from h2) (by omega)
    | some m =>
      refine .inr ⟨p, m, rfl, rfl, ?_⟩
      by_cases c : x + p ≤ m
      · have e : wd (some m) x (.int p) = p + 1 := if_pos c
        omega
      · omega
theorem cut_in {ps : List PieceT} {b : Option Int} {x w c : Int} (h : WP ps b x w) (h0 : 0 < w) (hc : x + w - 1 ≤ c) : WP ps (some c) x w := by
  obtain ⟨p, h1, h2, _⟩ := wp_pos h h0
  have := pt_wp (some c) h1
  rw [show wd (some c) x (.int p) = p + 1 from if_pos (by omega), ← h2] at this
  exact this
theorem cut_zero {ps : List PieceT} (hp : PsOk ps) {b : Option Int} {x c : Int} (h : WP ps b x 0) (hb : ∀ m, b = some m → c < m) : WP ps (some c) x 0 := by
  obtain ⟨t, h1, h2⟩ := wp_pt h
  have := pt_wp (some c) h1
  have e : wd (some c) x t = 0 := by
    rcases wp_zero hp h h1 with rfl | ⟨p, m, rfl, hm, hlt⟩
    · rfl
    · have := hb m hm
      exact if_neg (by omega)
  rw [e] at this
  exact this
theorem cut_out {ps : List PieceT} {b : Option Int} {x w c : Int} (h : WP ps b x w) (h0 : 0 < w) (hc : c < x + w - 1) : WP ps (some c) x 0 := by
  obtain ⟨p, h1, h2, _⟩ := wp_pos h h0
  have := pt_wp (some c) h1
  rw [show wd (some c) x (.int p) = 0 from if_neg (by omega)] at this
  exact this
theorem wp_nn {ps : List PieceT} (hp : PsOk ps) {b : Option Int} {x w : Int} (h : WP ps b x w) : 0 ≤ w := (wp_le hp h).1
/-- between the person and the bound -/
theorem las_le {ps : List PieceT} {b l : Option Int} {s x : Int} (h : Las ps b s x l) : (∀ m, b = some m → x ≤ m) → (∀ k, l = some k → x ≤ k ∧ ∀ m, b = some m → k ≤ m) ∧ (l = none → b = none) := by
  induction h with
  | spare h => exact fun hb => ⟨fun k e => ⟨hb k e, fun m e' => (by rw [e] at e'; cases e'; omega)⟩, fun e => e⟩
  | own h h0 =>
    obtain ⟨p, _, h2, h3⟩ := wp_pos h h0
    exact fun hb => ⟨fun k e => by cases e; exact ⟨by omega, fun m e => (by have := h3 m e; omega)⟩, fun e => absurd e (by simp)⟩
  | inn h h1 h2 _ ih =>
    obtain ⟨p, _, h3, h4⟩ := wp_pos h (by omega)
    obtain ⟨i1, i2⟩ := ih fun m e => by cases e; omega
    refine fun hb => ⟨fun k e => ?_, fun e => absurd (i2 e) (by simp)⟩
    obtain ⟨j1, j2⟩ := i1 k e
    exact ⟨j1, fun m e => by have := h4 m e; have := j2 _ rfl; omega⟩
  | skip h h1 _ ih => exact ih
/-- no farther than the patience -/
theorem las_pat {ps : List PieceT} (hp : PsOk ps) {b l : Option Int} {s x : Int} {t : PyData} (h : Las ps b s x l) : Pt ps x t → (l = none → t = .none) ∧ ∀ k p : Int, l = some k → t = .int p → k ≤ x + p := by
  induction h with
  | spare h =>
    intro ht
    refine ⟨fun e => ?_, fun k p e e2 => ?_⟩
    · rcases wp_zero hp h ht with h1 | ⟨p, m, h1, h2, h3⟩
      · exact h1
      · rw [e] at h2; cases h2
    · rcases wp_zero hp h ht with h1 | ⟨p', m, h1, h2, h3⟩
      · rw [h1] at e2; cases e2
      · rw [e] at h2; cases h2; rw [h1] at e2; cases e2; omega
  | own h h0 =>
    intro ht
    refine ⟨fun e => absurd e (by simp), fun k p e e2 => ?_⟩
    obtain ⟨p', h1, h2, h3⟩ := wp_pos h h0
    have := pt_uniq ht h1
    rw [e2] at this
    cases this
    cases e
    omega
  | inn h h1 h2 _ ih => exact ih
  | skip h h1 _ ih => exact ih
theorem las_uniq {ps : List PieceT} {b l : Option Int} {s x : Int} (h : Las ps b s x l) : ∀ l', Las ps b s x l' → l = l' := by
  induction h with
  | spare h =>
    intro l' h'
    cases h' with
    | spare _ => rfl
    | own k k0 => have := wp_uniq h k; omega
    | inn k k1 => omega
    | skip k k1 => omega
  | own h h0 =>
    intro l' h'
    cases h' with
    | spare k => have := wp_uniq h k; omega
    | own k k0 => rw [wp_uniq h k]
    | inn k k1 => omega
    | skip k k1 => omega
  | inn h h1 h2 _ ih =>
    intro l' h'
    cases h' with
    | spare k => omega
    | own k k0 => omega
    | inn k k1 k2 k3 => have e := wp_uniq h k; subst e; exact ih _ k3
    | skip k k1 => have e := wp_uniq h k; subst e; omega
  | skip h h1 _ ih =>
    intro l' h'
    cases h' with
    | spare k => omega
    | own k k0 => omega
    | inn k k1 k2 => have e := wp_uniq h k; subst e; omega
    | skip k k1 k2 => have e := wp_uniq h k; subst e; exact ih _ k2
/-- whoever comes up to a last has a last no farther -/
theorem las_nest {ps : List PieceT} {b l : Option Int} {s x : Int} (h : Las ps b s x l) : ∀ (k y : Int) (t : Option Int), l = some k → x < y → y ≤ k → (∀ m, b = some m → x ≤ m) → Las ps b s y t → ∃ j, t = some j ∧ j ≤ k := by
  induction h with
  | spare h =>
    intro k y t e hy hk hb h'
    obtain ⟨i1, i2⟩ := las_le h' fun m e' => by rw [e] at e'; cases e'; omega
    cases t with
    | none => rw [i2 rfl] at e; cases e
    | some j => exact ⟨j, rfl, (i1 j rfl).2 k e⟩
  | own h h0 =>
    intro k y t e hy hk hb h'
    cases e
    cases h' with
    | spare k => omega
    | own k k0 => omega
    | inn k k1 k2 k3 =>
      have e := wp_uniq h k
      subst e
      obtain ⟨i1, i2⟩ := las_le k3 fun m e' => by cases e'; omega
      cases t with
      | none => cases i2 rfl
      | some j => exact ⟨j, rfl, (i1 j rfl).2 _ rfl⟩
    | skip k k1 => have e := wp_uniq h k; subst e; omega
  | inn h h1 h2 h3 ih =>
    intro k y t e hy hk hb h'
    have l1 := ((las_le h3 fun m e' => by cases e'; omega).1 k e).2 _ rfl
    cases h' with
    | spare k => omega
    | own k k0 => omega
    | inn k' k1 k2 k3 => have e' := wp_uniq h k'; subst e'; exact ih k y t e hy hk (fun m e' => by cases e'; omega) k3
    | skip k' k1 => have e' := wp_uniq h k'; subst e'; omega
  | skip h h1 _ ih =>
    intro k y t e hy hk hb h'
    cases h' with
    | spare k => omega
    | own k k0 => omega
    | inn k' k1 k2 => have e' := wp_uniq h k'; subst e'; omega
    | skip k' k1 k2 => have e' := wp_uniq h k'; subst e'; exact ih k y t e hy hk hb k2
/-- a bound before the other one: who is left over there has a last beyond it, whoever isn't has the same last -/
theorem las_cut {ps : List PieceT} (hp : PsOk ps) {b l : Option Int} {s x c : Int} (h : Las ps b s x l) : x ≤ c → (∀ m, b = some m → c < m) →
    (SpR ps (some c) s x ∧ ∀ k, l = some k → c < k) ∨ (¬ SpR ps (some c) s x ∧ ∃ k, l = some k ∧ k ≤ c ∧ Las ps (some c) s x (some k)) := by
  induction h with
  | spare h => exact fun hx hb => .inl ⟨.here (cut_zero hp h hb), hb⟩
  | @own b x w h h0 =>
    intro hx hb
    by_cases cx : x + w - 1 ≤ c
    · have h1 := cut_in h h0 cx
      exact .inr ⟨fun z => by have := wp_uniq (spr_wp z) h1; omega, _, rfl, cx, .own h1 h0⟩
    · exact .inl ⟨.here (cut_out h h0 (by omega)), fun k e => by cases e; omega⟩
  | @inn b l s x w h h1 h2 h3 ih =>
    intro hx hb
    by_cases cx : s + w - 1 ≤ c
    · have k1 := cut_in h (by omega) cx
      obtain ⟨i1, i2⟩ := las_le h3 fun m e' => by cases e'; omega
      refine .inr ⟨fun z => ?_, ?_⟩
      · cases z with
        | here z => omega
        | on z z1 => have e := wp_uniq k1 z; subst e; omega
      · cases l with
        | none => cases i2 rfl
        | some j => exact ⟨j, rfl, by have := (i1 j rfl).2 _ rfl; omega, .inn k1 h1 h2 h3⟩
    · have k1 := cut_out h (by omega) (show c < s + w - 1 by omega)
      have e1 : s + max (0 : Int) 1 = s + 1 := by omega
      rcases ih hx (fun m e => by cases e; omega) with ⟨i1, i2⟩ | ⟨i1, k, i2, i3, i4⟩
      · exact .inl ⟨.on k1 (by omega) (by rw [e1]; exact i1), i2⟩
      · refine .inr ⟨fun z => ?_, k, i2, i3, .skip k1 (by omega) (by rw [e1]; exact i4)⟩
        cases z with
        | here z => omega
        | on z z1 z2 => have e := wp_uniq k1 z; subst e; rw [e1] at z2; exact i1 z2
  | @skip b l s x w h h1 h3 ih =>
    intro hx hb
    have k1 : WP ps (some c) s w := by
      have := wp_nn hp h
      by_cases cw : w = 0
      · subst cw; exact cut_zero hp h hb
      · exact cut_in h (by omega) (by omega)
    rcases ih hx hb with ⟨i1, i2⟩ | ⟨i1, k, i2, i3, i4⟩
    · exact .inl ⟨.on k1 h1 i1, i2⟩
    · refine .inr ⟨fun z => ?_, k, i2, i3, .skip k1 h1 i4⟩
      cases z with
      | here z => omega
      | on z z1 z2 => have e := wp_uniq k1 z; subst e; exact i1 z2
/-- ahead of one that is met, and not left over: the last is ahead of it too -/
theorem las_before {ps : List PieceT} {b : Option Int} {s y : Int} (h : Rch ps b s y) : ∀ (x : Int) (l : Option Int), x < y → Las ps b s x l → ¬ SpR ps b s x → ∃ k, l = some k ∧ k < y := by
  induction h with
  | here => intro x l hx h'; have := las_ge h'; omega
  | on h1 h2 ih =>
    intro x l hx h' hn
    have hy := rch_le h2
    cases h' with
    | spare k => exact absurd (.here k) hn
    | own k k0 => have e := wp_uniq h1 k; subst e; exact ⟨_, rfl, by omega⟩
    | inn k k1 k2 k3 =>
      have e := wp_uniq h1 k
      subst e
      obtain ⟨i1, i2⟩ := las_le k3 fun m e' => by cases e'; omega
      cases l with
      | none => cases i2 rfl
      | some j => exact ⟨j, rfl, by have := (i1 j rfl).2 _ rfl; omega⟩
    | skip k k1 k2 => have e := wp_uniq h1 k; subst e; exact ih x l hx k2 fun z => hn (.on h1 k1 z)
/-! ### how many are left over -/
theorem pth_hi {ps : List PieceT} {bd : Int} (hp : PsOk ps) : ∀ {S : List StepT} {a c : Int}, Pth (WS ps (some bd) bd) a S c → a ≤ bd + 1 → c ≤ bd + 1
  | [], a, c, h, h1 => by
    obtain rfl : a = c := h
    exact h1
  | s :: S, a, c, h, h1 => by
    have e : s.1 = a := h.1
    refine pth_hi hp h.2.2 ?_
    have h2 := h.2.1.1
    by_cases c0 : 0 < s.2
    · obtain ⟨p, _, h3, h4⟩ := wp_pos h.2.1.2 c0
      have := h4 bd rfl
      omega
    · have := wp_nn hp h.2.1.2
      omega
theorem run_hi {ps : List PieceT} {bd a : Int} {r : RunT} (hp : PsOk ps) (h : RunOk ps (some bd) bd a r) (ha : a ≤ bd + 1) : a + (r.times : Int) * lenR r.steps ≤ bd + 1 := by
  have : ∀ k : Nat, k ≤ r.times → a + (k : Int) * lenR r.steps ≤ bd + 1 := fun k => by
    induction k with
    | zero => intro _; rw [show ((0 : Nat) : Int) = 0 from rfl, Int.zero_mul]; omega
    | succ k ih =>
      intro hk
      have := pth_hi hp (h.path k (by omega)) (ih (by omega))
      have e : ((k + 1 : Nat) : Int) * lenR r.steps = (k : Int) * lenR r.steps + lenR r.steps := by
        rw [Int.natCast_add, Int.add_mul, show ((1 : Nat) : Int) = 1 from rfl, Int.one_mul]
      rw [e]
      exact this
  exact this r.times (Nat.le_refl _)
theorem lvl_hi {ps : List PieceT} {bd : Int} (hp : PsOk ps) : ∀ {rs : List RunT} {a c : Int}, Lvl ps (some bd) bd a rs c → a ≤ bd + 1 → c ≤ bd + 1
  | [], a, c, h, h1 => by
    obtain rfl : a = c := h
    exact h1
  | r :: rs, a, c, h, h1 => lvl_hi hp h.2 (run_hi hp h.1 h1)
theorem run_wid {ps : List PieceT} {b : Option Int} {stop a : Int} {r : RunT} (hp : PsOk ps) (h : RunOk ps b stop a r) : ∀ s ∈ r.steps, 0 ≤ s.2 := fun s hs => by
  have hk := h.path 0 (by have := h.times; omega)
  have := (hk.le.2 (s.1 + ((0 : Nat) : Int) * lenR r.steps, s.2) (List.mem_map.mpr ⟨s, hs, rfl⟩)).2.2.2
  exact wp_nn hp this
def spT (rs : List RunT) : Int := (rs.map fun r => (r.times : Int) * (spareR r.steps : Nat)).sum
theorem sum_zero : ∀ {S : List StepT}, (∀ s ∈ S, s.2 = 0) → (S.map (·.2)).sum = 0
  | [], _ => rfl
  | s :: S, h => by
    rw [List.map_cons, List.sum_cons, sum_zero fun x hx => h x (List.mem_cons_of_mem _ hx), h s List.mem_cons_self]
    rfl
theorem sum_nn : ∀ {S : List StepT}, (∀ s ∈ S, 0 ≤ s.2) → 0 ≤ (S.map (·.2)).sum
  | [], _ => Int.le_refl 0
  | s :: S, h => by
    have h1 := sum_nn fun x hx => h x (List.mem_cons_of_mem _ hx)
    have h2 := h s List.mem_cons_self
    rw [List.map_cons, List.sum_cons]
    omega
theorem sum_pos : ∀ {S : List StepT} {s : StepT}, (∀ s ∈ S, 0 ≤ s.2) → s ∈ S → 0 < s.2 → 0 < (S.map (·.2)).sum
  | t :: S, s, h, hs, h0 => by
    have h2 := h t List.mem_cons_self
    rw [List.map_cons, List.sum_cons]
    rcases List.mem_cons.mp hs with rfl | hs
    · have h1 := sum_nn fun x hx => h x (List.mem_cons_of_mem _ hx)
      omega
    · have := sum_pos (fun x hx => h x (List.mem_cons_of_mem _ hx)) hs h0
      omega
theorem spT_cons (r : RunT) (rs : List RunT) : spT (r :: rs) = (r.times : Int) * (spareR r.steps : Nat) + spT rs := by unfold spT; rw [List.map_cons, List.sum_cons]
theorem spT_le {ps : List PieceT} {b : Option Int} {stop : Int} (hp : PsOk ps) : ∀ {rs : List RunT} {a c : Int}, Lvl ps b stop a rs c → spT rs ≤ c - a ∧ ((∀ r ∈ rs, ∀ s ∈ r.steps, s.2 = 0) → spT rs = c - a) ∧ ∀ r ∈ rs, ∀ s ∈ r.steps, 0 < s.2 → spT rs < c - a
  | [], a, c, h => by
    obtain rfl : a = c := h
    exact ⟨by show (0 : Int) ≤ a - a; omega, fun _ => by show (0 : Int) = a - a; omega, fun r hr => nomatch hr⟩
  | r :: rs, a, c, h => by
    obtain ⟨i1, i2, i3⟩ := spT_le hp h.2
    have hw := run_wid hp h.1
    have hs := lenR_sum r.steps hw
    have ht := h.1.times
    have s0 := sum_nn hw
    have e : (r.times : Int) * lenR r.steps = (r.times : Int) * (spareR r.steps : Nat) + (r.times : Int) * (r.steps.map (·.2)).sum := by rw [← hs, Int.mul_add]
    have m0 : 0 ≤ (r.times : Int) * (r.steps.map (·.2)).sum := Int.mul_nonneg (by omega) s0
    rw [spT_cons]
    refine ⟨by omega, fun hz => ?_, fun q hq s hs0 h0 => ?_⟩
    · have z := sum_zero (hz r List.mem_cons_self)
      have := i2 fun q hq => hz q (List.mem_cons_of_mem _ hq)
      rw [z, Int.mul_zero] at e
      omega
    · rcases List.mem_cons.mp hq with rfl | hq
      · have p := sum_pos hw hs0 h0
        have : 0 < (q.times : Int) * (q.steps.map (·.2)).sum := Int.mul_pos (by omega) p
        omega
      · have := i3 q hq s hs0 h0
        omega
end CL
set_option Elab.async false
set_option linter.all false
set_option pp.maxSteps 400
set_option maxRecDepth 100000
set_option maxHeartbeats 4000000
namespace CL
open PySem PySem.Spec PyProof.Rows L2 GE
abbrev nLo : List Str := ["runs", "run", "openers", "person", "width"]
/-! ### how many windows may lie within one another -/
def below (q : Int) : PyData → Bool
  | .int p => decide (p < q)
  | _ => false
def cnt (V : List PyData) (q : Int) : Nat := (V.filter (below q)).length
theorem cnt_mono : ∀ (V : List PyData) {p q : Int}, p ≤ q → cnt V p ≤ cnt V q
  | [], _, _, _ => Nat.le_refl 0
  | t :: V, p, q, h => by
    have ih := cnt_mono V h
    unfold cnt at ih ⊢
    rw [List.filter_cons, List.filter_cons]
    by_cases c : below p t = true
    · have c2 : below q t = true := by
        cases t with
        | int x => exact decide_eq_true (by have : x < p := of_decide_eq_true c; omega)
        | _ => cases c
      rw [if_pos c, if_pos c2, List.length_cons, List.length_cons]
      omega
    · rw [if_neg c]
      split
      · rw [List.length_cons]; omega
      · exact ih
theorem cnt_less : ∀ (V : List PyData) {p q : Int}, PyData.int p ∈ V → p < q → cnt V p < cnt V q
  | t :: V, p, q, hm, h => by
    have mono := cnt_mono V (show p ≤ q by omega)
    unfold cnt at mono ⊢
    rw [List.filter_cons, List.filter_cons]
    rcases List.mem_cons.mp hm with e | hm
    · subst e
      rw [if_neg (by show ¬ decide (p < p) = true; simp), if_pos (show below q (PyData.int p) = true from decide_eq_true h), List.length_cons]
      omega
    · have ih := cnt_less V hm h
      unfold cnt at ih
      by_cases c : below p t = true
      · have c2 : below q t = true := by
          cases t with
          | int x => exact decide_eq_true (by have : x < p := of_decide_eq_true c; omega)
          | _ => cases c
        rw [if_pos c, if_pos c2, List.length_cons, List.length_cons]
        omega
      · rw [if_neg c]
        split
        · rw [List.length_cons]; omega
        · exact ih
theorem breaks_lt {ps : List PieceT} {b : Option Int} {stop : Int} (hp : PsOk ps) (hm : ∀ q ∈ ps, ∀ m, q.2.1 = some m → m ≤ 2 ^ 138) (hs : stop < 2 ^ 139) (hb : ∀ m, b = some m → m < 2 ^ 139) : ∀ y ∈ breaks ps b stop, y < 2 ^ 139 := fun y hy => by
  unfold breaks at hy
  rcases List.mem_cons.mp hy with rfl | hy
  · exact hs
  · rcases List.mem_append.mp hy with hy | hy
    · obtain ⟨pc, h1, h2⟩ := List.mem_filterMap.mp hy
      cases e : pc.2.1 with
      | none => rw [e] at h2; cases h2
      | some m =>
        rw [e] at h2
        have e2 : m - 1 = y := Option.some.inj h2
        have := hm pc h1 m e
        omega
    · cases b with
      | none => cases hy
      | some m =>
        obtain ⟨pc, h1, h2⟩ := List.mem_flatMap.mp hy
        obtain ⟨p, h3, rfl⟩ := mem_fits.mp h2
        have h4 := (hp.turns pc h1).2.2 _ h3
        have h5 : (decide (0 ≤ p) && decide (p ≤ GREAT)) = true := h4
        simp only [Bool.and_eq_true, decide_eq_true_eq] at h5
        have := hb m rfl
        omega
theorem meas_lt {person st x : Int} {k : Nat} (hk : k = (person + 1 - st).toNat) (h1 : st ≤ x) (h2 : st ≤ person) : (person + 1 - (x + 1)).toNat < k := by omega
theorem nn_of {st x : Int} (h0 : 0 ≤ st) (h1 : st ≤ x) : 0 ≤ x + 1 := by omega
theorem in_of {x w p : Int} (h : w = p + 1) : x + w - 1 - (x + 1) < p := by omega
theorem road_next {ps : List PieceT} {b0 bd : Option Int} {st person x w : Int} {S : List StepT} (hw : WP ps bd x w) (hx : x ≤ person) (h0 : 0 < w) (hc : person < x + max w 1) (hR : Rch ps bd st x) (hL : ∀ R, Road ps bd st person R → Road ps b0 0 person (S ++ R)) :
    (x + 1 ≤ person ∧ ∀ R, Road ps (some (x + w - 1)) (x + 1) person R → Road ps b0 0 person ((S ++ [(x, x + w - 1)]) ++ R)) ∨ (person < x + 1 ∧ Road ps b0 0 person (S ++ [(x, x + w - 1)])) := by
  by_cases c : x + 1 ≤ person
  · exact .inl ⟨c, fun R h => by rw [List.append_assoc]; exact hL _ (road_of hR (.inn hw (by omega) (by omega) h))⟩
  · obtain rfl : x = person := by omega
    exact .inr ⟨by omega, hL _ (road_of hR (.own hw h0))⟩
def spLastOp (C : Addr) : Sp := fun vs H Q _ => ∃ D ws ps b, ∃ start stop c : Int, ∃ rs, vs = [.ref D] ∧ H D = some (.lst ws) ∧ RunsAt C D H ws rs ∧ Lvl ps b stop start rs c ∧ PsOk ps ∧ 0 ≤ start ∧ stop < 2 ^ 139 ∧
  ∀ v H', Same H H' → ((v = .non ∧ ∀ r ∈ rs, ∀ s ∈ r.steps, s.2 = 0) ∨ ∃ rs1 r ts S1 s S2, rs = rs1 ++ r :: ts ∧ r.steps = S1 ++ s :: S2 ∧ 0 < s.2 ∧ (∀ x ∈ S2, x.2 = 0) ∧ (∀ q ∈ ts, ∀ x ∈ q.steps, x.2 = 0) ∧ v = .int (s.1 + ((r.times : Int) - 1) * lenR r.steps)) → Q v H'
theorem last_filter : ∀ (S : List StepT), (∀ s ∈ S, 0 ≤ s.2) → ((S.filter fun s => decide (0 < s.2)) = [] ∧ ∀ s ∈ S, s.2 = 0) ∨ ∃ S1 s S2 T, S = S1 ++ s :: S2 ∧ 0 < s.2 ∧ (∀ x ∈ S2, x.2 = 0) ∧ (S.filter fun s => decide (0 < s.2)) = T ++ [s]
  | [], _ => .inl ⟨rfl, fun s h => nomatch h⟩
  | t :: S, h => by
    have h0 := h t List.mem_cons_self
    rcases last_filter S fun x hx => h x (List.mem_cons_of_mem _ hx) with ⟨e, hz⟩ | ⟨S1, s, S2, T, e1, e2, e3, e4⟩
    · by_cases c : 0 < t.2
      · exact .inr ⟨[], t, S, [], rfl, c, hz, by rw [List.filter_cons, if_pos (by simpa using c), e]; rfl⟩
      · refine .inl ⟨by rw [List.filter_cons, if_neg (by simpa using c)]; exact e, fun x hx => ?_⟩
        rcases List.mem_cons.mp hx with rfl | hx
        · omega
        · exact hz x hx
    · by_cases c : 0 < t.2
      · exact .inr ⟨t :: S1, s, S2, t :: T, by rw [e1]; rfl, e2, e3, by rw [List.filter_cons, if_pos (by simpa using c), e4]; rfl⟩
      · exact .inr ⟨t :: S1, s, S2, T, by rw [e1]; rfl, e2, e3, by rw [List.filter_cons, if_neg (by simpa using c)]; exact e4⟩
section
variable {P : Program} {w : World} {K : PySem.W.Frag} {mg : Str → Option Value} {base : Heap}
theorem ok_wins {f C : Addr} {fd : FuncData} (F : Fun K "windows_in" "windows_in" sWins f fd) (CB : Cal P w K mg base 2 "outer_bound" ["pieces"] spBnd) (CR : Cal P w K mg base 3 "runs_on" ["pieces", "start", "bound", "stop"] (spRuns C)) (CL : Cal P w K mg base 1 "last_step" ["runs"] (spLast C)) : FnOk P w K mg base CX0 4 f fd ["pieces", "person"] spWins := by
  refine F.ok scWins (fun vs H Q E ⟨a, ps, pc, person, e, _⟩ => by rw [e]; rfl) (fun cdv A0 outer s H vs Q E hr h => ?_)
  obtain ⟨a, ps0, pc0, person, rfl, hp, hps, hp0, hp1, hfind, hpast, q⟩ := h
  have nd := scWins.nd
  have sz := sz5000
  refine ⟨_, (pss_cons (ps_set (i := 2) nd rfl (.inl rfl) (pe_lst pa_nil))
    (pss_cons (ps_set (i := 3) nd rfl (.inl rfl) pe_int)
    (pss_cons (ps_set (i := 4) nd rfl (.inl rfl) (pe_cal (CB.mono (by decide)) hr (by rfl) (pa_cons (pv 0) pa_nil)))
    (pss_cons (ps_while PassesOwn.never (pt_cmpR op_le (pv 3) (pv 1) (nomark _))
    (pss_cons (ps_asg (pe_cal (CL.mono (by decide)) hr (by rfl) (pa_cons (pe_cal (CR.mono (by decide)) hr (by rfl) (pa_cons (pv 0) (pa_cons (pv 3) (pa_cons (pv 4) (pa_cons (pv 1) pa_nil))))) pa_nil)) (pg_tup rfl (pgs_cons (pg_name (i := 5) nd rfl (.inl rfl)) (pgs_cons (pg_name (i := 6) nd rfl (.inl rfl)) pgs_nil))))
    (pss_cons (ps_if (pt_cmpR op_eq (pv 6) pe_int (nomark _)) (pss_one (ps_ret (pv 2))) pss_nil)
    (pss_cons (ps_set (i := 3) nd rfl (.inl rfl) (pe_op op_add (pv 5) pe_int))
    (pss_cons (ps_set (i := 4) nd rfl (.inl rfl) (pe_op op_sub (pe_op op_add (pv 5) (pv 6)) pe_int))
    (pss_one (ps_expr (pe_bm PySem.F.plainAttrs_list PySem.F.slot_list_append PySem.F.type_list_append mt_append (pv 2) (pa_cons (pe_tup (pa_cons (pv 5) (pa_cons (pv 4) pa_nil))) pa_nil)))))))))
    (pss_one (ps_ret (pv 2))))))), ?_⟩
  generalize hV : (ps0 ++ [pc0]).flatMap (fun pc => pc.2.2) = V
  have hlast := hpast pc0 (List.mem_append_right _ (List.mem_singleton.mpr rfl))
  have hVl : ∀ q, cnt V q ≤ 64 := fun q => by
    have h1 : V.length ≤ 64 := by
      have h2 : ∀ (l : List PieceT), (∀ pc ∈ l, pc.2.2.length ≤ 8) → (l.flatMap fun pc => pc.2.2).length ≤ 8 * l.length := fun l => by
        induction l with
        | nil => intro _; exact Nat.le_refl 0
        | cons pc l ih =>
          intro h
          have i1 := ih fun x hx => h x (List.mem_cons_of_mem _ hx)
          have i3 := h pc List.mem_cons_self
          rw [List.flatMap_cons, List.length_append, List.length_cons]
          omega
      have := h2 (ps0 ++ [pc0]) fun pc hpc => (hps.turns pc hpc).2.1
      have := hps.len
      rw [← hV]
      omega
    have h2 : cnt V q ≤ V.length := List.length_filter_le _ _
    omega
  refine ⟨Nat.zero_le _, fun D nD => ?_⟩
  have s1 := same_upd (o := .lst []) nD
  have e1 : (upd H D (.lst [])) D = some (.lst []) := upd_same
  generalize upd H D (.lst []) = H1 at s1 e1
  have hpS : ∀ {H'}, Same H H' → PcsAt H' a (ps0 ++ [pc0]) := fun {H'} s => by
    obtain ⟨xs, h1, h2⟩ := hp.ex
    exact ⟨xs, s _ _ h1, RpAll.sm s h2⟩
  refine ⟨.ref a, rfl, a, ps0, pc0, rfl, hpS s1, ?_⟩
  have hb0 : ∀ m, (pc0.2.1.map (· - 1)) = some m → m < 2 ^ 139 := fun m e => by
    cases e2 : pc0.2.1 with
    | none => rw [e2] at e; cases e
    | some m' =>
      rw [e2] at e
      have e3 : m' - 1 = m := Option.some.inj e
      have := hlast m' e2
      omega
  generalize pc0.2.1.map (· - 1) = bd0 at hb0 q
  refine ⟨fun k σ H4 => ∃ ws S, ∃ st qq : Int, ∃ bd : Option Int, ∃ y5 y6, σ = [some (.ref a), some (.int person), some (.ref D), some (.int st), some (optV bd), y5, y6] ∧ Same H H4 ∧ H4 D = some (.lst ws) ∧ StAt H4 ws S ∧ 0 ≤ st ∧ S.length + cnt V qq ≤ 64 ∧
      (GREAT < qq ∨ ∃ m, bd = some m ∧ m - st < qq) ∧ (∀ m, bd = some m → m < 2 ^ 139) ∧ ((st ≤ person ∧ ∀ R, Road (ps0 ++ [pc0]) bd st person R → Road (ps0 ++ [pc0]) bd0 0 person (S ++ R)) ∨ (person < st ∧ Road (ps0 ++ [pc0]) bd0 0 person S)) ∧ k = (person + 1 - st).toNat,
      ⟨_, [], [], 0, GREAT + 1, bd0, none, none, rfl, s1, e1, ⟨rfl, fun i s h => by cases i <;> cases h⟩, Int.le_refl _, by have := hVl (GREAT + 1); show 0 + _ ≤ _; omega, .inl (by omega), hb0, .inl ⟨hp0, fun l h => h⟩, rfl⟩, fun k σ H4 ⟨ws, S, st, qq, bd, y5, y6, eσ, s4, e4, hSt, hst, hcn, hqq, hbd, hLa, hk⟩ => ?_⟩
  subst eσ
  refine ⟨.int st, rfl, .int person, rfl, st, person, rfl, rfl, _, rfl, ?_⟩
  by_cases cx : st ≤ person
  · rw [decide_eq_true cx]
    refine iteT ⟨fun σ' H' => ∃ m', m' < k ∧ ∃ ws S, ∃ st qq : Int, ∃ bd : Option Int, ∃ y5 y6, σ' = [some (.ref a), some (.int person), some (.ref D), some (.int st), some (optV bd), y5, y6] ∧ Same H H' ∧ H' D = some (.lst ws) ∧ StAt H' ws S ∧ 0 ≤ st ∧ S.length + cnt V qq ≤ 64 ∧
      (GREAT < qq ∨ ∃ m, bd = some m ∧ m - st < qq) ∧ (∀ m, bd = some m → m < 2 ^ 139) ∧ ((st ≤ person ∧ ∀ R, Road (ps0 ++ [pc0]) bd st person R → Road (ps0 ++ [pc0]) bd0 0 person (S ++ R)) ∨ (person < st ∧ Road (ps0 ++ [pc0]) bd0 0 person S)) ∧ m' = (person + 1 - st).toNat, fun σ' H' ⟨m', h1, h2⟩ => ⟨m', h1, h2⟩, ?_⟩
    refine ⟨.ref a, rfl, .int st, rfl, optV bd, rfl, .int person, rfl, a, ps0 ++ [pc0], st, person, bd, rfl, hpS s4, hps, hst, fun x h1 h2 => hfind x (by omega) h2, breaks_lt hps hpast (by omega) hbd, fun D2 ws2 rs c H5 s5 n5 e5 ra lv hc _ hrn => ?_⟩
    refine ⟨D2, ws2, ps0 ++ [pc0], bd, st, person, c, rs, rfl, e5, ra, fun z => by have := hrn z; omega, lv, hps, hst, by omega, fun x w p H6 s6 e6 hRc hx hws hxc => ?_⟩
    refine ⟨p, _, rfl, SqT.of e6, rfl, .int x, _, rfl, .int w, _, rfl, rfl, ?_⟩
    have s46 := s5.trans s6
    have s06 := s4.trans s46
    have e6D := s46 _ _ e4
    obtain ⟨w0, w1, w2⟩ := wp_le hps hws.2
    have hLs : ∀ R, Road (ps0 ++ [pc0]) bd st person R → Road (ps0 ++ [pc0]) bd0 0 person (S ++ R) := by
      rcases hLa with ⟨_, h⟩ | ⟨h, _⟩
      · exact h
      · omega
    refine ⟨.int w, rfl, rfl, _, rfl, ite2 (fun e => ?_) (fun e => ?_)⟩
    · have hw0 : w = 0 := by
        have := of_decide_eq_true e
        first | exact this | (cases this; rfl) | exact V.int.inj this
      have hxp := hws.1
      obtain rfl : x = person := by rw [hw0] at hxc; omega
      refine ⟨.ref D, rfl, q D ws S H6 s06 e6D (hSt.kt (KT.of s46)) ?_ (by omega)⟩
      have := hLs [] (road_of hRc (.spare (by have := hws.2; rw [hw0] at this; exact this)))
      rw [List.append_nil] at this
      exact this
    · have hw0 : w ≠ 0 := fun z => e (decide_eq_true (by rw [z]))
      obtain ⟨pc1, p1, hm1, hp1', hw1, hp10, hp11, hfit⟩ := w2 hw0
      have hxp := hws.1
      have hp1V : PyData.int p1 ∈ V := by rw [← hV]; exact List.mem_flatMap.mpr ⟨pc1, hm1, hp1'⟩
      have hpq : p1 < qq := by
        rcases hqq with h | ⟨m, rfl, h⟩
        · omega
        · have := hfit m rfl
          omega
      have hcl := cnt_less V hp1V hpq
      refine ⟨.int x, rfl, x, 1, rfl, rfl, ?_⟩
      refine ⟨.int x, rfl, .int w, rfl, x, w, rfl, rfl, x + w, 1, rfl, rfl, ?_⟩
      refine ⟨.ref D, rfl, .inl ⟨rfl, _, SqL.of e6D⟩, .int x, rfl, .int (x + w - 1), rfl, small_le (by show 2 ≤ 1000; decide), fun u nu => ?_⟩
      have s7 := same_upd (o := .tup [.int x, .int (x + w - 1)]) nu
      have eu : (upd H6 u (.tup [.int x, .int (x + w - 1)])) u = some (.tup [.int x, .int (x + w - 1)]) := upd_same
      generalize upd H6 u (.tup [.int x, .int (x + w - 1)]) = H7 at s7 eu
      have e7D := s7 _ _ e6D
      refine ⟨D, _, .ref u, rfl, rfl, e7D, by rw [hSt.len]; omega, ?_⟩
      have k78 : KT H7 (upd H7 D (.lst (ws ++ [.ref u]))) := KT.upd fun xs z => by rw [e7D] at z; cases z
      have hlt : (person + 1 - (x + 1)).toNat < k := meas_lt hk hx cx
      have hx1 : 0 ≤ x + 1 := nn_of hst hx
      have hq2 : x + w - 1 - (x + 1) < p1 := in_of hw1
      have hLn := road_next hws.2 hxp (by omega) (by omega) hRc hLs
      refine ⟨(person + 1 - (x + 1)).toNat, hlt, ws ++ [.ref u], S ++ [(x, x + w - 1)], x + 1, p1, some (x + w - 1), _, _, rfl, fun p o hp' => ?_, upd_same, ?_, hx1, ?_, .inr ⟨_, rfl, hq2⟩, fun m e => ?_, hLn, rfl⟩
      · rw [upd_ne (fun z => by rw [z, nD] at hp'; cases hp')]
        exact s7 _ _ (s06 _ _ hp')
      · exact (hSt.kt ((KT.of (s46.trans s7)).trans k78)).snoc (b := u) (s := (x, x + w - 1)) (k78 _ _ eu)
      · rw [List.length_append, List.length_singleton]
        omega
      · cases e
        have : GREAT = 1000000000000000000000000000000 := rfl
        omega
  · rw [decide_eq_false cx]
    refine iteF ⟨.ref D, rfl, q D ws S H4 s4 e4 hSt ?_ (by omega)⟩
    rcases hLa with ⟨h, _⟩ | ⟨_, h⟩
    · exact absurd h cx
    · exact h
end
end CL
set_option Elab.async false
set_option linter.all false
set_option pp.maxSteps 400
set_option maxRecDepth 100000
set_option maxHeartbeats 4000000
namespace CL
open PySem PySem.Spec PyProof.Rows L2 GE
abbrev sLastIn : Stmt := topS 48
theorem scLastIn : FnScope ["pieces", "person", "around"] ["pieces", "person"] (defScope sLastIn) := ⟨rfl, rfl, rfl, by decide +kernel, rfl, by decide +kernel, by decide +kernel⟩
abbrev sWent : Stmt := topS 49
theorem scWent : FnScope ["plan", "person", "moment", "pieces", "last", "newest"] ["plan", "person", "moment"] (defScope sWent) := ⟨rfl, rfl, rfl, by decide +kernel, rfl, by decide +kernel, by decide +kernel⟩
/-! ### a plan's pieces -/
theorem turns_hi {d : PyData} (h : isPiece d = true) : (turnsD d).length ≤ 8 := by
  unfold isPiece at h
  unfold turnsD
  cases e : rowsD d with
  | none => exact Nat.zero_le _
  | some xs =>
    rw [e] at h
    match xs, h with
    | [t, m], h =>
      simp only [Bool.and_eq_true] at h
      have h1 := h.1
      unfold isTurns at h1
      cases e2 : rowsD t with
      | none => rw [e2] at h1; cases h1
      | some ts =>
        rw [e2] at h1
        simp only [Bool.and_eq_true, decide_eq_true_eq] at h1
        show ((rowsD t).getD []).length ≤ 8
        rw [e2]
        exact h1.1.2
theorem worth_snd {d : PyData} (h : isPiece d = true) : 0 ≤ worth (sndD d) := by
  unfold isPiece at h
  unfold sndD
  cases e : rowsD d with
  | none => exact Int.le_refl 0
  | some xs =>
    rw [e] at h
    match xs, h with
    | [t, m], h =>
      simp only [Bool.and_eq_true] at h
      show 0 ≤ worth m
      cases m with
      | int i => exact of_decide_eq_true h.2
      | _ => exact Int.le_refl 0
theorem pcs_past : ∀ (f : Int) (ds : List PyData), ds.all isPiece = true → ∀ q ∈ pcs f ds, ∀ m, q.2.1 = some m → m ≤ f + sumSnd ds
  | _, [], _, q, hq, _, _ => nomatch hq
  | f, d :: ds, h, q, hq, m, e => by
    rw [List.all_cons, Bool.and_eq_true] at h
    have h0 := worth_snd h.1
    have es : sumSnd (d :: ds) = worth (sndD d) + sumSnd ds := rfl
    have hs : 0 ≤ sumSnd ds := by
      have z : ∀ ds : List PyData, ds.all isPiece = true → 0 ≤ sumSnd ds := fun ds => by
        induction ds with
        | nil => intro _; exact Int.le_refl 0
        | cons d ds ih =>
          intro h
          rw [List.all_cons, Bool.and_eq_true] at h
          have := ih h.2
          have := worth_snd h.1
          show 0 ≤ worth (sndD d) + sumSnd ds
          omega
      exact z ds h.2
    have hq' : q ∈ (f, pastO f (sndD d), turnsD d) :: pcs (f + worth (sndD d)) ds := hq
    rcases List.mem_cons.mp hq' with rfl | hq'
    · have e2 : pastO f (sndD d) = some m := e
      cases e3 : sndD d with
      | int i =>
        rw [e3] at e2 h0
        have e4 : f + i = m := Option.some.inj e2
        rw [es, e3]
        show m ≤ f + (i + sumSnd ds)
        omega
      | _ => rw [e3] at e2; cases e2
    · have := pcs_past (f + worth (sndD d)) ds h.2 q hq' m e
      rw [es]
      omega
structure PlOk (ps : List PieceT) (pc : PieceT) : Prop where
  ok : PsOk (ps ++ [pc])
  find : ∀ x : Int, under pc.2.1 x = true → ∃ pc', (ps ++ [pc]).find? (comes x) = some pc'
  past : ∀ q ∈ ps ++ [pc], ∀ m, q.2.1 = some m → m ≤ 2 ^ 138
theorem plOk {d : PyData} (h : isPlan d = true) {ps : List PieceT} {pc : PieceT} (e : piecesOf d = ps ++ [pc]) : PlOk ps pc := by
  obtain ⟨ds, _, e2, l1, l8, hpc, hno, hsum⟩ := plan_parts h
  rw [e2] at e
  have hall := List.all_eq_true.mp hpc
  have k1 : PsOk (pcs 0 ds) := ⟨by rw [pcs_len]; exact l8, fun q hq => by
    have z : ∀ (f : Int) (ds : List PyData), (∀ d ∈ ds, isPiece d = true) → ∀ q ∈ pcs f ds, ∃ d, isPiece d = true ∧ q.2.2 = turnsD d := fun f ds => by
      induction ds generalizing f with
      | nil => intro _ q hq; cases hq
      | cons d ds ih =>
        intro h q hq
        have hq' : q ∈ (f, pastO f (sndD d), turnsD d) :: pcs (f + worth (sndD d)) ds := hq
        rcases List.mem_cons.mp hq' with rfl | hq'
        · exact ⟨d, h d List.mem_cons_self, rfl⟩
        · exact ih _ (fun y hy => h y (List.mem_cons_of_mem _ hy)) q hq'
    obtain ⟨d', h1, h2⟩ := z 0 ds hall q hq
    obtain ⟨t1, t2⟩ := turns_ok h1
    rw [h2]
    exact ⟨t1, turns_hi h1, t2⟩⟩
  have k2 : ∀ x : Int, under pc.2.1 x = true → ∃ pc', (pcs 0 ds).find? (comes x) = some pc' := fun x hx => by
    obtain ⟨pp, h1, _⟩ := find_pcs x ds 0 hpc hno ps pc e hx
    exact ⟨pp, h1⟩
  have k3 : ∀ q ∈ pcs 0 ds, ∀ m, q.2.1 = some m → m ≤ 2 ^ 138 := fun q hq m em => by
    have := pcs_past 0 ds hpc q hq m em
    have h3 : sumSnd ds ≤ 1000000000000000000000000000000 := hsum
    omega
  rw [e] at k1 k2 k3
  exact ⟨k1, k2, k3⟩
theorem under_le {o : Option Int} {x y : Int} (h : under o y = true) (hxy : x ≤ y) : under o x = true := by
  cases o with
  | none => rfl
  | some m =>
    have : y < m := of_decide_eq_true h
    exact decide_eq_true (by omega)
def spLastIn : Sp := fun vs H Q _ => ∃ a ps pc, ∃ person : Int, vs = [.ref a, .int person] ∧ PcsAt H a (ps ++ [pc]) ∧ PlOk ps pc ∧ 0 ≤ person ∧ person < 2 ^ 138 ∧ under pc.2.1 person = true ∧ ∀ l H', Same H H' → Las (ps ++ [pc]) (pc.2.1.map (· - 1)) 0 person l → Q (optV l) H'
/-- a number that is not too far -/
def Near (c : PyData) : Prop := ∀ n : Int, c = .int n → n < 2 ^ 138
def spLastOf (P1 P2 C C2 : Addr) : Sp := fun vs H Q E => ∃ v u d c, vs = [v, u] ∧ Rp H v d ∧ Rp H u c ∧ Near c ∧ Tb P1 P2 H ∧ (isPlan d = false → ∀ H', Ex H H' → Tb P1 P2 H' → E (.ref C) none H') ∧
  (isPlan d = true → ∃ ps pc, piecesOf d = ps ++ [pc] ∧ (personOk pc.2.1 c = false → ∀ H', Ex H H' → Tb P1 P2 H' → E (.ref C2) none H') ∧ (personOk pc.2.1 c = true → ∀ n l H', c = .int n → Las (ps ++ [pc]) (pc.2.1.map (· - 1)) 0 n l → Ex H H' → Tb P1 P2 H' → Q (optV l) H'))
section
variable {P : Program} {w : World} {K : PySem.W.Frag} {mg : Str → Option Value} {base : Heap}
theorem ok_lastIn {f : Addr} {fd : FuncData} (F : Fun K "last_in" "last_in" sLastIn f fd) (CW : Cal P w K mg base 4 "windows_in" ["pieces", "person"] spWins) (CB : Cal P w K mg base 2 "outer_bound" ["pieces"] spBnd) : FnOk P w K mg base CX0 5 f fd ["pieces", "person"] spLastIn := by
  refine F.ok scLastIn (fun vs H Q E ⟨a, ps, pc, person, e, _⟩ => by rw [e]; rfl) (fun cdv A0 outer s H vs Q E hr h => ?_)
  obtain ⟨a, ps, pc, person, rfl, hp, hpl, h0, h1, hu, q⟩ := h
  have nd := scLastIn.nd
  refine ⟨_, (pss_cons (ps_set (i := 2) nd rfl (.inl rfl) (pe_cal (CW.mono (by decide)) hr (by rfl) (pa_cons (pv 0) (pa_cons (pv 1) pa_nil))))
    (pss_one (ps_ret (pe_ifExp (pt_truth (pv 2) (by intro _; rfl)) (pe_ix ix_tup (pe_ix ix_list (pv 2) (pe_un un_neg pe_int) (fun _ _ => rfl)) pe_int (fun _ _ => rfl)) (pe_cal (CB.mono (by decide)) hr (by rfl) (pa_cons (pv 0) pa_nil)))))), ?_⟩
  refine ⟨.ref a, rfl, .int person, rfl, a, ps, pc, person, rfl, hp, hpl.ok, h0, h1, fun x _ hx => hpl.find x (under_le hu hx), hpl.past, fun D ws S H1 s1 e1 hS hR _ => ?_⟩
  have hL := las_road hR
  refine ⟨.ref D, rfl, _, .inl ⟨ws, SqL.of e1, rfl⟩, ?_⟩
  have lS := hS.len
  rcases List.eq_nil_or_concat S with rfl | ⟨S', s, rfl⟩
  · have : ws = [] := List.length_eq_zero_iff.mp lS
    subst this
    obtain ⟨xs, hx1, hx2⟩ := hp.ex
    refine iteF ⟨.ref a, rfl, a, ps, pc, rfl, ⟨xs, s1 _ _ hx1, RpAll.sm s1 hx2⟩, q _ H1 s1 hL⟩
  · obtain ⟨bb, hbb, htb⟩ := hS.at_ S'.length s (by rw [List.concat_eq_append]; exact List.getElem?_concat_length)
    obtain ⟨vs2, v2, rfl⟩ : ∃ ws' v', ws = ws' ++ [v'] := by
      have : ws ≠ [] := fun z => by rw [z] at hbb; simp at hbb
      exact ⟨ws.dropLast, ws.getLast this, (List.dropLast_concat_getLast this).symm⟩
    have hl2 : vs2.length = S'.length := by simpa using lS
    obtain rfl : v2 = .ref bb := by
      rw [← hl2, List.getElem?_concat_length] at hbb
      exact Option.some.inj hbb
    rw [show (!(vs2 ++ [V.ref bb]).isEmpty) = true by simp]
    exact iteT ⟨.ref D, rfl, 1, rfl, D, _, -1, .ref bb, rfl, rfl, SqL.of e1, atI_last _ _, bb, _, 1, .int s.2, rfl, rfl, SqT.of htb, atI_nat (j := 1) rfl, q (some s.2) H1 s1 (by rw [List.concat_eq_append, lastB_add] at hL; exact hL)⟩
end
end CL
set_option Elab.async false
set_option linter.all false
set_option pp.maxSteps 400
set_option maxRecDepth 100000
set_option maxHeartbeats 4000000
namespace CL
open PySem PySem.Spec PyProof.Rows L2 GE
theorem PcsAt.sm {H H' : Hp} {a : Addr} {ps : List PieceT} (h : PcsAt H a ps) (s : Same H H') : PcsAt H' a ps := by
  obtain ⟨xs, h1, h2⟩ := h.ex
  exact ⟨xs, s _ _ h1, RpAll.sm s h2⟩
theorem person_int {o : Option Int} {c : PyData} (z : personOk o c = true) : ∃ n : Int, c = .int n ∧ 0 ≤ n ∧ under o n = true := by
  cases c with
  | int n =>
    rw [personOk_int, Bool.and_eq_true, decide_eq_true_eq] at z
    exact ⟨n, rfl, z.1, z.2⟩
  | _ => cases z
theorem moment_int {o : Option Int} {c : PyData} (z : momentOk o c = true) : ∃ n : Int, c = .int n ∧ 0 ≤ n ∧ n ≤ GREAT ∧ upto o n = true := by
  cases c with
  | int n =>
    rw [momentOk_int] at z
    simp only [Bool.and_eq_true, decide_eq_true_eq] at z
    exact ⟨n, rfl, z.1.1, z.1.2, z.2⟩
  | _ => cases z
/-- how many went past by then, by the last -/
def pastV (l : Option Int) (n m : Int) : Int := match l with
  | none => m - 1 - n
  | some k => (if m - 1 < k then m - 1 else k) - n
def spWent (P1 P2 C C2 C3 : Addr) : Sp := fun vs H Q E => ∃ v u y d c c', vs = [v, u, y] ∧ Rp H v d ∧ Rp H u c ∧ Rp H y c' ∧ Near c ∧ Tb P1 P2 H ∧ (isPlan d = false → ∀ H', Ex H H' → Tb P1 P2 H' → E (.ref C) none H') ∧
  (isPlan d = true → ∃ ps pc, piecesOf d = ps ++ [pc] ∧ (personOk pc.2.1 c = false → ∀ H', Ex H H' → Tb P1 P2 H' → E (.ref C2) none H') ∧ (personOk pc.2.1 c = true → (momentOk pc.2.1 c' = false → ∀ H', Ex H H' → Tb P1 P2 H' → E (.ref C3) none H') ∧
    (momentOk pc.2.1 c' = true → ∀ n m : Int, c = .int n → c' = .int m → (m ≤ n → ∀ H', Ex H H' → Tb P1 P2 H' → E (.ref C3) none H') ∧ (n < m → ∀ l H', Las (ps ++ [pc]) (pc.2.1.map (· - 1)) 0 n l → Ex H H' → Tb P1 P2 H' → Q (.int (pastV l n m)) H'))))
/-- who stands ahead, by the last of the older one -/
def whoV (l : Option Int) (older newer : Int) : Int := match l with
  | none => newer
  | some k => if k ≥ newer then newer else older
def spWho (P1 P2 C C2 C4 : Addr) : Sp := fun vs H Q E => ∃ v u y d c c', vs = [v, u, y] ∧ Rp H v d ∧ Rp H u c ∧ Rp H y c' ∧ Near c ∧ Near c' ∧ Tb P1 P2 H ∧ (isPlan d = false → ∀ H', Ex H H' → Tb P1 P2 H' → E (.ref C) none H') ∧
  (isPlan d = true → ∃ ps pc, piecesOf d = ps ++ [pc] ∧ (personOk pc.2.1 c = false → ∀ H', Ex H H' → Tb P1 P2 H' → E (.ref C2) none H') ∧ (personOk pc.2.1 c = true → (personOk pc.2.1 c' = false → ∀ H', Ex H H' → Tb P1 P2 H' → E (.ref C2) none H') ∧
    (personOk pc.2.1 c' = true → ∀ n m : Int, c = .int n → c' = .int m → (n = m → ∀ H', Ex H H' → Tb P1 P2 H' → E (.ref C4) none H') ∧ (n ≠ m → ∀ l H', Las (ps ++ [pc]) (pc.2.1.map (· - 1)) 0 (if m < n then m else n) l → Ex H H' → Tb P1 P2 H' → Q (.int (whoV l (if m < n then m else n) (if m > n then m else n))) H'))))
def spRunsTo (P1 P2 C C3 CR : Addr) : Sp := fun vs H Q E => ∃ v u d c, vs = [v, u] ∧ Rp H v d ∧ Rp H u c ∧ Tb P1 P2 H ∧ (isPlan d = false → ∀ H', Ex H H' → Tb P1 P2 H' → E (.ref C) none H') ∧
  (isPlan d = true → ∃ ps pc, piecesOf d = ps ++ [pc] ∧ (momentOk pc.2.1 c = false → ∀ H', Ex H H' → Tb P1 P2 H' → E (.ref C3) none H') ∧
    (momentOk pc.2.1 c = true → ∀ m : Int, c = .int m → ∀ D ws rs cc H', Ex H H' → Tb P1 P2 H' → H' D = some (.lst ws) → RunsAt CR D H' ws rs → rs.length ≤ 20440 → Lvl (ps ++ [pc]) (some (m - 1)) (m - 1) 0 rs cc → m - 1 < cc → Q (.ref D) H'))
/-- how many are left over on a level from s to before e -/
inductive Cnt (ps : List PieceT) (b : Option Int) : Int → Int → Int → Prop
  | here (x : Int) : Cnt ps b x x 0
  | on {s e w n : Int} : WP ps b s w → Cnt ps b (s + max w 1) e n → Cnt ps b s e ((if w = 0 then 1 else 0) + n)
theorem cnt_le {ps : List PieceT} {b : Option Int} {s e n : Int} (h : Cnt ps b s e n) : s ≤ e := by
  induction h with
  | here => omega
  | on _ _ ih => omega
theorem cnt_trans {ps : List PieceT} {b : Option Int} {s e n : Int} (h : Cnt ps b s e n) : ∀ {f k : Int}, Cnt ps b e f k → Cnt ps b s f (n + k) := by
  induction h with
  | here => intro f k h'; rw [Int.zero_add]; exact h'
  | on h1 _ ih => intro f k h'; rw [Int.add_assoc]; exact .on h1 (ih h')
theorem cnt_uniq {ps : List PieceT} {b : Option Int} {s e n : Int} (h : Cnt ps b s e n) : ∀ {n'}, Cnt ps b s e n' → n = n' := by
  induction h with
  | here =>
    intro n' h'
    cases h' with
    | here => rfl
    | on h1 h2 => have := cnt_le h2; omega
  | on h1 h2 ih =>
    intro n' h'
    cases h' with
    | here => have := cnt_le h2; omega
    | on h3 h4 => have e := wp_uniq h1 h3; subst e; rw [ih h4]
theorem spareR_cons (s : StepT) (S : List StepT) : (spareR (s :: S) : Int) = (if s.2 = 0 then 1 else 0) + (spareR S : Nat) := by
  unfold spareR
  rw [List.filter_cons]
  by_cases c : s.2 = 0
  · rw [if_pos (by simpa using c), if_pos c, List.length_cons]; omega
  · rw [if_neg (by simpa using c), if_neg c]; omega
theorem cnt_pth {ps : List PieceT} {b : Option Int} {stop : Int} : ∀ {S : List StepT} {a c : Int}, Pth (WS ps b stop) a S c → Cnt ps b a c (spareR S : Nat)
  | [], a, c, h => by
    obtain rfl : a = c := h
    exact .here _
  | s :: S, a, c, h => by
    have e : s.1 = a := h.1
    rw [spareR_cons]
    exact .on (e ▸ h.2.1.2) (cnt_pth h.2.2)
theorem spareR_shift (d : Int) : ∀ S : List StepT, spareR (shift d S) = spareR S
  | [] => rfl
  | s :: S => by
    have h := spareR_shift d S
    have e1 := spareR_cons s S
    have e2 := spareR_cons (s.1 + d, s.2) (shift d S)
    have e3 : shift d (s :: S) = (s.1 + d, s.2) :: shift d S := rfl
    rw [e3]
    have e4 : (if (s.1 + d, s.2).2 = 0 then (1 : Int) else 0) = if s.2 = 0 then 1 else 0 := rfl
    omega
theorem cnt_run {ps : List PieceT} {b : Option Int} {stop a : Int} {r : RunT} (h : RunOk ps b stop a r) : ∀ k : Nat, k ≤ r.times → Cnt ps b a (a + k * lenR r.steps) ((k : Int) * (spareR r.steps : Nat))
  | 0, _ => by
    rw [show ((0 : Nat) : Int) = 0 from rfl, Int.zero_mul, Int.zero_mul, Int.add_zero]
    exact .here _
  | k + 1, hk => by
    have h1 := cnt_run h k (by omega)
    have h2 := cnt_pth (h.path k (by omega))
    rw [spareR_shift] at h2
    have e : a + ((k + 1 : Nat) : Int) * lenR r.steps = a + ((k : Int) * lenR r.steps + lenR r.steps) := by
      rw [Int.natCast_add, Int.add_mul, show ((1 : Nat) : Int) = 1 from rfl, Int.one_mul]
    have e2 : ((k + 1 : Nat) : Int) * (spareR r.steps : Nat) = (k : Int) * (spareR r.steps : Nat) + (spareR r.steps : Nat) := by
      rw [Int.natCast_add, Int.add_mul, show ((1 : Nat) : Int) = 1 from rfl, Int.one_mul]
    rw [e, e2]
    exact cnt_trans h1 h2
theorem cnt_lvl {ps : List PieceT} {b : Option Int} {stop : Int} : ∀ {rs : List RunT} {a c : Int}, Lvl ps b stop a rs c → Cnt ps b a c (spT rs)
  | [], a, c, h => by
    obtain rfl : a = c := h
    exact .here _
  | r :: rs, a, c, h => by
    rw [spT_cons]
    exact cnt_trans (cnt_run h.1 r.times (Nat.le_refl _)) (cnt_lvl h.2)
/-- how many aren't safe -/
def Uns (ps : List PieceT) (m n : Int) : Prop := Cnt ps (some (m - 1)) 0 m n
/-- the one farthest back that has no patience left, or none -/
def Ref (ps : List PieceT) (m : Int) (o : Option Int) : Prop := (o = none ∧ ∀ x, 0 ≤ x → x < m → SpR ps (some (m - 1)) 0 x) ∨ ∃ who w, o = some who ∧ Rch ps (some (m - 1)) 0 who ∧ WP ps (some (m - 1)) who w ∧ 0 < w ∧ who + w ≤ m ∧ ∀ x, who + w ≤ x → x < m → SpR ps (some (m - 1)) 0 x
theorem uns_of {ps : List PieceT} {m cc : Int} {rs : List RunT} (hp : PsOk ps) (lv : Lvl ps (some (m - 1)) (m - 1) 0 rs cc) (h0 : 0 ≤ m) (hcc : m - 1 < cc) : Uns ps m (spT rs) := by
  have h1 := lvl_hi hp lv (by omega)
  have h2 := cnt_lvl lv
  obtain rfl : cc = m := by omega
  exact h2
def spUnsafe (P1 P2 C C3 : Addr) : Sp := fun vs H Q E => ∃ v u d c, vs = [v, u] ∧ Rp H v d ∧ Rp H u c ∧ Tb P1 P2 H ∧ (isPlan d = false → ∀ H', Ex H H' → Tb P1 P2 H' → E (.ref C) none H') ∧
  (isPlan d = true → ∃ ps pc, piecesOf d = ps ++ [pc] ∧ (momentOk pc.2.1 c = false → ∀ H', Ex H H' → Tb P1 P2 H' → E (.ref C3) none H') ∧ (momentOk pc.2.1 c = true → ∀ m n H', c = .int m → Uns (ps ++ [pc]) m n → Ex H H' → Tb P1 P2 H' → Q (.int n) H'))
def spRefuser (P1 P2 C C3 : Addr) : Sp := fun vs H Q E => ∃ v u d c, vs = [v, u] ∧ Rp H v d ∧ Rp H u c ∧ Tb P1 P2 H ∧ (isPlan d = false → ∀ H', Ex H H' → Tb P1 P2 H' → E (.ref C) none H') ∧
  (isPlan d = true → ∃ ps pc, piecesOf d = ps ++ [pc] ∧ (momentOk pc.2.1 c = false → ∀ H', Ex H H' → Tb P1 P2 H' → E (.ref C3) none H') ∧ (momentOk pc.2.1 c = true → ∀ m o H', c = .int m → Ref (ps ++ [pc]) m o → Ex H H' → Tb P1 P2 H' → Q (optV o) H'))
section
variable {P : Program} {w : World} {K : PySem.W.Frag} {mg : Str → Option Value} {base : Heap}
theorem ok_went {f P1 P2 C C2 C3 : Addr} {fd : FuncData} (F : Fun K "went_past" "went_past" sWent f fd) (hmin : mg "min" = none) (X3 : ExcC K mg "NoMoment" C3) (CP : CalX P w K mg base 9 "pieces_of" ["plan"] (spPieces P1 P2 C)) (CK : CalX P w K mg base 2 "check_person" ["pieces", "person"] (spCkP C2)) (CM : CalX P w K mg base 2 "check_moment" ["pieces", "moment"] (spCkM C3)) (CI : Cal P w K mg base 5 "last_in" ["pieces", "person"] spLastIn) :
    FnOk P w K mg base (L2.CX P w) 10 f fd ["plan", "person", "moment"] (spWent P1 P2 C C2 C3) := by
  refine F.okX scWent (fun vs H Q E ⟨v, u, y, d, c, c', e, _⟩ => by rw [e]; rfl) (fun cdv A outer s H vs Q E hr h => ?_)
  obtain ⟨v, u, y, d, c, c', rfl, hR, hU, hY, hn, hT, qE0, q⟩ := h
  have nd := scWent.nd
  refine ⟨_, (pss_cons (ps_set (i := 3) nd rfl (.inl rfl) (pe_calX (CP.mono (by decide)) hr (by rfl) (passes_call (takes_of rfl rfl rfl rfl) fun _ _ _ _ h => h) (pa_cons (pv 0) pa_nil)))
    (pss_cons (ps_expr (pe_calX (CK.mono (by decide)) hr (by rfl) (passes_call (takes_of rfl rfl rfl rfl) fun _ _ _ _ h => h) (pa_cons (pv 3) (pa_cons (pv 1) pa_nil))))
    (pss_cons (ps_expr (pe_calX (CM.mono (by decide)) hr (by rfl) (passes_call (takes_of rfl rfl rfl rfl) fun _ _ _ _ h => h) (pa_cons (pv 3) (pa_cons (pv 2) pa_nil))))
    (pss_cons (ps_if (pt_cmpR op_le (pv 2) (pv 1) (nomark _)) (pss_one (ps_raise rfl (takes_of rfl rfl rfl rfl) (pmk_own PySem.F.excBase_ValueError X3.x X3.g X3.k (raises_own X3.b X3.t) rfl))) pss_nil)
    (pss_cons (ps_set (i := 4) nd rfl (.inl rfl) (pe_cal (CI.mono (by decide)) hr (by rfl) (pa_cons (pv 3) (pa_cons (pv 1) pa_nil))))
    (pss_cons (ps_set (i := 5) nd rfl (.inl rfl) (pe_op op_sub (pv 2) pe_int))
    (pss_one (ps_ret (pe_ifExp (pt_cmp (pc_isN (pv 4))) (pe_op op_sub (pv 5) (pv 1)) (pe_op op_sub (pe_callB (call_min2 rfl) (by rfl) hmin (by decide +kernel) (pa_cons (pv 4) (pa_cons (pv 5) pa_nil))) (pv 1))))))))))), ?_⟩
  refine ⟨v, rfl, v, d, rfl, hR, hT, qE0, fun z0 p H1 e1 t1 _ rp => ?_⟩
  obtain ⟨ps, pc, hps, qE, q⟩ := q z0
  have hU1 := Rp.ex e1 c u hU
  have hY1 := Rp.ex e1 c' y hY
  have hpl := plOk z0 hps
  rw [hps] at rp
  obtain ⟨a, ea, h⟩ := PcsAt.of rp
  obtain rfl : p = a := V.ref.inj ea
  refine ⟨.ref p, rfl, u, rfl, p, u, ps, pc, c, rfl, h, hU1, fun z H2 s2 => qE z H2 (e1.trans (Ex.of s2)) (t1.same s2), fun z H2 s2 => ?_⟩
  obtain ⟨qE3, q⟩ := q z
  obtain ⟨n, rfl, n0, nu⟩ := person_int z
  cases hU1
  have e2 := e1.trans (Ex.of s2)
  have t2 := t1.same s2
  refine ⟨.ref p, rfl, y, rfl, p, y, ps, pc, c', rfl, h.sm s2, Rp.sm s2 hY1, fun z H3 s3 => qE3 z H3 (e2.trans (Ex.of s3)) (t2.same s3), fun z3 H3 s3 => ?_⟩
  have q := q z3
  obtain ⟨m, rfl, m0, m1, mu⟩ := moment_int z3
  cases hY1
  obtain ⟨qE4, q⟩ := q n m rfl rfl
  have e3 := e2.trans (Ex.of s3)
  have t3 := t2.same s3
  refine ⟨.int m, rfl, .int n, rfl, m, n, rfl, rfl, _, rfl, ite2 (fun cmp => qE4 (of_decide_eq_true cmp) H3 e3 t3) (fun cmp => ?_)⟩
  have hlt : n < m := by
    have : ¬ m ≤ n := fun z => cmp (decide_eq_true z)
    omega
  refine ⟨.ref p, rfl, .int n, rfl, p, ps, pc, n, rfl, (h.sm s2).sm s3, hpl, n0, hn n rfl, nu, fun l H4 s4 hL => ?_⟩
  have fin := q hlt l H4 hL (e3.trans (Ex.of s4)) (t3.same s4)
  refine ⟨.int m, rfl, m, 1, rfl, rfl, ?_⟩
  cases l with
  | none => exact ⟨.non, rfl, _, rfl, iteT ⟨.int (m - 1), rfl, .int n, rfl, m - 1, n, rfl, rfl, fin⟩⟩
  | some l => exact ⟨.int l, rfl, _, rfl, iteF ⟨.int l, rfl, .int (m - 1), rfl, l, m - 1, rfl, .int n, rfl, _, n, rfl, rfl, fin⟩⟩
end
end CL
set_option Elab.async false
set_option linter.all false
set_option pp.maxSteps 400
set_option maxRecDepth 100000
set_option maxHeartbeats 4000000
namespace CL
open PySem PySem.Spec PyProof.Rows L2 GE
/-- the window that a person opens, the last of those around it, or none -/
def WinV (H : Hp) (n : Int) (S : List StepT) (x : V) : Prop := (∃ b l, S.getLast? = some (n, l) ∧ x = .ref b ∧ H b = some (.tup [.int n, .int l])) ∨ ((∀ l, S.getLast? ≠ some (n, l)) ∧ x = .non)
def spWinOf (P1 P2 C C2 : Addr) : Sp := fun vs H Q E => ∃ v u d c, vs = [v, u] ∧ Rp H v d ∧ Rp H u c ∧ Near c ∧ Tb P1 P2 H ∧ (isPlan d = false → ∀ H', Ex H H' → Tb P1 P2 H' → E (.ref C) none H') ∧
  (isPlan d = true → ∃ ps pc, piecesOf d = ps ++ [pc] ∧ (personOk pc.2.1 c = false → ∀ H', Ex H H' → Tb P1 P2 H' → E (.ref C2) none H') ∧ (personOk pc.2.1 c = true → ∀ n S x H', c = .int n → Road (ps ++ [pc]) (pc.2.1.map (· - 1)) 0 n S → WinV H' n S x → Ex H H' → Tb P1 P2 H' → Q x H'))
def spWinAr (P1 P2 C C2 : Addr) : Sp := fun vs H Q E => ∃ v u d c, vs = [v, u] ∧ Rp H v d ∧ Rp H u c ∧ Near c ∧ Tb P1 P2 H ∧ (isPlan d = false → ∀ H', Ex H H' → Tb P1 P2 H' → E (.ref C) none H') ∧
  (isPlan d = true → ∃ ps pc, piecesOf d = ps ++ [pc] ∧ (personOk pc.2.1 c = false → ∀ H', Ex H H' → Tb P1 P2 H' → E (.ref C2) none H') ∧ (personOk pc.2.1 c = true → ∀ n D ws S H', c = .int n → Ex H H' → Tb P1 P2 H' → H' D = some (.lst ws) → StAt H' ws S → S.length ≤ 64 → Road (ps ++ [pc]) (pc.2.1.map (· - 1)) 0 n S → Q (.ref D) H'))
section
variable {P : Program} {w : World} {K : PySem.W.Frag} {mg : Str → Option Value} {base : Heap}
end
end CL
set_option Elab.async false
set_option linter.all false
set_option pp.maxSteps 400
set_option maxRecDepth 100000
set_option maxHeartbeats 4000000
namespace CL
open PySem PySem.Spec PyProof.Rows L2 GE
/-! ### who stands where, of those from s on up to the bound -/
inductive At (ps : List PieceT) : Int → Int → Int → Int → Prop
  | spare {bd x : Int} : WP ps (some bd) x 0 → At ps bd x x (bd - x)
  | own {bd x w : Int} : WP ps (some bd) x w → 0 < w → At ps bd x x (w - 1)
  | inn {bd s x w p : Int} : WP ps (some bd) s w → s < x → x < s + w → At ps (s + w - 1) (s + 1) x p → At ps bd s x p
  | skip {bd s x w p : Int} : WP ps (some bd) s w → s + max w 1 ≤ x → At ps bd (s + max w 1) x p → At ps bd s x (w + p)
theorem at_ge {ps : List PieceT} {bd s x p : Int} (h : At ps bd s x p) : s ≤ x := by
  induction h with
  | spare => omega
  | own => omega
  | inn => omega
  | skip => omega
/-- each place is one of as many as there are people -/
theorem at_in {ps : List PieceT} (hp : PsOk ps) {bd s x p : Int} (h : At ps bd s x p) : x ≤ bd → 0 ≤ p ∧ p ≤ bd - s := by
  induction h with
  | spare h => intro hx; omega
  | own h h0 =>
    intro hx
    obtain ⟨q, _, h2, h3⟩ := wp_pos h h0
    have := h3 _ rfl
    omega
  | inn h h1 h2 _ ih =>
    intro hx
    obtain ⟨q, _, h3, h4⟩ := wp_pos h (by omega)
    have := h4 _ rfl
    have := ih (by omega)
    omega
  | skip h h1 _ ih =>
    intro hx
    have := wp_nn hp h
    have := ih hx
    omega
theorem at_uniq {ps : List PieceT} {bd s x p : Int} (h : At ps bd s x p) : ∀ {p'}, At ps bd s x p' → p = p' := by
  induction h with
  | spare h =>
    intro p' h'
    cases h' with
    | spare _ => rfl
    | own k k0 => have := wp_uniq h k; omega
    | inn k k1 => omega
    | skip k k1 => omega
  | own h h0 =>
    intro p' h'
    cases h' with
    | spare k => have := wp_uniq h k; omega
    | own k k0 => rw [wp_uniq h k]
    | inn k k1 => omega
    | skip k k1 => omega
  | inn h h1 h2 _ ih =>
    intro p' h'
    cases h' with
    | spare k => omega
    | own k k0 => omega
    | inn k k1 k2 k3 => have e := wp_uniq h k; subst e; exact ih k3
    | skip k k1 => have e := wp_uniq h k; subst e; omega
  | skip h h1 _ ih =>
    intro p' h'
    cases h' with
    | spare k => omega
    | own k k0 => omega
    | inn k k1 k2 => have e := wp_uniq h k; subst e; omega
    | skip k k1 k2 => have e := wp_uniq h k; subst e; rw [ih k2]
/-- nobody shares a place -/
theorem at_one {ps : List PieceT} (hp : PsOk ps) {bd s x p : Int} (h : At ps bd s x p) : ∀ {x' p' : Int}, x ≤ bd → x' ≤ bd → p = p' → At ps bd s x' p' → x = x' := by
  induction h with
  | spare h =>
    intro x' p' hx hx' e h'
    cases h' with
    | spare _ => rfl
    | own k k0 => rfl
    | inn k k1 k2 => have := wp_uniq h k; omega
    | skip k k1 k2 =>
      have := wp_uniq h k
      have := at_in hp k2 hx'
      omega
  | own h h0 =>
    intro x' p' hx hx' e h'
    cases h' with
    | spare k => rfl
    | own k k0 => rfl
    | inn k k1 k2 k3 =>
      have := wp_uniq h k
      have := at_in hp k3 (by omega)
      omega
    | skip k k1 k2 =>
      have := wp_uniq h k
      have := at_in hp k2 hx'
      omega
  | inn h h1 h2 h3 ih =>
    intro x' p' hx hx' e h'
    have hr := at_in hp h3 (by omega)
    cases h' with
    | spare k => have := wp_uniq h k; omega
    | own k k0 => have := wp_uniq h k; omega
    | inn k k1 k2 k3 => have e2 := wp_uniq h k; subst e2; exact ih (by omega) (by omega) e k3
    | skip k k1 k2 =>
      have e2 := wp_uniq h k
      subst e2
      have := at_in hp k2 hx'
      omega
  | skip h h1 h3 ih =>
    intro x' p' hx hx' e h'
    have hr := at_in hp h3 hx
    cases h' with
    | spare k => have := wp_uniq h k; omega
    | own k k0 => have := wp_uniq h k; omega
    | inn k k1 k2 k3 =>
      have e2 := wp_uniq h k
      subst e2
      have := at_in hp k3 (by omega)
      omega
    | skip k k1 k2 => have e2 := wp_uniq h k; subst e2; exact ih hx hx' (by omega) k2
theorem cnt_rch {ps : List PieceT} {b : Option Int} {s e n : Int} (h : Cnt ps b s e n) : Rch ps b s e := by
  induction h with
  | here => exact .here _
  | on h1 _ ih => exact .on h1 ih
theorem rch_cnt {ps : List PieceT} {b : Option Int} {s e : Int} (h : Rch ps b s e) : ∃ n, Cnt ps b s e n := by
  induction h with
  | here => exact ⟨0, .here _⟩
  | on h1 _ ih =>
    obtain ⟨n, hn⟩ := ih
    exact ⟨_, .on h1 hn⟩
/-- behind those ahead on the level -/
theorem at_of {ps : List PieceT} (hp : PsOk ps) {bd s e n : Int} {b : Option Int} (h : Cnt ps b s e n) : b = some bd → ∀ {x p : Int}, At ps bd e x p → At ps bd s x (e - s - n + p) := by
  induction h with
  | here => intro hb x p h'; rw [show ∀ y : Int, y - y - 0 + p = p by intro y; omega]; exact h'
  | @on s e w n h1 h2 ih =>
    intro hb x p h'
    subst hb
    have w0 := wp_nn hp h1
    have h3 := ih rfl h'
    have h4 := At.skip h1 (at_ge h3) h3
    have e2 : w + (e - (s + max w 1) - n + p) = e - s - ((if w = 0 then 1 else 0) + n) + p := by split <;> omega
    rw [e2] at h4
    exact h4
/-- of the people up to the last step of a level -/
theorem cnt_last {ps : List PieceT} {b : Option Int} {s x w c k : Int} (h : Cnt ps b s c k) (hR : Rch ps b s x) (hw : WP ps b x w) (hc : x + max w 1 = c) : ∃ n, Cnt ps b s x n ∧ k = n + (if w = 0 then 1 else 0) := by
  obtain ⟨n, hn⟩ := rch_cnt hR
  refine ⟨n, hn, ?_⟩
  have h1 : Cnt ps b x c ((if w = 0 then 1 else 0) + 0) := .on hw (by rw [hc]; exact .here _)
  have := cnt_uniq h (cnt_trans hn h1)
  omega
end CL
set_option Elab.async false
set_option linter.all false
set_option pp.maxSteps 400
set_option maxRecDepth 100000
set_option maxHeartbeats 4000000
namespace CL
open PySem PySem.Spec PyProof.Rows L2 GE
abbrev sPlaceOf : Stmt := topS 51
theorem scPlaceOf : FnScope ["plan", "moment", "person", "pieces", "place", "start", "bound", "runs", "here", "width", "spare"] ["plan", "moment", "person"] (defScope sPlaceOf) := ⟨rfl, rfl, rfl, by decide +kernel, rfl, by decide +kernel, by decide +kernel⟩
/-- whether it is a number from 0 on, below m -/
def stOk (m : Int) : PyData → Bool
  | .int n => decide (0 ≤ n) && decide (n < m)
  | _ => false
theorem stOk_int {m : Int} {c : PyData} (h : stOk m c = true) : ∃ n : Int, c = .int n ∧ 0 ≤ n ∧ n < m := by
  cases c with
  | int n =>
    have h : (decide (0 ≤ n) && decide (n < m)) = true := h
    simp only [Bool.and_eq_true, decide_eq_true_eq] at h
    exact ⟨n, rfl, h.1, h.2⟩
  | _ => cases h
def spPlaceOf (P1 P2 C C3 CX : Addr) : Sp := fun vs H Q E => ∃ v u y d c c', vs = [v, u, y] ∧ Rp H v d ∧ Rp H u c ∧ Rp H y c' ∧ Tb P1 P2 H ∧ (isPlan d = false → ∀ H', Ex H H' → Tb P1 P2 H' → E (.ref C) none H') ∧
  (isPlan d = true → ∃ ps pc, piecesOf d = ps ++ [pc] ∧ (momentOk pc.2.1 c = false → ∀ H', Ex H H' → Tb P1 P2 H' → E (.ref C3) none H') ∧ (momentOk pc.2.1 c = true → ∀ m : Int, c = .int m →
    (stOk m c' = false → ∀ H', Ex H H' → Tb P1 P2 H' → E (.ref CX) none H') ∧ (stOk m c' = true → ∀ n x H', c' = .int n → At (ps ++ [pc]) (m - 1) 0 n x → Ex H H' → Tb P1 P2 H' → Q (.int x) H')))
def spPersonAt (P1 P2 C C3 CX : Addr) : Sp := fun vs H Q E => ∃ v u y d c c', vs = [v, u, y] ∧ Rp H v d ∧ Rp H u c ∧ Rp H y c' ∧ Tb P1 P2 H ∧ (isPlan d = false → ∀ H', Ex H H' → Tb P1 P2 H' → E (.ref C) none H') ∧
  (isPlan d = true → ∃ ps pc, piecesOf d = ps ++ [pc] ∧ (momentOk pc.2.1 c = false → ∀ H', Ex H H' → Tb P1 P2 H' → E (.ref C3) none H') ∧ (momentOk pc.2.1 c = true → ∀ m : Int, c = .int m →
    (stOk m c' = false → ∀ H', Ex H H' → Tb P1 P2 H' → E (.ref CX) none H') ∧ (stOk m c' = true → ∀ n x H', c' = .int n → At (ps ++ [pc]) (m - 1) 0 x n → 0 ≤ x → x < m → Ex H H' → Tb P1 P2 H' → Q (.int x) H')))
theorem RunsAt.sm {C D : Addr} {H H' : Hp} {vs : List V} {rs : List RunT} {ws : List V} (h : RunsAt C D H vs rs) (hD : H D = some (.lst ws)) (s : Same H H') : RunsAt C D H' vs rs := h.kd hD fun b o _ e => s b o e
theorem PcsAt.sm' {H H' : Hp} {a : Addr} {ps : List PieceT} (hp : PcsAt H a ps) (s : Same H H') : PcsAt H' a ps := by
  obtain ⟨xs, h1, h2⟩ := hp.ex
  exact ⟨xs, s _ _ h1, RpAll.sm s h2⟩
/-- behind the last step of a level -/
theorem place_next {ps : List PieceT} (hp : PsOk ps) {bd st n x w c ns pl m : Int} (hns : Cnt ps (some bd) st x ns) (hw : WP ps (some bd) x w) (hx : x ≤ n) (hxc : x + max w 1 = c) (hc : n < c) (hA : ∀ p, At ps bd st n p → At ps (m - 1) 0 n (pl + p)) :
    (w = 0 → At ps (m - 1) 0 n (pl + bd - st - ns)) ∧ (0 < w → ((x + 1 ≤ n ∧ ∀ p, At ps (x + w - 1) (x + 1) n p → At ps (m - 1) 0 n (pl + (x - st - ns) + p)) ∨ (n < x + 1 ∧ At ps (m - 1) 0 n (pl + (x - st - ns) + (x + w - 1) - n)))) := by
  refine ⟨fun h0 => ?_, fun h0 => ?_⟩
  · subst h0
    obtain rfl : x = n := by omega
    have h1 := hA _ (at_of hp hns rfl (.spare hw))
    rw [show pl + bd - st - ns = pl + (x - st - ns + (bd - x)) by omega]
    exact h1
  · by_cases cx : x + 1 ≤ n
    · refine .inl ⟨cx, fun p h => ?_⟩
      have h1 := hA _ (at_of hp hns rfl (.inn hw (by omega) (by omega) h))
      rw [show pl + (x - st - ns) + p = pl + (x - st - ns + p) by omega]
      exact h1
    · obtain rfl : x = n := by omega
      refine .inr ⟨by omega, ?_⟩
      have h1 := hA _ (at_of hp hns rfl (.own hw h0))
      rw [show pl + (x - st - ns) + (x + w - 1) - x = pl + (x - st - ns + (w - 1)) by omega]
      exact h1
section
variable {P : Program} {w : World} {K : PySem.W.Frag} {mg : Str → Option Value} {base : Heap}
theorem ok_placeOf {f P1 P2 C C3 CX CR : Addr} {fd : FuncData} (F : Fun K "place_of" "place_of" sPlaceOf f fd) (XX : ExcC K mg "NoPerson" CX) (CW : Cal P w K mg base 1 "is_whole" ["thing"] (spOne isWhole)) (CP : CalX P w K mg base 9 "pieces_of" ["plan"] (spPieces P1 P2 C)) (CM : CalX P w K mg base 2 "check_moment" ["pieces", "moment"] (spCkM C3))
    (CRn : Cal P w K mg base 3 "runs_on" ["pieces", "start", "bound", "stop"] (spRuns CR)) (CL : Cal P w K mg base 1 "last_step" ["runs"] (spLast CR)) (CS : Cal P w K mg base 1 "spare_on" ["runs"] (spSpareOn CR)) :
    FnOk P w K mg base (L2.CX P w) 10 f fd ["plan", "moment", "person"] (spPlaceOf P1 P2 C C3 CX) := by
  refine F.okX scPlaceOf (fun vs H Q E ⟨v, u, y, d, c, c', e, _⟩ => by rw [e]; rfl) (fun cdv A outer s H vs Q E hr h => ?_)
  obtain ⟨v, u, y, d, c, c', rfl, hR, hU, hY, hT, qE0, q⟩ := h
  have nd := scPlaceOf.nd
  have hG : GREAT = 1000000000000000000000000000000 := rfl
  refine ⟨_, (pss_cons (ps_set (i := 3) nd rfl (.inl rfl) (pe_calX (CP.mono (by decide)) hr (by rfl) (passes_call (takes_of rfl rfl rfl rfl) fun _ _ _ _ h => h) (pa_cons (pv 0) pa_nil)))
    (pss_cons (ps_expr (pe_calX (CM.mono (by decide)) hr (by rfl) (passes_call (takes_of rfl rfl rfl rfl) fun _ _ _ _ h => h) (pa_cons (pv 3) (pa_cons (pv 1) pa_nil))))
    (pss_cons (ps_if (PW.pt (pw_or (pt_not (pt_val (pe_cal (CW.mono (by decide)) hr (by rfl) (pa_cons (pv 2) pa_nil)))) (pw_or1 (pt_not (pt_chain op_le op_lt pe_int (pv 2) (pv 1)))))) (pss_one (ps_raise rfl (takes_of rfl rfl rfl rfl) (pmk_own PySem.F.excBase_ValueError XX.x XX.g XX.k (raises_own XX.b XX.t) rfl))) pss_nil) (PSs.nox (pss_cons (ps_set (i := 4) nd rfl (.inl rfl) pe_int)
    (pss_cons (ps_set (i := 5) nd rfl (.inl rfl) pe_int)
    (pss_cons (ps_set (i := 6) nd rfl (.inl rfl) (pe_op op_sub (pv 1) pe_int))
    (pss_cons (ps_while PassesOwn.never (pt_cmpR op_le (pv 5) (pv 2) (nomark _)) (pss_cons (ps_set (i := 7) nd rfl (.inl rfl) (pe_cal (CRn.mono (by decide)) hr (by rfl) (pa_cons (pv 3) (pa_cons (pv 5) (pa_cons (pv 6) (pa_cons (pv 2) pa_nil))))))
    (pss_cons (ps_asg (pe_cal (CL.mono (by decide)) hr (by rfl) (pa_cons (pv 7) pa_nil)) (pg_tup rfl (pgs_cons (pg_name (i := 8) nd rfl (.inl rfl)) (pgs_cons (pg_name (i := 9) nd rfl (.inl rfl)) pgs_nil))))
    (pss_cons (ps_set (i := 10) nd rfl (.inl rfl) (pe_cal (CS.mono (by decide)) hr (by rfl) (pa_cons (pv 7) pa_nil)))
    (pss_cons (ps_if (pt_cmpR op_eq (pv 9) pe_int (nomark _)) (pss_one (ps_ret (pe_op op_sub (pe_op op_sub (pe_op op_add (pv 4) (pv 6)) (pv 5)) (pe_op op_sub (pv 10) pe_int)))) pss_nil)
    (pss_cons (ps_aug (i := 4) nd rfl (.inl rfl) (pe_op op_sub (pe_op op_sub (pv 8) (pv 5)) (pv 10)) iop_add)
    (pss_cons (ps_set (i := 5) nd rfl (.inl rfl) (pe_op op_add (pv 8) pe_int))
    (pss_one (ps_set (i := 6) nd rfl (.inl rfl) (pe_op op_sub (pe_op op_add (pv 8) (pv 9)) pe_int))))))))))
    (pss_one (ps_ret (pe_op op_sub (pe_op op_add (pv 4) (pv 6)) (pv 2)))))))))))), ?_⟩
  refine ⟨v, rfl, v, d, rfl, hR, hT, qE0, fun z0 p H1 e1 t1 _ rp => ?_⟩
  obtain ⟨ps, pc, hps, qE, q⟩ := q z0
  have hU1 := Rp.ex e1 c u hU
  have hY1 := Rp.ex e1 c' y hY
  have hpl := plOk z0 hps
  rw [hps] at rp
  obtain ⟨a, ea, h⟩ := PcsAt.of rp
  obtain rfl : p = a := V.ref.inj ea
  refine ⟨.ref p, rfl, u, rfl, p, u, ps, pc, c, rfl, h, hU1, fun z H2 s2 => qE z H2 (e1.trans (Ex.of s2)) (t1.same s2), fun z H2 s2 => ?_⟩
  have q := q z
  obtain ⟨m, rfl, m0, m1, mu⟩ := moment_int z
  cases hU1
  obtain ⟨qE3, q⟩ := q m rfl
  have e2 := e1.trans (Ex.of s2)
  have t2 := t1.same s2
  have hund : ∀ x : Int, x ≤ m - 1 → under pc.2.1 x = true := fun x hx => by
    cases e : pc.2.1 with
    | none => rfl
    | some k =>
      rw [e] at mu
      have : m ≤ k := of_decide_eq_true mu
      exact decide_eq_true (by omega)
  refine ⟨y, rfl, y, c', rfl, Rp.sm s2 hY1, fun H3 s3 => ⟨isWhole c', rfl, ?_⟩⟩
  have e3 := e2.trans (Ex.of s3)
  have t3 := t2.same s3
  have bad : stOk m c' = false → E (.ref CX) none H3 := fun z => qE3 z H3 e3 t3
  cases hY1 with
  | int n =>
    refine iteF ⟨.int n, rfl, 0, n, rfl, rfl, decide ((0 : Int) ≤ n), rfl, ?_⟩
    by_cases n0 : (0 : Int) ≤ n
    · rw [decide_eq_true n0]
      refine iteT ⟨.int m, rfl, n, m, rfl, rfl, decide (n < m), rfl, ?_⟩
      by_cases n1 : n < m
      · rw [decide_eq_true n1]
        refine iteF ?_
        have hst : stOk m (.int n) = true := by show (decide (0 ≤ n) && decide (n < m)) = true; rw [decide_eq_true n0, decide_eq_true n1]; rfl
        have fin : ∀ x H4, At (ps ++ [pc]) (m - 1) 0 n x → Same H3 H4 → Q (.int x) H4 := fun x H4 ha s4 => q hst n x H4 rfl ha (e3.trans (Ex.of s4)) (t3.same s4)
        have h3 := (h.sm' s2).sm' s3
        refine ⟨.int m, rfl, m, 1, rfl, rfl, ?_⟩
        refine ⟨fun k σ H4 => ∃ pl st bd : Int, ∃ y7 y8 y9 y10, σ = [some v, some (.int m), some (.int n), some (.ref p), some (.int pl), some (.int st), some (.int bd), y7, y8, y9, y10] ∧ Same H3 H4 ∧ 0 ≤ st ∧ bd < 2 ^ 139 ∧ ((st ≤ n ∧ ∀ p, At (ps ++ [pc]) bd st n p → At (ps ++ [pc]) (m - 1) 0 n (pl + p)) ∨ (n < st ∧ At (ps ++ [pc]) (m - 1) 0 n (pl + bd - n))) ∧ k = (n + 1 - st).toNat,
          ⟨_, 0, 0, m - 1, none, none, none, none, rfl, Same.refl H3, Int.le_refl 0, by omega, .inl ⟨n0, fun p h => by rw [Int.zero_add]; exact h⟩, rfl⟩, fun k σ H4 ⟨pl, st, bd, y7, y8, y9, y10, eσ, s4, hst0, hbd, hA, hk⟩ => ?_⟩
        subst eσ
        refine ⟨.int st, rfl, .int n, rfl, st, n, rfl, rfl, _, rfl, ?_⟩
        by_cases cx : st ≤ n
        · rw [decide_eq_true cx]
          refine iteT ⟨fun σ' H' => ∃ m', m' < k ∧ ∃ pl st bd : Int, ∃ y7 y8 y9 y10, σ' = [some v, some (.int m), some (.int n), some (.ref p), some (.int pl), some (.int st), some (.int bd), y7, y8, y9, y10] ∧ Same H3 H' ∧ 0 ≤ st ∧ bd < 2 ^ 139 ∧ ((st ≤ n ∧ ∀ p, At (ps ++ [pc]) bd st n p → At (ps ++ [pc]) (m - 1) 0 n (pl + p)) ∨ (n < st ∧ At (ps ++ [pc]) (m - 1) 0 n (pl + bd - n))) ∧ m' = (n + 1 - st).toNat, fun σ' H' ⟨m', h1, h2⟩ => ⟨m', h1, h2⟩, ?_⟩
          refine ⟨.ref p, rfl, .int st, rfl, .int bd, rfl, .int n, rfl, p, ps ++ [pc], st, n, some bd, rfl, h3.sm' s4, hpl.ok, hst0, fun x h1 h2 => hpl.find x (hund x (by omega)), breaks_lt hpl.ok hpl.past (by omega) (fun k e => by cases e; exact hbd), fun D ws rs cc H5 s5 n5 e5 ra lv hc hlr hrn => ?_⟩
          refine ⟨.ref D, rfl, D, ws, ps ++ [pc], some bd, st, n, cc, rs, rfl, e5, ra, fun z => by have := hrn z; omega, lv, hpl.ok, hst0, by omega, fun x w p2 H6 s6 e6 hRc hx hws hxc => ?_⟩
          refine ⟨p2, _, rfl, SqT.of e6, rfl, .int x, _, rfl, .int w, _, rfl, rfl, ?_⟩
          have e6D := s6 _ _ e5
          refine ⟨.ref D, rfl, D, ws, ps ++ [pc], some bd, st, n, cc, rs, rfl, e6D, ra.sm e5 s6, hlr, lv, hpl.ok, hst0, by omega, fun H7 s7 => ?_⟩
          have s37 := s4.trans (s5.trans (s6.trans s7))
          obtain ⟨ns, hns, hsp⟩ := cnt_last (cnt_lvl lv) hRc hws.2 hxc
          have hspT : (rs.map fun r => (r.times : Int) * (spareR r.steps : Nat)).sum = spT rs := rfl
          rw [hspT]
          generalize spT rs = sp at hsp
          have hxn := hws.1
          have hAt : ∀ p, At (ps ++ [pc]) bd st n p → At (ps ++ [pc]) (m - 1) 0 n (pl + p) := by
            rcases hA with ⟨_, h⟩ | ⟨h, _⟩
            · exact h
            · omega
          have hnx := place_next (pl := pl) hpl.ok hns hws.2 hxn hxc hc hAt
          obtain ⟨w0, w1, w2⟩ := wp_le hpl.ok hws.2
          refine ⟨.int w, rfl, rfl, _, rfl, ite2 (fun e => ?_) (fun e => ?_)⟩
          · have hw0 : w = 0 := by
              have := of_decide_eq_true e
              first | exact this | exact V.int.inj this
            have hfin := hnx.1 hw0
            rw [hw0, if_pos rfl] at hsp
            have esp : sp - 1 = ns := by omega
            rw [← esp] at hfin
            exact ⟨.int pl, rfl, .int bd, rfl, pl, bd, rfl, rfl, .int st, rfl, pl + bd, st, rfl, rfl, .int sp, rfl, sp, 1, rfl, rfl, pl + bd - st, sp - 1, rfl, rfl, fin _ H7 hfin s37⟩
          · have hw0 : w ≠ 0 := fun z => e (decide_eq_true (by rw [z]))
            obtain ⟨pc1, p1, hm1, hp1', hw1, hp10, hp11, hfit⟩ := w2 hw0
            have hf := hfit bd rfl
            have hnx2 := hnx.2 (by omega)
            rw [if_neg hw0] at hsp
            have esp : sp = ns := by omega
            rw [← esp] at hnx2
            refine ⟨.int pl, rfl, .int x, rfl, .int st, rfl, x, st, rfl, rfl, .int sp, rfl, x - st, sp, rfl, rfl, pl, x - st - sp, rfl, rfl, ?_⟩
            refine ⟨.int x, rfl, x, 1, rfl, rfl, .int x, rfl, .int w, rfl, x, w, rfl, rfl, x + w, 1, rfl, rfl, ?_⟩
            exact ⟨(n + 1 - (x + 1)).toNat, meas_lt hk hx cx, pl + (x - st - sp), x + 1, x + w - 1, _, _, _, _, rfl, s37, nn_of hst0 hx, by omega, hnx2, rfl⟩
        · rw [decide_eq_false cx]
          refine iteF ⟨.int pl, rfl, .int bd, rfl, pl, bd, rfl, rfl, .int n, rfl, pl + bd, n, rfl, rfl, fin _ H4 ?_ s4⟩
          rcases hA with ⟨h, _⟩ | ⟨_, h⟩
          · exact absurd h cx
          · exact h
      · rw [decide_eq_false n1]
        exact iteT (bad (by show (decide (0 ≤ n) && decide (n < m)) = false; rw [decide_eq_false n1, Bool.and_false]))
    · rw [decide_eq_false n0]
      exact iteF ⟨false, rfl, iteT (bad (by show (decide (0 ≤ n) && decide (n < m)) = false; rw [decide_eq_false n0, Bool.false_and]))⟩
  | _ => exact iteT (bad rfl)
end
end CL
set_option Elab.async false
set_option linter.all false
set_option pp.maxSteps 400
set_option maxRecDepth 100000
set_option maxHeartbeats 4000000
namespace CL
open PySem PySem.Spec PyProof.Rows L2 GE
abbrev sSpareAt : Stmt := topS 53
abbrev nSpareAt : List Str := ["runs", "number", "at", "gone", "spare", "person", "width"]
theorem scSpareAt : FnScope nSpareAt ["runs", "number"] (defScope sSpareAt) := ⟨rfl, rfl, rfl, by decide +kernel, rfl, by decide +kernel, by decide +kernel⟩
abbrev sWinAt : Stmt := topS 54
abbrev nWinAt : List Str := ["runs", "place", "at", "gone", "step", "opener"]
theorem scWinAt : FnScope nWinAt ["runs", "place"] (defScope sWinAt) := ⟨rfl, rfl, rfl, by decide +kernel, rfl, by decide +kernel, by decide +kernel⟩
def wnT (rs : List RunT) : Int := (rs.map fun r => (r.times : Int) * (lenR r.steps - (spareR r.steps : Nat))).sum
theorem wnT_cons (r : RunT) (rs : List RunT) : wnT (r :: rs) = (r.times : Int) * (lenR r.steps - (spareR r.steps : Nat)) + wnT rs := by unfold wnT; rw [List.map_cons, List.sum_cons]
/-- how many there are on a level, all together -/
theorem lvl_sum {ps : List PieceT} {b : Option Int} {stop : Int} : ∀ {rs : List RunT} {a c : Int}, Lvl ps b stop a rs c → spT rs + wnT rs = c - a
  | [], a, c, h => by
    obtain rfl : a = c := h
    show (0 : Int) + 0 = a - a
    omega
  | r :: rs, a, c, h => by
    have ih := lvl_sum h.2
    rw [spT_cons, wnT_cons, Int.mul_sub]
    omega
theorem run_step {ps : List PieceT} {b : Option Int} {stop a : Int} {r : RunT} (h : RunOk ps b stop a r) {s : StepT} (hs : s ∈ r.steps) {k : Nat} (hk : k < r.times) : a + k * lenR r.steps ≤ s.1 + k * lenR r.steps ∧ WS ps b stop (s.1 + k * lenR r.steps) s.2 := by
  have := (h.path k hk).le.2 (s.1 + k * lenR r.steps, s.2) (List.mem_map.mpr ⟨s, hs, rfl⟩)
  exact ⟨this.1, this.2.2⟩
theorem run_wid2 {ps : List PieceT} {b : Option Int} {stop a : Int} {r : RunT} (hp : PsOk ps) (h : RunOk ps b stop a r) : ∀ s ∈ r.steps, 0 ≤ s.2 ∧ s.2 ≤ GREAT + 1 := fun s hs => by
  have := wp_le hp (run_step h hs (k := 0) h.times).2.2
  exact ⟨this.1, this.2.1⟩
theorem div_ok {i j : Int} (h0 : 0 ≤ i) (hi : i < 2 ^ 1000) (hj : 0 < j) : CDivP i j := divp_ok hj (by
  have := PyProof.Rows.intBits_le (k := 1000) (a := i) (by omega)
  omega)
theorem filt_at {S : List StepT} {k : Nat} (h : k < spareR S) : ∃ a, ((S.filter fun s => decide (s.2 = 0)).map (·.1)).map V.int = ((S.filter fun s => decide (s.2 = 0)).map (·.1)).map V.int ∧ (((S.filter fun s => decide (s.2 = 0)).map (·.1)).map V.int)[k]? = some (.int a) := by
  unfold spareR at h
  refine ⟨((S.filter fun s => decide (s.2 = 0)).map (·.1))[k]'(by rw [List.length_map]; exact h), rfl, ?_⟩
  rw [List.getElem?_map, List.getElem?_eq_getElem (by rw [List.length_map]; exact h)]
  rfl
theorem widths_sum {S : List StepT} (h : ∀ s ∈ S, 0 ≤ s.2) : (S.map (·.2)).sum = lenR S - (spareR S : Nat) := by
  have := lenR_sum S h
  omega
theorem take_split {α : Type} {xs : List α} {i : Nat} {x : α} (h : xs[i]? = some x) : xs = xs.take i ++ x :: xs.drop (i + 1) := by
  conv => lhs; rw [← List.take_append_drop i xs]
  obtain ⟨hl, e⟩ := List.getElem?_eq_some_iff.mp h
  rw [List.drop_eq_getElem_cons hl, e]
theorem spT_take {rs : List RunT} {i : Nat} {r : RunT} (h : rs[i]? = some r) : spT (rs.take (i + 1)) = spT (rs.take i) + (r.times : Int) * (spareR r.steps : Nat) := by
  rw [List.take_add_one, h]
  unfold spT
  rw [List.map_append, List.sum_append]
  simp
theorem wnT_take {rs : List RunT} {i : Nat} {r : RunT} (h : rs[i]? = some r) : wnT (rs.take (i + 1)) = wnT (rs.take i) + (r.times : Int) * (lenR r.steps - (spareR r.steps : Nat)) := by
  rw [List.take_add_one, h]
  unfold wnT
  rw [List.map_append, List.sum_append]
  simp
theorem lenR_shift (d : Int) : ∀ S : List StepT, lenR (shift d S) = lenR S
  | [] => rfl
  | s :: S => by
    have h := lenR_shift d S
    have e3 : shift d (s :: S) = (s.1 + d, s.2) :: shift d S := rfl
    rw [e3, lenR_cons, lenR_cons, h]
/-- a step of a level, with those ahead of it -/
theorem lvl_at {ps : List PieceT} {b : Option Int} {stop start c : Int} {rs : List RunT} {i g : Nat} {r : RunT} {S1 S2 : List StepT} {s : StepT} (h : Lvl ps b stop start rs c) (hi : rs[i]? = some r) (hg : g < r.times) (eS : r.steps = S1 ++ s :: S2) :
    Cnt ps b start (s.1 + (g : Int) * lenR r.steps) (spT (rs.take i) + ((g : Int) * (spareR r.steps : Nat) + (spareR S1 : Nat))) ∧ WS ps b stop (s.1 + (g : Int) * lenR r.steps) s.2 ∧ s.1 + (g : Int) * lenR r.steps - start = wnT (rs.take i) + spT (rs.take i) + (g : Int) * lenR r.steps + lenR S1 := by
  rw [take_split hi] at h
  obtain ⟨m, h1, h2, h3⟩ := lvl_split h
  have hk := h2.path g hg
  have c1 := cnt_lvl h1
  have c2 := cnt_run h2 g (by omega)
  have l1 := lvl_sum h1
  generalize hd : (g : Int) * lenR r.steps = d at hk c2 ⊢
  have es : shift d r.steps = shift d S1 ++ (s.1 + d, s.2) :: shift d S2 := by rw [eS]; unfold shift; rw [List.map_append]; rfl
  rw [es] at hk
  obtain ⟨m2, k1, k2, k3, k4⟩ := hk.split
  have k2' : s.1 + d = m2 := k2
  have k3' : WS ps b stop (s.1 + d) s.2 := k3
  have c3 := cnt_pth k1
  rw [spareR_shift] at c3
  have e3 := k1.end_
  rw [lenR_shift] at e3
  rw [← k2'] at c3
  refine ⟨cnt_trans c1 (cnt_trans c2 c3), k3', by omega⟩
theorem spareR_nil : spareR [] = 0 := rfl
theorem filt_split : ∀ {S : List StepT} {k : Nat}, k < spareR S → ∃ S1 s S2, S = S1 ++ s :: S2 ∧ s.2 = 0 ∧ spareR S1 = k ∧ (((S.filter fun s => decide (s.2 = 0)).map (·.1)).map V.int)[k]? = some (.int s.1)
  | [], k, h => absurd h (by rw [spareR_nil]; omega)
  | t :: S, k, h => by
    have ec := spareR_cons t S
    by_cases c : t.2 = 0
    · rw [if_pos c] at ec
      have ef : ((t :: S).filter fun s => decide (s.2 = 0)) = t :: S.filter fun s => decide (s.2 = 0) := by rw [List.filter_cons, if_pos (by simpa using c)]
      cases k with
      | zero => exact ⟨[], t, S, rfl, c, rfl, by rw [ef]; rfl⟩
      | succ k =>
        obtain ⟨S1, s, S2, e1, e2, e3, e4⟩ := filt_split (S := S) (k := k) (by omega)
        refine ⟨t :: S1, s, S2, by rw [e1]; rfl, e2, ?_, by rw [ef]; exact e4⟩
        have := spareR_cons t S1
        rw [if_pos c] at this
        omega
    · rw [if_neg c] at ec
      have ef : ((t :: S).filter fun s => decide (s.2 = 0)) = S.filter fun s => decide (s.2 = 0) := by rw [List.filter_cons, if_neg (by simpa using c)]
      obtain ⟨S1, s, S2, e1, e2, e3, e4⟩ := filt_split (S := S) (k := k) (by omega)
      refine ⟨t :: S1, s, S2, by rw [e1]; rfl, e2, ?_, by rw [ef]; exact e4⟩
      have := spareR_cons t S1
      rw [if_neg c] at this
      omega
def spSpareAt (C : Addr) : Sp := fun vs H Q _ => ∃ D ws ps b, ∃ start stop c k : Int, ∃ rs, vs = [.ref D, .int k] ∧ H D = some (.lst ws) ∧ RunsAt C D H ws rs ∧ Lvl ps b stop start rs c ∧ PsOk ps ∧ 0 ≤ start ∧ stop < 2 ^ 139 ∧ k < 2 ^ 139 ∧ 0 ≤ k ∧ k < spT rs ∧ ∀ x H', Same H H' → Cnt ps b start x k → WP ps b x 0 → x ≤ stop → Q (.int x) H'
def spWinAt (C : Addr) : Sp := fun vs H Q _ => ∃ D ws ps b, ∃ start stop c k : Int, ∃ rs, vs = [.ref D, .int k] ∧ H D = some (.lst ws) ∧ RunsAt C D H ws rs ∧ Lvl ps b stop start rs c ∧ PsOk ps ∧ 0 ≤ start ∧ stop < 2 ^ 139 ∧ k < 2 ^ 139 ∧ 0 ≤ k ∧ k < wnT rs ∧
  ∀ (op w pl n : Int) p H', Same H H' → H' p = some (.tup [.int op, .int (op + w - 1), .int pl]) → start ≤ op → WS ps b stop op w → 0 < w → 0 ≤ pl → pl < w → Cnt ps b start op n → k = op - start - n + pl → Q (.ref p) H'
theorem drop_at {α : Type} {xs : List α} {i : Nat} {x : α} (h : xs[i]? = some x) : xs.drop i = x :: xs.drop (i + 1) := by
  obtain ⟨hl, e⟩ := List.getElem?_eq_some_iff.mp h
  rw [List.drop_eq_getElem_cons hl, e]
section
variable {P : Program} {w : World} {K : PySem.W.Frag} {mg : Str → Option Value} {base : Heap}
theorem ok_spareAt {f C fI : Addr} {fd : FuncData} (F : Fun K "spare_at" "spare_at" sSpareAt f fd) (hdm : mg "divmod" = none) (TC : RunC K mg C fI) : FnOk P w K mg base CX0 1 f fd ["runs", "number"] (spSpareAt C) := by
  refine F.ok scSpareAt (fun vs H Q E ⟨D, ws, ps, b, st0, stop, c, k, rs, e, _⟩ => by rw [e]; rfl) (fun cdv A0 outer s H vs Q E hr h => ?_)
  obtain ⟨D, ws, ps, b, start, stop, c, k0, rs, rfl, hD, hra, hlv, hps, h0, hst, hk9, hk0, hk1, q⟩ := h
  have nd := scSpareAt.nd
  have sz := sz5000
  refine ⟨_, (pss_cons (ps_set (i := 2) nd rfl (.inl rfl) pe_int)
    (pss_cons (ps_while PassesOwn.never (pt_cmpR op_ge (pv 1) (pe_op op_mulW (pe_fld (pe_ix ix_list (pv 0) (pv 2) (fun _ _ => rfl)) rfl) (pe_fld (pe_ix ix_list (pv 0) (pv 2) (fun _ _ => rfl)) rfl)) (nomark _)) (pss_cons (ps_aug (i := 1) nd rfl (.inl rfl) (pe_op op_mulW (pe_fld (pe_ix ix_list (pv 0) (pv 2) (fun _ _ => rfl)) rfl) (pe_fld (pe_ix ix_list (pv 0) (pv 2) (fun _ _ => rfl)) rfl)) iop_sub)
    (pss_one (ps_aug (i := 2) nd rfl (.inl rfl) pe_int iop_add))))
    (pss_cons (ps_asg (pe_callB call_divmodW (by rfl) hdm (by decide +kernel) (pa_cons (pv 1) (pa_cons (pe_fld (pe_ix ix_list (pv 0) (pv 2) (fun _ _ => rfl)) rfl) pa_nil))) (pg_tup rfl (pgs_cons (pg_name (i := 3) nd rfl (.inl rfl)) (pgs_cons (pg_name (i := 1) nd rfl (.inl rfl)) pgs_nil))))
    (pss_cons (ps_setLc (i := 4) (own := [("person", 5), ("width", 6)]) (g := gTup K 2 (gCons (gName 5) (gCons (gName 6) gNil))) rfl nd rfl rfl (sw_true rfl rfl rfl (by decide +kernel)) (pi_list (pe_fld (pe_ix ix_list (pv 0) (pv 2) (fun _ _ => rfl)) rfl)) (blkOk_by (N := nSpareAt) (sc := defScope sSpareAt) (by decide +kernel)) (fun _ _ _ _ _ => pg_tup rfl (pgs_cons (pg_name (i := 5) nd rfl (.inl rfl) (.inr rfl)) (pgs_cons (pg_name (i := 6) nd rfl (.inl rfl) (.inr rfl)) pgs_nil))) (fun _ _ _ _ _ => pts_one (pt_cmpR op_eq (pv 6) pe_int (nomark _))) (fun _ _ _ _ _ => (pv 5)))
    (pss_one (ps_ret (pe_op op_add (pe_ix ix_list (pv 4) (pv 1) (fun _ _ => rfl)) (pe_op op_mulW (pv 3) (pe_fld (pe_ix ix_list (pv 0) (pv 2) (fun _ _ => rfl)) rfl))))))))), ?_⟩
  have run : ∀ {i : Nat} {r : RunT}, rs[i]? = some r → ∃ v, ws[i]? = some v ∧ RunAt C D H v r ∧ 1 ≤ lenR r.steps ∧ lenR r.steps < 2 ^ 140 ∧ (r.times : Int) < 2 ^ 140 ∧ r.steps.length ≤ 8 ∧ spareR r.steps ≤ r.steps.length := fun {i r} hi => by
    obtain ⟨v, hv, hr⟩ := hra.at_ i r hi
    obtain ⟨a', ha', hok⟩ := (lvl_le hlv).2 r (List.mem_of_getElem? hi)
    obtain ⟨b1, b2, b3, b4⟩ := runOk_le hps hok (by omega) hst
    exact ⟨v, hv, hr, b1, b2, b4, hok.len, List.length_filter_le _ _⟩
  refine ⟨fun n σ H' => ∃ (k : Int) (i : Nat) (y3 y4 y5 y6 : Option V), σ = [some (.ref D), some (.int k), some (.int (i : Int)), y3, y4, y5, y6] ∧ H' = H ∧ i ≤ rs.length ∧ 0 ≤ k ∧ k0 = spT (rs.take i) + k ∧ k ≤ k0 ∧ k < spT (rs.drop i) ∧ n = rs.length - i,
    ⟨_, k0, 0, none, none, none, none, rfl, rfl, Nat.zero_le _, hk0, (Int.zero_add k0).symm, Int.le_refl _, hk1, rfl⟩, fun n σ H' ⟨k, i, y3, y4, y5, y6, eσ, eH, hi, hk, hk00, hkk, hks, hn⟩ => ?_⟩
  subst eσ eH
  have il : i < rs.length := by
    rcases Nat.lt_or_ge i rs.length with z | z
    · exact z
    · rw [List.drop_eq_nil_of_le z] at hks
      have : spT [] = 0 := rfl
      omega
  obtain ⟨r, hri⟩ : ∃ r, rs[i]? = some r := ⟨_, List.getElem?_eq_getElem il⟩
  obtain ⟨v, hv, ⟨x, dx, p, vs', rfl, npD, hx, hp, hS⟩, b1, b2, b4, h8, hsl⟩ := run hri
  rw [drop_at hri, spT_cons] at hks
  refine ⟨.int k, rfl, .ref D, rfl, .int (i : Nat), rfl, D, ws, (i : Nat), .ref x, rfl, rfl, SqL.of hD, atI_nat hv, x, C, dx, _, .int (r.times : Int), rfl, hx, TC.cl, TC.nTi, rf_times _ _ _, .ref D, rfl, .int (i : Nat), rfl, D, ws, (i : Nat), .ref x, rfl, rfl, SqL.of hD, atI_nat hv, x, C, dx, _, .int ((spareR r.steps : Nat) : Int), rfl, hx, TC.cl, TC.nSp, rf_spare _ _ _, (r.times : Int), ((spareR r.steps : Nat) : Int), rfl, rfl, wide_mul (a := 140) (b := 140) (by omega) (by omega) (by decide) (by decide) (by decide), k, (r.times : Int) * ((spareR r.steps : Nat) : Int), rfl, rfl, _, rfl, ?_⟩
  by_cases cx : k ≥ (r.times : Int) * ((spareR r.steps : Nat) : Int)
  · rw [decide_eq_true cx]
    refine iteT ⟨fun σ' H2 => ∃ m', m' < n ∧ ∃ (k : Int) (i : Nat) (y3 y4 y5 y6 : Option V), σ' = [some (.ref D), some (.int k), some (.int (i : Int)), y3, y4, y5, y6] ∧ H2 = H' ∧ i ≤ rs.length ∧ 0 ≤ k ∧ k0 = spT (rs.take i) + k ∧ k ≤ k0 ∧ k < spT (rs.drop i) ∧ m' = rs.length - i, fun σ' H2 ⟨m', h1, h2⟩ => ⟨m', h1, h2⟩, ?_⟩
    refine ⟨.int k, rfl, .ref D, rfl, .int (i : Nat), rfl, D, ws, (i : Nat), .ref x, rfl, rfl, SqL.of hD, atI_nat hv, x, C, dx, _, .int (r.times : Int), rfl, hx, TC.cl, TC.nTi, rf_times _ _ _, .ref D, rfl, .int (i : Nat), rfl, D, ws, (i : Nat), .ref x, rfl, rfl, SqL.of hD, atI_nat hv, x, C, dx, _, .int ((spareR r.steps : Nat) : Int), rfl, hx, TC.cl, TC.nSp, rf_spare _ _ _, (r.times : Int), ((spareR r.steps : Nat) : Int), rfl, rfl, wide_mul (a := 140) (b := 140) (by omega) (by omega) (by decide) (by decide) (by decide), k, (r.times : Int) * ((spareR r.steps : Nat) : Int), rfl, rfl, ?_⟩
    have hnn : 0 ≤ (r.times : Int) * ((spareR r.steps : Nat) : Int) := Int.mul_nonneg (by omega) (by omega)
    have htk := spT_take hri
    exact ⟨.int (i : Int), rfl, i, 1, rfl, rfl, rs.length - (i + 1), by omega, _, i + 1, _, _, _, _, rfl, rfl, by omega, by omega, by omega, by omega, by omega, rfl⟩
  · rw [decide_eq_false cx]
    have klt : k < (r.times : Int) * ((spareR r.steps : Nat) : Int) := by omega
    have spos : 0 < ((spareR r.steps : Nat) : Int) := by
      rcases (by omega : 0 < ((spareR r.steps : Nat) : Int) ∨ ((spareR r.steps : Nat) : Int) ≤ 0) with z | z
      · exact z
      · have : ((spareR r.steps : Nat) : Int) = 0 := by omega
        rw [this, Int.mul_zero] at klt
        omega
    refine iteF ⟨.int k, rfl, .ref D, rfl, .int (i : Nat), rfl, D, ws, (i : Nat), .ref x, rfl, rfl, SqL.of hD, atI_nat hv, x, C, dx, _, .int ((spareR r.steps : Nat) : Int), rfl, hx, TC.cl, TC.nSp, rf_spare _ _ _, k, ((spareR r.steps : Nat) : Int), rfl, div_ok hk (by have : (2 : Int) ^ 139 ≤ 2 ^ 1000 := (by decide +kernel); omega) spos, fun t nt => ?_⟩
    have g0 : 0 ≤ k / ((spareR r.steps : Nat) : Int) := Int.ediv_nonneg hk (by omega)
    have g1 : k / ((spareR r.steps : Nat) : Int) ≤ k := Int.ediv_le_self _ hk
    have m0 : 0 ≤ k % ((spareR r.steps : Nat) : Int) := Int.emod_nonneg _ (by omega)
    have m1 : k % ((spareR r.steps : Nat) : Int) < ((spareR r.steps : Nat) : Int) := Int.emod_lt_of_pos _ spos
    have st := same_upd (o := .tup [.int (k / ((spareR r.steps : Nat) : Int)), .int (k % ((spareR r.steps : Nat) : Int))]) nt
    have et : (upd H' t (.tup [.int (k / ((spareR r.steps : Nat) : Int)), .int (k % ((spareR r.steps : Nat) : Int))])) t = some (.tup [.int (k / ((spareR r.steps : Nat) : Int)), .int (k % ((spareR r.steps : Nat) : Int))]) := upd_same
    generalize upd H' t (.tup [.int (k / ((spareR r.steps : Nat) : Int)), .int (k % ((spareR r.steps : Nat) : Int))]) = H1 at st et
    refine ⟨t, _, rfl, SqT.of et, rfl, .int (k / ((spareR r.steps : Nat) : Int)), _, rfl, .int (k % ((spareR r.steps : Nat) : Int)), _, rfl, rfl, ?_⟩
    obtain ⟨nu, hnu⟩ : ∃ nu : Nat, k % ((spareR r.steps : Nat) : Int) = (nu : Int) := ⟨(k % ((spareR r.steps : Nat) : Int)).toNat, by omega⟩
    rw [hnu]
    have g2 : k / ((spareR r.steps : Nat) : Int) < (r.times : Int) := Int.ediv_lt_of_lt_mul spos klt
    have gk : k = k / ((spareR r.steps : Nat) : Int) * ((spareR r.steps : Nat) : Int) + nu := by
      have := Int.emod_add_mul_ediv k ((spareR r.steps : Nat) : Int)
      rw [Int.mul_comm (k / _)]
      omega
    generalize k / ((spareR r.steps : Nat) : Int) = gn at g0 g1 g2 gk
    obtain ⟨gN, rfl⟩ : ∃ gN : Nat, gn = (gN : Int) := ⟨gn.toNat, by omega⟩
    have hD1 := st _ _ hD
    have hx1 := st _ _ hx
    have hp1 := st _ _ hp
    have hS1 := hS.kt (KT.of st)
    have lv := hS1.len
    show tSeq _ _ _ [some (.ref D), some (.int (nu : Int)), some (.int (i : Int)), some (.int (gN : Int)), y4, y5, y6] H1
    refine ⟨.ref D, rfl, .int (i : Nat), rfl, D, ws, (i : Nat), .ref x, rfl, rfl, SqL.of hD1, atI_nat hv, x, C, dx, _, .ref p, rfl, hx1, TC.cl, TC.nSt, rf_steps _ _ _, p, rfl, ⟨vs', SqL.of hp1⟩, fun D2 nD2 => ?_⟩
    refine lc_list (xs := vs') (fun i H5 => H5 = upd H1 D2 (.lst ((((r.steps.take i).filter fun s => decide (s.2 = 0)).map (·.1)).map V.int))) rfl (fun i H5 _ e => by rw [e]; exact SqL.of (same_upd nD2 _ _ hp1)) (fun i v H5 hv e => ?_) (fun H5 e => ?_)
    · subst e
      have li : i < r.steps.length := by rw [← lv]; exact (List.getElem?_eq_some_iff.mp hv).1
      obtain ⟨⟨a, w'⟩, hs⟩ : ∃ s, r.steps[i]? = some s := ⟨_, List.getElem?_eq_getElem li⟩
      obtain ⟨b, hb1, hb2⟩ := hS1.at_ i _ hs
      rw [hb1] at hv
      cases hv
      have hl : ((((r.steps.take i).filter fun s => decide (s.2 = 0)).map (·.1)).map V.int).length < sizeLine := by
        rw [List.length_map, List.length_map]
        have h1 := List.length_filter_le (fun s : StepT => decide (s.2 = 0)) (r.steps.take i)
        rw [List.length_take] at h1
        omega
      refine ⟨b, [.int a, .int w'], rfl, SqT.of (same_upd nD2 _ _ hb2), rfl, .int a, [.int w'], rfl, .int w', [], rfl, rfl, rfl, .int w', rfl, rfl, _, rfl, ?_⟩
      rw [List.take_add_one, hs, List.filter_append]
      by_cases c : w' = 0
      · rw [decide_eq_true (by rw [c])]
        refine iteT ⟨.int a, rfl, _, upd_same, hl, ?_⟩
        rw [upd_upd]
        show _ = upd H1 D2 (.lst ((((_ : List StepT) ++ List.filter (fun s : StepT => decide (s.2 = 0)) [(a, w')]).map (fun s : StepT => s.1)).map V.int))
        rw [List.filter_cons, if_pos (by simpa using c), List.map_append, List.map_append]
        rfl
      · rw [decide_eq_false (fun z => c (V.int.inj z))]
        refine iteF ?_
        show _ = upd H1 D2 (.lst ((((_ : List StepT) ++ List.filter (fun s : StepT => decide (s.2 = 0)) [(a, w')]).map (fun s : StepT => s.1)).map V.int))
        rw [List.filter_cons, if_neg (by simpa using c)]
        show _ = upd H1 D2 (.lst ((((_ : List StepT) ++ []).map (fun s : StepT => s.1)).map V.int))
        rw [List.append_nil]
    · have e' : H5 = upd H1 D2 (.lst (((r.steps.filter fun s => decide (s.2 = 0)).map (·.1)).map V.int)) := by rw [e, lv, List.take_length]
      clear e
      subst e'
      have s2 := same_upd (o := .lst (((r.steps.filter fun s => decide (s.2 = 0)).map (·.1)).map V.int)) nD2
      have eD : (upd H1 D2 (.lst (((r.steps.filter fun s => decide (s.2 = 0)).map (·.1)).map V.int))) D2 = some (.lst (((r.steps.filter fun s => decide (s.2 = 0)).map (·.1)).map V.int)) := upd_same
      obtain ⟨S1, sz9, S2, eS, ez, eN, hpz⟩ := filt_split (S := r.steps) (k := nu) (by omega)
      obtain ⟨q1, q2, q3⟩ := lvl_at hlv hri (show gN < r.times by omega) eS
      rw [ez] at q2
      generalize upd H1 D2 (.lst (((r.steps.filter fun s => decide (s.2 = 0)).map (·.1)).map V.int)) = H2 at s2 eD
      have hD2 := s2 _ _ hD1
      have hx2 := s2 _ _ hx1
      refine ⟨.ref D2, rfl, .int (nu : Int), rfl, D2, _, (nu : Int), .int sz9.1, rfl, rfl, SqL.of eD, atI_nat hpz, .int (gN : Int), rfl, .ref D, rfl, .int (i : Nat), rfl, D, ws, (i : Nat), .ref x, rfl, rfl, SqL.of hD2, atI_nat hv, x, C, dx, _, .int (lenR r.steps), rfl, hx2, TC.cl, TC.nLe, rf_length _ _ _, (gN : Int), lenR r.steps, rfl, rfl, wide_mul (a := 140) (b := 140) (by omega) (by omega) (by decide) (by decide) (by decide), sz9.1, (gN : Int) * lenR r.steps, rfl, rfl, q _ H2 (st.trans s2) (by rw [eN, ← gk, ← hk00] at q1; exact q1) q2.2 q2.1⟩
theorem ok_winAt {f C fI : Addr} {fd : FuncData} (F : Fun K "window_at" "window_at" sWinAt f fd) (hdm : mg "divmod" = none) (TC : RunC K mg C fI) : FnOk P w K mg base CX0 1 f fd ["runs", "place"] (spWinAt C) := by
  refine F.ok scWinAt (fun vs H Q E ⟨D, ws, ps, b, st0, stop, c, k, rs, e, _⟩ => by rw [e]; rfl) (fun cdv A0 outer s H vs Q E hr h => ?_)
  obtain ⟨D, ws, ps, b, start, stop, c, k0, rs, rfl, hD, hra, hlv, hps, h0, hst, hk9, hk0, hk1, q⟩ := h
  have nd := scWinAt.nd
  have sz := sz5000
  refine ⟨_, (pss_cons (ps_set (i := 2) nd rfl (.inl rfl) pe_int)
    (pss_cons (ps_while PassesOwn.never (pt_cmpR op_ge (pv 1) (pe_op op_mulW (pe_fld (pe_ix ix_list (pv 0) (pv 2) (fun _ _ => rfl)) rfl) (pe_op op_sub (pe_fld (pe_ix ix_list (pv 0) (pv 2) (fun _ _ => rfl)) rfl) (pe_fld (pe_ix ix_list (pv 0) (pv 2) (fun _ _ => rfl)) rfl))) (nomark _)) (pss_cons (ps_aug (i := 1) nd rfl (.inl rfl) (pe_op op_mulW (pe_fld (pe_ix ix_list (pv 0) (pv 2) (fun _ _ => rfl)) rfl) (pe_op op_sub (pe_fld (pe_ix ix_list (pv 0) (pv 2) (fun _ _ => rfl)) rfl) (pe_fld (pe_ix ix_list (pv 0) (pv 2) (fun _ _ => rfl)) rfl))) iop_sub)
    (pss_one (ps_aug (i := 2) nd rfl (.inl rfl) pe_int iop_add))))
    (pss_cons (ps_asg (pe_callB call_divmodW (by rfl) hdm (by decide +kernel) (pa_cons (pv 1) (pa_cons (pe_op op_sub (pe_fld (pe_ix ix_list (pv 0) (pv 2) (fun _ _ => rfl)) rfl) (pe_fld (pe_ix ix_list (pv 0) (pv 2) (fun _ _ => rfl)) rfl)) pa_nil))) (pg_tup rfl (pgs_cons (pg_name (i := 3) nd rfl (.inl rfl)) (pgs_cons (pg_name (i := 1) nd rfl (.inl rfl)) pgs_nil))))
    (pss_cons (ps_set (i := 4) nd rfl (.inl rfl) pe_int)
    (pss_cons (ps_while PassesOwn.never (pt_cmpR op_ge (pv 1) (pe_ix ix_tup (pe_ix ix_list (pe_fld (pe_ix ix_list (pv 0) (pv 2) (fun _ _ => rfl)) rfl) (pv 4) (fun _ _ => rfl)) pe_int (fun _ _ => rfl)) (nomark _)) (pss_cons (ps_aug (i := 1) nd rfl (.inl rfl) (pe_ix ix_tup (pe_ix ix_list (pe_fld (pe_ix ix_list (pv 0) (pv 2) (fun _ _ => rfl)) rfl) (pv 4) (fun _ _ => rfl)) pe_int (fun _ _ => rfl)) iop_sub)
    (pss_one (ps_aug (i := 4) nd rfl (.inl rfl) pe_int iop_add))))
    (pss_cons (ps_set (i := 5) nd rfl (.inl rfl) (pe_op op_add (pe_ix ix_tup (pe_ix ix_list (pe_fld (pe_ix ix_list (pv 0) (pv 2) (fun _ _ => rfl)) rfl) (pv 4) (fun _ _ => rfl)) pe_int (fun _ _ => rfl)) (pe_op op_mulW (pv 3) (pe_fld (pe_ix ix_list (pv 0) (pv 2) (fun _ _ => rfl)) rfl))))
    (pss_one (ps_ret (pe_tup (pa_cons (pv 5) (pa_cons (pe_op op_sub (pe_op op_add (pv 5) (pe_ix ix_tup (pe_ix ix_list (pe_fld (pe_ix ix_list (pv 0) (pv 2) (fun _ _ => rfl)) rfl) (pv 4) (fun _ _ => rfl)) pe_int (fun _ _ => rfl))) pe_int) (pa_cons (pv 1) pa_nil)))))))))))), ?_⟩
  have run : ∀ {i : Nat} {r : RunT}, rs[i]? = some r → ∃ v a', ws[i]? = some v ∧ RunAt C D H v r ∧ 1 ≤ lenR r.steps ∧ lenR r.steps < 2 ^ 140 ∧ (r.times : Int) < 2 ^ 140 ∧ r.steps.length ≤ 8 ∧ spareR r.steps ≤ r.steps.length ∧ start ≤ a' ∧ RunOk ps b stop a' r := fun {i r} hi => by
    obtain ⟨v, hv, hr⟩ := hra.at_ i r hi
    obtain ⟨a', ha', hok⟩ := (lvl_le hlv).2 r (List.mem_of_getElem? hi)
    obtain ⟨b1, b2, b3, b4⟩ := runOk_le hps hok (by omega) hst
    exact ⟨v, a', hv, hr, b1, b2, b4, hok.len, List.length_filter_le _ _, ha', hok⟩
  refine ⟨fun n σ H' => ∃ (k : Int) (i : Nat) (y3 y4 y5 : Option V), σ = [some (.ref D), some (.int k), some (.int (i : Int)), y3, y4, y5] ∧ H' = H ∧ i ≤ rs.length ∧ 0 ≤ k ∧ k0 = wnT (rs.take i) + k ∧ k ≤ k0 ∧ k < wnT (rs.drop i) ∧ n = rs.length - i,
    ⟨_, k0, 0, none, none, none, rfl, rfl, Nat.zero_le _, hk0, (Int.zero_add k0).symm, Int.le_refl _, hk1, rfl⟩, fun n σ H' ⟨k, i, y3, y4, y5, eσ, eH, hi, hk, hk00, hkk, hks, hn⟩ => ?_⟩
  subst eσ eH
  have il : i < rs.length := by
    rcases Nat.lt_or_ge i rs.length with z | z
    · exact z
    · rw [List.drop_eq_nil_of_le z] at hks
      have : wnT [] = 0 := rfl
      omega
  obtain ⟨r, hri⟩ : ∃ r, rs[i]? = some r := ⟨_, List.getElem?_eq_getElem il⟩
  obtain ⟨v, a', hv, ⟨x, dx, p, vs', rfl, npD, hx, hp, hS⟩, b1, b2, b4, h8, hsl, ha', hok⟩ := run hri
  have hwid := run_wid2 hps hok
  have hle := lenR_pos r.steps
  rw [drop_at hri, wnT_cons] at hks
  refine ⟨.int k, rfl, .ref D, rfl, .int (i : Nat), rfl, D, ws, (i : Nat), .ref x, rfl, rfl, SqL.of hD, atI_nat hv, x, C, dx, _, .int (r.times : Int), rfl, hx, TC.cl, TC.nTi, rf_times _ _ _, .ref D, rfl, .int (i : Nat), rfl, D, ws, (i : Nat), .ref x, rfl, rfl, SqL.of hD, atI_nat hv, x, C, dx, _, .int (lenR r.steps), rfl, hx, TC.cl, TC.nLe, rf_length _ _ _, .ref D, rfl, .int (i : Nat), rfl, D, ws, (i : Nat), .ref x, rfl, rfl, SqL.of hD, atI_nat hv, x, C, dx, _, .int ((spareR r.steps : Nat) : Int), rfl, hx, TC.cl, TC.nSp, rf_spare _ _ _, lenR r.steps, ((spareR r.steps : Nat) : Int), rfl, rfl, (r.times : Int), lenR r.steps - ((spareR r.steps : Nat) : Int), rfl, rfl, wide_mul (a := 140) (b := 140) (by omega) (by omega) (by decide) (by decide) (by decide), k, (r.times : Int) * (lenR r.steps - ((spareR r.steps : Nat) : Int)), rfl, rfl, _, rfl, ?_⟩
  by_cases cx : k ≥ (r.times : Int) * (lenR r.steps - ((spareR r.steps : Nat) : Int))
  · rw [decide_eq_true cx]
    refine iteT ⟨fun σ' H2 => ∃ m', m' < n ∧ ∃ (k : Int) (i : Nat) (y3 y4 y5 : Option V), σ' = [some (.ref D), some (.int k), some (.int (i : Int)), y3, y4, y5] ∧ H2 = H' ∧ i ≤ rs.length ∧ 0 ≤ k ∧ k0 = wnT (rs.take i) + k ∧ k ≤ k0 ∧ k < wnT (rs.drop i) ∧ m' = rs.length - i, fun σ' H2 ⟨m', h1, h2⟩ => ⟨m', h1, h2⟩, ?_⟩
    refine ⟨.int k, rfl, .ref D, rfl, .int (i : Nat), rfl, D, ws, (i : Nat), .ref x, rfl, rfl, SqL.of hD, atI_nat hv, x, C, dx, _, .int (r.times : Int), rfl, hx, TC.cl, TC.nTi, rf_times _ _ _, .ref D, rfl, .int (i : Nat), rfl, D, ws, (i : Nat), .ref x, rfl, rfl, SqL.of hD, atI_nat hv, x, C, dx, _, .int (lenR r.steps), rfl, hx, TC.cl, TC.nLe, rf_length _ _ _, .ref D, rfl, .int (i : Nat), rfl, D, ws, (i : Nat), .ref x, rfl, rfl, SqL.of hD, atI_nat hv, x, C, dx, _, .int ((spareR r.steps : Nat) : Int), rfl, hx, TC.cl, TC.nSp, rf_spare _ _ _, lenR r.steps, ((spareR r.steps : Nat) : Int), rfl, rfl, (r.times : Int), lenR r.steps - ((spareR r.steps : Nat) : Int), rfl, rfl, wide_mul (a := 140) (b := 140) (by omega) (by omega) (by decide) (by decide) (by decide), k, (r.times : Int) * (lenR r.steps - ((spareR r.steps : Nat) : Int)), rfl, rfl, ?_⟩
    have hnn : 0 ≤ (r.times : Int) * (lenR r.steps - ((spareR r.steps : Nat) : Int)) := Int.mul_nonneg (by omega) (by omega)
    have htk := wnT_take hri
    exact ⟨.int (i : Int), rfl, i, 1, rfl, rfl, rs.length - (i + 1), by omega, _, i + 1, _, _, _, rfl, rfl, by omega, by omega, by omega, by omega, by omega, rfl⟩
  · rw [decide_eq_false cx]
    have klt : k < (r.times : Int) * (lenR r.steps - ((spareR r.steps : Nat) : Int)) := by omega
    generalize hwdt : lenR r.steps - ((spareR r.steps : Nat) : Int) = wdt at klt
    have spos : 0 < wdt := by
      rcases (by omega : 0 < wdt ∨ wdt ≤ 0) with z | z
      · exact z
      · have : wdt = 0 := by omega
        rw [this, Int.mul_zero] at klt
        omega
    refine iteF ⟨.int k, rfl, .ref D, rfl, .int (i : Nat), rfl, D, ws, (i : Nat), .ref x, rfl, rfl, SqL.of hD, atI_nat hv, x, C, dx, _, .int (lenR r.steps), rfl, hx, TC.cl, TC.nLe, rf_length _ _ _, .ref D, rfl, .int (i : Nat), rfl, D, ws, (i : Nat), .ref x, rfl, rfl, SqL.of hD, atI_nat hv, x, C, dx, _, .int ((spareR r.steps : Nat) : Int), rfl, hx, TC.cl, TC.nSp, rf_spare _ _ _, lenR r.steps, ((spareR r.steps : Nat) : Int), rfl, rfl, k, wdt, by rw [← hwdt], div_ok hk (by have : (2 : Int) ^ 139 ≤ 2 ^ 1000 := (by decide +kernel); omega) spos, fun t nt => ?_⟩
    have g0 : 0 ≤ k / wdt := Int.ediv_nonneg hk (by omega)
    have g1 : k / wdt ≤ k := Int.ediv_le_self _ hk
    have g2 : k / wdt < (r.times : Int) := Int.ediv_lt_of_lt_mul spos klt
    have m0 : 0 ≤ k % wdt := Int.emod_nonneg _ (by omega)
    have m1 : k % wdt < wdt := Int.emod_lt_of_pos _ spos
    have st := same_upd (o := .tup [.int (k / wdt), .int (k % wdt)]) nt
    have et : (upd H' t (.tup [.int (k / wdt), .int (k % wdt)])) t = some (.tup [.int (k / wdt), .int (k % wdt)]) := upd_same
    generalize upd H' t (.tup [.int (k / wdt), .int (k % wdt)]) = H1 at st et
    refine ⟨t, _, rfl, SqT.of et, rfl, .int (k / wdt), _, rfl, .int (k % wdt), _, rfl, rfl, ?_⟩
    obtain ⟨gn, hgn⟩ : ∃ gn : Nat, k / wdt = (gn : Int) := ⟨(k / wdt).toNat, by omega⟩
    have gk : k = k / wdt * wdt + k % wdt := by
      have := Int.emod_add_mul_ediv k wdt
      rw [Int.mul_comm (k / _)]
      omega
    rw [hgn] at g0 g1 g2 gk ⊢
    generalize k % wdt = pl0 at m0 m1 gk
    have hD1 := st _ _ hD
    have hx1 := st _ _ hx
    have hp1 := st _ _ hp
    have hS1 := hS.kt (KT.of st)
    have lv := hS1.len
    have hsum : (r.steps.map (·.2)).sum = wdt := by rw [widths_sum fun s hs => (hwid s hs).1, hwdt]
    show tSeq _ _ _ [some (.ref D), some (.int pl0), some (.int (i : Int)), some (.int (gn : Int)), y4, y5] H1
    refine ⟨fun n σ H2 => ∃ (pl : Int) (j : Nat) (y5 : Option V), σ = [some (.ref D), some (.int pl), some (.int (i : Int)), some (.int (gn : Int)), some (.int (j : Int)), y5] ∧ H2 = H1 ∧ j ≤ r.steps.length ∧ 0 ≤ pl ∧ pl0 = ((r.steps.take j).map (·.2)).sum + pl ∧ pl < ((r.steps.drop j).map (·.2)).sum ∧ n = r.steps.length - j,
      ⟨_, pl0, 0, y5, rfl, rfl, Nat.zero_le _, m0, (Int.zero_add pl0).symm, by rw [List.drop_zero, hsum]; exact m1, rfl⟩, fun n σ H2 ⟨pl, j, y5, eσ, eH, hj, hpl, hpl00, hps2, hn⟩ => ?_⟩
    subst eσ eH
    have jl : j < r.steps.length := by
      rcases Nat.lt_or_ge j r.steps.length with z | z
      · exact z
      · rw [List.drop_eq_nil_of_le z] at hps2
        have : (([] : List StepT).map (·.2)).sum = 0 := rfl
        omega
    obtain ⟨⟨a, w'⟩, hs⟩ : ∃ s, r.steps[j]? = some s := ⟨_, List.getElem?_eq_getElem jl⟩
    obtain ⟨bb, hbb, htb1⟩ := hS1.at_ j _ hs
    rw [drop_at hs, List.map_cons, List.sum_cons] at hps2
    have hw0 := hwid _ (List.mem_of_getElem? hs)
    refine ⟨.int pl, rfl, .ref D, rfl, .int (i : Nat), rfl, D, ws, (i : Nat), .ref x, rfl, rfl, SqL.of hD1, atI_nat hv, x, C, dx, _, .ref p, rfl, hx1, TC.cl, TC.nSt, rf_steps _ _ _, .int (j : Nat), rfl, p, vs', (j : Nat), .ref bb, rfl, rfl, SqL.of hp1, atI_nat hbb, bb, _, _, _, rfl, rfl, SqT.of htb1, atI_nat (j := 1) rfl, pl, w', rfl, rfl, _, rfl, ?_⟩
    by_cases cy : pl ≥ w'
    · rw [decide_eq_true cy]
      refine iteT ⟨fun σ' H3 => ∃ m', m' < n ∧ ∃ (pl : Int) (j : Nat) (y5 : Option V), σ' = [some (.ref D), some (.int pl), some (.int (i : Int)), some (.int (gn : Int)), some (.int (j : Int)), y5] ∧ H3 = H2 ∧ j ≤ r.steps.length ∧ 0 ≤ pl ∧ pl0 = ((r.steps.take j).map (·.2)).sum + pl ∧ pl < ((r.steps.drop j).map (·.2)).sum ∧ m' = r.steps.length - j, fun σ' H3 ⟨m', h1, h2⟩ => ⟨m', h1, h2⟩, ?_⟩
      refine ⟨.int pl, rfl, .ref D, rfl, .int (i : Nat), rfl, D, ws, (i : Nat), .ref x, rfl, rfl, SqL.of hD1, atI_nat hv, x, C, dx, _, .ref p, rfl, hx1, TC.cl, TC.nSt, rf_steps _ _ _, .int (j : Nat), rfl, p, vs', (j : Nat), .ref bb, rfl, rfl, SqL.of hp1, atI_nat hbb, bb, _, _, _, rfl, rfl, SqT.of htb1, atI_nat (j := 1) rfl, pl, w', rfl, rfl, ?_⟩
      have hw1 : 0 ≤ w' := hw0.1
      have hps3 : pl < w' + ((r.steps.drop (j + 1)).map (·.2)).sum := hps2
      have htj : ((r.steps.take (j + 1)).map (·.2)).sum = ((r.steps.take j).map (·.2)).sum + w' := by
        rw [List.take_add_one, hs, List.map_append, List.sum_append]
        simp
      exact ⟨.int (j : Int), rfl, j, 1, rfl, rfl, r.steps.length - (j + 1), by omega, _, j + 1, _, rfl, rfl, by omega, by omega, by omega, by omega, rfl⟩
    · rw [decide_eq_false cy]
      refine iteF ⟨.ref D, rfl, .int (i : Nat), rfl, D, ws, (i : Nat), .ref x, rfl, rfl, SqL.of hD1, atI_nat hv, x, C, dx, _, .ref p, rfl, hx1, TC.cl, TC.nSt, rf_steps _ _ _, .int (j : Nat), rfl, p, vs', (j : Nat), .ref bb, rfl, rfl, SqL.of hp1, atI_nat hbb, bb, _, _, _, rfl, rfl, SqT.of htb1, atI_nat (j := 0) rfl, .int (gn : Int), rfl, .ref D, rfl, .int (i : Nat), rfl, D, ws, (i : Nat), .ref x, rfl, rfl, SqL.of hD1, atI_nat hv, x, C, dx, _, .int (lenR r.steps), rfl, hx1, TC.cl, TC.nLe, rf_length _ _ _, (gn : Int), lenR r.steps, rfl, rfl, wide_mul (a := 140) (b := 140) (by omega) (by omega) (by decide) (by decide) (by decide), a, (gn : Int) * lenR r.steps, rfl, rfl, ?_⟩
      refine ⟨.int (a + (gn : Int) * lenR r.steps), rfl, .int (a + (gn : Int) * lenR r.steps), rfl, .ref D, rfl, .int (i : Nat), rfl, D, ws, (i : Nat), .ref x, rfl, rfl, SqL.of hD1, atI_nat hv, x, C, dx, _, .ref p, rfl, hx1, TC.cl, TC.nSt, rf_steps _ _ _, .int (j : Nat), rfl, p, vs', (j : Nat), .ref bb, rfl, rfl, SqL.of hp1, atI_nat hbb, bb, _, _, _, rfl, rfl, SqT.of htb1, atI_nat (j := 1) rfl, a + (gn : Int) * lenR r.steps, w', rfl, rfl, a + (gn : Int) * lenR r.steps + w', 1, rfl, rfl, .int pl, rfl, small_le (by show 3 ≤ 1000; decide), fun p2 np2 => ?_⟩
      obtain ⟨hop, hws⟩ := run_step hok (List.mem_of_getElem? hs) (k := gn) (by omega)
      have hmn : 0 ≤ (gn : Int) * lenR r.steps := Int.mul_nonneg (by omega) (by omega)
      have hop' : a' + (gn : Int) * lenR r.steps ≤ a + (gn : Int) * lenR r.steps := hop
      obtain ⟨q1, q2, q3⟩ := lvl_at hlv hri (show gn < r.times by omega) (take_split hs)
      have q3' : a + (gn : Int) * lenR r.steps - start = wnT (rs.take i) + spT (rs.take i) + (gn : Int) * lenR r.steps + lenR (r.steps.take j) := q3
      have q1' : Cnt ps b start (a + (gn : Int) * lenR r.steps) (spT (rs.take i) + ((gn : Int) * (spareR r.steps : Nat) + (spareR (r.steps.take j) : Nat))) := q1
      have hws3 := widths_sum (S := r.steps.take j) fun s hs => (hwid s (List.mem_of_mem_take hs)).1
      have hgw : (gn : Int) * wdt = (gn : Int) * lenR r.steps - (gn : Int) * ((spareR r.steps : Nat) : Int) := by rw [← hwdt, Int.mul_sub]
      exact q (a + (gn : Int) * lenR r.steps) w' pl _ p2 _ (st.trans (same_upd np2)) upd_same (by omega) hws (by omega) hpl (by omega) q1' (by omega)
end
end CL
set_option Elab.async false
set_option linter.all false
set_option pp.maxSteps 400
set_option maxRecDepth 100000
set_option maxHeartbeats 4000000
namespace CL
open PySem PySem.Spec PyProof.Rows L2 GE
abbrev sPersonAt : Stmt := topS 52
theorem scPersonAt : FnScope ["plan", "moment", "place", "pieces", "start", "bound", "runs", "behind", "opener", "last"] ["plan", "moment", "place"] (defScope sPersonAt) := ⟨rfl, rfl, rfl, by decide +kernel, rfl, by decide +kernel, by decide +kernel⟩
theorem meas13 {m st op pl bd : Int} {k : Nat} (hk : k = (m - st).toNat) (h1 : st ≤ op) (h2 : st + pl ≤ bd) (h3 : 0 ≤ pl) (h4 : bd ≤ m - 1) : (m - (op + 1)).toNat < k := by omega
theorem person_spare {ps : List PieceT} (hp : PsOk ps) {bd st pl x m n : Int} (hc : Cnt ps (some bd) st x (bd - st - pl)) (hw : WP ps (some bd) x 0) (hx : x ≤ bd) (hA : ∀ x, x ≤ bd → At ps bd st x pl → At ps (m - 1) 0 x n) : At ps (m - 1) 0 x n := by
  refine hA x hx ?_
  have h := at_of hp hc rfl (.spare hw)
  rw [show x - st - (bd - st - pl) + (bd - x) = pl by omega] at h
  exact h
theorem person_next {ps : List PieceT} (hp : PsOk ps) {bd st pl op wd pl' nw m n p1 : Int} (hc : Cnt ps (some bd) st op nw) (hw : WP ps (some bd) op wd) (h0 : 0 < wd) (hp0 : 0 ≤ pl') (hp1 : pl' < wd) (hk : pl = op - st - nw + pl') (hf : op + p1 ≤ bd) (hw1 : wd = p1 + 1) (hb : bd ≤ m - 1) (hs : 0 ≤ st) (ho : st ≤ op) (hA : ∀ x, x ≤ bd → At ps bd st x pl → At ps (m - 1) 0 x n) :
    ((op + 1 + pl' ≤ op + wd - 1 ∧ ∀ x, x ≤ op + wd - 1 → At ps (op + wd - 1) (op + 1) x pl' → At ps (m - 1) 0 x n) ∨ (op + wd - 1 < op + 1 + pl' ∧ At ps (m - 1) 0 (op + 1 - 1) n ∧ 0 ≤ op + 1 - 1 ∧ op + 1 - 1 < m)) := by
  by_cases c : op + 1 + pl' ≤ op + wd - 1
  · refine .inl ⟨c, fun x hx h => hA x (by omega) ?_⟩
    have h2 := at_ge h
    have h1 := at_of hp hc rfl (.inn hw (by omega) (by omega) h)
    rw [← hk] at h1
    exact h1
  · refine .inr ⟨by omega, ?_, by omega, by omega⟩
    rw [show op + 1 - 1 = op by omega]
    have h1 := at_of hp hc rfl (.own hw h0)
    rw [show op - st - nw + (wd - 1) = pl by omega] at h1
    exact hA op (by omega) h1
section
variable {P : Program} {w : World} {K : PySem.W.Frag} {mg : Str → Option Value} {base : Heap}
theorem ok_personAt {f P1 P2 C C3 CX CR : Addr} {fd : FuncData} (F : Fun K "person_at" "person_at" sPersonAt f fd) (XX : ExcC K mg "NoPlace" CX) (CW : Cal P w K mg base 1 "is_whole" ["thing"] (spOne isWhole)) (CP : CalX P w K mg base 9 "pieces_of" ["plan"] (spPieces P1 P2 C)) (CM : CalX P w K mg base 2 "check_moment" ["pieces", "moment"] (spCkM C3))
    (CRn : Cal P w K mg base 3 "runs_on" ["pieces", "start", "bound", "stop"] (spRuns CR)) (CS : Cal P w K mg base 1 "spare_on" ["runs"] (spSpareOn CR)) (CSA : Cal P w K mg base 1 "spare_at" ["runs", "number"] (spSpareAt CR)) (CWA : Cal P w K mg base 1 "window_at" ["runs", "place"] (spWinAt CR)) :
    FnOk P w K mg base (L2.CX P w) 10 f fd ["plan", "moment", "place"] (spPersonAt P1 P2 C C3 CX) := by
  refine F.okX scPersonAt (fun vs H Q E ⟨v, u, y, d, c, c', e, _⟩ => by rw [e]; rfl) (fun cdv A outer s H vs Q E hr h => ?_)
  obtain ⟨v, u, y, d, c, c', rfl, hR, hU, hY, hT, qE0, q⟩ := h
  have nd := scPersonAt.nd
  have hG : GREAT = 1000000000000000000000000000000 := rfl
  refine ⟨_, (pss_cons (ps_set (i := 3) nd rfl (.inl rfl) (pe_calX (CP.mono (by decide)) hr (by rfl) (passes_call (takes_of rfl rfl rfl rfl) fun _ _ _ _ h => h) (pa_cons (pv 0) pa_nil)))
    (pss_cons (ps_expr (pe_calX (CM.mono (by decide)) hr (by rfl) (passes_call (takes_of rfl rfl rfl rfl) fun _ _ _ _ h => h) (pa_cons (pv 3) (pa_cons (pv 1) pa_nil))))
    (pss_cons (ps_if (PW.pt (pw_or (pt_not (pt_val (pe_cal (CW.mono (by decide)) hr (by rfl) (pa_cons (pv 2) pa_nil)))) (pw_or1 (pt_not (pt_chain op_le op_lt pe_int (pv 2) (pv 1)))))) (pss_one (ps_raise rfl (takes_of rfl rfl rfl rfl) (pmk_own PySem.F.excBase_ValueError XX.x XX.g XX.k (raises_own XX.b XX.t) rfl))) pss_nil) (PSs.nox (pss_cons (ps_set (i := 4) nd rfl (.inl rfl) pe_int)
    (pss_cons (ps_set (i := 5) nd rfl (.inl rfl) (pe_op op_sub (pv 1) pe_int))
    (pss_cons (ps_while PassesOwn.never (pt_cmpR op_le (pe_op op_add (pv 4) (pv 2)) (pv 5) (nomark _)) (pss_cons (ps_set (i := 6) nd rfl (.inl rfl) (pe_cal (CRn.mono (by decide)) hr (by rfl) (pa_cons (pv 3) (pa_cons (pv 4) (pa_cons (pv 5) (pa_cons (pv 5) pa_nil))))))
    (pss_cons (ps_set (i := 7) nd rfl (.inl rfl) (pe_op op_sub (pe_op op_sub (pv 5) (pv 4)) (pv 2)))
    (pss_cons (ps_if (pt_cmpR op_lt (pv 7) (pe_cal (CS.mono (by decide)) hr (by rfl) (pa_cons (pv 6) pa_nil)) (nomark _)) (pss_one (ps_ret (pe_cal (CSA.mono (by decide)) hr (by rfl) (pa_cons (pv 6) (pa_cons (pv 7) pa_nil))))) pss_nil)
    (pss_cons (ps_asg (pe_cal (CWA.mono (by decide)) hr (by rfl) (pa_cons (pv 6) (pa_cons (pv 2) pa_nil))) (pg_tup rfl (pgs_cons (pg_name (i := 8) nd rfl (.inl rfl)) (pgs_cons (pg_name (i := 9) nd rfl (.inl rfl)) (pgs_cons (pg_name (i := 2) nd rfl (.inl rfl)) pgs_nil)))))
    (pss_cons (ps_set (i := 4) nd rfl (.inl rfl) (pe_op op_add (pv 8) pe_int))
    (pss_one (ps_set (i := 5) nd rfl (.inl rfl) (pv 9)))))))))
    (pss_one (ps_ret (pe_op op_sub (pv 4) pe_int)))))))))), ?_⟩
  refine ⟨v, rfl, v, d, rfl, hR, hT, qE0, fun z0 p H1 e1 t1 _ rp => ?_⟩
  obtain ⟨ps, pc, hps, qE, q⟩ := q z0
  have hU1 := Rp.ex e1 c u hU
  have hY1 := Rp.ex e1 c' y hY
  have hpl := plOk z0 hps
  rw [hps] at rp
  obtain ⟨a, ea, h⟩ := PcsAt.of rp
  obtain rfl : p = a := V.ref.inj ea
  refine ⟨.ref p, rfl, u, rfl, p, u, ps, pc, c, rfl, h, hU1, fun z H2 s2 => qE z H2 (e1.trans (Ex.of s2)) (t1.same s2), fun z H2 s2 => ?_⟩
  have q := q z
  obtain ⟨m, rfl, m0, m1, mu⟩ := moment_int z
  cases hU1
  obtain ⟨qE3, q⟩ := q m rfl
  have e2 := e1.trans (Ex.of s2)
  have t2 := t1.same s2
  have hund : ∀ x : Int, x ≤ m - 1 → under pc.2.1 x = true := fun x hx => by
    cases e : pc.2.1 with
    | none => rfl
    | some k =>
      rw [e] at mu
      have : m ≤ k := of_decide_eq_true mu
      exact decide_eq_true (by omega)
  refine ⟨y, rfl, y, c', rfl, Rp.sm s2 hY1, fun H3 s3 => ⟨isWhole c', rfl, ?_⟩⟩
  have e3 := e2.trans (Ex.of s3)
  have t3 := t2.same s3
  have bad : stOk m c' = false → E (.ref CX) none H3 := fun z => qE3 z H3 e3 t3
  cases hY1 with
  | int n =>
    refine iteF ⟨.int n, rfl, 0, n, rfl, rfl, decide ((0 : Int) ≤ n), rfl, ?_⟩
    by_cases n0 : (0 : Int) ≤ n
    · rw [decide_eq_true n0]
      refine iteT ⟨.int m, rfl, n, m, rfl, rfl, decide (n < m), rfl, ?_⟩
      by_cases n1 : n < m
      · rw [decide_eq_true n1]
        refine iteF ?_
        have hst : stOk m (.int n) = true := by show (decide (0 ≤ n) && decide (n < m)) = true; rw [decide_eq_true n0, decide_eq_true n1]; rfl
        have fin : ∀ x H4, At (ps ++ [pc]) (m - 1) 0 x n → 0 ≤ x → x < m → Same H3 H4 → Q (.int x) H4 := fun x H4 ha x0 x1 s4 => q hst n x H4 rfl ha x0 x1 (e3.trans (Ex.of s4)) (t3.same s4)
        have h3 := (h.sm' s2).sm' s3
        refine ⟨.int m, rfl, m, 1, rfl, rfl, ?_⟩
        refine ⟨fun k σ H4 => ∃ pl st bd : Int, ∃ y6 y7 y8 y9, σ = [some v, some (.int m), some (.int pl), some (.ref p), some (.int st), some (.int bd), y6, y7, y8, y9] ∧ Same H3 H4 ∧ 0 ≤ st ∧ 0 ≤ pl ∧ bd ≤ m - 1 ∧ ((st + pl ≤ bd ∧ ∀ x, x ≤ bd → At (ps ++ [pc]) bd st x pl → At (ps ++ [pc]) (m - 1) 0 x n) ∨ (bd < st + pl ∧ At (ps ++ [pc]) (m - 1) 0 (st - 1) n ∧ 0 ≤ st - 1 ∧ st - 1 < m)) ∧ k = (m - st).toNat,
          ⟨_, n, 0, m - 1, none, none, none, none, rfl, Same.refl H3, Int.le_refl 0, n0, Int.le_refl _, .inl ⟨by omega, fun x _ h => h⟩, rfl⟩, fun k σ H4 ⟨pl, st, bd, y6, y7, y8, y9, eσ, s4, hst0, hpl0, hbd, hA, hk⟩ => ?_⟩
        subst eσ
        refine ⟨.int st, rfl, .int pl, rfl, st, pl, rfl, rfl, .int bd, rfl, st + pl, bd, rfl, rfl, _, rfl, ?_⟩
        by_cases cx : st + pl ≤ bd
        · rw [decide_eq_true cx]
          refine iteT ⟨fun σ' H' => ∃ m', m' < k ∧ ∃ pl st bd : Int, ∃ y6 y7 y8 y9, σ' = [some v, some (.int m), some (.int pl), some (.ref p), some (.int st), some (.int bd), y6, y7, y8, y9] ∧ Same H3 H' ∧ 0 ≤ st ∧ 0 ≤ pl ∧ bd ≤ m - 1 ∧ ((st + pl ≤ bd ∧ ∀ x, x ≤ bd → At (ps ++ [pc]) bd st x pl → At (ps ++ [pc]) (m - 1) 0 x n) ∨ (bd < st + pl ∧ At (ps ++ [pc]) (m - 1) 0 (st - 1) n ∧ 0 ≤ st - 1 ∧ st - 1 < m)) ∧ m' = (m - st).toNat, fun σ' H' ⟨m', h1, h2⟩ => ⟨m', h1, h2⟩, ?_⟩
          refine ⟨.ref p, rfl, .int st, rfl, .int bd, rfl, .int bd, rfl, p, ps ++ [pc], st, bd, some bd, rfl, h3.sm' s4, hpl.ok, hst0, fun x h1 h2 => hpl.find x (hund x (by omega)), breaks_lt hpl.ok hpl.past (by omega) (fun k e => by cases e; omega), fun D ws rs cc H5 s5 n5 e5 ra lv hc hlr hrn => ?_⟩
          have hi := lvl_hi hpl.ok lv (by omega)
          have hsum := lvl_sum lv
          obtain rfl : cc = bd + 1 := by omega
          have hcS := cnt_lvl lv
          have hAt : ∀ x, x ≤ bd → At (ps ++ [pc]) bd st x pl → At (ps ++ [pc]) (m - 1) 0 x n := by
            rcases hA with ⟨_, h⟩ | ⟨h, _⟩
            · exact h
            · omega
          refine ⟨.int bd, rfl, .int st, rfl, bd, st, rfl, rfl, .int pl, rfl, bd - st, pl, rfl, rfl, ?_⟩
          refine ⟨.int (bd - st - pl), rfl, .ref D, rfl, D, ws, ps ++ [pc], some bd, st, bd, bd + 1, rs, rfl, e5, ra, hlr, lv, hpl.ok, hst0, by omega, fun H6 s6 => ?_⟩
          have hspT : (rs.map fun r => (r.times : Int) * (spareR r.steps : Nat)).sum = spT rs := rfl
          rw [hspT]
          have e6 := s6 _ _ e5
          have ra6 := ra.sm e5 s6
          refine ⟨bd - st - pl, spT rs, rfl, rfl, _, rfl, ite2 (fun e => ?_) (fun e => ?_)⟩
          · have hlt := of_decide_eq_true e
            exact ⟨.ref D, rfl, .int (bd - st - pl), rfl, D, ws, ps ++ [pc], some bd, st, bd, bd + 1, bd - st - pl, rs, rfl, e6, ra6, lv, hpl.ok, hst0, by omega, by omega, by omega, hlt, fun x H7 s7 hcx hwx hxb => fin x H7 (person_spare hpl.ok hcx hwx hxb hAt) (by have := rch_le (cnt_rch hcx); omega) (by omega) (s4.trans (s5.trans (s6.trans s7)))⟩
          · have hge : ¬ bd - st - pl < spT rs := fun z => e (decide_eq_true z)
            refine ⟨.ref D, rfl, .int pl, rfl, D, ws, ps ++ [pc], some bd, st, bd, bd + 1, pl, rs, rfl, e6, ra6, lv, hpl.ok, hst0, by omega, by omega, hpl0, by omega, fun op wd pl' nw p2 H7 s7 e7 hop hws hw hpl' hplw hcn hpk => ?_⟩
            refine ⟨p2, _, rfl, SqT.of e7, rfl, .int op, _, rfl, .int (op + wd - 1), _, rfl, .int pl', _, rfl, rfl, ?_⟩
            obtain ⟨w0, w1, w2⟩ := wp_le hpl.ok hws.2
            obtain ⟨pc1, p1, hm1, hp1', hw1, hp10, hp11, hfit⟩ := w2 (by omega)
            have hf := hfit bd rfl
            refine ⟨.int op, rfl, op, 1, rfl, rfl, .int (op + wd - 1), rfl, ?_⟩
            have f1 : 0 ≤ op + 1 := nn_of hst0 hop
            have f2 : op + wd - 1 ≤ m - 1 := by rw [hw1]; omega
            have hnx := person_next hpl.ok hcn hws.2 hw hpl' hplw hpk hf hw1 hbd hst0 hop hAt
            exact ⟨(m - (op + 1)).toNat, meas13 hk hop cx hpl0 hbd, pl', op + 1, op + wd - 1, _, _, _, _, rfl, s4.trans (s5.trans (s6.trans s7)), f1, hpl', f2, hnx, rfl⟩
        · rw [decide_eq_false cx]
          rcases hA with ⟨h, _⟩ | ⟨_, h, h1, h2⟩
          · exact absurd h cx
          · exact iteF ⟨.int st, rfl, st, 1, rfl, rfl, fin _ H4 h h1 h2 s4⟩
      · rw [decide_eq_false n1]
        exact iteT (bad (by show (decide (0 ≤ n) && decide (n < m)) = false; rw [decide_eq_false n1, Bool.and_false]))
    · rw [decide_eq_false n0]
      exact iteF ⟨false, rfl, iteT (bad (by show (decide (0 ≤ n) && decide (n < m)) = false; rw [decide_eq_false n0, Bool.false_and]))⟩
  | _ => exact iteT (bad rfl)
end
end CL
set_option Elab.async false
set_option linter.all false
set_option maxRecDepth 100000
set_option maxHeartbeats 4000000
namespace CL
open PySem PySem.Spec PyProof.Rows L2 GE
theorem t64 : (2 : Int) ^ 64 = 18446744073709551616 := by decide +kernel
/-- some list: for laws without a spring -/
structure ReelAt (H : Hp) (r : Addr) : Prop where
  ex : ∃ (xs : List V) (u v : Unit), H r = some (.lst xs) ∧ True
/-- all but the spring stays -/
structure Mv (r : Addr) (H H' : Hp) : Prop where
  keep : ∀ b o, b ≠ r → H b = some o → H' b = some o
theorem Mv.refl (r : Addr) (H : Hp) : Mv r H H := ⟨fun _ _ _ h => h⟩
theorem Mv.of {r : Addr} {H H' : Hp} (s : Same H H') : Mv r H H' := ⟨fun b o _ h => s b o h⟩
theorem Mv.trans {r : Addr} {H H1 H2 : Hp} (a : Mv r H H1) (b : Mv r H1 H2) : Mv r H H2 := ⟨fun c o n h => b.keep c o n (a.keep c o n h)⟩
theorem ReelAt.same {r : Addr} {H H' : Hp} (s : Same H H') (hr : ReelAt H r) : ReelAt H' r := by
  obtain ⟨f, st, n, er, h⟩ := hr
  exact ⟨f, st, n, s _ _ er, h⟩
theorem ReelAt.some {r : Addr} {H : Hp} (hr : ReelAt H r) : H r ≠ none := by
  obtain ⟨f, st, n, er, h⟩ := hr
  rw [er]
  exact nofun
theorem ReelAt.new {r p : Addr} {H : Hp} (hr : ReelAt H r) (np : H p = none) : p ≠ r := fun z => hr.some (by rw [← z]; exact np)
theorem ReelAt.store {r p : Addr} {H : Hp} {o : HO} (hr : ReelAt H r) (f : p ≠ r) : ReelAt (upd H p o) r := by
  obtain ⟨f', st, n, er, h⟩ := hr
  exact ⟨f', st, n, by rw [upd_ne (Ne.symm f)]; exact er, h⟩
theorem ReelAt.kx {r : Addr} {H H' : Hp} (h : ReelAt H r) (e : Ex H H') : ReelAt H' r := by
  obtain ⟨f, st, n, er, h⟩ := h
  exact ⟨f, st, n, e.lst er, h⟩
theorem mem_keep {r b : Addr} {H H' : Hp} (m : Mv r H H') (n : b ≠ r) (h : H b ≠ none) : H' b ≠ none := fun z => by
  cases q : H b with
  | none => exact h q
  | some o =>
    rw [m.keep b o n q] at z
    cases z
end CL
set_option Elab.async false
set_option linter.all false
set_option maxRecDepth 100000
set_option maxHeartbeats 4000000
namespace CL
open PySem PySem.Spec PyProof.Rows L2 GE
section
variable {P : Program} {w : World} {K : PySem.W.Frag} {mg : Str → Option Value} {base : Heap}
end
end CL
set_option Elab.async false
set_option linter.all false
set_option maxRecDepth 100000
set_option maxHeartbeats 4000000
namespace CL
open PySem PySem.Spec PyProof.Rows L2 GE
/-! ### a text said over -/
def repS (a : Str) (n : Nat) : Str := ⟨(List.replicate n a.cps).foldl (· ++ ·) #[]⟩
theorem op_repS {X : Cx} : OpR X (binaryOp .Mult) (fun x y H Q => ∃ (a : Str) (n : Nat), x = .str a ∧ y = .int (n : Int) ∧ a.length = 1 ∧ n ≤ 1000 ∧ Q (.str (repS a n)) H) := by
  intro pins s σ H x y v u Q I rx ry h
  obtain ⟨a, n, rfl, rfl, ha, hn, q⟩ := h
  obtain ⟨t, rfl⟩ := rx
  obtain ⟨t', rfl⟩ := ry
  have sz : 1000 ≤ sizeLine := by decide
  have p63 : (2 : Int) ^ 63 = 9223372036854775808 := by decide
  refine P.mul_str ?_ (fun h1 h2 => ?_) (fun h1 h2 => ?_) ?_
  · rw [p63, decide_eq_false (by omega), decide_eq_false (by omega)]
    rfl
  · rw [ha]
    have h3 : (1 : Int) ≤ (2 ^ 63 - 1) / (n : Int) := by
      rw [Int.le_ediv_iff_mul_le (by omega), p63]
      omega
    show ¬ ((1 : Nat) : Int) > (2 ^ 63 - 1) / (n : Int)
    omega
  · rw [ha]
    exact decide_eq_false (by show ¬ 1 * ((n : Int)).toNat > sizeLine; rw [Int.toNat_natCast]; omega)
  · by_cases h0 : (n : Int) < 1
    · rw [if_pos h0]
      have : n = 0 := by omega
      subst this
      exact ⟨Nat.zero_le _, .str (repS a 0), H, I.tok _, ⟨_, rfl⟩, q⟩
    · rw [if_neg h0]
      by_cases h1 : n = 1
      · subst h1
        rw [if_pos (by rfl)]
        have e : repS a 1 = a := by
          show (⟨#[] ++ a.cps⟩ : Str) = a
          rw [Array.empty_append]
        rw [e] at q
        exact ⟨.str a, H, I, ⟨_, rfl⟩, q⟩
      · rw [if_neg (by rw [ha]; simp; omega)]
        have e2 : ((n : Int)).toNat = n := Int.toNat_natCast n
        rw [e2]
        refine ⟨?_, .str (repS a n), H, I.tok _, ⟨_, rfl⟩, q⟩
        have hl : ∀ (k : Nat) (acc : Array Nat), ((List.replicate k a.cps).foldl (· ++ ·) acc).size = acc.size + k := by
          intro k
          induction k with
          | zero => intro acc; rfl
          | succ k ih =>
            intro acc
            rw [List.replicate_succ, List.foldl_cons, ih, Array.size_append]
            have ha' : a.cps.size = 1 := ha
            omega
        show ((List.replicate n a.cps).foldl (· ++ ·) #[]).size ≤ sizeLine
        rw [hl]
        show 0 + n ≤ sizeLine
        omega
theorem rep_zero : ∀ (k : Nat) (acc : Array Nat), ((List.replicate k #[48]).foldl (· ++ ·) acc).toList = acc.toList ++ List.replicate k 48
  | 0, acc => by simp
  | k + 1, acc => by
    rw [List.replicate_succ, List.foldl_cons, rep_zero k, Array.toList_append, List.replicate_succ]
    simp
theorem zero_cps : (PySem.Str.ofString "0") = ⟨#[48]⟩ := by decide +kernel
theorem one_cps : (PySem.Str.ofString "1") = ⟨#[49]⟩ := by decide +kernel
theorem ten_cps (n : Nat) : (PySem.Str.ofString "1" ++ repS (PySem.Str.ofString "0") n).cps.toList = 49 :: List.replicate n 48 := by
  rw [zero_cps, one_cps]
  show (#[49] ++ (List.replicate n #[48]).foldl (· ++ ·) #[]).toList = _
  rw [Array.toList_append, rep_zero]
  rfl
theorem val_zero : ∀ (k acc : Nat), (List.replicate k 48).foldl (fun acc c => acc * 10 + (c - 48)) acc = acc * 10 ^ k
  | 0, acc => by simp
  | k + 1, acc => by
    rw [List.replicate_succ, List.foldl_cons, val_zero k, Nat.pow_succ]
    show (acc * 10 + 0) * 10 ^ k = acc * (10 ^ k * 10)
    rw [Nat.add_zero, Nat.mul_assoc, Nat.mul_comm 10]
theorem ten_text {n : Nat} (h : n ≤ 30) : PySem.intText? (PySem.Str.ofString "1" ++ repS (PySem.Str.ofString "0") n) = some (((10 ^ n : Nat)) : Int) := by
  have e := ten_cps n
  have hl : (PySem.Str.ofString "1" ++ repS (PySem.Str.ofString "0") n).length = n + 1 := by
    show (PySem.Str.ofString "1" ++ repS (PySem.Str.ofString "0") n).cps.size = _
    rw [← Array.length_toList, e]
    simp
  rw [PySem.intText_digits (by rw [e]; intro c hc; rcases List.mem_cons.mp hc with h | h
                               · subst h; decide
                               · rw [(List.mem_replicate.mp h).2]; decide) (by rw [e]; exact List.cons_ne_nil _ _) (by omega), e]
  unfold NumText.digitsVal
  rw [List.foldl_cons, val_zero]
  show some (((0 * 10 + (49 - 48)) * 10 ^ n : Nat) : Int) = _
  rw [show (0 * 10 + (49 - 48)) = 1 from rfl, Nat.one_mul]
theorem ten_len {n : Nat} (h : n ≤ 30) : (PySem.Str.ofString "1" ++ repS (PySem.Str.ofString "0") n).length ≤ 640 := by
  have e := ten_cps n
  have hl : (PySem.Str.ofString "1" ++ repS (PySem.Str.ofString "0") n).length = n + 1 := by
    show (PySem.Str.ofString "1" ++ repS (PySem.Str.ofString "0") n).cps.size = _
    rw [← Array.length_toList, e]
    simp
  omega
theorem rep_len {n : Nat} (h : n ≤ 30) : (PySem.Str.ofString "1").length + (repS (PySem.Str.ofString "0") n).length ≤ sizeLine := by
  have e := ten_len h
  have e2 : (PySem.Str.ofString "1" ++ repS (PySem.Str.ofString "0") n).length = (PySem.Str.ofString "1").length + (repS (PySem.Str.ofString "0") n).length := by
    show ((PySem.Str.ofString "1").cps ++ (repS (PySem.Str.ofString "0") n).cps).size = _
    rw [Array.size_append]
    rfl
  have : 640 ≤ sizeLine := by decide
  omega
theorem ten_le {n : Nat} (h : n ≤ 30) : (((10 ^ n : Nat)) : Int) ≤ GREAT := by
  have h1 : 10 ^ n ≤ 10 ^ 30 := Nat.pow_le_pow_right (by decide) h
  have h2 : ((10 ^ 30 : Nat) : Int) = GREAT := by decide +kernel
  omega
theorem ten_le29 {n : Nat} (h : n ≤ 29) : (((10 ^ n : Nat)) : Int) ≤ 100000000000000000000000000000 := by
  have h1 : 10 ^ n ≤ 10 ^ 29 := Nat.pow_le_pow_right (by decide) h
  have h2 : ((10 ^ 29 : Nat) : Int) = 100000000000000000000000000000 := by decide +kernel
  omega
/-! ### values that may be none -/
def pvO : Option Int → V
  | none => .non
  | some i => .int i
def pdO : Option Int → PyData
  | none => .none
  | some i => .int i
def goodO : Option Int → Prop
  | none => True
  | some i => 0 ≤ i ∧ i ≤ GREAT
abbrev P29 : Int := 100000000000000000000000000000
def spPatL (r : Addr) : Sp := fun vs H Q _ => ∃ m : Int, vs = [.ref r, .int m] ∧ ReelAt H r ∧ 0 ≤ m ∧ m ≤ P29 ∧ ∀ o H', ReelAt H' r → Mv r H H' → goodO o → Q (pvO o) H'
theorem t140 : (2 : Int) ^ 140 = 1393796574908163946345982392040522594123776 := by decide +kernel
section
variable {P : Program} {w : World} {K : PySem.W.Frag} {mg : Str → Option Value} {base : Heap}
end
end CL
set_option Elab.async false
set_option linter.all false
set_option maxRecDepth 100000
set_option maxHeartbeats 4000000
namespace CL
open PySem PySem.Spec PyProof.Rows L2 GE
/-- W is tracked, the spring in it -/
structure Wk (W : Addr → Prop) (H : Hp) (r : Addr) : Prop where
  reel : W r
  trk : ∀ b, W b → H b ≠ none
theorem Mv.hw {r : Addr} {W : Addr → Prop} {H H' : Hp} (m : Mv r H H') (h : W r) : Same (Hw W H) (Hw W H') := fun b o e => by
  have hb := Hw.ne e
  rw [Hw.at hb]
  exact m.keep b o (fun z => hb (by rw [z]; exact h)) (Hw.sub W H b o e)
theorem Wk.mv {W : Addr → Prop} {H H' : Hp} {r : Addr} (k : Wk W H r) (re : ReelAt H' r) (m : Mv r H H') : Wk W H' r := ⟨k.reel, fun b hb z => by
  by_cases hr : b = r
  · rw [hr] at z
    exact re.some z
  · exact mem_keep m hr (k.trk b hb) z⟩
theorem Wk.out {W : Addr → Prop} {H : Hp} {r p : Addr} (k : Wk W H r) (n : H p = none) : ¬ W p := fun z => k.trk p z n
theorem Wk.add {W : Addr → Prop} {H : Hp} {r p : Addr} (k : Wk W H r) (n : H p ≠ none) : Wk (fun b => W b ∨ b = p) H r := ⟨.inl k.reel, fun b hb => hb.elim (k.trk b) fun z => by rw [z]; exact n⟩
theorem Mv.upd {r p : Addr} {H H' : Hp} {o : HO} (m : Mv r H H') (hn : H p = none) : Mv r H (upd H' p o) := ⟨fun b x nb e => by
  rw [upd_ne (ne_of_none e hn)]
  exact m.keep b x nb e⟩
structure Nm2 (mg : Str → Option Value) : Prop where
  range : mg "range" = none
  min : mg "min" = none
  repr : mg "repr" = none
  enum : mg "enumerate" = none
abbrev RowT := List (Option Int) × PyData
theorem rp_O {H : Hp} : ∀ o : Option Int, Rp H (pvO o) (pdO o)
  | none => .non
  | some i => .int i
theorem rp_Os {H : Hp} : ∀ os : List (Option Int), RpAll H (os.map pvO) (os.map pdO)
  | [] => .nil
  | o :: os => .cons (rp_O o) (rp_Os os)
def rowD (x : RowT) : PyData := .tuple [.list (x.1.map pdO), x.2]
def sumW (rs : List RowT) : Int := (rs.map fun x => worth x.2).sum
structure GoodRow (x : RowT) : Prop where
  lo : 1 ≤ x.1.length
  hi : x.1.length ≤ 8
  pat : ∀ o ∈ x.1, goodO o
  many : isMany x.2 = true
structure Fine (rs : List RowT) : Prop where
  lo : 1 ≤ rs.length
  hi : rs.length ≤ 8
  row : ∀ x ∈ rs, GoodRow x
  last : ∀ x ∈ rs.take (rs.length - 1), isNone x.2 = false
  sum : sumW rs ≤ GREAT
def spRows (r : Addr) : Sp := fun vs H Q _ => ∃ W, vs = [.ref r] ∧ ReelAt H r ∧ Wk W H r ∧ ∀ p rs H', ReelAt H' r → Mv r H H' → Rp (Hw W H') (.ref p) (.list (rs.map rowD)) → Fine rs → Q (.ref p) H'
theorem RpAll.unsnoc {H : Hp} : ∀ {ds : List PyData} {vs : List V} {d : PyData}, RpAll H vs (ds ++ [d]) → ∃ vs' v, vs = vs' ++ [v] ∧ RpAll H vs' ds ∧ Rp H v d
  | [], _, _, .cons h .nil => ⟨[], _, rfl, .nil, h⟩
  | _ :: _, _, _, .cons h t => by
    obtain ⟨vs', v, e, h1, h2⟩ := RpAll.unsnoc t
    exact ⟨_ :: vs', v, by rw [e]; rfl, .cons h h1, h2⟩
theorem ix_last (n : Nat) : ixN (n + 1) (-1) = some n := by
  unfold ixN
  rw [if_neg (by decide), if_pos (by omega)]
  congr 1
  omega
/-! ### rows that were drawn are a plan -/
theorem pat_good {o : Option Int} (h : goodO o) : isPatience (pdO o) = true := by
  cases o with
  | none => rfl
  | some i =>
    have h1 : 0 ≤ i := h.1
    have h2 : i ≤ GREAT := h.2
    show (decide (0 ≤ i) && decide (i ≤ GREAT)) = true
    rw [decide_eq_true h1, decide_eq_true h2]
    rfl
theorem piece_good {x : RowT} (g : GoodRow x) : isPiece (rowD x) = true := by
  have e : isPiece (rowD x) = (isTurns (.list (x.1.map pdO)) && isMany x.2) := isPiece_two rfl
  rw [e, g.many, Bool.and_true]
  show (decide (1 ≤ (x.1.map pdO).length) && decide ((x.1.map pdO).length ≤ 8) && (x.1.map pdO).all isPatience) = true
  rw [List.length_map, decide_eq_true g.lo, decide_eq_true g.hi]
  simp only [Bool.true_and, List.all_map, List.all_eq_true]
  exact fun o ho => pat_good (g.pat o ho)
theorem sum_rows : ∀ rs : List RowT, sumSnd (rs.map rowD) = sumW rs
  | [] => rfl
  | x :: rs => by
    have h := sum_rows rs
    unfold sumSnd sumW at *
    simp only [List.map_cons, List.sum_cons]
    rw [h]
    rfl
theorem fine_plan {rs : List RowT} (f : Fine rs) : isPlan (.list (rs.map rowD)) = true := by
  have e : isPlan (.list (rs.map rowD)) = isPlanL (rs.map rowD) := rfl
  rw [e]
  unfold isPlanL
  rw [sum_rows, List.length_map, decide_eq_true f.lo, decide_eq_true f.hi, decide_eq_true f.sum, Bool.and_true, Bool.true_and, Bool.true_and]
  have h1 : (rs.map rowD).all isPiece = true := by
    simp only [List.all_map, List.all_eq_true]
    exact fun x hx => piece_good (f.row x hx)
  have h2 : ((rs.map rowD).take (rs.length - 1)).any (fun d => isNone (sndD d)) = false := by
    rw [← List.map_take, List.any_eq_false]
    intro d hd
    obtain ⟨x, hx, rfl⟩ := List.mem_map.mp hd
    have h3 := f.last x hx
    have h4 : sndD (rowD x) = x.2 := rfl
    rw [h4, h3]
    exact Bool.false_ne_true
  rw [h1, h2]
  rfl
/-! ### what a call that fills tables leaves -/
theorem Ex.some {H H' : Hp} (e : Ex H H') {b : Addr} (n : H b ≠ none) : H' b ≠ none := fun z => n (e.free z)
theorem Wk.ex {W : Addr → Prop} {H H' : Hp} {r : Addr} (k : Wk W H r) (e : Ex H H') : Wk W H' r := ⟨k.reel, fun b hb => e.some (k.trk b hb)⟩
theorem Ex.hw {W : Addr → Prop} {H H' : Hp} (e : Ex H H') : Ex (Hw W H) (Hw W H') := fun b o h => by
  rw [Hw.at (Hw.ne h)]
  exact e b o (Hw.sub W H b o h)
theorem tabG_ne {P r : Addr} {H : Hp} (h : GxR.TabG H P) (hr : ReelAt H r) : P ≠ r := fun z => by
  obtain ⟨ps, e, _⟩ := h
  obtain ⟨f, st, n, er, _⟩ := hr
  rw [z, er] at e
  cases e
theorem tabG_mv {P r : Addr} {H H' : Hp} (h : GxR.TabG H P) (hr : ReelAt H r) (m : Mv r H H') : GxR.TabG H' P := by
  have n := tabG_ne h hr
  obtain ⟨ps, e, t⟩ := h
  exact ⟨ps, m.keep P _ n e, t⟩
theorem Tb.mv {P1 P2 r : Addr} {H H' : Hp} (h : Tb P1 P2 H) (hr : ReelAt H r) (m : Mv r H H') : Tb P1 P2 H' := ⟨tabG_mv h.1 hr m, tabG_mv h.2 hr m⟩
theorem tabG_upd {P p : Addr} {H : Hp} {o : HO} (h : GxR.TabG H P) (n : ∀ ps, H p ≠ some (.tbl ps)) : GxR.TabG (upd H p o) P := by
  obtain ⟨ps, e, t⟩ := h
  exact ⟨ps, by rw [upd_ne fun z => n ps (by rw [← z]; exact e)]; exact e, t⟩
theorem Tb.upd {P1 P2 p : Addr} {H : Hp} {o : HO} (h : Tb P1 P2 H) (n : ∀ ps, H p ≠ some (.tbl ps)) : Tb P1 P2 (upd H p o) := ⟨tabG_upd h.1 n, tabG_upd h.2 n⟩
theorem RpAll.exh {H H' : Hp} (e : Ex H H') {vs : List V} {ds : List PyData} (h : RpAll H vs ds) : RpAll H' vs ds := RpAll.ex e ds vs h
end CL
set_option Elab.async false
set_option linter.all false
set_option maxRecDepth 100000
set_option maxHeartbeats 4000000
namespace CL
open PySem PySem.Spec PyProof.Rows L2 GE
abbrev nPlanL : List Str := ["spring", "ends", "found", "k", "lot", "turn", "at"]
theorem p29 : (10 : Int) ^ (29 : Int).toNat = P29 := by decide +kernel
theorem sumW_snoc2 (rs : List RowT) (x : RowT) : sumW (rs ++ [x]) = sumW rs + worth x.2 := by
  unfold sumW
  rw [List.map_append, List.sum_append]
  simp
def spPlanL (r : Addr) : Sp := fun vs H Q _ => ∃ b : Bool, ∃ W, vs = [.ref r, .bl b] ∧ ReelAt H r ∧ Wk W H r ∧ ∀ p rs H', ReelAt H' r → Mv r H H' → Rp (Hw W H') (.ref p) (.list (rs.map rowD)) → Fine rs → (∀ x ∈ rs, worth x.2 ≤ P29) → (b = true → ∀ x ∈ rs, isNone x.2 = false) → Q (.ref p) H'
theorem pick2 {x : Int} (h0 : 0 ≤ x) (h1 : x < 2) {a : Int} (ha : 1 ≤ a) (hb : a ≤ 8) : ∃ z, atI [V.int a, .int 8] x = some (.int z) ∧ 1 ≤ z ∧ z ≤ 8 := by
  have hh : x = 0 ∨ x = 1 := by omega
  rcases hh with z | z <;> rw [z]
  · exact ⟨a, atI_nat (j := 0) rfl, ha, hb⟩
  · exact ⟨8, atI_nat (j := 1) rfl, by decide, by decide⟩
section
variable {P : Program} {w : World} {K : PySem.W.Frag} {mg : Str → Option Value} {base : Heap}
end
end CL
set_option Elab.async false
set_option linter.all false
set_option maxRecDepth 100000
set_option maxHeartbeats 2000000
namespace CL
open PySem PySem.Spec PyProof.Rows L2 GE
/-! ### how much a thing weighs -/
mutual
def wt : PyData → Nat
  | .none => 4
  | .bool _ => 5
  | .int i => i.natAbs.log2 + 4
  | .str x => (reprText x).length
  | .list xs => wtAll xs + 4
  | .tuple xs => wtAll xs + 4
  | .dict kvs => kvs.length * 100000000 + 2
def wtAll : List PyData → Nat
  | [] => 0
  | x :: xs => wt x + 2 + wtAll xs
end
structure B (k u : Nat) (d : PyData) : Prop where
  dp : d.depth ≤ k
  wt : wt d ≤ u
  sh : d.showable = true
theorem B.mono {k u k' u' : Nat} {d : PyData} (b : B k u d) (hk : k ≤ k') (hu : u ≤ u') : B k' u' d := ⟨Nat.le_trans b.dp hk, Nat.le_trans b.wt hu, b.sh⟩
theorem all_bnd {k u : Nat} : ∀ {ds : List PyData}, (∀ x ∈ ds, B k u x) → PyData.depthAll ds ≤ k ∧ wtAll ds ≤ ds.length * (u + 2) ∧ PyData.showableAll ds = true
  | [], _ => ⟨Nat.zero_le _, by simp [wtAll], by simp [PyData.showableAll]⟩
  | x :: ds, h => by
    obtain ⟨h1, h2, h3⟩ := all_bnd (ds := ds) fun y hy => h y (List.mem_cons_of_mem _ hy)
    have hx := h x List.mem_cons_self
    refine ⟨?_, ?_, ?_⟩
    · show max _ _ ≤ k
      exact Nat.max_le.mpr ⟨hx.dp, h1⟩
    · show wt x + 2 + wtAll ds ≤ _
      rw [List.length_cons, Nat.add_mul]
      have := hx.wt
      omega
    · simp [PyData.showableAll, hx.sh, h3]
theorem B.list {k u n : Nat} {ds : List PyData} (h : ∀ x ∈ ds, B k u x) (hn : ds.length ≤ n) : B (k + 1) (n * (u + 2) + 4) (.list ds) := by
  obtain ⟨h1, h2, h3⟩ := all_bnd h
  have := Nat.mul_le_mul_right (u + 2) hn
  refine ⟨?_, ?_, ?_⟩
  · show PyData.depthAll ds + 1 ≤ k + 1
    omega
  · show wtAll ds + 4 ≤ _
    omega
  · simp [PyData.showable, h3]
theorem B.tuple {k u n : Nat} {ds : List PyData} (h : ∀ x ∈ ds, B k u x) (hn : ds.length ≤ n) : B (k + 1) (n * (u + 2) + 4) (.tuple ds) := by
  obtain ⟨h1, h2, h3⟩ := all_bnd h
  have := Nat.mul_le_mul_right (u + 2) hn
  refine ⟨?_, ?_, ?_⟩
  · show PyData.depthAll ds + 1 ≤ k + 1
    omega
  · show wtAll ds + 4 ≤ _
    omega
  · simp [PyData.showable, h3]
theorem b_none {k : Nat} : B k 200 .none := ⟨Nat.zero_le _, by decide, rfl⟩
theorem b_bool {k : Nat} {b : Bool} : B k 200 (.bool b) := ⟨Nat.zero_le _, by show 5 ≤ 200; decide, rfl⟩
theorem b_int {k : Nat} {i : Int} (h : i.natAbs < 2 ^ 140) : B k 200 (.int i) := by
  have h1 : i.natAbs.log2 < 140 := PySem.Flt.log2_lt_of (by decide) h
  exact ⟨Nat.zero_le _, by show i.natAbs.log2 + 4 ≤ 200; omega, by simp [PyData.showable]; omega⟩
/-- a list of lo to hi things, each P -/
def Ls (lo hi : Nat) (P : PyData → Prop) (d : PyData) : Prop := ∃ ds, d = .list ds ∧ lo ≤ ds.length ∧ ds.length ≤ hi ∧ ∀ x ∈ ds, P x
def Tp (n : Nat) (P : PyData → Prop) (d : PyData) : Prop := ∃ ds, d = .tuple ds ∧ ds.length ≤ n ∧ ∀ x ∈ ds, P x
/-! ### evaluation where nothing but the reel changes -/
abbrev Gam := List (V × PyData)
def GOk (W : Addr → Prop) (H : Hp) (G : Gam) : Prop := ∀ p ∈ G, Rp (Hw W H) p.1 p.2
theorem GOk.mv {r : Addr} {W : Addr → Prop} {H H' : Hp} {G : Gam} (g : GOk W H G) (m : Mv r H H') (h : W r) : GOk W H' G := fun p hp => Rp.sm (m.hw h) (g p hp)
theorem GOk.cons {W : Addr → Prop} {H : Hp} {G : Gam} {v : V} {d : PyData} (g : GOk W H G) (h : Rp (Hw W H) v d) : GOk W H ((v, d) :: G) := fun p hp => by
  rcases List.mem_cons.mp hp with e | hp
  · rw [e]; exact h
  · exact g p hp
structure Se (r : Addr) (W : Addr → Prop) (G : Gam) (H : Hp) : Prop where
  re : ReelAt H r
  wk : Wk W H r
  ok : GOk W H G
theorem Se.mv {r : Addr} {W : Addr → Prop} {G : Gam} {H H' : Hp} (s : Se r W G H) (re : ReelAt H' r) (m : Mv r H H') : Se r W G H' := ⟨re, s.wk.mv re m, s.ok.mv m s.wk.reel⟩
theorem Se.same {r : Addr} {W : Addr → Prop} {G : Gam} {H H' : Hp} (s : Se r W G H) (m : Same H H') : Se r W G H' := s.mv (s.re.same m) (Mv.of m)
section
variable {r : Addr} {W : Addr → Prop} {G : Gam} {σ : L2.St}
def Ev (r : Addr) (W : Addr → Prop) (G : Gam) (σ : L2.St) (te : TE) (P : PyData → Prop) : Prop := ∀ H Q, Se r W G H → (∀ v d H', ReelAt H' r → Mv r H H' → Rp (Hw W H') v d → P d → Q v H') → te σ H Q
def EvI (r : Addr) (W : Addr → Prop) (G : Gam) (σ : L2.St) (te : TE) (P : Int → Prop) : Prop := ∀ H Q, Se r W G H → (∀ i H', ReelAt H' r → Mv r H H' → P i → Q (.int i) H') → te σ H Q
def EvA (r : Addr) (W : Addr → Prop) (G : Gam) (σ : L2.St) (ta : TA) (n : Nat) (P : PyData → Prop) : Prop := ∀ H Q, Se r W G H → (∀ vs ds H', ReelAt H' r → Mv r H H' → RpAll (Hw W H') vs ds → ds.length = n → (∀ x ∈ ds, P x) → Q vs H') → ta σ H Q
theorem Ev.imp {te : TE} {P P' : PyData → Prop} (e : Ev r W G σ te P) (h : ∀ d, P d → P' d) : Ev r W G σ te P' := fun H Q s q => e H Q s fun v d H' re m rp p => q v d H' re m rp (h d p)
theorem EvI.imp {te : TE} {P P' : Int → Prop} (e : EvI r W G σ te P) (h : ∀ d, P d → P' d) : EvI r W G σ te P' := fun H Q s q => e H Q s fun i H' re m p => q i H' re m (h i p)
theorem EvI.ev {te : TE} {P : Int → Prop} {P' : PyData → Prop} (e : EvI r W G σ te P) (h : ∀ i, P i → P' (.int i)) : Ev r W G σ te P' := fun H Q s q => e H Q s fun i H' re m p => q _ _ H' re m (.int i) (h i p)
theorem ev_int {i : Int} : EvI r W G σ (tC (.int i)) (· = i) := fun H Q s q => q i H s.re (Mv.refl r H) rfl
theorem ev_non {P : PyData → Prop} (h : P .none) : Ev r W G σ (tC .non) P := fun H Q s q => q _ _ H s.re (Mv.refl r H) .non h
theorem ev_bl {b : Bool} {P : PyData → Prop} (h : P (.bool b)) : Ev r W G σ (tC (.bl b)) P := fun H Q s q => q _ _ H s.re (Mv.refl r H) (.bl b) h
theorem ev_str {x : Str} {P : PyData → Prop} (h : P (.str x)) : Ev r W G σ (tC (.str x)) P := fun H Q s q => q _ _ H s.re (Mv.refl r H) (.str x) h
theorem ev_var {i : Nat} {v : V} {d : PyData} {P : PyData → Prop} (h1 : σ[i]? = some (some v)) (h2 : (v, d) ∈ G) (h : P d) : Ev r W G σ (tVar i) P := fun H Q s q => ⟨v, h1, q v d H s.re (Mv.refl r H) (s.ok _ h2) h⟩
theorem ev_varI {i : Nat} {x : Int} (h1 : σ[i]? = some (some (.int x))) : EvI r W G σ (tVar i) (· = x) := fun H Q s q => ⟨.int x, h1, q x H s.re (Mv.refl r H) rfl⟩
theorem eva_nil {P : PyData → Prop} : EvA r W G σ tNil 0 P := fun H Q s q => q [] [] H s.re (Mv.refl r H) .nil rfl (fun _ h => nomatch h)
theorem eva_cons {te : TE} {ta : TA} {n : Nat} {P : PyData → Prop} (e : Ev r W G σ te P) (a : EvA r W G σ ta n P) : EvA r W G σ (tCons te ta) (n + 1) P := fun H Q s q =>
  e H _ s fun v d H1 re1 m1 rp1 p1 => a H1 _ (s.mv re1 m1) fun vs ds H2 re2 m2 rp2 l2 p2 => q (v :: vs) (d :: ds) H2 re2 (m1.trans m2) (.cons (Rp.sm (m2.hw s.wk.reel) rp1) rp2) (by rw [List.length_cons, l2]) fun x hx => by
    rcases List.mem_cons.mp hx with z | z
    · rw [z]; exact p1
    · exact p2 x z
theorem ev_lst {ta : TA} {n : Nat} {P : PyData → Prop} (a : EvA r W G σ ta n P) (hn : n ≤ 1000 := by decide) : Ev r W G σ (tLst ta) (Ls n n P) := fun H Q s q =>
  a H _ s fun vs ds H1 re1 m1 rp1 l1 p1 => ⟨small_le (by rw [rp1.length]; omega), fun p np => q (.ref p) (.list ds) _ (re1.same (same_upd np)) (m1.trans (Mv.of (same_upd np)))
    (.lst (by rw [Hw.at ((s.wk.mv re1 m1).out np)]; exact upd_same) (RpAll.sm (Same.hw (same_upd np)) rp1)) ⟨ds, rfl, Nat.le_of_eq l1.symm, Nat.le_of_eq l1, p1⟩⟩
theorem ev_tup {ta : TA} {n : Nat} {P : PyData → Prop} (a : EvA r W G σ ta n P) (hn : n ≤ 1000 := by decide) : Ev r W G σ (tTup ta) (Tp n P) := fun H Q s q =>
  a H _ s fun vs ds H1 re1 m1 rp1 l1 p1 => ⟨small_le (by rw [rp1.length]; omega), fun p np => q (.ref p) (.tuple ds) _ (re1.same (same_upd np)) (m1.trans (Mv.of (same_upd np)))
    (.tup (by rw [Hw.at ((s.wk.mv re1 m1).out np)]; exact upd_same) (RpAll.sm (Same.hw (same_upd np)) rp1)) ⟨ds, rfl, Nat.le_of_eq l1, p1⟩⟩
theorem rp_list {H : Hp} {v : V} {ds : List PyData} (h : Rp H v (.list ds)) : ∃ p xs, v = .ref p ∧ H p = some (.lst xs) ∧ RpAll H xs ds := by
  cases h with
  | lst h1 h2 => exact ⟨_, _, rfl, h1, h2⟩
theorem ev_cat {ta tb : TE} {l1 h1 l2 h2 : Nat} {P : PyData → Prop} (a : Ev r W G σ ta (Ls l1 h1 P)) (b : Ev r W G σ tb (Ls l2 h2 P)) (hn : h1 ≤ 1000 := by decide) (hm : h2 ≤ 1000 := by decide) : Ev r W G σ (tOp rCat ta tb) (Ls (l1 + l2) (h1 + h2) P) := fun H Q s q =>
  a H _ s fun v d H1 re1 m1 rp1 ⟨ds, e1, a1, b1, p1⟩ => b H1 _ (s.mv re1 m1) fun v2 d2 H2 re2 m2 rp2 ⟨es, e2, a2, b2, p2⟩ => by
    subst e1 e2
    obtain ⟨p, xs, rfl, hp, hx⟩ := rp_list (Rp.sm (m2.hw s.wk.reel) rp1)
    obtain ⟨p', ys, rfl, hp', hy⟩ := rp_list rp2
    refine ⟨p, p', xs, ys, rfl, rfl, Hw.sub W H2 _ _ hp, Hw.sub W H2 _ _ hp', small_add (by rw [hx.length]; omega) (by rw [hy.length]; omega), fun t nt => q (.ref t) (.list (ds ++ es)) _ (re2.same (same_upd nt)) ((m1.trans m2).trans (Mv.of (same_upd nt)))
      (.lst (by rw [Hw.at ((s.wk.mv re2 (m1.trans m2)).out nt)]; exact upd_same) (RpAll.sm (Same.hw (same_upd nt)) (hx.append hy))) ⟨ds ++ es, rfl, by rw [List.length_append]; omega, by rw [List.length_append]; omega, fun x hx => (List.mem_append.mp hx).elim (p1 x) (p2 x)⟩⟩
theorem RpAll.drop {H : Hp} : ∀ {vs : List V} {ds : List PyData} (n : Nat), RpAll H vs ds → RpAll H (vs.drop n) (ds.drop n)
  | _, _, 0, h => h
  | _, _, _ + 1, .nil => .nil
  | _, _, n + 1, .cons _ t => RpAll.drop n t
theorem ev_sl {K : PySem.W.Frag} {te : TE} {tl th : TO} {lo hi : Nat} {P : PyData → Prop} (a : Ev r W G σ te (Ls lo hi P)) (hl : ∀ H Q, Se r W G H → (∀ l H', ReelAt H' r → Mv r H H' → Q l H') → tl σ H Q) (hh : ∀ H Q, Se r W G H → (∀ l H', ReelAt H' r → Mv r H H' → Q l H') → th σ H Q) :
    Ev r W G σ (tSl (rSlL K) te tl th) (Ls 0 hi P) := fun H Q s q =>
  a H _ s fun v d H1 re1 m1 rp1 ⟨ds, e1, a1, b1, p1⟩ => hl H1 _ (s.mv re1 m1) fun l H2 re2 m2 => hh H2 _ (s.mv re2 (m1.trans m2)) fun u H3 re3 m3 => by
    subst e1
    obtain ⟨p, xs, rfl, hp, hx⟩ := rp_list (Rp.sm ((m2.trans m3).hw s.wk.reel) rp1)
    have m13 := m1.trans (m2.trans m3)
    refine ⟨p, xs, rfl, SqL.of (Hw.sub W H3 _ _ hp), fun t nt => q (.ref t) (.list ((ds.drop (HT.sIx xs.length 0 l)).take (HT.sIx xs.length xs.length u - HT.sIx xs.length 0 l))) _ (re3.same (same_upd nt)) (m13.trans (Mv.of (same_upd nt)))
      (.lst (by rw [Hw.at ((s.wk.mv re3 m13).out nt)]; exact upd_same) (RpAll.sm (Same.hw (same_upd nt)) ((hx.drop _).take _))) ⟨_, rfl, Nat.zero_le _, ?_, fun x hx => p1 x (List.mem_of_mem_drop (List.mem_of_mem_take hx))⟩⟩
    rw [List.length_take, List.length_drop]
    omega
theorem part_none : ∀ H (Q : Option Int → Hp → Prop), Se r W G H → (∀ l H', ReelAt H' r → Mv r H H' → Q l H') → tNoPart σ H Q := fun H Q s q => q none H s.re (Mv.refl r H)
theorem part_some {te : TE} {P : Int → Prop} (e : EvI r W G σ te P) : ∀ H (Q : Option Int → Hp → Prop), Se r W G H → (∀ l H', ReelAt H' r → Mv r H H' → Q l H') → tPart te σ H Q := fun H Q s q => e H _ s fun i H' re m _ => ⟨i, rfl, q (some i) H' re m⟩
theorem ev_ix {K : PySem.W.Frag} {ta ti : TE} {lo hi : Nat} {P : PyData → Prop} (a : Ev r W G σ ta (Ls lo hi P)) (b : EvI r W G σ ti (fun x => 0 ≤ x ∧ x < (lo : Int))) : Ev r W G σ (tOp (rIxL K) ta ti) P := fun H Q s q =>
  a H _ s fun v d H1 re1 m1 rp1 ⟨ds, e1, a1, b1, p1⟩ => b H1 _ (s.mv re1 m1) fun i H2 re2 m2 hi => by
    subst e1
    obtain ⟨p, xs, rfl, hp, hx⟩ := rp_list (Rp.sm (m2.hw s.wk.reel) rp1)
    obtain ⟨j, rfl⟩ : ∃ j : Nat, i = (j : Int) := ⟨i.toNat, (Int.toNat_of_nonneg hi.1).symm⟩
    have hj : j < xs.length := by have := hx.length; omega
    obtain ⟨d, hd, hr⟩ := hx.get (List.getElem?_eq_getElem hj)
    exact ⟨p, xs, j, xs[j], rfl, rfl, SqL.of (Hw.sub W H2 _ _ hp), atI_nat (List.getElem?_eq_getElem hj), q _ d H2 re2 (m1.trans m2) hr (p1 d (List.mem_of_getElem? hd))⟩
theorem ev_rep {ta ti : TE} {lo hi : Nat} {k : Nat} {P : PyData → Prop} (a : Ev r W G σ ta (Ls lo hi P)) (b : EvI r W G σ ti (fun x => x ≤ (k : Int) ∧ -1000 ≤ x)) (h1 : hi ≤ 1000 := by decide) (hk : hi * k ≤ 1000 := by decide) (hk2 : k ≤ 1000 := by decide) : Ev r W G σ (tOp rRep ta ti) (Ls 0 (hi * k) P) := fun H Q s q =>
  a H _ s fun v d H1 re1 m1 rp1 ⟨ds, e1, a1, b1, p1⟩ => b H1 _ (s.mv re1 m1) fun i H2 re2 m2 hi' => by
    subst e1
    obtain ⟨p, xs, rfl, hp, hx⟩ := rp_list (Rp.sm (m2.hw s.wk.reel) rp1)
    have hl := hx.length
    have kk : i.toNat ≤ k := by omega
    have hmul : xs.length * i.toNat ≤ hi * k := Nat.mul_le_mul (by omega) kk
    have rep : ∀ n : Nat, RpAll (Hw W H2) (List.replicate n xs).flatten (List.replicate n ds).flatten := fun n => by
      induction n with
      | zero => exact .nil
      | succ n ih =>
        rw [List.replicate_succ, List.replicate_succ, List.flatten_cons, List.flatten_cons]
        exact hx.append ih
    refine ⟨p, i, xs, rfl, rfl, Hw.sub W H2 _ _ hp, by omega, by omega, small_le (by omega), fun t nt => q (.ref t) (.list (List.replicate i.toNat ds).flatten) _ (re2.same (same_upd nt)) ((m1.trans m2).trans (Mv.of (same_upd nt)))
      (.lst (by rw [Hw.at ((s.wk.mv re2 (m1.trans m2)).out nt)]; exact upd_same) (RpAll.sm (Same.hw (same_upd nt)) (rep _))) ⟨_, rfl, Nat.zero_le _, ?_, fun x hx => ?_⟩⟩
    · have := (rep i.toNat).length
      rw [← this]
      rw [List.length_flatten, List.map_replicate, List.sum_replicate_nat]
      rw [Nat.mul_comm]
      exact hmul
    · obtain ⟨l, hl, hxl⟩ := List.mem_flatten.mp hx
      rw [(List.mem_replicate.mp hl).2] at hxl
      exact p1 x hxl
theorem ev_len {K : PySem.W.Frag} {i : Nat} {v : V} {ds : List PyData} (h1 : σ[i]? = some (some v)) (h2 : (v, PyData.list ds) ∈ G) :
    EvI r W G σ (tCB (fun xs H Q => ∃ p ys, xs = [.ref p] ∧ (SqL K H p ys ∨ SqT K H p ys) ∧ Q (.int ys.length) H) (tCons (tVar i) tNil)) (· = (ds.length : Int)) := fun H Q s q => by
  obtain ⟨p, xs, rfl, hp, hx⟩ := rp_list (s.ok _ h2)
  exact ⟨.ref p, h1, p, xs, rfl, .inl (SqL.of (Hw.sub W H _ _ hp)), q _ H s.re (Mv.refl r H) (by rw [hx.length])⟩
theorem evi_add {ta tb : TE} {x y : Int} (a : EvI r W G σ ta (· = x)) (b : EvI r W G σ tb (· = y)) : EvI r W G σ (tOp (rI0 fun i j => .int (i + j)) ta tb) (· = x + y) := fun H Q s q =>
  a H _ s fun i H1 re1 m1 e1 => b H1 _ (s.mv re1 m1) fun j H2 re2 m2 e2 => ⟨i, j, rfl, rfl, q _ H2 re2 (m1.trans m2) (by rw [e1, e2])⟩
theorem evi_sub {ta tb : TE} {x y : Int} (a : EvI r W G σ ta (· = x)) (b : EvI r W G σ tb (· = y)) : EvI r W G σ (tOp (rI0 fun i j => .int (i - j)) ta tb) (· = x - y) := fun H Q s q =>
  a H _ s fun i H1 re1 m1 e1 => b H1 _ (s.mv re1 m1) fun j H2 re2 m2 e2 => ⟨i, j, rfl, rfl, q _ H2 re2 (m1.trans m2) (by rw [e1, e2])⟩
theorem evi_pow {x y : Int} (h : CPow x y) : EvI r W G σ (tOp (rI CPow fun i j => .int (i ^ j.toNat)) (tC (.int x)) (tC (.int y))) (· = x ^ y.toNat) := fun H Q s q =>
  ⟨x, y, rfl, rfl, h, q _ H s.re (Mv.refl r H) rfl⟩
theorem evi_neg {x : Int} : EvI r W G σ (tUn (rU fun i => .int (-i)) (tC (.int x))) (· = -x) := fun H Q s q => ⟨x, rfl, q _ H s.re (Mv.refl r H) rfl⟩
theorem ev_set {te : TE} {i : Nat} {P : PyData → Prop} {D : Ends} {H : Hp} (e : Ev r W G σ te P) (s : Se r W G H) (h : ∀ v d H', Se r W ((v, d) :: G) H' → Mv r H H' → P d → D.nx (σ.set i (some v)) H') : tAsg te (gName i) D σ H :=
  e H _ s fun v d H' re m rp p => h v d H' ⟨re, s.wk.mv re m, (s.ok.mv m s.wk.reel).cons rp⟩ m p
theorem evi_set {te : TE} {i : Nat} {P : Int → Prop} {D : Ends} {H : Hp} (e : EvI r W G σ te P) (s : Se r W G H) (h : ∀ x H', Se r W G H' → Mv r H H' → P x → D.nx (σ.set i (some (.int x))) H') : tAsg te (gName i) D σ H :=
  e H _ s fun x H' re m p => h x H' (s.mv re m) m p
end
end CL
set_option Elab.async false
set_option linter.all false
set_option maxRecDepth 100000
set_option maxHeartbeats 4000000
namespace CL
open PySem PySem.Spec PyProof.Rows L2 GE
/-! ### a def that is called where no repr is under way -/
structure FnG (P : Program) (w : World) (K : PySem.W.Frag) (mg : Str → Option Value) (base : Heap) (k : Nat) (f : Addr) (fd : FuncData) (ps : List Str) (sp : Sp) : Prop where
  run : ∀ (A : Around) (outer : List Env) (s : Shared) (H : Hp) (args : Args) (us : List Value) (vs : List V) (Q : VK) (E : XK), A.guards = some [] → Room k A → Env0 P w K mg base A outer s H → BindsTo s fd args (ps.zip us) → Vals vs us → sp vs H Q E →
    codeAny (model P w) A (.call (.ref f) args) (CR CX0 outer P w H s Q E) s
theorem fng_of {P : Program} {w : World} {K : PySem.W.Frag} {mg : Str → Option Value} {base : Heap} {x qual : Str} {st : Stmt} {f : Addr} {fd : FuncData} {N ps : List Str} {k : Nat} {sp : Sp} (F : Fun K x qual st f fd) (S : FnScope N ps (defScope st)) (len : ∀ vs H Q E, sp vs H Q E → vs.length = ps.length)
    (hbody : ∀ (cdv : Value) (A : Around) (outer : List Env) (s : Shared) (H : Hp) (vs : List V) (Q : VK) (E : XK), A.guards = some [] → Room k (A.deeper (envOfC qual (defScope st) s.heap.objs.size f cdv)) → sp vs H Q E →
      ∃ t, PSs (cxOf CX0 P w K mg base N qual (defScope st) f cdv A outer s H E).nox (defBody st) t ∧ t { nx := fun _ H' => Q .non H', rt := Q } (start N vs) H) : FnG P w K mg base (k + 1) f fd ps sp := by
  obtain ⟨oc, od, kV, doc, pm, an, cdv, ct, osl, rfl, lk, hcd⟩ := F.ex
  constructor
  intro A outer s H args us vs Q E hgd hr e0 hb r hsp
  have hl : vs.length = ps.length := len _ _ _ _ hsp
  have up : ∀ b o, base.get? b = some o → s.heap.get? b = some o := fun b o e => (e0.bs b o e).1
  have KX : K.In s.heap := e0.mod.kin.keeps up
  have pk : ∀ y ∈ ps.zip us, (defScope st).names.lookup y.1 = some .local ∨ ((defScope st).names.lookup y.1 = some .cell ∧ ((cellsFrom (s.heap.objs.size + 1) (defScope st).names []).lookup y.1).isSome = true) := by
    rintro ⟨n, v⟩ hy
    exact (S.par n (List.of_mem_zip hy).1).imp id fun q => ⟨q, PySem.W.cellsFrom_some _ _ _ (.inl q)⟩
  refine codeAny_call_function hr.depth (KX _ _ lk) rfl S.co S.gen rfl (PySem.W.codeRec_of KX hcd) (hb _ _ _ _ (wpAny_newFunctionEnv_cells S.kind pk fun env he s1 x => ?_))
  subst he
  obtain ⟨t, ht, hq⟩ := hbody cdv A outer s H vs Q E hgd (hr.deeper _) hsp
  refine ⟨(e0.mod.nolimit.keeps up).keeps x.toInCall.keep, codeAny_func (wpAny_mono (ht.nox.run [] s1 (start N vs) H _ (inv_start S hr.hd e0 hl r x) hq) (fun fl s' hs => ?_) fun _ _ z => z)⟩
  cases fl with
  | ret u =>
    obtain ⟨v, _, H', J, rv, z⟩ := hs
    exact ⟨v, H', J.os, J.bare, J.base, J.hok, rv, z⟩
  | next =>
    obtain ⟨_, H', J, z⟩ := hs
    exact ⟨.non, H', J.os, J.bare, J.base, J.hok, rfl, z⟩
  | brk => exact (let ⟨_, _, _, z⟩ := hs; z : False).elim
  | cont => exact (let ⟨_, _, _, z⟩ := hs; z : False).elim
/-! ### repr of data -/
section
variable {X : Cx} {pins : List (Addr × Obj)} {σ : L2.St} {H : Hp} {s : Shared}
mutual
theorem Rp.reads (hsys : ∃ o, X.base.get? sysModules = some o) (I : Inv X pins σ H s) : ∀ (d : PyData) (v : V) (u : Value), Rp H v d → RelV v u → ∃ as, Reads s.heap u d as ∧ sysModules ∉ as
  | .none, _, _, h, r => by cases h; cases r; exact ⟨_, Reads.none, by simp⟩
  | .bool b, _, _, h, r => by cases h; cases r; exact ⟨_, Reads.bool b, by simp⟩
  | .int i, _, _, h, r => by cases h; obtain ⟨t, rfl⟩ := r; exact ⟨_, Reads.int i t, by simp⟩
  | .str x, _, _, h, r => by cases h; obtain ⟨t, rfl⟩ := r; exact ⟨_, Reads.str x t, by simp⟩
  | .list ds, _, _, h, r => by
    cases h with
    | @lst a xs _ hs ha =>
      cases r
      obtain ⟨its, rv, ⟨o, n, ho, hc, _, hd⟩, _⟩ := I.list (SqL.of hs)
      obtain ⟨as, hr, hn⟩ := RpAll.reads hsys I ds _ its ha rv
      refine ⟨_, Reads.list ho hc hd hr, fun z => (List.mem_cons.mp z).elim (fun e => ?_) hn⟩
      obtain ⟨o1, ho1⟩ := hsys
      have z := (I.bs _ _ ho1).2
      rw [e, hs] at z
      cases z
  | .tuple ds, _, _, h, r => by
    cases h with
    | tup hs ha =>
      cases r
      obtain ⟨its, rv, ⟨o, ho, hc, n, hd⟩, _⟩ := I.tuple (SqT.of hs)
      obtain ⟨as, hr, hn⟩ := RpAll.reads hsys I ds _ its ha rv
      exact ⟨_, Reads.tuple ho hc hd hr, hn⟩
  | .dict kvs, _, _, h, r => by
    cases h with
    | @dct a hs =>
      cases r
      obtain ⟨_, hne, vs, kv, o, es, ep, ho, hx, hd, _, hp, _⟩ := (show ObjOk X.prog X.w H s.heap a (.dK []) from I.hok a _ hs)
      cases kv
      have e0 : es.toList = [] := List.eq_nil_of_length_eq_zero hp.length
      refine ⟨_, Reads.dict ho hx.1 hd (by rw [e0]; exact .nil) (by rw [e0]; exact .nil), fun z => ?_⟩
      have z' : sysModules = a := by simpa using z
      rw [z'] at hne
      simp at hne
theorem RpAll.reads (hsys : ∃ o, X.base.get? sysModules = some o) (I : Inv X pins σ H s) : ∀ (ds : List PyData) (vs : List V) (us : List Value), RpAll H vs ds → Vals vs us → ∃ as, ReadsAll s.heap us ds as ∧ sysModules ∉ as
  | [], _, _, h, r => by cases h; cases r; exact ⟨_, ReadsAll.nil, by simp⟩
  | d :: ds, _, _, h, r => by
    cases h with
    | cons h1 h2 =>
      cases r with
      | cons r1 r2 =>
        obtain ⟨as, q1, n1⟩ := Rp.reads hsys I d _ _ h1 r1
        obtain ⟨bs, q2, n2⟩ := RpAll.reads hsys I ds _ _ h2 r2
        exact ⟨_, ReadsAll.cons q1 q2, fun z => (List.mem_append.mp z).elim n1 n2⟩
end
end
/-! ### how long a thing is, shown -/
theorem piled_le {ts : List Str} : ∀ {ds : List PyData}, ts = PyData.shownAll ds → (∀ d ∈ ds, d.shown.length ≤ wt d) → piled ts ≤ wtAll ds
  | [], e, _ => by rw [e]; exact Nat.le_refl 0
  | d :: ds, e, h => by
    have ih := piled_le (ts := PyData.shownAll ds) rfl fun x hx => h x (List.mem_cons_of_mem _ hx)
    have h1 := h d List.mem_cons_self
    rw [e]
    show d.shown.length + 2 + piled (PyData.shownAll ds) ≤ wt d + 2 + wtAll ds
    omega
theorem list_len (ts : List Str) : (listText ts).length ≤ piled ts + 2 := by
  cases ts with
  | nil => decide +kernel
  | cons t r =>
    have h := textFrom_length_pos r 1 (("[" : Str) ++ (if (0 : Nat) > 0 then ", " else "" : String) ++ t) (Nat.succ_pos 0)
    have hX : (listText (t :: r)).length = (textFrom 1 (("[" : Str) ++ (if (0 : Nat) > 0 then ", " else "" : String) ++ t) r).length + 1 := by
      show (textFrom 1 _ r ++ "]").length = _
      rw [Str.length_append]
      rfl
    have e1 : ((("[" : Str) ++ (if (0 : Nat) > 0 then ", " else "" : String) ++ t) : Str).length = 1 + t.length := by
      rw [Str.length_append, Str.length_append]
      rfl
    have e2 : piled (t :: r) = t.length + 2 + piled r := rfl
    omega
theorem tuple_len (ts : List Str) : (tupleText ts).length ≤ piled ts + 3 := by
  have h : (Str.join ", " ts).length ≤ piled ts := by
    by_cases e : ts = []
    · rw [e]; decide +kernel
    · have := join_length_add ts e
      omega
  unfold tupleText
  rw [Str.length_append, Str.length_append]
  have h1 : (("(" : Str)).length = 1 := by decide +kernel
  have h2 : ((if ts.length == 1 then ",)" else ")" : String) : Str).length ≤ 2 := by
    split <;> decide +kernel
  omega
mutual
theorem shown_le : ∀ d : PyData, wt d ≤ 10000000 → d.showable = true → d.shown.length ≤ wt d
  | .none, _, _ => by decide +kernel
  | .bool b, _, _ => by cases b <;> decide +kernel
  | .int i, _, _ => by
    have h := int_text_length_le (a := i) (k := i.natAbs.log2 + 1) (Nat.succ_pos _) (Nat.lt_succ_self _)
    show (Str.ofString (toString i)).length ≤ i.natAbs.log2 + 4
    rw [PySem.ofString_length]
    omega
  | .str x, _, _ => Nat.le_refl _
  | .list ds, h, s => by
    have h1 := shown_all ds (by have : wt (.list ds) = wtAll ds + 4 := rfl; omega) (by simpa [PyData.showable] using s)
    have h2 := piled_le rfl h1
    have h3 := list_len (PyData.shownAll ds)
    show (listText (PyData.shownAll ds)).length ≤ wtAll ds + 4
    omega
  | .tuple ds, h, s => by
    have h1 := shown_all ds (by have : wt (.tuple ds) = wtAll ds + 4 := rfl; omega) (by simpa [PyData.showable] using s)
    have h2 := piled_le rfl h1
    have h3 := tuple_len (PyData.shownAll ds)
    show (tupleText (PyData.shownAll ds)).length ≤ wtAll ds + 4
    omega
  | .dict [], _, _ => by decide +kernel
  | .dict (x :: kvs), h, _ => by
    have : wt (.dict (x :: kvs)) = (kvs.length + 1) * 100000000 + 2 := rfl
    omega
theorem shown_all : ∀ ds : List PyData, wtAll ds ≤ 10000000 → PyData.showableAll ds = true → ∀ d ∈ ds, d.shown.length ≤ wt d
  | [], _, _, d, hd => nomatch hd
  | x :: ds, h, s, d, hd => by
    have e : wtAll (x :: ds) = wt x + 2 + wtAll ds := rfl
    have s' : x.showable = true ∧ PyData.showableAll ds = true := by simpa [PyData.showableAll] using s
    rcases List.mem_cons.mp hd with z | z
    · rw [z]
      exact shown_le x (by omega) s'.1
    · exact shown_all ds (by omega) s'.2 d z
end
/-! ### repr(x) of a list or a tuple -/
theorem call_reprD {X : Cx} {k : Nat} (hg : X.A.guards = some []) (hr : Room k X.A) (hsys : ∃ o, X.base.get? sysModules = some o) :
    CallR X (.builtin "repr") (fun xs H Q => ∃ v d a, xs = [v] ∧ v = .ref a ∧ Rp H v d ∧ B 100 10000000 d ∧ Q (.str d.shown) H) := by
  intro pins s σ H xs us Q I r h
  obtain ⟨v, d, a, rfl, rfl, hR, hB, q⟩ := h
  obtain ⟨u, rfl, rx⟩ := vals1 r
  obtain ⟨as, hrd, hno⟩ := Rp.reads hsys I d _ _ hR rx
  cases rx
  refine repr_of_reads' hrd hB.sh (fun _ => hno) hg (by have := hr.un; have := hB.dp; omega) (fun _ _ e => e) (fun h' u tk hk => ⟨.str _, H, I.kept hk, ⟨_, rfl⟩, q⟩) ?_
  have h1 := shown_le d hB.wt hB.sh
  have h2 := hB.wt
  rw [sizeLine_eq]
  omega
end CL
set_option Elab.async false
set_option linter.all false
set_option maxRecDepth 100000
set_option maxHeartbeats 4000000
namespace CL
open PySem PySem.Spec PyProof.Rows L2 GE
section
variable {r : Addr} {W : Addr → Prop} {G : Gam} {σ : L2.St}
def EvX (r : Addr) (W : Addr → Prop) (G : Gam) (σ : L2.St) (te : TE) (d : PyData) : Prop := Ev r W G σ te (· = d)
def EvXs (r : Addr) (W : Addr → Prop) (G : Gam) (σ : L2.St) (ta : TA) (ds : List PyData) : Prop := ∀ H Q, Se r W G H → (∀ vs H', ReelAt H' r → Mv r H H' → RpAll (Hw W H') vs ds → Q vs H') → ta σ H Q
theorem xi {te : TE} {n : Int} (e : EvI r W G σ te (· = n)) : EvX r W G σ te (.int n) := e.ev fun i h => by rw [h]
theorem xi_neg {te : TE} {n : Int} (e : EvI r W G σ te (· = n)) : EvI r W G σ (tUn (rU fun i => .int (-i)) te) (· = -n) := fun H Q s q => e H _ s fun i H' re m h => ⟨i, rfl, q _ H' re m (by rw [h])⟩
theorem x_non : EvX r W G σ (tC .non) .none := ev_non rfl
theorem x_bl {b : Bool} : EvX r W G σ (tC (.bl b)) (.bool b) := ev_bl rfl
theorem x_str {x : Str} : EvX r W G σ (tC (.str x)) (.str x) := ev_str rfl
theorem x_var {i : Nat} {v : V} {d : PyData} (h1 : σ[i]? = some (some v)) (h2 : (v, d) ∈ G) : EvX r W G σ (tVar i) d := ev_var h1 h2 rfl
theorem x_dict : EvX r W G σ tDNewK (.dict []) := fun H Q s q => fun p np => q (.ref p) (.dict []) _ (s.re.same (same_upd np)) (Mv.of (same_upd np)) (.dct (by rw [Hw.at (s.wk.out np)]; exact upd_same)) rfl
theorem xs_nil : EvXs r W G σ tNil [] := fun H Q s q => q [] H s.re (Mv.refl r H) .nil
theorem xs_cons {te : TE} {ta : TA} {d : PyData} {ds : List PyData} (e : EvX r W G σ te d) (a : EvXs r W G σ ta ds) : EvXs r W G σ (tCons te ta) (d :: ds) := fun H Q s q =>
  e H _ s fun v d' H1 re1 m1 rp1 p1 => a H1 _ (s.mv re1 m1) fun vs H2 re2 m2 rp2 => q (v :: vs) H2 re2 (m1.trans m2) (.cons (by rw [← p1]; exact Rp.sm (m2.hw s.wk.reel) rp1) rp2)
theorem x_lst {ta : TA} {ds : List PyData} (a : EvXs r W G σ ta ds) (hn : ds.length ≤ 1000 := by first | decide | (simp only [List.length_cons, List.length_nil]; decide)) : EvX r W G σ (tLst ta) (.list ds) := fun H Q s q =>
  a H _ s fun vs H1 re1 m1 rp1 => ⟨small_le (by rw [rp1.length]; exact hn), fun p np => q (.ref p) (.list ds) _ (re1.same (same_upd np)) (m1.trans (Mv.of (same_upd np)))
    (.lst (by rw [Hw.at ((s.wk.mv re1 m1).out np)]; exact upd_same) (RpAll.sm (Same.hw (same_upd np)) rp1)) rfl⟩
theorem x_tup {ta : TA} {ds : List PyData} (a : EvXs r W G σ ta ds) (hn : ds.length ≤ 1000 := by first | decide | (simp only [List.length_cons, List.length_nil]; decide)) : EvX r W G σ (tTup ta) (.tuple ds) := fun H Q s q =>
  a H _ s fun vs H1 re1 m1 rp1 => ⟨small_le (by rw [rp1.length]; exact hn), fun p np => q (.ref p) (.tuple ds) _ (re1.same (same_upd np)) (m1.trans (Mv.of (same_upd np)))
    (.tup (by rw [Hw.at ((s.wk.mv re1 m1).out np)]; exact upd_same) (RpAll.sm (Same.hw (same_upd np)) rp1)) rfl⟩
theorem rp_rep {H : Hp} {xs : List V} {ds : List PyData} (hx : RpAll H xs ds) : ∀ n : Nat, RpAll H (List.replicate n xs).flatten (List.replicate n ds).flatten
  | 0 => .nil
  | n + 1 => by
    rw [List.replicate_succ, List.replicate_succ, List.flatten_cons, List.flatten_cons]
    exact hx.append (rp_rep hx n)
theorem x_rep (n : Nat) {ta : TE} {ds : List PyData} (a : EvX r W G σ ta (.list ds)) (h1 : ds.length * n ≤ 1000 := by decide) (h2 : n ≤ 1000 := by decide) : EvX r W G σ (tOp rRep ta (tC (.int (n : Int)))) (.list (List.replicate n ds).flatten) := fun H Q s q =>
  a H _ s fun v d H1 re1 m1 rp1 e1 => by
    subst e1
    obtain ⟨p, xs, rfl, hp, hx⟩ := rp_list rp1
    have hl := hx.length
    have e : ((n : Int)).toNat = n := rfl
    refine ⟨p, n, xs, rfl, rfl, Hw.sub W H1 _ _ hp, by omega, by omega, small_le (by rw [e, hl]; exact h1), fun t nt => q (.ref t) (.list (List.replicate n ds).flatten) _ (re1.same (same_upd nt)) (m1.trans (Mv.of (same_upd nt)))
      (.lst (by rw [Hw.at ((s.wk.mv re1 m1).out nt)]; exact upd_same) (RpAll.sm (Same.hw (same_upd nt)) (rp_rep hx n))) rfl⟩
theorem x_cat {ta tb : TE} {ds es : List PyData} (a : EvX r W G σ ta (.list ds)) (b : EvX r W G σ tb (.list es)) (hn : ds.length ≤ 1000 := by decide) (hm : es.length ≤ 1000 := by decide) : EvX r W G σ (tOp rCat ta tb) (.list (ds ++ es)) := fun H Q s q =>
  a H _ s fun v d H1 re1 m1 rp1 e1 => b H1 _ (s.mv re1 m1) fun v2 d2 H2 re2 m2 rp2 e2 => by
    subst e1 e2
    obtain ⟨p, xs, rfl, hp, hx⟩ := rp_list (Rp.sm (m2.hw s.wk.reel) rp1)
    obtain ⟨p', ys, rfl, hp', hy⟩ := rp_list rp2
    exact ⟨p, p', xs, ys, rfl, rfl, Hw.sub W H2 _ _ hp, Hw.sub W H2 _ _ hp', small_add (by rw [hx.length]; exact hn) (by rw [hy.length]; exact hm), fun t nt => q (.ref t) (.list (ds ++ es)) _ (re2.same (same_upd nt)) ((m1.trans m2).trans (Mv.of (same_upd nt)))
      (.lst (by rw [Hw.at ((s.wk.mv re2 (m1.trans m2)).out nt)]; exact upd_same) (RpAll.sm (Same.hw (same_upd nt)) (hx.append hy))) rfl⟩
/-- one of a list that is known -/
theorem x_ix {K : PySem.W.Frag} {ta ti : TE} {ds : List PyData} (a : EvX r W G σ ta (.list ds)) (b : EvI r W G σ ti (fun x => 0 ≤ x ∧ x < (ds.length : Int))) : Ev r W G σ (tOp (rIxL K) ta ti) (· ∈ ds) := fun H Q s q =>
  a H _ s fun v d H1 re1 m1 rp1 e1 => b H1 _ (s.mv re1 m1) fun i H2 re2 m2 hi => by
    subst e1
    obtain ⟨p, xs, rfl, hp, hx⟩ := rp_list (Rp.sm (m2.hw s.wk.reel) rp1)
    obtain ⟨j, rfl⟩ : ∃ j : Nat, i = (j : Int) := ⟨i.toNat, (Int.toNat_of_nonneg hi.1).symm⟩
    have hj : j < xs.length := by have := hx.length; omega
    obtain ⟨d, hd, hr⟩ := hx.get (List.getElem?_eq_getElem hj)
    exact ⟨p, xs, j, xs[j], rfl, rfl, SqL.of (Hw.sub W H2 _ _ hp), atI_nat (List.getElem?_eq_getElem hj), q _ d H2 re2 (m1.trans m2) hr (List.mem_of_getElem? hd)⟩
end

section
variable {r : Addr} {W : Addr → Prop} {G : Gam} {σ : L2.St}
theorem ev_catG {ta tb : TE} {PA PB PC : PyData → Prop} (a : Ev r W G σ ta PA) (b : Ev r W G σ tb PB) (h : ∀ d e, PA d → PB e → ∃ ds es, d = .list ds ∧ e = .list es ∧ ds.length ≤ 1000 ∧ es.length ≤ 1000 ∧ PC (.list (ds ++ es))) : Ev r W G σ (tOp rCat ta tb) PC := fun H Q s q =>
  a H _ s fun v d H1 re1 m1 rp1 e1 => b H1 _ (s.mv re1 m1) fun v2 d2 H2 re2 m2 rp2 e2 => by
    obtain ⟨ds, es, z1, z2, hn, hm, hc⟩ := h d d2 e1 e2
    subst z1 z2
    obtain ⟨p, xs, rfl, hp, hx⟩ := rp_list (Rp.sm (m2.hw s.wk.reel) rp1)
    obtain ⟨p', ys, rfl, hp', hy⟩ := rp_list rp2
    exact ⟨p, p', xs, ys, rfl, rfl, Hw.sub W H2 _ _ hp, Hw.sub W H2 _ _ hp', small_add (by rw [hx.length]; exact hn) (by rw [hy.length]; exact hm), fun t nt => q (.ref t) (.list (ds ++ es)) _ (re2.same (same_upd nt)) ((m1.trans m2).trans (Mv.of (same_upd nt)))
      (.lst (by rw [Hw.at ((s.wk.mv re2 (m1.trans m2)).out nt)]; exact upd_same) (RpAll.sm (Same.hw (same_upd nt)) (hx.append hy))) hc⟩
end
end CL
set_option Elab.async false
set_option linter.all false
set_option pp.maxSteps 500
set_option maxRecDepth 100000
set_option maxHeartbeats 4000000
namespace CL
open PySem PySem.Spec PyProof.Rows L2 GE
/-! ### how many the rows bring -/
/-- the last number by which people come, none without end -/
def lastPast (d : PyData) : Option Int := ((piecesOf d).getLast?).bind (·.2.1)
theorem lastPast_of {d : PyData} {ps : List PieceT} {pc : PieceT} (e : piecesOf d = ps ++ [pc]) : lastPast d = pc.2.1 := by
  unfold lastPast
  rw [e, List.getLast?_concat]
  rfl
def manyO : PyData → Option Int
  | .int m => some m
  | _ => none
def szs (rs : List RowT) : List (Option Int) := rs.map fun x => manyO x.2
def numsR (rs : List RowT) : List Int := (szs rs).filterMap id
def dueO (rs : List RowT) : Option Int := if (szs rs).any (·.isNone) = true then none else some (numsR rs).sum
theorem opts_some : ∀ {os : List (Option Int)}, os.any (·.isNone) = false → os.map optV = (os.filterMap id).map V.int
  | [], _ => rfl
  | none :: os, h => by cases h
  | some i :: os, h => by
    have ih := opts_some (os := os) h
    show V.int i :: os.map optV = V.int i :: (os.filterMap id).map V.int
    rw [ih]
theorem szs_nums {rs : List RowT} (h : (szs rs).any (·.isNone) = false) : (szs rs).map optV = (numsR rs).map V.int := opts_some h
theorem nums_sum : ∀ {rs : List RowT}, (∀ x ∈ rs, isMany x.2 = true) → (numsR rs).sum = sumW rs
  | [], _ => rfl
  | x :: rs, h => by
    have ih := nums_sum (rs := rs) fun y hy => h y (List.mem_cons_of_mem _ hy)
    have hx := h x List.mem_cons_self
    obtain ⟨t, m⟩ := x
    cases m with
    | int i =>
      show (i :: numsR rs).sum = i + sumW rs
      rw [List.sum_cons, ih]
    | none =>
      show (numsR rs).sum = 0 + sumW rs
      rw [ih]
      omega
    | _ => cases hx
theorem worth_nn {x : RowT} (h : isMany x.2 = true) : 0 ≤ worth x.2 := by
  obtain ⟨t, m⟩ := x
  cases m with
  | int i => exact of_decide_eq_true h
  | _ => exact Int.le_refl 0
theorem sumW_cons (x : RowT) (rs : List RowT) : sumW (x :: rs) = worth x.2 + sumW rs := rfl
theorem sumW_nn : ∀ {rs : List RowT}, (∀ x ∈ rs, isMany x.2 = true) → 0 ≤ sumW rs
  | [], _ => Int.le_refl 0
  | x :: rs, h => by
    have ih := sumW_nn (rs := rs) fun y hy => h y (List.mem_cons_of_mem _ hy)
    have := worth_nn (h x List.mem_cons_self)
    rw [sumW_cons]
    omega
theorem worth_le : ∀ {rs : List RowT}, (∀ x ∈ rs, isMany x.2 = true) → ∀ x ∈ rs, worth x.2 ≤ sumW rs
  | y :: rs, h, x, hx => by
    have h1 := worth_nn (h y List.mem_cons_self)
    have h2 := sumW_nn (rs := rs) fun y hy => h y (List.mem_cons_of_mem _ hy)
    rw [sumW_cons]
    rcases List.mem_cons.mp hx with e | hx
    · rw [e]; omega
    · have := worth_le (rs := rs) (fun y hy => h y (List.mem_cons_of_mem _ hy)) x hx
      omega
theorem fine_snoc {rs : List RowT} (f : Fine rs) : ∃ rs' x, rs = rs' ++ [x] ∧ (∀ y ∈ rs', isNone y.2 = false) := by
  have hl := f.lo
  have hne : rs ≠ [] := fun z => by rw [z] at hl; exact absurd hl (by decide)
  refine ⟨rs.dropLast, rs.getLast hne, (List.dropLast_concat_getLast hne).symm, fun y hy => f.last y ?_⟩
  rw [List.dropLast_eq_take] at hy
  exact hy
theorem rows_last {rs : List RowT} (f : Fine rs) : lastPast (.list (rs.map rowD)) = dueO rs ∧ (∀ s, dueO rs = some s → s = sumW rs) := by
  obtain ⟨rs', x, rfl, hno⟩ := fine_snoc f
  have hn := nums_sum fun y hy => (f.row y hy).many
  have gx := (f.row x (List.mem_append_right _ List.mem_cons_self)).many
  have hany : (szs (rs' ++ [x])).any (·.isNone) = (manyO x.2).isNone := by
    unfold szs
    rw [List.map_append, List.any_append]
    have z : (rs'.map fun y => manyO y.2).any (·.isNone) = false := by
      rw [List.any_eq_false]
      intro o ho
      obtain ⟨y, hy, rfl⟩ := List.mem_map.mp ho
      have h1 := hno y hy
      have h2 := (f.row y (List.mem_append_left _ hy)).many
      cases e2 : y.2 with
      | int m => exact Bool.false_ne_true
      | none => rw [e2] at h1; cases h1
      | _ => rw [e2] at h2; cases h2
    rw [z]
    simp
  have hp : piecesOf (.list ((rs' ++ [x]).map rowD)) = pcs 0 (rs'.map rowD) ++ [(0 + sumSnd (rs'.map rowD), pastO (0 + sumSnd (rs'.map rowD)) x.2, turnsD (rowD x))] := by
    show pcs 0 ((rs' ++ [x]).map rowD) = _
    rw [List.map_append]
    exact pcs_snoc 0 (rs'.map rowD) (rowD x)
  rw [lastPast_of hp]
  show pastO (0 + sumSnd (rs'.map rowD)) x.2 = _ ∧ _
  rw [sum_rows]
  cases ex : x.2 with
  | int m =>
    have e1 : dueO (rs' ++ [x]) = some (sumW (rs' ++ [x])) := by
      unfold dueO
      rw [hany, ex, hn]
      rfl
    rw [e1]
    refine ⟨?_, fun s e => (Option.some.inj e).symm⟩
    rw [sumW_snoc2, ex]
    show some (0 + sumW rs' + m) = some (sumW rs' + m)
    rw [Int.zero_add]
  | none =>
    have e1 : dueO (rs' ++ [x]) = none := by
      unfold dueO
      rw [hany, ex]
      rfl
    rw [e1]
    exact ⟨rfl, fun s e => by cases e⟩
  | _ => rw [ex] at gx; cases gx
theorem pdO_b {o : Option Int} (h : goodO o) {k : Nat} : B k 200 (pdO o) := by
  cases o with
  | none => exact b_none
  | some i =>
    have h1 : 0 ≤ i := h.1
    have h2 : i ≤ 1000000000000000000000000000000 := h.2
    exact b_int (by omega)
theorem rows_b {rs : List RowT} (f : Fine rs) : B 10 100000 (.list (rs.map rowD)) := by
  have hsum : sumW rs ≤ 1000000000000000000000000000000 := f.sum
  have one : ∀ d ∈ rs.map rowD, B 7 4000 d := fun d hd => by
    obtain ⟨x, hx, rfl⟩ := List.mem_map.mp hd
    have g := f.row x hx
    have hb : B 6 1700 (.list (x.1.map pdO)) := (B.list (k := 5) (u := 200) (n := 8) (fun y hy => by
      obtain ⟨o, ho, rfl⟩ := List.mem_map.mp hy
      exact pdO_b (g.pat o ho)) (by rw [List.length_map]; exact g.hi)).mono (Nat.le_refl _) (by decide)
    have hm : B 6 1700 x.2 := by
      have h1 := g.many
      have h2 := worth_le (fun y hy => (f.row y hy).many) x hx
      cases e : x.2 with
      | int m =>
        rw [e] at h1 h2
        have h3 : 0 ≤ m := of_decide_eq_true h1
        have h4 : m ≤ sumW rs := h2
        exact (b_int (k := 6) (by omega)).mono (Nat.le_refl _) (by decide)
      | none => exact (b_none (k := 6)).mono (Nat.le_refl _) (by decide)
      | _ => rw [e] at h1; cases h1
    exact (B.tuple (k := 6) (u := 1700) (n := 2) (ds := [.list (x.1.map pdO), x.2]) (fun y hy => by
      rcases List.mem_cons.mp hy with e | hy
      · rw [e]; exact hb
      · rw [List.mem_singleton.mp hy]; exact hm) (Nat.le_refl 2)).mono (Nat.le_refl _) (by decide)
  exact (B.list (n := 8) one (by rw [List.length_map]; exact f.hi)).mono (by decide) (by decide)

abbrev nTot : List Str := ["plan", "turn", "lot"]
def totR (rs : List RowT) : Int := (dueO rs).getD GREAT
theorem last_due {rs' : List RowT} {x : RowT} (f : Fine (rs' ++ [x])) : (dueO (rs' ++ [x])).isNone = isNone x.2 := by
  have h1 := f.last
  have gx := (f.row x (List.mem_append_right _ List.mem_cons_self)).many
  have hany : (szs (rs' ++ [x])).any (·.isNone) = (manyO x.2).isNone := by
    unfold szs
    rw [List.map_append, List.any_append]
    have z : (rs'.map fun y => manyO y.2).any (·.isNone) = false := by
      rw [List.any_eq_false]
      intro o ho
      obtain ⟨y, hy, rfl⟩ := List.mem_map.mp ho
      have h1 := h1 y (by rw [List.length_append, List.length_singleton, Nat.add_sub_cancel, List.take_left' rfl]; exact hy)
      have h2 := (f.row y (List.mem_append_left _ hy)).many
      cases e2 : y.2 with
      | int m => exact Bool.false_ne_true
      | none => rw [e2] at h1; cases h1
      | _ => rw [e2] at h2; cases h2
    rw [z]
    simp
  unfold dueO
  rw [hany]
  cases e : x.2 with
  | none => rfl
  | int m => rfl
  | _ => rw [e] at gx; cases gx
/-- plan[-1][1] -/
theorem last_at {H : Hp} {v : V} {rs : List RowT} (f : Fine rs) (h : Rp H v (.list (rs.map rowD))) : ∃ p xs q c vm, v = .ref p ∧ H p = some (.lst (xs ++ [.ref q])) ∧ H q = some (.tup [c, vm]) ∧ ((dueO rs = none ∧ vm = .non) ∨ ∃ s i, dueO rs = some s ∧ vm = .int i) := by
  obtain ⟨rs', x, rfl, hno⟩ := fine_snoc f
  have gx := (f.row x (List.mem_append_right _ List.mem_cons_self)).many
  have hd := last_due f
  obtain ⟨p, xs, rfl, hp, hx⟩ := rp_list h
  rw [List.map_append] at hx
  obtain ⟨fvs', w, rfl, hA', hv⟩ := RpAll.unsnoc hx
  cases hv with
  | @tup b ys _ hb hxs =>
    cases hxs with
    | @cons vt _ _ _ ht hxs2 =>
      cases hxs2 with
      | @cons vm _ _ _ hm hxs3 =>
        cases hxs3
        refine ⟨p, fvs', b, vt, vm, rfl, hp, hb, ?_⟩
        generalize x.2 = m2 at hm gx hd
        cases hm with
        | non =>
          left
          cases z : dueO (rs' ++ [x]) with
          | none => exact ⟨rfl, rfl⟩
          | some s => rw [z] at hd; cases hd
        | int i =>
          right
          cases z : dueO (rs' ++ [x]) with
          | none => rw [z] at hd; cases hd
          | some s => exact ⟨s, i, rfl, rfl⟩
        | _ => cases gx
theorem last_rd {K : PySem.W.Frag} {H : Hp} {Q : VK} {σ : L2.St} {i : Nat} {p q : Addr} {xs : List V} {c vm : V} (hi : σ[i]? = some (some (.ref p))) (h1 : H p = some (.lst (xs ++ [.ref q]))) (h3 : H q = some (.tup [c, vm])) (k : Q vm H) :
    (tOp (rIxT K) (tOp (rIxL K) (tVar i) (tUn (rU fun i => .int (-i)) (tC (.int 1)))) (tC (.int 1))) σ H Q := ⟨.ref p, hi, 1, rfl, p, _, -1, .ref q, rfl, rfl, SqL.of h1, atI_last _ _, q, _, 1, vm, rfl, rfl, SqT.of h3, atI_nat (j := 1) rfl, k⟩
def spTot : Sp := fun vs H Q _ => ∃ v rs, vs = [v] ∧ Rp H v (.list (rs.map rowD)) ∧ Fine rs ∧ ∀ H', Same H H' → Q (.int (totR rs)) H'
section
variable {P : Program} {w : World} {K : PySem.W.Frag} {mg : Str → Option Value} {base : Heap}
end
end CL
set_option Elab.async false
set_option linter.all false
set_option pp.maxSteps 500
set_option maxRecDepth 100000
set_option maxHeartbeats 4000000
namespace CL
open PySem PySem.Spec PyProof.Rows L2 GE
/-! ### the law's plan -/
def r0 : RowT := ([some 2, some 0, none], .int 4)
def cutR (lrs : List RowT) : List RowT := r0 :: lrs.take 7
theorem sum7 : ∀ {rs : List RowT}, (∀ x ∈ rs, worth x.2 ≤ P29) → sumW rs ≤ P29 * (rs.length : Int)
  | [], _ => by show (0 : Int) ≤ _; simp
  | x :: rs, h => by
    have ih := sum7 (rs := rs) fun y hy => h y (List.mem_cons_of_mem _ hy)
    have hx := h x List.mem_cons_self
    rw [sumW_cons, List.length_cons, Int.natCast_add, Int.mul_add]
    show worth x.2 + sumW rs ≤ P29 * (rs.length : Int) + P29 * 1
    omega
theorem cut_fine {lrs : List RowT} (f : Fine lrs) (h : ∀ x ∈ lrs, worth x.2 ≤ P29) : Fine (cutR lrs) := by
  have l1 := f.lo
  have l8 := f.hi
  have lt : (lrs.take 7).length = min 7 lrs.length := List.length_take ..
  refine ⟨by unfold cutR; rw [List.length_cons]; omega, by unfold cutR; rw [List.length_cons]; omega, fun x hx => ?_, fun x hx => ?_, ?_⟩
  · rcases List.mem_cons.mp hx with rfl | hx
    · refine ⟨by decide, by decide, fun o ho => ?_, rfl⟩
      simp only [r0, List.mem_cons, List.not_mem_nil, or_false] at ho
      rcases ho with rfl | rfl | rfl
      · exact ⟨by decide, by decide⟩
      · exact ⟨by decide, by decide⟩
      · trivial
    · exact f.row x (List.mem_of_mem_take hx)
  · have hx' : x ∈ (r0 :: lrs.take 7).take ((lrs.take 7).length + 1 - 1) := hx
    rw [Nat.add_sub_cancel] at hx'
    obtain ⟨n, hn⟩ : ∃ n, (lrs.take 7).length = n + 1 := ⟨(lrs.take 7).length - 1, by omega⟩
    rw [hn, List.take_succ_cons] at hx'
    rcases List.mem_cons.mp hx' with rfl | hx'
    · rfl
    · rw [List.take_take] at hx'
      refine f.last x (List.take_subset_take_left lrs (by omega) hx')
  · have hs := sum7 (rs := lrs.take 7) fun x hx => h x (List.mem_of_mem_take hx)
    show sumW (r0 :: lrs.take 7) ≤ (1000000000000000000000000000000 : Int)
    rw [sumW_cons]
    have e : worth r0.2 = 4 := rfl
    have E29 : P29 = 100000000000000000000000000000 := rfl
    rw [E29] at hs
    omega
/-! ### what is due of such a plan -/
section
variable {rs : List RowT}
theorem fl (f : Fine rs) : lastPast (.list (rs.map rowD)) = dueO rs := (rows_last f).1
theorem two_come {lrs : List RowT} (f : Fine (cutR lrs)) : ∀ s, dueO (cutR lrs) = some s → 2 ≤ s ∧ s ≤ GREAT := fun s e => by
  have h1 := (rows_last f).2 s e
  have h2 := sumW_nn (rs := lrs.take 7) fun y hy => (f.row y (List.mem_cons_of_mem _ hy)).many
  have h3 := f.sum
  have e2 : sumW (cutR lrs) = 4 + sumW (lrs.take 7) := rfl
  rw [h1]
  constructor
  · omega
  · exact h3
/-- by so many people at least, and no more than 10 ** 30 -/
def Past (o : Option Int) : Prop := ∀ s, o = some s → 2 ≤ s ∧ s ≤ GREAT

theorem tot_bnd {rs : List RowT} (h : Past (dueO rs)) : 2 ≤ totR rs ∧ totR rs ≤ 1000000000000000000000000000000 := by
  unfold totR
  cases e : dueO rs with
  | none => exact ⟨by decide, by decide⟩
  | some s =>
    obtain ⟨h1, h2⟩ := h s e
    exact ⟨h1, h2⟩
end
/-! ### what is told of the plan -/
def psR (rs : List RowT) : List PieceT := piecesOf (.list (rs.map rowD))
def bR (rs : List RowT) : Option Int := (dueO rs).map (· - 1)
/-- the last of a person -/
def LasR (rs : List RowT) (x : Int) (l : Option Int) : Prop := Las (psR rs) (bR rs) 0 x l
/-- the number of one that comes, not too far -/
structure Asks (rs : List RowT) (n : Int) : Prop where
  ok : personOk (dueO rs) (.int n) = true
  hi : n < 2 ^ 138
theorem Asks.lo {rs : List RowT} {n : Int} (h : Asks rs n) : 0 ≤ n := by
  have := h.ok
  rw [personOk_int, Bool.and_eq_true, decide_eq_true_eq] at this
  exact this.1
theorem Asks.bnd {rs : List RowT} {n : Int} (h : Asks rs n) : ∀ m, bR rs = some m → n ≤ m := fun m e => by
  have := h.ok
  rw [personOk_int, Bool.and_eq_true] at this
  unfold bR at e
  cases z : dueO rs with
  | none => rw [z] at e; cases e
  | some s =>
    rw [z] at e this
    have e2 : s - 1 = m := Option.some.inj e
    have h2 : n < s := of_decide_eq_true this.2
    omega
theorem asks_of {rs : List RowT} {n : Int} (h0 : 0 ≤ n) (hb : ∀ m, bR rs = some m → n ≤ m) (h1 : n < 2 ^ 138) : Asks rs n := by
  refine ⟨?_, h1⟩
  rw [personOk_int, decide_eq_true h0]
  cases z : dueO rs with
  | none => rfl
  | some s =>
    have := hb (s - 1) (by unfold bR; rw [z]; rfl)
    exact decide_eq_true (by omega)
/-- the state of the law: the spring, the tables, the plan -/
structure Sl (r P1 P2 : Addr) (v : V) (rs : List RowT) (H : Hp) : Prop where
  re : ReelAt H r
  tb : Tb P1 P2 H
  rp : Rp (Hw (fun b => b = r) H) v (.list (rs.map rowD))
theorem Sl.wk {r P1 P2 : Addr} {v : V} {rs : List RowT} {H : Hp} (s : Sl r P1 P2 v rs H) : Wk (fun b => b = r) H r := ⟨rfl, fun b hb => by rw [hb]; exact s.re.some⟩
theorem Sl.mv {r P1 P2 : Addr} {v : V} {rs : List RowT} {H H' : Hp} (s : Sl r P1 P2 v rs H) (re : ReelAt H' r) (m : Mv r H H') : Sl r P1 P2 v rs H' := ⟨re, s.tb.mv s.re m, Rp.sm (m.hw (W := fun b => b = r) rfl) s.rp⟩
theorem Sl.sm {r P1 P2 : Addr} {v : V} {rs : List RowT} {H H' : Hp} (s : Sl r P1 P2 v rs H) (m : Same H H') : Sl r P1 P2 v rs H' := s.mv (s.re.same m) (Mv.of m)
theorem Sl.ex {r P1 P2 : Addr} {v : V} {rs : List RowT} {H H' : Hp} (s : Sl r P1 P2 v rs H) (e : Ex H H') (t : Tb P1 P2 H') : Sl r P1 P2 v rs H' := ⟨s.re.kx e, t, Rp.ex e.hw _ _ s.rp⟩
theorem Sl.rpH {r P1 P2 : Addr} {v : V} {rs : List RowT} {H : Hp} (s : Sl r P1 P2 v rs H) : Rp H v (.list (rs.map rowD)) := Rp.sm (Hw.sub _ _) s.rp
/-- all but the spring and the tables stays -/
def Kl (r : Addr) (H H' : Hp) : Prop := ∀ b o, b ≠ r → H b = some o → (∀ ps, o ≠ .tbl ps) → H' b = some o
section
variable {r P1 P2 C C2 C3 C4 : Addr} {v : V} {rs : List RowT} {H : Hp} {Q : VK} {E : XK}
theorem parts (hF : Fine rs) : ∃ ps pc, piecesOf (.list (rs.map rowD)) = ps ++ [pc] ∧ psR rs = ps ++ [pc] ∧ pc.2.1 = dueO rs := by
  obtain ⟨ps, pc, e⟩ := plan_last (fine_plan hF)
  refine ⟨ps, pc, e, e, ?_⟩
  rw [← lastPast_of e]
  exact (rows_last hF).1
theorem psR_ok (hF : Fine rs) : PsOk (psR rs) := by
  obtain ⟨ps, pc, e, e2, _⟩ := parts hF
  rw [e2]
  exact (plOk (fine_plan hF) e).ok
theorem c_last (hF : Fine rs) (s : Sl r P1 P2 v rs H) {n : Int} (ha : Asks rs n) (q : ∀ l H', LasR rs n l → Ex H H' → Sl r P1 P2 v rs H' → Q (optV l) H') : spLastOf P1 P2 C C2 [v, .int n] H Q E := by
  obtain ⟨ps, pc, e, e2, e3⟩ := parts hF
  refine ⟨v, .int n, _, .int n, rfl, s.rpH, .int n, fun m em => by cases em; exact ha.hi, s.tb, fun z => absurd (fine_plan hF) (by rw [z]; simp), fun _ => ⟨ps, pc, e, fun z => absurd ha.ok (by rw [← e3, z]; simp), fun _ m l H' em hl ex tb => ?_⟩⟩
  cases em
  refine q l H' ?_ ex (s.ex ex tb)
  unfold LasR bR
  rw [e2, ← e3]
  exact hl
theorem c_went (hF : Fine rs) (s : Sl r P1 P2 v rs H) {n m : Int} (ha : Asks rs n) (hm : momentOk (dueO rs) (.int m) = true) (hlt : n < m) (q : ∀ l H', LasR rs n l → Ex H H' → Sl r P1 P2 v rs H' → Q (.int (pastV l n m)) H') : spWent P1 P2 C C2 C3 [v, .int n, .int m] H Q E := by
  obtain ⟨ps, pc, e, e2, e3⟩ := parts hF
  refine ⟨v, .int n, .int m, _, .int n, .int m, rfl, s.rpH, .int n, .int m, fun k em => by cases em; exact ha.hi, s.tb, fun z => absurd (fine_plan hF) (by rw [z]; simp), fun _ => ⟨ps, pc, e, fun z => absurd ha.ok (by rw [← e3, z]; simp), fun _ => ⟨fun z => absurd hm (by rw [← e3, z]; simp), fun _ n' m' en em => ?_⟩⟩⟩
  cases en
  cases em
  refine ⟨fun z => absurd z (by omega), fun _ l H' hl ex tb => q l H' ?_ ex (s.ex ex tb)⟩
  unfold LasR bR
  rw [e2, ← e3]
  exact hl
theorem c_pat (hF : Fine rs) (s : Sl r P1 P2 v rs H) {n : Int} (ha : Asks rs n) (q : ∀ t x H', Pt (psR rs) n t → isPatience t = true → Rp H' x t → Ex H H' → Sl r P1 P2 v rs H' → Q x H') : spPatOf P1 P2 C C2 [v, .int n] H Q E := by
  obtain ⟨ps, pc, e, e2, e3⟩ := parts hF
  refine ⟨v, .int n, _, .int n, rfl, s.rpH, .int n, s.tb, fun z => absurd (fine_plan hF) (by rw [z]; simp), fun _ => ⟨ps, pc, e, fun z => absurd ha.ok (by rw [← e3, z]; simp), fun _ => ?_⟩⟩
  obtain ⟨pp, hf⟩ := (plOk (fine_plan hF) e).find n (by
    have := ha.ok
    rw [personOk_int, Bool.and_eq_true, ← e3] at this
    exact this.2)
  have hps := psR_ok hF
  have hmem : pp ∈ psR rs := by rw [e2]; exact List.mem_of_find?_eq_some hf
  obtain ⟨l1, l8, lp⟩ := hps.turns pp hmem
  have hm0 := Int.emod_nonneg (n - pp.1) (show ((pp.2.2.length : Nat) : Int) ≠ 0 by omega)
  have hm1 := Int.emod_lt_of_pos (n - pp.1) (show (0 : Int) < ((pp.2.2.length : Nat) : Int) by omega)
  have hlt : ((n - pp.1) % (pp.2.2.length : Int)).toNat < pp.2.2.length := by omega
  have hg := List.getElem?_eq_getElem hlt
  have hpt : Pt (psR rs) n (pp.2.2[((n - pp.1) % (pp.2.2.length : Int)).toNat]) := ⟨pp, by rw [e2]; exact hf, hg⟩
  exact ⟨n, _, rfl, ⟨pp, by rw [e]; exact hf, by omega, hg⟩, fun x H' ex tb rp => q _ x H' hpt (pt_ok hps hpt) rp ex (s.ex ex tb)⟩
theorem c_who (hF : Fine rs) (s : Sl r P1 P2 v rs H) {n m : Int} (ha : Asks rs n) (hb : Asks rs m) (hne : n ≠ m) (q : ∀ l H', LasR rs (if m < n then m else n) l → Ex H H' → Sl r P1 P2 v rs H' → Q (.int (whoV l (if m < n then m else n) (if m > n then m else n))) H') : spWho P1 P2 C C2 C4 [v, .int n, .int m] H Q E := by
  obtain ⟨ps, pc, e, e2, e3⟩ := parts hF
  refine ⟨v, .int n, .int m, _, .int n, .int m, rfl, s.rpH, .int n, .int m, fun k em => by cases em; exact ha.hi, fun k em => by cases em; exact hb.hi, s.tb, fun z => absurd (fine_plan hF) (by rw [z]; simp), fun _ => ⟨ps, pc, e, fun z => absurd ha.ok (by rw [← e3, z]; simp), fun _ => ⟨fun z => absurd hb.ok (by rw [← e3, z]; simp), fun _ n' m' en em => ?_⟩⟩⟩
  cases en
  cases em
  refine ⟨fun z => absurd z hne, fun _ l H' hl ex tb => q l H' ?_ ex (s.ex ex tb)⟩
  unfold LasR bR
  rw [e2, ← e3]
  exact hl
theorem c_uns (hF : Fine rs) (s : Sl r P1 P2 v rs H) {m : Int} (ha : momentOk (dueO rs) (.int m) = true) (q : ∀ n H', Uns (psR rs) m n → Ex H H' → Sl r P1 P2 v rs H' → Q (.int n) H') : spUnsafe P1 P2 C C3 [v, .int m] H Q E := by
  obtain ⟨ps, pc, e, e2, e3⟩ := parts hF
  refine ⟨v, .int m, _, .int m, rfl, s.rpH, .int m, s.tb, fun z => absurd (fine_plan hF) (by rw [z]; simp), fun _ => ⟨ps, pc, e, fun z => absurd ha (by rw [← e3, z]; simp), fun _ m' n H' em hn ex tb => ?_⟩⟩
  cases em
  exact q n H' (by rw [e2]; exact hn) ex (s.ex ex tb)
theorem c_ref (hF : Fine rs) (s : Sl r P1 P2 v rs H) {m : Int} (ha : momentOk (dueO rs) (.int m) = true) (q : ∀ o H', Ref (psR rs) m o → Ex H H' → Sl r P1 P2 v rs H' → Q (optV o) H') : spRefuser P1 P2 C C3 [v, .int m] H Q E := by
  obtain ⟨ps, pc, e, e2, e3⟩ := parts hF
  refine ⟨v, .int m, _, .int m, rfl, s.rpH, .int m, s.tb, fun z => absurd (fine_plan hF) (by rw [z]; simp), fun _ => ⟨ps, pc, e, fun z => absurd ha (by rw [← e3, z]; simp), fun _ m' o H' em hn ex tb => ?_⟩⟩
  cases em
  exact q o H' (by rw [e2]; exact hn) ex (s.ex ex tb)
end
/-- how far a last may be -/
theorem las_far {ps : List PieceT} (hp : PsOk ps) {b l : Option Int} {s x : Int} (h : Las ps b s x l) : ∀ k, l = some k → k ≤ x + GREAT ∨ b = some k := by
  have G0 : (0 : Int) ≤ GREAT := by decide
  induction h with
  | spare h => exact fun k e => .inr e
  | own h h0 =>
    intro k e
    cases e
    have := (wp_le hp h).2.1
    exact .inl (by omega)
  | inn h h1 h2 _ ih =>
    intro k e
    rcases ih k e with h3 | h3
    · exact .inl h3
    · cases h3
      have := (wp_le hp h).2.1
      exact .inl (by omega)
  | skip h h1 _ ih => exact ih
/-! ### what the law asks -/
section
variable {rs : List RowT} {x : Int} {l : Option Int}
theorem bR_none (h : bR rs = none) : dueO rs = none := by
  unfold bR at h
  cases z : dueO rs with
  | none => rfl
  | some s => rw [z] at h; cases h
theorem lasR_le (ha : Asks rs x) (h : LasR rs x l) : (∀ k, l = some k → x ≤ k ∧ ∀ m, bR rs = some m → k ≤ m) ∧ (l = none → dueO rs = none) := by
  obtain ⟨i1, i2⟩ := las_le h ha.bnd
  exact ⟨i1, fun e => bR_none (i2 e)⟩
theorem lasR_far (hF : Fine rs) (hpa : Past (dueO rs)) (h : LasR rs x l) (h0 : 0 ≤ x) : ∀ k, l = some k → k ≤ x + GREAT := fun k e => by
  have G0 : GREAT = 1000000000000000000000000000000 := rfl
  rcases las_far (psR_ok hF) h k e with h1 | h1
  · exact h1
  · unfold bR at h1
    cases z : dueO rs with
    | none => rw [z] at h1; cases h1
    | some s =>
      rw [z] at h1
      have h2 : s - 1 = k := Option.some.inj h1
      have := (hpa s z).2
      omega
end
end CL
set_option Elab.async false
set_option linter.all false
set_option pp.maxSteps 400
set_option maxRecDepth 100000
set_option maxHeartbeats 4000000
namespace CL
open PySem PySem.Spec PyProof.Rows L2 GE
/-- who is ahead: the newer one just where the last of the older one is as far -/
theorem at_order {ps : List PieceT} (hp : PsOk ps) {bd s x p : Int} (h : At ps bd s x p) : ∀ {y q l : Int}, x < y → y ≤ bd → At ps bd s y q → Las ps (some bd) s x (some l) → (q < p ↔ y ≤ l) ∧ q ≠ p := by
  induction h with
  | spare h =>
    intro y q l hxy hy h' hl
    cases hl with
    | own k k0 => have := wp_uniq h k; omega
    | inn k k1 => omega
    | skip k k1 => omega
    | spare k =>
      cases h' with
      | spare _ => omega
      | own _ _ => omega
      | inn k2 k3 k4 => have := wp_uniq h k2; omega
      | skip k2 k3 k4 =>
        have := wp_uniq h k2
        have := at_in hp k4 hy
        omega
  | own h h0 =>
    intro y q l hxy hy h' hl
    cases hl with
    | spare k => have := wp_uniq h k; omega
    | inn k k1 => omega
    | skip k k1 => omega
    | own k k0 =>
      have e := wp_uniq h k
      subst e
      cases h' with
      | spare _ => omega
      | own _ _ => omega
      | inn k2 k3 k4 k5 =>
        have := wp_uniq h k2
        have := at_in hp k5 (by omega)
        omega
      | skip k2 k3 k4 =>
        have := wp_uniq h k2
        have := at_in hp k4 hy
        omega
  | inn h h1 h2 h3 ih =>
    intro y q l hxy hy h' hl
    have hr := at_in hp h3 (by omega)
    cases hl with
    | spare k => omega
    | own k k0 => omega
    | skip k k1 => have e := wp_uniq h k; subst e; omega
    | inn k k1 k2 k3 =>
      have e := wp_uniq h k
      subst e
      have hle := ((las_le k3 fun m e => by cases e; omega).1 l rfl).2 _ rfl
      cases h' with
      | spare _ => omega
      | own _ _ => omega
      | inn j j1 j2 j3 => have e := wp_uniq h j; subst e; exact ih hxy (by omega) j3 k3
      | skip j j1 j2 =>
        have e := wp_uniq h j
        subst e
        have := at_in hp j2 hy
        omega
  | skip h h1 h3 ih =>
    intro y q l hxy hy h' hl
    cases hl with
    | spare k => omega
    | own k k0 => omega
    | inn k k1 k2 => have e := wp_uniq h k; subst e; omega
    | skip k k1 k2 =>
      have e := wp_uniq h k
      subst e
      cases h' with
      | spare _ => omega
      | own _ _ => omega
      | inn j j1 j2 => have e := wp_uniq h j; subst e; omega
      | skip j j1 j2 =>
        have e := wp_uniq h j
        subst e
        obtain ⟨i1, i2⟩ := ih hxy hy j2 k2
        exact ⟨⟨fun z => i1.mp (by omega), fun z => by have := i1.mpr z; omega⟩, by omega⟩
/-- at a sooner bound: so many places less as its last goes beyond it -/
theorem at_cut {ps : List PieceT} (hp : PsOk ps) {c c' s x p : Int} (h : At ps c' s x p) : ∀ {l : Int}, x ≤ c → c < c' → Las ps (some c') s x (some l) → At ps c s x (p - (if c < l then l - c else 0)) := by
  induction h with
  | @spare c' x h =>
    intro l hx hc hl
    cases hl with
    | own k k0 => have := wp_uniq h k; omega
    | inn k k1 => omega
    | skip k k1 => omega
    | spare k =>
      rw [if_pos hc, show c' - x - (c' - c) = c - x by omega]
      exact .spare (cut_zero hp h fun m e => by cases e; exact hc)
  | @own c' x w h h0 =>
    intro l hx hc hl
    cases hl with
    | spare k => have := wp_uniq h k; omega
    | inn k k1 => omega
    | skip k k1 => omega
    | own k k0 =>
      have e := wp_uniq h k
      subst e
      by_cases cx : c < x + w - 1
      · rw [if_pos cx, show w - 1 - (x + w - 1 - c) = c - x by omega]
        exact .spare (cut_out h h0 cx)
      · rw [if_neg cx, show w - 1 - 0 = w - 1 by omega]
        exact .own (cut_in h h0 (by omega)) h0
  | @inn c' s x w p h h1 h2 h3 ih =>
    intro l hx hc hl
    cases hl with
    | spare k => omega
    | own k k0 => omega
    | skip k k1 => have e := wp_uniq h k; subst e; omega
    | inn k k1 k2 k3 =>
      have e := wp_uniq h k
      subst e
      have hle := ((las_le k3 fun m e => by cases e; omega).1 l rfl).2 _ rfl
      by_cases cx : c < s + w - 1
      · have h9 := ih hx cx k3
        have k9 := cut_out h (by omega) cx
        have h10 := At.skip (p := p - (if c < l then l - c else 0)) k9 (show s + max (0 : Int) 1 ≤ x by omega) (by rw [show s + max (0 : Int) 1 = s + 1 by omega]; exact h9)
        rw [Int.zero_add] at h10
        exact h10
      · rw [if_neg (by omega), show p - 0 = p by omega]
        exact .inn (cut_in h (by omega) (by omega)) h1 h2 h3
  | @skip c' s x w p h h1 h3 ih =>
    intro l hx hc hl
    cases hl with
    | spare k => omega
    | own k k0 => omega
    | inn k k1 k2 => have e := wp_uniq h k; subst e; omega
    | skip k k1 k2 =>
      have e := wp_uniq h k
      subst e
      have h9 := ih hx hc k2
      have w0 := wp_nn hp h
      have k9 : WP ps (some c) s w := by
        by_cases cw : w = 0
        · subst cw; exact cut_zero hp h fun m e => by cases e; exact hc
        · exact cut_in h (by omega) (by omega)
      rw [show w + p - (if c < l then l - c else 0) = w + (p - (if c < l then l - c else 0)) by omega]
      exact .skip k9 h1 h9
theorem cnt_nn {ps : List PieceT} {b : Option Int} {s e n : Int} (h : Cnt ps b s e n) : 0 ≤ n := by
  induction h with
  | here => omega
  | on _ _ ih => split <;> omega
theorem cnt_up {ps : List PieceT} (hp : PsOk ps) {b : Option Int} {s e n : Int} (h : Cnt ps b s e n) : n ≤ e - s := by
  induction h with
  | here => omega
  | on k _ ih => have := wp_nn hp k; split <;> omega
/-- those left over stand behind all others -/
theorem at_calm {ps : List PieceT} (hp : PsOk ps) {bd s x p : Int} (h : At ps bd s x p) : ∀ {n : Int}, x ≤ bd → Cnt ps (some bd) s (bd + 1) n → ((SpR ps (some bd) s x ↔ bd + 1 - s - n ≤ p)) := by
  induction h with
  | spare h =>
    intro n hx hn
    refine ⟨fun _ => ?_, fun _ => .here h⟩
    cases hn with
    | here => omega
    | on k k1 =>
      have e := wp_uniq h k
      subst e
      have := cnt_nn k1
      rw [if_pos rfl]
      omega
  | own h h0 =>
    intro n hx hn
    refine ⟨fun z => ?_, fun z => ?_⟩
    · have := wp_uniq h (spr_wp z); omega
    · cases hn with
      | here => omega
      | on k k1 =>
        have e := wp_uniq h k
        subst e
        have := cnt_up hp k1
        rw [if_neg (by omega)] at z
        omega
  | inn h h1 h2 h3 ih =>
    intro n hx hn
    have hr := at_in hp h3 (by omega)
    refine ⟨fun z => ?_, fun z => ?_⟩
    · cases z with
      | here k => omega
      | on k k1 => have e := wp_uniq h k; subst e; omega
    · cases hn with
      | here => omega
      | on k k1 =>
        have e := wp_uniq h k
        subst e
        have := cnt_up hp k1
        rw [if_neg (by omega)] at z
        omega
  | skip h h1 h3 ih =>
    intro n hx hn
    cases hn with
    | here => have := at_ge h3; omega
    | on k k1 =>
      have e := wp_uniq h k
      subst e
      have hi := ih hx k1
      have w0 := wp_nn hp h
      refine ⟨fun z => ?_, fun z => ?_⟩
      · cases z with
        | here k => have := at_ge h3; omega
        | on k k2 k3 =>
          have e := wp_uniq h k
          subst e
          have := hi.mp k3
          split <;> omega
      · refine .on h h1 (hi.mpr ?_)
        split at z <;> omega
/-- the newest stands where those begin that aren't safe ahead of it -/
theorem at_newest {ps : List PieceT} (hp : PsOk ps) {bd s x p : Int} (h : At ps bd s x p) : ∀ {n : Int}, x = bd → Cnt ps (some (bd - 1)) s bd n → p = bd - s - n := by
  induction h with
  | spare h =>
    intro n hx hn
    subst hx
    cases hn with
    | here => omega
    | on k k1 => have := cnt_le k1; omega
  | own h h0 =>
    intro n hx hn
    subst hx
    obtain ⟨q, _, h2, h3⟩ := wp_pos h h0
    have := h3 _ rfl
    cases hn with
    | here => omega
    | on k k1 => have := cnt_le k1; omega
  | @inn bd s x w p h h1 h2 h3 ih =>
    intro n hx hn
    subst hx
    obtain ⟨q, _, h4, h5⟩ := wp_pos h (by omega)
    have h6 := h5 _ rfl
    have eb : s + w - 1 = x := by omega
    rw [eb] at ih
    have k9 := cut_out (c := x - 1) h (by omega) (by omega)
    cases hn with
    | here => omega
    | on k k1 =>
      have e := wp_uniq k9 k
      subst e
      rw [show s + max (0 : Int) 1 = s + 1 by omega] at k1
      have := ih rfl k1
      rw [if_pos rfl]
      omega
  | @skip bd s x w p h h1 h3 ih =>
    intro n hx hn
    subst hx
    have w0 := wp_nn hp h
    have k9 : WP ps (some (x - 1)) s w := by
      by_cases cw : w = 0
      · subst cw; exact cut_zero hp h fun m e => by cases e; omega
      · exact cut_in h (by omega) (by omega)
    cases hn with
    | here => omega
    | on k k1 =>
      have e := wp_uniq k9 k
      subst e
      have := ih rfl k1
      split <;> omega
end CL
set_option Elab.async false
set_option linter.all false
set_option pp.maxSteps 600
set_option maxRecDepth 100000
set_option maxHeartbeats 4000000
namespace CL
open PySem PySem.Spec PyProof.Rows L2 GE
/-! ### there is a last, and a place -/
theorem las_total {ps : List PieceT} (hp : PsOk ps) : ∀ (k : Nat) {b : Option Int} {s x : Int}, (x - s).toNat = k → s ≤ x → (∀ y, s ≤ y → y ≤ x → ∃ t, Pt ps y t) → ∃ l, Las ps b s x l := fun k => by
  induction k using Nat.strongRecOn with
  | ind k ih =>
    intro b s x hk hx hpt
    obtain ⟨t, ht⟩ := hpt s (Int.le_refl _) hx
    have hw := pt_wp b ht
    generalize wd b s t = w at hw
    have w0 := wp_nn hp hw
    by_cases c0 : x = s
    · subst c0
      by_cases cw : w = 0
      · subst cw; exact ⟨_, .spare hw⟩
      · exact ⟨_, .own hw (by omega)⟩
    · by_cases c1 : x < s + w
      · obtain ⟨l, hl⟩ := ih (x - (s + 1)).toNat (by omega) (b := some (s + w - 1)) (s := s + 1) (x := x) rfl (by omega) fun y h1 h2 => hpt y (by omega) h2
        exact ⟨l, .inn hw (by omega) c1 hl⟩
      · obtain ⟨l, hl⟩ := ih (x - (s + max w 1)).toNat (by omega) (b := b) (s := s + max w 1) (x := x) rfl (by omega) fun y h1 h2 => hpt y (by omega) h2
        exact ⟨l, .skip hw (by omega) hl⟩
theorem at_total {ps : List PieceT} (hp : PsOk ps) : ∀ (k : Nat) {bd s x : Int}, (x - s).toNat = k → s ≤ x → (∀ y, s ≤ y → y ≤ x → ∃ t, Pt ps y t) → ∃ p, At ps bd s x p := fun k => by
  induction k using Nat.strongRecOn with
  | ind k ih =>
    intro bd s x hk hx hpt
    obtain ⟨t, ht⟩ := hpt s (Int.le_refl _) hx
    have hw := pt_wp (some bd) ht
    generalize wd (some bd) s t = w at hw
    have w0 := wp_nn hp hw
    by_cases c0 : x = s
    · subst c0
      by_cases cw : w = 0
      · subst cw; exact ⟨_, .spare hw⟩
      · exact ⟨_, .own hw (by omega)⟩
    · by_cases c1 : x < s + w
      · obtain ⟨l, hl⟩ := ih (x - (s + 1)).toNat (by omega) (bd := s + w - 1) (s := s + 1) (x := x) rfl (by omega) fun y h1 h2 => hpt y (by omega) h2
        exact ⟨l, .inn hw (by omega) c1 hl⟩
      · obtain ⟨l, hl⟩ := ih (x - (s + max w 1)).toNat (by omega) (bd := bd) (s := s + max w 1) (x := x) rfl (by omega) fun y h1 h2 => hpt y (by omega) h2
        exact ⟨_, .skip hw (by omega) hl⟩
theorem pt_ex {rs : List RowT} (hF : Fine rs) {n : Int} (ha : Asks rs n) : ∃ t, Pt (psR rs) n t := by
  obtain ⟨ps, pc, e, e2, e3⟩ := parts hF
  obtain ⟨pp, hf⟩ := (plOk (fine_plan hF) e).find n (by
    have := ha.ok
    rw [personOk_int, Bool.and_eq_true, ← e3] at this
    exact this.2)
  have hps := psR_ok hF
  have hmem : pp ∈ psR rs := by rw [e2]; exact List.mem_of_find?_eq_some hf
  obtain ⟨l1, l8, lp⟩ := hps.turns pp hmem
  have hm0 := Int.emod_nonneg (n - pp.1) (show ((pp.2.2.length : Nat) : Int) ≠ 0 by omega)
  have hm1 := Int.emod_lt_of_pos (n - pp.1) (show (0 : Int) < ((pp.2.2.length : Nat) : Int) by omega)
  have hlt : ((n - pp.1) % (pp.2.2.length : Int)).toNat < pp.2.2.length := by omega
  exact ⟨_, pp, by rw [e2]; exact hf, List.getElem?_eq_getElem hlt⟩
def lesser (l : Option Int) (c : Int) : Int := match l with
  | none => c
  | some k => if c < k then c else k
theorem past_less {l : Option Int} {n m : Int} : pastV l n m = lesser l (m - 1) - n := by cases l <;> rfl
/-- the last under a bound -/
theorem las_under {rs : List RowT} (hF : Fine rs) {c x : Int} {l : Option Int} (hl : LasR rs x l) (hx : x ≤ c) (hb : ∀ b, bR rs = some b → c ≤ b) : Las (psR rs) (some c) 0 x (some (lesser l c)) := by
  have hps := psR_ok hF
  by_cases e : bR rs = some c
  · have h1 : Las (psR rs) (some c) 0 x l := by have := hl; unfold LasR at this; rw [e] at this; exact this
    obtain ⟨i1, i2⟩ := las_le h1 fun k e => by cases e; exact hx
    cases l with
    | none => cases i2 rfl
    | some k =>
      have := (i1 k rfl).2 _ rfl
      rw [show lesser (some k) c = k from if_neg (by omega)]
      exact h1
  · rcases las_cut hps hl hx (fun b e2 => by
      have := hb b e2
      have : b ≠ c := fun z => e (by rw [e2, z])
      omega) with ⟨h3, h4⟩ | ⟨_, k, rfl, h4, h5⟩
    · have e3 : lesser l c = c := by
        cases l with
        | none => rfl
        | some k => exact if_pos (h4 k rfl)
      rw [e3]
      exact spr_las h3
    · rw [show lesser (some k) c = k from if_neg (by omega)]
      exact h5
/-- two moments of a plan -/
structure Mo (rs : List RowT) (one other : Int) : Prop where
  f : Fine rs
  lo : 1 ≤ one
  le : one ≤ other
  hi : other ≤ 1000000000000000000000000000000
  du : ∀ s, dueO rs = some s → other ≤ s
theorem Mo.bl {rs : List RowT} {one other : Int} (h : Mo rs one other) : ∀ b, bR rs = some b → other - 1 ≤ b := fun b e => by
  unfold bR at e
  cases z : dueO rs with
  | none => rw [z] at e; cases e
  | some s =>
    rw [z] at e
    have h2 : s - 1 = b := Option.some.inj e
    have := h.du s z
    omega
theorem p138 : (2 : Int) ^ 138 = 348449143727040986586495598010130648530944 := by decide +kernel
theorem p140 : (2 : Int) ^ 140 = 1393796574908163946345982392040522594123776 := by decide +kernel
theorem Mo.ask {rs : List RowT} {one other x : Int} (h : Mo rs one other) (h0 : 0 ≤ x) (h1 : x ≤ other - 1) : Asks rs x := by
  have := h.hi
  exact asks_of h0 (fun b e => by have := h.bl b e; omega) (by rw [p138]; omega)
theorem Mo.mom {rs : List RowT} {one other s : Int} (h : Mo rs one other) (h0 : 0 ≤ s) (h1 : s ≤ other) : momentOk (dueO rs) (.int s) = true := by
  have hh := h.hi
  rw [momentOk_int, decide_eq_true h0, decide_eq_true (show s ≤ GREAT from (show s ≤ (1000000000000000000000000000000 : Int) by omega))]
  cases z : dueO rs with
  | none => rfl
  | some t =>
    have := h.du t z
    show decide (s ≤ t) = true
    exact decide_eq_true (by omega)
theorem Mo.pts {rs : List RowT} {one other x : Int} (h : Mo rs one other) (h1 : x ≤ other - 1) : ∀ y, 0 ≤ y → y ≤ x → ∃ t, Pt (psR rs) y t := fun y y0 y1 => pt_ex h.f (h.ask y0 (by omega))
/-- one who stands there at both moments -/
structure Man (rs : List RowT) (one other x p p' : Int) : Prop where
  x0 : 0 ≤ x
  x1 : x < one
  a : At (psR rs) (one - 1) 0 x p
  b : At (psR rs) (other - 1) 0 x p'
theorem lesser_more {l : Option Int} {c c' : Int} (h : c < c') : (if c < lesser l c' then lesser l c' - c else 0) = lesser l c' - lesser l c := by
  cases l with
  | none => show (if c < c' then c' - c else 0) = c' - c; rw [if_pos h]
  | some k =>
    show (if c < (if c' < k then c' else k) then (if c' < k then c' else k) - c else 0) = (if c' < k then c' else k) - (if c < k then c else k)
    split <;> split <;> (try split) <;> omega
theorem Man.more {rs : List RowT} {one other x p p' : Int} (h : Mo rs one other) (m : Man rs one other x p p') {l : Option Int} (hl : LasR rs x l) : p' = p + (lesser l (other - 1) - lesser l (one - 1)) := by
  have hx := m.x1
  have hle := h.le
  by_cases c : one = other
  · subst c
    have := at_uniq m.a m.b
    omega
  · have h1 := at_cut (psR_ok h.f) m.b (show x ≤ one - 1 by omega) (by omega) (las_under h.f hl (show x ≤ other - 1 by omega) h.bl)
    rw [lesser_more (by omega)] at h1
    have := at_uniq m.a h1
    omega
theorem Man.calm {rs : List RowT} {one other x p p' n : Int} (h : Mo rs one other) (m : Man rs one other x p p') {l : Option Int} (hl : LasR rs x l) (hn : Uns (psR rs) one n) (hc : p < one - n) : lesser l (other - 1) = lesser l (one - 1) := by
  have hx := m.x1
  have hle := h.le
  by_cases c : one = other
  · rw [c]
  · have hn' : Cnt (psR rs) (some (one - 1)) 0 (one - 1 + 1) n := by rw [show one - 1 + 1 = one by omega]; exact hn
    have hs := at_calm (psR_ok h.f) m.a (by omega) hn'
    rcases las_cut (psR_ok h.f) hl (show x ≤ one - 1 by omega) (fun b e => by have := h.bl b e; omega) with ⟨z, _⟩ | ⟨_, k, rfl, h4, _⟩
    · have := hs.mp z; omega
    · show (if other - 1 < k then other - 1 else k) = if one - 1 < k then one - 1 else k
      rw [if_neg (by omega), if_neg (by omega)]
theorem ord1 {rs : List RowT} {one other x p p' y q q' : Int} (h : Mo rs one other) (m : Man rs one other x p p') (m2 : Man rs one other y q q') (c : x < y) : (q < p ↔ q' < p') ∧ q ≠ p ∧ q' ≠ p' := by
  have hle := h.le
  have hx := m.x1
  have hy := m2.x1
  have hps := psR_ok h.f
  obtain ⟨l, hl⟩ := las_total hps _ (b := bR rs) (s := 0) (x := x) rfl m.x0 (h.pts (by omega))
  have hl : LasR rs x l := hl
  obtain ⟨a1, a2⟩ := at_order hps m.a c (by omega) m2.a (las_under h.f hl (by omega) fun b e => by have := h.bl b e; omega)
  obtain ⟨b1, b2⟩ := at_order hps m.b c (by omega) m2.b (las_under h.f hl (by omega) h.bl)
  refine ⟨?_, a2, b2⟩
  rw [a1, b1]
  cases l with
  | none => show y ≤ one - 1 ↔ y ≤ other - 1; omega
  | some k => show (y ≤ if one - 1 < k then one - 1 else k) ↔ (y ≤ if other - 1 < k then other - 1 else k); split <;> split <;> omega
theorem Man.order {rs : List RowT} {one other x p p' y q q' : Int} (h : Mo rs one other) (m : Man rs one other x p p') (m2 : Man rs one other y q q') : decide (p < q) = decide (p' < q') := by
  rcases Int.lt_or_le x y with c | c
  · obtain ⟨a1, a2, a3⟩ := ord1 h m m2 c
    rw [decide_eq_decide]
    omega
  · rcases Int.lt_or_eq_of_le c with c | c
    · obtain ⟨a1, a2, a3⟩ := ord1 h m2 m c
      rw [decide_eq_decide]
      exact a1
    · subst c
      have h1 := at_uniq m.a m2.a
      have h2 := at_uniq m.b m2.b
      rw [h1, h2]
      simp
/-- whoever stands ahead of all that aren't safe stays -/
theorem Mo.same {rs : List RowT} {one other x y pl n : Int} (h : Mo rs one other) (hn : Uns (psR rs) one n) (hc : pl < one - n) (hx0 : 0 ≤ x) (hx1 : x < one) (hx : At (psR rs) (one - 1) 0 x pl) (hy0 : 0 ≤ y) (hy1 : y < other) (hy : At (psR rs) (other - 1) 0 y pl) : y = x := by
  have hle := h.le
  have hps := psR_ok h.f
  obtain ⟨p', hp'⟩ := at_total hps _ (bd := other - 1) (s := 0) (x := x) rfl hx0 (h.pts (by omega))
  obtain ⟨l, hl⟩ := las_total hps _ (b := bR rs) (s := 0) (x := x) rfl hx0 (h.pts (by omega))
  have hl : LasR rs x l := hl
  have m : Man rs one other x pl p' := ⟨hx0, hx1, hx, hp'⟩
  have h1 := m.more h hl
  have h2 := m.calm h hl hn hc
  have : p' = pl := by omega
  rw [this] at hp'
  exact at_one hps hy (by omega) (by omega) rfl hp'
theorem Mo.newest {rs : List RowT} {one other p n : Int} (h : Mo rs one other) (hn : Uns (psR rs) one n) (hp : At (psR rs) (one + 1 - 1) 0 one p) : p = one - n := by
  rw [show one + 1 - 1 = one by omega] at hp
  have := at_newest (psR_ok h.f) hp rfl hn
  omega
end CL
set_option Elab.async false
set_option linter.all false
set_option pp.maxSteps 600
set_option maxRecDepth 100000
set_option maxHeartbeats 4000000
namespace CL
open PySem PySem.Spec PyProof.Rows L2 GE
/-- the windows around a person -/
def RoadR (rs : List RowT) (x : Int) (S : List StepT) : Prop := Road (psR rs) (bR rs) 0 x S
/-- all lists but the spring stay -/
def KL (r : Addr) (H H' : Hp) : Prop := ∀ D zs, D ≠ r → H D = some (.lst zs) → H' D = some (.lst zs)
theorem KL.refl (r : Addr) (H : Hp) : KL r H H := fun _ _ _ h => h
theorem KL.mv {r : Addr} {H H1 H2 : Hp} (k : KL r H H1) (m : Mv r H1 H2) : KL r H H2 := fun D zs n h => m.keep D _ n (k D zs n h)
theorem KL.ex {r : Addr} {H H1 H2 : Hp} (k : KL r H H1) (e : Ex H1 H2) : KL r H H2 := fun D zs n h => e.lst (k D zs n h)
theorem KL.trans {r : Addr} {H H1 H2 : Hp} (k : KL r H H1) (k2 : KL r H1 H2) : KL r H H2 := fun D zs n h => k2 D zs n (k D zs n h)
theorem stOk_mk {m n : Int} (h0 : 0 ≤ n) (h1 : n < m) : stOk m (.int n) = true := by
  show (decide (0 ≤ n) && decide (n < m)) = true
  rw [decide_eq_true h0, decide_eq_true h1]
  rfl
section
variable {r P1 P2 C C2 C3 C4 : Addr} {v : V} {rs : List RowT} {H : Hp} {Q : VK} {E : XK} {σ : L2.St} {i j l3 : Nat}
theorem c_place (hF : Fine rs) (s : Sl r P1 P2 v rs H) {m n : Int} (hm : momentOk (dueO rs) (.int m) = true) (h0 : 0 ≤ n) (h1 : n < m) (q : ∀ p H', At (psR rs) (m - 1) 0 n p → Ex H H' → Sl r P1 P2 v rs H' → Q (.int p) H') : spPlaceOf P1 P2 C C3 C2 [v, .int m, .int n] H Q E := by
  obtain ⟨ps, pc, e, e2, e3⟩ := parts hF
  refine ⟨v, .int m, .int n, _, .int m, .int n, rfl, s.rpH, .int m, .int n, s.tb, fun z => absurd (fine_plan hF) (by rw [z]; simp), fun _ => ⟨ps, pc, e, fun z => absurd hm (by rw [← e3, z]; simp), fun _ m' em => ?_⟩⟩
  cases em
  refine ⟨fun z => absurd (stOk_mk h0 h1) (by rw [z]; simp), fun _ n' p H' en ha ex tb => ?_⟩
  cases en
  exact q p H' (by rw [e2]; exact ha) ex (s.ex ex tb)
theorem c_pers (hF : Fine rs) (s : Sl r P1 P2 v rs H) {m n : Int} (hm : momentOk (dueO rs) (.int m) = true) (h0 : 0 ≤ n) (h1 : n < m) (q : ∀ x H', At (psR rs) (m - 1) 0 x n → 0 ≤ x → x < m → Ex H H' → Sl r P1 P2 v rs H' → Q (.int x) H') : spPersonAt P1 P2 C C3 C2 [v, .int m, .int n] H Q E := by
  obtain ⟨ps, pc, e, e2, e3⟩ := parts hF
  refine ⟨v, .int m, .int n, _, .int m, .int n, rfl, s.rpH, .int m, .int n, s.tb, fun z => absurd (fine_plan hF) (by rw [z]; simp), fun _ => ⟨ps, pc, e, fun z => absurd hm (by rw [← e3, z]; simp), fun _ m' em => ?_⟩⟩
  cases em
  refine ⟨fun z => absurd (stOk_mk h0 h1) (by rw [z]; simp), fun _ n' x H' en ha x0 x1 ex tb => ?_⟩
  cases en
  exact q x H' (by rw [e2]; exact ha) x0 x1 ex (s.ex ex tb)
theorem k_place (hi : σ[i]? = some (some v)) {m n : Int} (hj : σ[j]? = some (some (.int m))) (hl : σ[l3]? = some (some (.int n))) (hF : Fine rs) (s : Sl r P1 P2 v rs H) (hm : momentOk (dueO rs) (.int m) = true) (h0 : 0 ≤ n) (h1 : n < m) (q : ∀ p H', At (psR rs) (m - 1) 0 n p → Ex H H' → Sl r P1 P2 v rs H' → Q (.int p) H') : tCall (spPlaceOf P1 P2 C C3 C2) [] E (tCons (tVar i) (tCons (tVar j) (tCons (tVar l3) tNil))) σ H Q := ⟨v, hi, .int m, hj, .int n, hl, (c_place hF s hm h0 h1 q : spPlaceOf P1 P2 C C3 C2 [v, .int m, .int n] H Q E)⟩
theorem k_place1 (hi : σ[i]? = some (some v)) {m n : Int} (hj : σ[j]? = some (some (.int m))) (hl : σ[l3]? = some (some (.int n))) (hF : Fine rs) (s : Sl r P1 P2 v rs H) (hm : momentOk (dueO rs) (.int (m + 1)) = true) (h0 : 0 ≤ n) (h1 : n < m + 1) (q : ∀ p H', At (psR rs) (m + 1 - 1) 0 n p → Ex H H' → Sl r P1 P2 v rs H' → Q (.int p) H') : tCall (spPlaceOf P1 P2 C C3 C2) [] E (tCons (tVar i) (tCons (tOp (rI0 fun i j => V.int (i + j)) (tVar j) (tC (V.int 1))) (tCons (tVar l3) tNil))) σ H Q := ⟨v, hi, .int m, hj, m, 1, rfl, rfl, .int n, hl, (c_place hF s hm h0 h1 q : spPlaceOf P1 P2 C C3 C2 [v, .int (m + 1), .int n] H Q E)⟩
theorem k_pers (hi : σ[i]? = some (some v)) {m n : Int} (hj : σ[j]? = some (some (.int m))) (hl : σ[l3]? = some (some (.int n))) (hF : Fine rs) (s : Sl r P1 P2 v rs H) (hm : momentOk (dueO rs) (.int m) = true) (h0 : 0 ≤ n) (h1 : n < m) (q : ∀ x H', At (psR rs) (m - 1) 0 x n → 0 ≤ x → x < m → Ex H H' → Sl r P1 P2 v rs H' → Q (.int x) H') : tCall (spPersonAt P1 P2 C C3 C2) [] E (tCons (tVar i) (tCons (tVar j) (tCons (tVar l3) tNil))) σ H Q := ⟨v, hi, .int m, hj, .int n, hl, (c_pers hF s hm h0 h1 q : spPersonAt P1 P2 C C3 C2 [v, .int m, .int n] H Q E)⟩
theorem k_uns (hi : σ[i]? = some (some v)) {m : Int} (hj : σ[j]? = some (some (.int m))) (hF : Fine rs) (s : Sl r P1 P2 v rs H) (ha : momentOk (dueO rs) (.int m) = true) (q : ∀ n H', Uns (psR rs) m n → Ex H H' → Sl r P1 P2 v rs H' → Q (.int n) H') : tCall (spUnsafe P1 P2 C C3) [] E (tCons (tVar i) (tCons (tVar j) tNil)) σ H Q := ⟨v, hi, .int m, hj, (c_uns hF s ha q : spUnsafe P1 P2 C C3 [v, .int m] H Q E)⟩
/-- went_past of one of a list -/
theorem k_wentL {K : PySem.W.Frag} {D : Addr} {xs : List Int} {a b : Nat} (hi : σ[i]? = some (some v)) (hD : σ[j]? = some (some (.ref D))) (hk : σ[a]? = some (some (.int (b : Int)))) {n m : Int} (eD : H D = some (.lst (xs.map V.int))) (hx : xs[b]? = some n) (hl : σ[l3]? = some (some (.int m))) (hF : Fine rs) (s : Sl r P1 P2 v rs H) (ha : Asks rs n) (hm : momentOk (dueO rs) (.int m) = true) (hlt : n < m) (q : ∀ l H', LasR rs n l → Ex H H' → Sl r P1 P2 v rs H' → Q (.int (pastV l n m)) H') :
    tCall (spWent P1 P2 C C2 C3) [] E (tCons (tVar i) (tCons (tOp (rIxL K) (tVar j) (tVar a)) (tCons (tVar l3) tNil))) σ H Q := ⟨v, hi, .ref D, hD, .int (b : Int), hk, D, _, (b : Int), .int n, rfl, rfl, SqL.of eD, atI_nat (by rw [List.getElem?_map, hx]; rfl), .int m, hl, (c_went hF s ha hm hlt q : spWent P1 P2 C C2 C3 [v, .int n, .int m] H Q E)⟩
end
theorem vib {A B : Prop} (h : A → B) (a : A) : B := h a
theorem ex_updN {H H1 : Hp} {b : Addr} {o : HO} (e : Ex H H1) (n : H b = none) : Ex H (upd H1 b o) := fun c x h => by
  rw [upd_ne (ne_of_none h n)]
  exact e c x h
theorem tb_upd {P1 P2 b : Addr} {H : Hp} {xs : List V} {o : HO} (h : Tb P1 P2 H) (e : H b = some (.lst xs)) : Tb P1 P2 (upd H b o) := h.upd fun ps z => by rw [e] at z; cases z
section
variable {r P1 P2 C C2 : Addr} {v : V} {rs : List RowT} {H : Hp} {Q : VK} {E : XK} {σ : L2.St} {i j : Nat}
theorem c_around (hF : Fine rs) (s : Sl r P1 P2 v rs H) {n : Int} (ha : Asks rs n) (q : ∀ D ws S H', Ex H H' → Sl r P1 P2 v rs H' → H' D = some (.lst ws) → StAt H' ws S → S.length ≤ 64 → RoadR rs n S → Q (.ref D) H') : spWinAr P1 P2 C C2 [v, .int n] H Q E := by
  obtain ⟨ps, pc, e, e2, e3⟩ := parts hF
  refine ⟨v, .int n, _, .int n, rfl, s.rpH, .int n, fun m em => by cases em; exact ha.hi, s.tb, fun z => absurd (fine_plan hF) (by rw [z]; simp), fun _ => ⟨ps, pc, e, fun z => absurd ha.ok (by rw [← e3, z]; simp), fun _ m D ws S H' em ex tb eD hS hl hRd => ?_⟩⟩
  cases em
  refine q D ws S H' ex (s.ex ex tb) eD hS hl ?_
  unfold RoadR bR
  rw [e2, ← e3]
  exact hRd
theorem k_around (hi : σ[i]? = some (some v)) {n : Int} (hj : σ[j]? = some (some (.int n))) (hF : Fine rs) (s : Sl r P1 P2 v rs H) (ha : Asks rs n) (q : ∀ D ws S H', Ex H H' → Sl r P1 P2 v rs H' → H' D = some (.lst ws) → StAt H' ws S → S.length ≤ 64 → RoadR rs n S → Q (.ref D) H') : tCall (spWinAr P1 P2 C C2) [] E (tCons (tVar i) (tCons (tVar j) tNil)) σ H Q := ⟨v, hi, .int n, hj, (c_around hF s ha q : spWinAr P1 P2 C C2 [v, .int n] H Q E)⟩
end
/-- who comes stands behind as many as are safe, and from then on behind as many more as went past -/
theorem sums_at {rs : List RowT} {x m p n b : Int} {l : Option Int} (h : Mo rs (x + 1) m) (hx : 0 ≤ x) (hn : Uns (psR rs) x n) (hb : At (psR rs) (x + 1 - 1) 0 x b) (hp : At (psR rs) (m - 1) 0 x p) (hl : LasR rs x l) : b = x - n ∧ p = x - n + (lesser l (m - 1) - x) := by
  have hb' : At (psR rs) x 0 x b := by rw [show x + 1 - 1 = x by omega] at hb; exact hb
  have h1 := at_newest (psR_ok h.f) hb' rfl hn
  have h2 := Man.more h ⟨hx, by omega, hb, hp⟩ hl
  have h3 := (las_le (las_under h.f hl (show x ≤ m - 1 by have := h.le; omega) h.bl) fun k e => by cases e; have := h.le; omega).1 _ rfl
  have h4 : lesser l (x + 1 - 1) = x := by
    rw [show x + 1 - 1 = x by omega]
    cases l with
    | none => rfl
    | some k =>
      have h5 := ((las_le hl (fun b e => by have := h.bl b e; have := h.le; omega)).1 k rfl).1
      show (if x < k then x else k) = x
      split <;> omega
  omega
/-! ### a list of anything, and the empty list -/
def rNeE : R2 := fun x y H Q => ∃ (a b : Addr) (xs : List V), x = .ref a ∧ y = .ref b ∧ H a = some (.lst xs) ∧ H b = some (.lst []) ∧ Q (.bl (!xs.isEmpty)) H
theorem op_neE {X : Cx} (hu : X.A.units < cLine) : OpR X (compareOp .NotEq) rNeE := by
  intro pins s σ H x y v u Q I rx ry ⟨a, b, xs, ex, ey, ha, hb, q⟩
  subst ex ey
  obtain ⟨its, rv, p1, _⟩ := I.list (SqL.of ha)
  obtain ⟨jts, rw', p2, _⟩ := I.list (SqL.of hb)
  cases rx
  cases ry
  have l1 := rv.length
  have l2 := rw'.length
  cases xs with
  | nil =>
    have e : its.toArray.size = jts.toArray.size := by rw [List.size_toArray, List.size_toArray, ← l1, ← l2]
    have e0 : its.toArray.size = 0 := by rw [List.size_toArray, ← l1]; rfl
    have z := SeqAt.RcNeAt.lists (A := X.A) (e := fun _ => true) p1.isList p2.isList e hu (fun j h1 => absurd h1 (by rw [e0]; exact Nat.not_lt_zero j))
    refine z X.prog X.w _ _ ⟨.bl _, H, I, ?_, q⟩
    rw [e0]
    rfl
  | cons x xs =>
    have e : (its.toArray.size != jts.toArray.size) = true := by
      rw [List.size_toArray, List.size_toArray, ← l1, ← l2]
      rfl
    exact SeqAt.RcNeAt.lists_lengths (A := X.A) p1.isList p2.isList e hu X.prog X.w _ _ ⟨.bl _, H, I, rfl, q⟩
theorem seqP {A B : TS} {D : Ends} {σ : L2.St} {H : Hp} (R : L2.St → Hp → Prop) (hB : ∀ σ' H', R σ' H' → B D σ' H') (hA : ∀ nx : L2.St → Hp → Prop, (∀ σ' H', R σ' H' → nx σ' H') → A { D with nx := nx } σ H) : tSeq A B D σ H := hA (B D) hB
section
variable {r P1 P2 C C2 C3 C4 : Addr} {v : V} {rs : List RowT} {H : Hp} {Q : VK} {E : XK} {σ : L2.St} {i j l3 : Nat}
theorem k_went (hi : σ[i]? = some (some v)) {n m : Int} (hj : σ[j]? = some (some (.int n))) (hl : σ[l3]? = some (some (.int m))) (hF : Fine rs) (s : Sl r P1 P2 v rs H) (ha : Asks rs n) (hm : momentOk (dueO rs) (.int m) = true) (hlt : n < m) (q : ∀ l H', LasR rs n l → Ex H H' → Sl r P1 P2 v rs H' → Q (.int (pastV l n m)) H') : tCall (spWent P1 P2 C C2 C3) [] E (tCons (tVar i) (tCons (tVar j) (tCons (tVar l3) tNil))) σ H Q := ⟨v, hi, .int n, hj, .int m, hl, (c_went hF s ha hm hlt q : spWent P1 P2 C C2 C3 [v, .int n, .int m] H Q E)⟩
theorem k_last (hi : σ[i]? = some (some v)) {n : Int} (hj : σ[j]? = some (some (.int n))) (hF : Fine rs) (s : Sl r P1 P2 v rs H) (ha : Asks rs n) (q : ∀ l H', LasR rs n l → Ex H H' → Sl r P1 P2 v rs H' → Q (optV l) H') : tCall (spLastOf P1 P2 C C2) [] E (tCons (tVar i) (tCons (tVar j) tNil)) σ H Q := ⟨v, hi, .int n, hj, (c_last hF s ha q : spLastOf P1 P2 C C2 [v, .int n] H Q E)⟩
theorem k_who (hi : σ[i]? = some (some v)) {n m : Int} (hj : σ[j]? = some (some (.int n))) (hl : σ[l3]? = some (some (.int m))) (hF : Fine rs) (s : Sl r P1 P2 v rs H) (ha : Asks rs n) (hb : Asks rs m) (hne : n ≠ m) (q : ∀ l H', LasR rs (if m < n then m else n) l → Ex H H' → Sl r P1 P2 v rs H' → Q (.int (whoV l (if m < n then m else n) (if m > n then m else n))) H') : tCall (spWho P1 P2 C C2 C4) [] E (tCons (tVar i) (tCons (tVar j) (tCons (tVar l3) tNil))) σ H Q := ⟨v, hi, .int n, hj, .int m, hl, (c_who hF s ha hb hne q : spWho P1 P2 C C2 C4 [v, .int n, .int m] H Q E)⟩
theorem k_ref (hi : σ[i]? = some (some v)) {m : Int} (hj : σ[j]? = some (some (.int m))) (hF : Fine rs) (s : Sl r P1 P2 v rs H) (ha : momentOk (dueO rs) (.int m) = true) (q : ∀ o H', Ref (psR rs) m o → Ex H H' → Sl r P1 P2 v rs H' → Q (optV o) H') : tCall (spRefuser P1 P2 C C3) [] E (tCons (tVar i) (tCons (tVar j) tNil)) σ H Q := ⟨v, hi, .int m, hj, (c_ref hF s ha q : spRefuser P1 P2 C C3 [v, .int m] H Q E)⟩
end
theorem lcC {lo c : Int} {n : Nat} {g : TG} {tt : TT} {te : TE} {vs : List Nat} {σ : L2.St} {H1 : Hp} {D : Addr} {Qd : Hp → Prop} (Pv : Nat → Hp → Prop) (h0 : Pv 0 (upd H1 D (.lst []))) (hs : ∀ i H, i < n → Pv i H → g (.int (lo + (i : Nat) * c)) (wipe σ vs) H fun σ2 H2 => wipe σ2 vs = wipe σ vs ∧ tt σ2 H2 fun b H3 => if b = true then te σ2 H3 fun y H4 => ∃ acc, H4 D = some (.lst acc) ∧ acc.length < sizeLine ∧ Pv (i + 1) (upd H4 D (.lst (acc ++ [y]))) else Pv (i + 1) H3) (hd : ∀ H, Pv n H → Qd H) :
    ∃ W : Nat → Nat → Hp → Prop, (∃ m, W 0 m (upd H1 D (.lst []))) ∧ ∀ i m H, W i m H → ((Itc lo c n).stop i H ∧ Qd H) ∨ ((Itc lo c n).go i H ∧ ∃ Nx : Hp → Prop, (∀ H', Nx H' → ∃ m', m' < m ∧ W (i + 1) m' H') ∧ ∀ x H', (Itc lo c n).yld i H x H' → g x (wipe σ vs) H' fun σ2 H2 => wipe σ2 vs = wipe σ vs ∧ tt σ2 H2 fun b H3 => if b = true then te σ2 H3 fun y H4 => ∃ acc, H4 D = some (.lst acc) ∧ acc.length < sizeLine ∧ Nx (upd H4 D (.lst (acc ++ [y]))) else Nx H3) :=
  ⟨fun i m H => m = n - i ∧ i ≤ n ∧ Pv i H, ⟨n, (Nat.sub_zero n).symm, Nat.zero_le n, h0⟩, fun i m H ⟨em, hi, hp⟩ => by
    rcases Nat.lt_or_ge i n with c1 | c1
    · exact .inr ⟨c1, Pv (i + 1), fun H' hp' => ⟨n - (i + 1), by omega, rfl, c1, hp'⟩, fun x H' ⟨e1, e2⟩ => by rw [e1, e2]; exact hs i H c1 hp⟩
    · have e3 : i = n := Nat.le_antisymm hi c1
      rw [e3] at hp
      exact .inl ⟨c1, hd H hp⟩⟩
theorem cut_mid (xs : List V) (a b : Nat) (h : b ≤ xs.length) : cutV xs (some (a : Int)) (some (b : Int)) = (xs.drop a).take (b - a) := by
  unfold cutV
  have e0 : HT.sIx xs.length 0 (some (a : Int)) = min a xs.length := HT.sIx_nat _ _ _
  have e1 : HT.sIx xs.length xs.length (some (b : Int)) = min b xs.length := HT.sIx_nat _ _ _
  rw [e0, e1, Nat.min_eq_left h]
  rcases Nat.le_total a xs.length with c | c
  · rw [Nat.min_eq_left c]
  · rw [Nat.min_eq_right c, List.drop_of_length_le (Nat.le_refl _), List.drop_of_length_le c, List.take_nil, List.take_nil]
theorem rp_ints {H : Hp} (ns : List Int) : RpAll H (ns.map V.int) ((ns.map some).map pdO) := by
  have e : ns.map V.int = (ns.map some).map pvO := by rw [List.map_map]; rfl
  rw [e]
  exact rp_Os _
theorem sl_blk {X : Cx} {s : Shared} {H : Hp} {scope : Scope} {cenv : Env} {fp : List Addr} : L2.SlR (X.blk s H scope cenv fp) (rSlL X.K) := sl_list
/-- all that the sums need of one who comes by the moment -/
theorem sums_all {rs : List RowT} {x m n : Int} {l : Option Int} (h : Mo rs (x + 1) m) (hx : 0 ≤ x) (hn : Uns (psR rs) x n) (hl : LasR rs x l) : At (psR rs) (m - 1) 0 x (x - n + pastV l x m) ∧ 0 ≤ x - n + pastV l x m ∧ x - n + pastV l x m < m ∧ At (psR rs) (x + 1 - 1) 0 x (x - n) := by
  have hps := psR_ok h.f
  have hle := h.le
  obtain ⟨p, hp⟩ := at_total hps _ (bd := m - 1) (s := 0) (x := x) rfl hx (h.pts (by omega))
  obtain ⟨b, hb⟩ := at_total hps _ (bd := x + 1 - 1) (s := 0) (x := x) rfl hx (h.pts (by omega))
  obtain ⟨h1, h2⟩ := sums_at h hx hn hb hp hl
  rw [past_less]
  obtain ⟨a1, a2⟩ := at_in hps hp (by omega)
  subst h1 h2
  exact ⟨hp, a1, by omega, hb⟩
section
variable {r P1 P2 C C2 C3 C4 : Addr} {v : V} {rs : List RowT} {H : Hp} {Q : VK} {E : XK} {σ : L2.St} {i j l3 : Nat}
theorem k_pat (hi : σ[i]? = some (some v)) {n : Int} (hj : σ[j]? = some (some (.int n))) (hF : Fine rs) (s : Sl r P1 P2 v rs H) (ha : Asks rs n) (q : ∀ t x H', Pt (psR rs) n t → isPatience t = true → Rp H' x t → Ex H H' → Sl r P1 P2 v rs H' → Q x H') : tCall (spPatOf P1 P2 C C2) [] E (tCons (tVar i) (tCons (tVar j) tNil)) σ H Q := ⟨v, hi, .int n, hj, (c_pat hF s ha q : spPatOf P1 P2 C C2 [v, .int n] H Q E)⟩
theorem c_wino (hF : Fine rs) (s : Sl r P1 P2 v rs H) {n : Int} (ha : Asks rs n) (q : ∀ S x H', RoadR rs n S → WinV H' n S x → Ex H H' → Sl r P1 P2 v rs H' → Q x H') : spWinOf P1 P2 C C2 [v, .int n] H Q E := by
  obtain ⟨ps, pc, e, e2, e3⟩ := parts hF
  refine ⟨v, .int n, _, .int n, rfl, s.rpH, .int n, fun m em => by cases em; exact ha.hi, s.tb, fun z => absurd (fine_plan hF) (by rw [z]; simp), fun _ => ⟨ps, pc, e, fun z => absurd ha.ok (by rw [← e3, z]; simp), fun _ m S x H' em hR hV ex tb => ?_⟩⟩
  cases em
  refine q S x H' ?_ hV ex (s.ex ex tb)
  unfold RoadR bR
  rw [e2, ← e3]
  exact hR
theorem k_wino (hi : σ[i]? = some (some v)) {n : Int} (hj : σ[j]? = some (some (.int n))) (hF : Fine rs) (s : Sl r P1 P2 v rs H) (ha : Asks rs n) (q : ∀ S x H', RoadR rs n S → WinV H' n S x → Ex H H' → Sl r P1 P2 v rs H' → Q x H') : tCall (spWinOf P1 P2 C C2) [] E (tCons (tVar i) (tCons (tVar j) tNil)) σ H Q := ⟨v, hi, .int n, hj, (c_wino hF s ha q : spWinOf P1 P2 C C2 [v, .int n] H Q E)⟩
end
theorem Kl.refl (r : Addr) (H : Hp) : Kl r H H := fun _ _ _ h _ => h
theorem Kl.mv {r : Addr} {H H1 H2 : Hp} (k : Kl r H H1) (m : Mv r H1 H2) : Kl r H H2 := fun b o n h t => m.keep b o n (k b o n h t)
theorem Kl.ex {r : Addr} {H H1 H2 : Hp} (k : Kl r H H1) (e : Ex H1 H2) : Kl r H H2 := fun b o n h t => e.keep (k b o n h t) t
theorem Kl.trans {r : Addr} {H H1 H2 : Hp} (k : Kl r H H1) (k2 : Kl r H1 H2) : Kl r H H2 := fun b o n h t => k2 b o n (k b o n h t) t
theorem Kl.kl {r : Addr} {H H1 : Hp} (k : Kl r H H1) : KL r H H1 := fun D zs n h => k D _ n h fun _ z => nomatch z
theorem Kl.lst {r D : Addr} {H H1 : Hp} {zs : List V} (k : Kl r H H1) (n : D ≠ r) (h : H D = some (.lst zs)) : H1 D = some (.lst zs) := k D _ n h fun _ z => nomatch z
theorem Kl.tup {r D : Addr} {H H1 : Hp} {zs : List V} (k : Kl r H H1) (n : D ≠ r) (h : H D = some (.tup zs)) : H1 D = some (.tup zs) := k D _ n h fun _ z => nomatch z
/-- the law's state, and all lists of a heap ahead but the spring stand there still -/
structure Sk (r P1 P2 : Addr) (v : V) (rs : List RowT) (H0 H : Hp) : Prop where
  s : Sl r P1 P2 v rs H
  k : Kl r H0 H
theorem Sk.mv {r P1 P2 : Addr} {v : V} {rs : List RowT} {H0 H H' : Hp} (a : Sk r P1 P2 v rs H0 H) (re : ReelAt H' r) (m : Mv r H H') : Sk r P1 P2 v rs H0 H' := ⟨a.s.mv re m, a.k.mv m⟩
theorem Sk.sm {r P1 P2 : Addr} {v : V} {rs : List RowT} {H0 H H' : Hp} (a : Sk r P1 P2 v rs H0 H) (m : Same H H') : Sk r P1 P2 v rs H0 H' := ⟨a.s.sm m, a.k.mv (Mv.of m)⟩
theorem Sk.ex {r P1 P2 : Addr} {v : V} {rs : List RowT} {H0 H H' : Hp} (a : Sk r P1 P2 v rs H0 H) (e : Ex H H') (t : Tb P1 P2 H') : Sk r P1 P2 v rs H0 H' := ⟨a.s.ex e t, a.k.ex e⟩
/-- [a call of each of a list of numbers] -/
theorem lc_ints {K : PySem.W.Frag} {P1 P2 D0 : Addr} {xs : List Int} {g : TG} {tt : TT} {te : TE} {vs : List Nat} {σ : L2.St} {H1 : Hp} {D : Addr} {Qd : Hp → Prop} (R : Int → Int → Prop) (e0 : H1 D0 = some (.lst (xs.map V.int))) (t0 : Tb P1 P2 H1) (hl : xs.length ≤ 1000) (nD : H1 D = none)
    (hs : ∀ (i : Nat) x H6 (k : VK) (F : Hp → Prop), xs[i]? = some x → Ex H1 H6 → Tb P1 P2 H6 → (∀ z H4, R x z → Ex H6 H4 → Tb P1 P2 H4 → k (.int z) H4) → g (.int x) (wipe σ vs) H6 fun σ2 H2 => wipe σ2 vs = wipe σ vs ∧ tt σ2 H2 fun b H3 => if b = true then te σ2 H3 k else F H3)
    (hd : ∀ (H : Hp) (qs : List Int), Ex H1 H → Tb P1 P2 H → H D = some (.lst (qs.map V.int)) → qs.length = xs.length → (∀ (j : Nat) x, xs[j]? = some x → ∃ z, qs[j]? = some z ∧ R x z) → Qd H) :
    ∃ W : Nat → Nat → Hp → Prop, (∃ m, W 0 m (upd H1 D (.lst []))) ∧ ∀ i m H, W i m H → ((Itl K D0).stop i H ∧ Qd H) ∨ ((Itl K D0).go i H ∧ ∃ Nx : Hp → Prop, (∀ H', Nx H' → ∃ m', m' < m ∧ W (i + 1) m' H') ∧ ∀ x H', (Itl K D0).yld i H x H' → g x (wipe σ vs) H' fun σ2 H2 => wipe σ2 vs = wipe σ vs ∧ tt σ2 H2 fun b H3 => if b = true then te σ2 H3 fun y H4 => ∃ acc, H4 D = some (.lst acc) ∧ acc.length < sizeLine ∧ Nx (upd H4 D (.lst (acc ++ [y]))) else Nx H3) := by
  refine lc_list (xs := xs.map V.int) (fun i H6 => ∃ qs : List Int, Ex H1 H6 ∧ Tb P1 P2 H6 ∧ H6 D = some (.lst (qs.map V.int)) ∧ qs.length = i ∧ ∀ (j : Nat) x, j < i → xs[j]? = some x → ∃ z, qs[j]? = some z ∧ R x z)
    ⟨[], Ex.new nD, t0.same (same_upd nD), upd_same, rfl, fun j x hj => absurd hj (Nat.not_lt_zero j)⟩ (fun i H6 _ ⟨qs, e6, _⟩ => SqL.of (e6.lst e0)) (fun i xv H6 hx ⟨qs, e6, t6, eq6, lq, hq⟩ => ?_) (fun H6 ⟨qs, e6, t6, eq6, lq, hq⟩ => ?_)
  · obtain ⟨x, hy, rfl⟩ : ∃ y, xs[i]? = some y ∧ xv = .int y := by
      rw [List.getElem?_map] at hx
      cases z : xs[i]? with
      | none => rw [z] at hx; cases hx
      | some y => rw [z] at hx; cases hx; exact ⟨y, rfl, rfl⟩
    have li : i < xs.length := (List.getElem?_eq_some_iff.mp hy).1
    refine hs i x H6 _ _ hy e6 t6 fun z H7 hz e7 t7 => ⟨qs.map V.int, e7.lst eq6, by rw [List.length_map]; exact small1000 (by omega), qs ++ [z], ex_updN (e6.trans e7) nD, tb_upd t7 (e7.lst eq6), by rw [upd_same, List.map_append]; rfl, by rw [List.length_append, lq]; rfl, fun j y hj hy' => ?_⟩
    by_cases c : j < i
    · obtain ⟨p', h1, h2⟩ := hq j y c hy'
      exact ⟨p', by rw [List.getElem?_append_left (by omega)]; exact h1, h2⟩
    · have : j = i := by omega
      subst this
      rw [hy] at hy'
      cases hy'
      exact ⟨z, by rw [← lq]; exact List.getElem?_concat_length, hz⟩
  · rw [List.length_map] at lq
    exact hd H6 qs e6 t6 eq6 lq fun j x hj => hq j x (by rw [List.length_map]; exact (List.getElem?_eq_some_iff.mp hj).1) hj
end CL
set_option Elab.async false
set_option linter.all false
set_option pp.maxSteps 600
set_option maxRecDepth 100000
set_option maxHeartbeats 4000000
namespace CL
open PySem PySem.Spec PyProof.Rows L2 GE
/-! ### a window, up to a bound -/
/-- the window (o, l) is met from s on up to the bound; so many places stand ahead of it -/
inductive Win (ps : List PieceT) : Int → Int → Int → Int → Int → Prop
  | here {bd o w : Int} : WP ps (some bd) o w → 0 < w → Win ps bd o o (o + w - 1) 0
  | inn {bd s o l w q : Int} : WP ps (some bd) s w → s < o → o < s + w → Win ps (s + w - 1) (s + 1) o l q → Win ps bd s o l q
  | skip {bd s o l w q : Int} : WP ps (some bd) s w → s + max w 1 ≤ o → Win ps bd (s + max w 1) o l q → Win ps bd s o l (w + q)
theorem win_ge {ps : List PieceT} {bd s o l q : Int} (h : Win ps bd s o l q) : s ≤ o ∧ o ≤ l := by
  induction h with
  | here => omega
  | inn => omega
  | skip => omega
theorem win_in {ps : List PieceT} (hp : PsOk ps) {bd s o l q : Int} (h : Win ps bd s o l q) : 0 ≤ q ∧ q + (l - o) ≤ bd - s ∧ l ≤ bd := by
  induction h with
  | here h h0 =>
    obtain ⟨p, _, h2, h3⟩ := wp_pos h h0
    have := h3 _ rfl
    omega
  | inn h h1 h2 _ ih =>
    obtain ⟨p, _, h3, h4⟩ := wp_pos h (by omega)
    have := h4 _ rfl
    omega
  | skip h h1 _ ih =>
    have := wp_nn hp h
    omega
theorem win_las {ps : List PieceT} {bd s o l q : Int} (h : Win ps bd s o l q) : Las ps (some bd) s o (some l) := by
  induction h with
  | here h h0 => exact .own h h0
  | inn h h1 h2 _ ih => exact .inn h h1 h2 ih
  | skip h h1 _ ih => exact .skip h h1 ih
/-- all of a window stand together, its opener last -/
theorem win_at {ps : List PieceT} (hp : PsOk ps) {bd s o l q : Int} (h : Win ps bd s o l q) : ∀ {y p : Int}, o ≤ y → y ≤ l → At ps bd s y p → q ≤ p ∧ p ≤ q + (l - o) ∧ (y = o → p = q + (l - o)) := by
  induction h with
  | here h h0 =>
    intro y p h1 h2 h'
    cases h' with
    | spare h3 => have := wp_uniq h h3; omega
    | own h3 h4 => have := wp_uniq h h3; omega
    | inn h3 h4 h5 h6 =>
      have e := wp_uniq h h3
      subst e
      have := at_in hp h6 (by omega)
      omega
    | skip h3 h4 => have := wp_uniq h h3; omega
  | inn h h1 h2 hw ih =>
    intro y p h3 h4 h'
    have hb := win_in hp hw
    cases h' with
    | spare h5 => omega
    | own h5 h6 => omega
    | inn h5 h6 h7 h8 => have e := wp_uniq h h5; subst e; exact ih h3 h4 h8
    | skip h5 h6 => have := wp_uniq h h5; omega
  | skip h h1 hw ih =>
    intro y p h3 h4 h'
    cases h' with
    | spare h5 => omega
    | own h5 h6 => omega
    | inn h5 h6 h7 h8 => have := wp_uniq h h5; omega
    | skip h5 h6 h7 =>
      have e := wp_uniq h h5
      subst e
      have := ih h3 h4 h7
      omega
/-- nobody else stands among them -/
theorem win_back {ps : List PieceT} (hp : PsOk ps) {bd s o l q : Int} (h : Win ps bd s o l q) : ∀ {y p : Int}, y ≤ bd → q ≤ p → p ≤ q + (l - o) → At ps bd s y p → o ≤ y ∧ y ≤ l := by
  induction h with
  | here h h0 =>
    intro y p hy h1 h2 h'
    cases h' with
    | spare h3 => have := wp_uniq h h3; omega
    | own h3 h4 => omega
    | inn h3 h4 h5 h6 => have := wp_uniq h h3; omega
    | skip h3 h4 h5 =>
      have := wp_uniq h h3
      have := at_in hp h5 hy
      omega
  | inn h h1 h2 hw ih =>
    intro y p hy h3 h4 h'
    have hb := win_in hp hw
    cases h' with
    | spare h5 => have := wp_uniq h h5; omega
    | own h5 h6 => have := wp_uniq h h5; omega
    | inn h5 h6 h7 h8 => have e := wp_uniq h h5; subst e; exact ih (by omega) h3 h4 h8
    | skip h5 h6 h7 =>
      have := wp_uniq h h5
      have := at_in hp h7 hy
      omega
  | skip h h1 hw ih =>
    intro y p hy h3 h4 h'
    have hb := win_in hp hw
    have hn := wp_nn hp h
    cases h' with
    | spare h5 => have := wp_uniq h h5; omega
    | own h5 h6 => have := wp_uniq h h5; omega
    | inn h5 h6 h7 h8 =>
      have e := wp_uniq h h5
      subst e
      obtain ⟨pp, _, h9, h10⟩ := wp_pos h (by omega)
      have := h10 _ rfl
      have := at_in hp h8 (by omega)
      omega
    | skip h5 h6 h7 =>
      have e := wp_uniq h h5
      subst e
      exact ih hy (by omega) (by omega) h7
/-- the windows around a person hold it, and lie within the bound -/
theorem road_lasts {ps : List PieceT} {b : Option Int} {s y : Int} {S : List StepT} (h : Road ps b s y S) : (∀ m, b = some m → y ≤ m) → ∀ z ∈ S, y ≤ z.2 ∧ ∀ m, b = some m → z.2 ≤ m := by
  induction h with
  | spare h => intro _ z hz; cases hz
  | own h h0 =>
    intro hb z hz
    rw [List.mem_singleton.mp hz]
    obtain ⟨p, _, h2, h3⟩ := wp_pos h h0
    exact ⟨by show _ ≤ _; omega, fun m e => by have := h3 m e; show _ ≤ _; omega⟩
  | inn h h0 h1 _ ih =>
    intro hb z hz
    obtain ⟨p, _, h2, h3⟩ := wp_pos h (by omega)
    rcases List.mem_cons.mp hz with rfl | hz
    · exact ⟨by show _ ≤ _; omega, fun m e => by have := h3 m e; show _ ≤ _; omega⟩
    · have h4 := ih (fun m e => by cases e; omega) z hz
      exact ⟨h4.1, fun m e => by have := h3 m e; have := h4.2 _ rfl; omega⟩
  | skip h h0 _ ih => exact fun hb z hz => ih hb z hz
/-- a window around a person, up to any bound that it lies within -/
theorem win_of {ps : List PieceT} (hp : PsOk ps) {b : Option Int} {s y : Int} {S : List StepT} (h : Road ps b s y S) : ∀ {c o l : Int}, (∀ m, b = some m → y ≤ m) → (∀ m, b = some m → c ≤ m) → (o, l) ∈ S → l ≤ c → ∃ q, Win ps c s o l q := by
  induction h with
  | spare h => intro c o l _ _ hm; cases hm
  | own h h0 =>
    intro c o l _ hb hm hl
    cases List.mem_singleton.mp hm
    exact ⟨_, .here (cut_in h h0 hl) h0⟩
  | @inn b s x w S h h0 h1 hR ih =>
    intro c o l hy hb hm hl
    rcases List.mem_cons.mp hm with e | hm
    · cases e
      exact ⟨_, .here (cut_in h (by omega) hl) (by omega)⟩
    · have hxm : ∀ m, some (s + w - 1) = some m → x ≤ m := fun m e => by cases e; omega
      have hL := road_lasts hR hxm _ hm
      have hl1 : l ≤ s + w - 1 := hL.2 _ rfl
      have ho : s + 1 ≤ o := (road_in hR _ hm).1
      have hol : o ≤ l := by
        have h2 := (road_in hR _ hm).2
        have h3 := hL.1
        have h4 : o ≤ x := h2
        have h5 : x ≤ l := h3
        omega
      rcases Int.lt_or_le c (s + w - 1) with c1 | c1
      · obtain ⟨q, hq⟩ := ih hxm (fun m e => by cases e; omega) hm hl
        exact ⟨_, .skip (cut_out h (by omega) c1) (by show s + max 0 1 ≤ o; rw [show max (0 : Int) 1 = 1 from rfl]; exact ho) (by show Win ps c (s + max 0 1) o l q; rw [show max (0 : Int) 1 = 1 from rfl]; exact hq)⟩
      · obtain ⟨q, hq⟩ := ih (c := s + w - 1) hxm (fun m e => by cases e; omega) hm hl1
        exact ⟨_, .inn (cut_in h (by omega) c1) (by omega) (by omega) hq⟩
  | @skip b s x w S h h0 hR ih =>
    intro c o l hy hb hm hl
    obtain ⟨q, hq⟩ := ih hy hb hm hl
    have hin := road_in hR _ hm
    have hL := road_lasts hR hy _ hm
    have h2 : s + max w 1 ≤ o := hin.1
    have h3 : o ≤ x := hin.2
    have h4 : x ≤ l := hL.1
    have hn := wp_nn hp h
    refine ⟨_, .skip ?_ h2 hq⟩
    by_cases e : w = 0
    · subst e
      by_cases e2 : b = some c
      · rw [e2] at h; exact h
      · exact cut_zero hp h fun m em => by
          have h5 := hb m em
          have : c ≠ m := fun z => e2 (by rw [em, z])
          omega
    · exact cut_in h (by omega) (by omega)
/-- a window that is told of somebody -/
def WinR (rs : List RowT) (z : StepT) : Prop := ∃ x S, RoadR rs x S ∧ Asks rs x ∧ z ∈ S
theorem WinR.ge {rs : List RowT} {o l : Int} (h : WinR rs (o, l)) : 0 ≤ o ∧ o ≤ l := by
  obtain ⟨x, S, hR, ha, hm⟩ := h
  have h1 := road_in hR _ hm
  have h2 := road_lasts hR (fun m e => ha.bnd m e) _ hm
  have h3 : 0 ≤ o := h1.1
  have h4 : o ≤ x := h1.2
  have h5 : x ≤ l := h2.1
  omega
theorem WinR.win {rs : List RowT} {o l c : Int} (hF : Fine rs) (h : WinR rs (o, l)) (hc : l ≤ c) (hb : ∀ m, bR rs = some m → c ≤ m) : ∃ q, Win (psR rs) c 0 o l q := by
  obtain ⟨x, S, hR, ha, hm⟩ := h
  exact win_of (psR_ok hF) hR (fun m e => ha.bnd m e) hb hm hc
/-- two windows: one opener has one last; one that begins within another ends within it -/
theorem win_two {ps : List PieceT} {bd o l o' l' q q' : Int} (h : Win ps bd 0 o l q) (h' : Win ps bd 0 o' l' q') (hb : l ≤ bd) : (o = o' → l = l') ∧ (o < o' → o' ≤ l → l' ≤ l) := by
  refine ⟨fun e => ?_, fun h1 h2 => ?_⟩
  · subst e
    exact Option.some.inj (las_uniq (win_las h) _ (win_las h'))
  · obtain ⟨j, e, hj⟩ := las_nest (win_las h) l o' (some l') rfl h1 h2 (fun m e => by cases e; have := win_ge h; omega) (win_las h')
    cases e
    exact hj
end CL
set_option Elab.async false
set_option linter.all false
set_option pp.maxSteps 600
set_option maxRecDepth 100000
set_option maxHeartbeats 4000000
namespace CL
open PySem PySem.Spec PyProof.Rows L2 GE
/-! ### the windows around a person, one within the other -/
theorem road_sorted {ps : List PieceT} {b : Option Int} {s x : Int} {S : List StepT} (h : Road ps b s x S) : S.Pairwise (fun a c => a.1 < c.1 ∧ c.2 ≤ a.2) := by
  induction h with
  | spare h => exact .nil
  | own h h0 => exact List.pairwise_singleton ..
  | @inn b s x w S h h0 h1 hR ih =>
    refine List.pairwise_cons.mpr ⟨fun z hz => ?_, ih⟩
    have h2 := road_in hR z hz
    have h3 := (road_lasts hR (fun m e => by cases e; omega) z hz).2 _ rfl
    exact ⟨by show s < z.1; omega, h3⟩
  | skip h h0 _ ih => exact ih
/-- a window ends where its opener's patience does -/
theorem road_pt {ps : List PieceT} {b : Option Int} {s x : Int} {S : List StepT} (h : Road ps b s x S) : ∀ {o l : Int}, (o, l) ∈ S → Pt ps o (.int (l - o)) := by
  induction h with
  | spare h => intro o l hm; cases hm
  | own h h0 =>
    intro o l hm
    cases List.mem_singleton.mp hm
    obtain ⟨p, h1, h2, _⟩ := wp_pos h h0
    rw [show ∀ y : Int, y + _ - 1 - y = p by intro y; omega]
    exact h1
  | inn h h0 h1 _ ih =>
    intro o l hm
    rcases List.mem_cons.mp hm with e | hm
    · cases e
      obtain ⟨p, h2, h3, _⟩ := wp_pos h (by omega)
      rw [show ∀ y : Int, y + _ - 1 - y = p by intro y; omega]
      exact h2
    · exact ih hm
  | skip h h0 _ ih => exact fun hm => ih hm
/-- a window's last is its opener's -/
theorem road_las {ps : List PieceT} {b : Option Int} {s x : Int} {S : List StepT} (h : Road ps b s x S) : ∀ {o l : Int}, (o, l) ∈ S → Las ps b s o (some l) := by
  induction h with
  | spare h => intro o l hm; cases hm
  | own h h0 =>
    intro o l hm
    cases List.mem_singleton.mp hm
    exact .own h h0
  | inn h h0 h1 hR ih =>
    intro o l hm
    rcases List.mem_cons.mp hm with e | hm
    · cases e
      exact .own h (by omega)
    · have h2 := road_in hR _ hm
      have h3 : _ ≤ o := h2.1
      have h4 : o ≤ _ := h2.2
      exact .inn h (by omega) (by omega) (ih hm)
  | skip h h0 hR ih =>
    intro o l hm
    have h2 : _ ≤ o := (road_in hR _ hm).1
    exact .skip h h2 (ih hm)
/-- whom a window holds has these windows around it, too -/
theorem road_share {ps : List PieceT} {b : Option Int} {s x : Int} {S : List StepT} (h : Road ps b s x S) : ∀ {k : Nat} {o l y : Int} {T : List StepT}, S[k]? = some (o, l) → o ≤ y → y ≤ l → Road ps b s y T → T.take (k + 1) = S.take (k + 1) := by
  induction h with
  | spare h => intro k o l y T hk; cases k <;> cases hk
  | @own b x w h h0 =>
    intro k o l y T hk h1 h2 hT
    cases k with
    | succ k => cases k <;> cases hk
    | zero =>
      cases hk
      cases hT with
      | spare h3 => have := wp_uniq h h3; omega
      | own h3 h4 => rw [wp_uniq h h3]
      | inn h3 h4 h5 h6 => rw [wp_uniq h h3]; rfl
      | skip h3 h4 => have := wp_uniq h h3; omega
  | @inn b s x w S h h0 h1 hR ih =>
    intro k o l y T hk h2 h3 hT
    cases k with
    | zero =>
      cases hk
      cases hT with
      | spare h4 => have := wp_uniq h h4; omega
      | own h4 h5 => rw [wp_uniq h h4]; rfl
      | inn h4 h5 h6 h7 => rw [wp_uniq h h4]; rfl
      | skip h4 h5 => have := wp_uniq h h4; omega
    | succ k =>
      have hm : (o, l) ∈ S := List.mem_of_getElem? hk
      have h4 : s + 1 ≤ o := (road_in hR _ hm).1
      have h5 : l ≤ s + w - 1 := (road_lasts hR (fun m e => by cases e; omega) _ hm).2 _ rfl
      cases hT with
      | spare h6 => omega
      | own h6 h7 => omega
      | inn h6 h7 h8 h9 =>
        have e := wp_uniq h h6
        subst e
        rw [List.take_succ_cons, List.take_succ_cons, ih (k := k) hk h2 h3 h9]
      | skip h6 h7 => have := wp_uniq h h6; omega
  | @skip b s x w S h h0 hR ih =>
    intro k o l y T hk h2 h3 hT
    have h4 : s + max w 1 ≤ o := (road_in hR _ (List.mem_of_getElem? hk)).1
    cases hT with
    | spare h6 => omega
    | own h6 h7 => omega
    | inn h6 h7 h8 => have := wp_uniq h h6; omega
    | skip h6 h7 h8 => have e := wp_uniq h h6; subst e; exact ih hk h2 h3 h8
/-- who opens none is left over: its patience goes beyond the innermost window's last -/
theorem road_spare {ps : List PieceT} {b : Option Int} {s x : Int} {S : List StepT} (h : Road ps b s x S) : (∀ l, S.getLast? ≠ some (x, l)) → WP ps (lastB b S) x 0 := by
  induction h with
  | spare h => exact fun _ => h
  | own h h0 => exact fun hn => absurd rfl (hn _)
  | @inn b s x w S h h0 h1 hR ih =>
    intro hn
    rw [lastB_cons]
    refine ih fun l e => hn l ?_
    cases S with
    | nil => cases e
    | cons z S => rw [List.getLast?_cons_cons]; exact e
  | skip h h0 _ ih => exact ih
theorem wp_none {ps : List PieceT} {b : Option Int} {x : Int} (hp : PsOk ps) (h : WP ps b x 0) {t : PyData} (ht : Pt ps x t) : t = .none ∨ ∃ p m, t = .int p ∧ b = some m ∧ m < x + p := by
  obtain ⟨t', h1, h2⟩ := wp_pt h
  obtain rfl := pt_uniq ht h1
  have hk := pt_ok hp ht
  cases t with
  | none => exact .inl rfl
  | int p =>
    have hp0 : (decide (0 ≤ p) && decide (p ≤ GREAT)) = true := hk
    simp only [Bool.and_eq_true, decide_eq_true_eq] at hp0
    refine .inr ⟨p, ?_⟩
    cases b with
    | none =>
      have : (0 : Int) = p + 1 := h2
      omega
    | some m =>
      refine ⟨m, rfl, rfl, ?_⟩
      have h3 : (0 : Int) = if x + p ≤ m then p + 1 else 0 := h2
      split at h3
      · omega
      · omega
  | _ => cases hk
end CL
set_option Elab.async false
set_option linter.all false
set_option pp.maxSteps 600
set_option maxRecDepth 100000
set_option maxHeartbeats 4000000
namespace CL
open PySem PySem.Spec PyProof.Rows L2 GE
/-! ### places and people -/
/-- who_ahead tells the one of the lesser place -/
theorem who_place {rs : List RowT} {mo x y p q : Int} {l : Option Int} (h : Mo rs mo mo) (hx1 : x < mo) (hy1 : y < mo) (hp : At (psR rs) (mo - 1) 0 x p) (hq : At (psR rs) (mo - 1) 0 y q) (hne : x ≠ y) (hl : LasR rs (if y < x then y else x) l) : decide (whoV l (if y < x then y else x) (if y > x then y else x) = x) = decide (p < q) := by
  have hps := psR_ok h.f
  rcases Int.lt_or_gt_of_ne hne with c | c
  · rw [if_neg (by omega)] at hl
    rw [if_neg (by omega), if_pos (show y > x from c), decide_eq_decide]
    obtain ⟨a1, a2⟩ := at_order hps hp c (by omega) hq (las_under h.f hl (by omega) h.bl)
    cases l with
    | none =>
      have : y ≤ lesser none (mo - 1) := by show y ≤ mo - 1; omega
      show y = x ↔ p < q
      omega
    | some k =>
      have e : lesser (some k) (mo - 1) = if mo - 1 < k then mo - 1 else k := rfl
      rw [e] at a1
      show (if k ≥ y then y else x) = x ↔ p < q
      split at a1 <;> split <;> omega
  · rw [if_pos c] at hl
    rw [if_pos c, if_neg (show ¬ y > x by omega), decide_eq_decide]
    obtain ⟨a1, a2⟩ := at_order hps hq c (by omega) hp (las_under h.f hl (by omega) h.bl)
    cases l with
    | none =>
      have : x ≤ lesser none (mo - 1) := by show x ≤ mo - 1; omega
      show x = x ↔ p < q
      omega
    | some k =>
      have e : lesser (some k) (mo - 1) = if mo - 1 < k then mo - 1 else k := rfl
      rw [e] at a1
      show (if k ≥ x then x else y) = x ↔ p < q
      split at a1 <;> split <;> omega
theorem cntR {ps : List PieceT} {b : Option Int} {s x : Int} (h : Rch ps b s x) : ∃ k, Cnt ps b s x k := by
  induction h with
  | here x => exact ⟨0, .here x⟩
  | on h1 _ ih => obtain ⟨k, hk⟩ := ih; exact ⟨_, .on h1 hk⟩
theorem cnt_spare {ps : List PieceT} {b : Option Int} : ∀ (k : Nat) {s e : Int}, (e - s).toNat = k → s ≤ e → (∀ x, s ≤ x → x < e → WP ps b x 0) → Cnt ps b s e (e - s)
  | 0, s, e, hk, hs, h => by
    obtain rfl : s = e := by omega
    rw [Int.sub_self]
    exact .here _
  | k + 1, s, e, hk, hs, h => by
    have h1 := cnt_spare k (s := s + 1) (e := e) (by omega) (by omega) fun x h2 h3 => h x (by omega) h3
    have h2 := h s (Int.le_refl _) (by omega)
    have h3 : Cnt ps b s e ((if (0 : Int) = 0 then 1 else 0) + (e - (s + 1))) := .on h2 (by rw [show max (0 : Int) 1 = 1 from rfl]; exact h1)
    rw [if_pos rfl, show 1 + (e - (s + 1)) = e - s by omega] at h3
    exact h3
/-- the refuser stands ahead of all that aren't safe, behind all others -/
theorem ref_place {rs : List RowT} {mo who p n : Int} (h : Mo rs mo mo) (hr : Ref (psR rs) mo (some who)) (hp : At (psR rs) (mo - 1) 0 who p) (hn : Uns (psR rs) mo n) : p = mo - 1 - n := by
  have hps := psR_ok h.f
  rcases hr with ⟨h0, _⟩ | ⟨who', w, e, h1, h2, h3, h4, h5⟩
  · cases h0
  · cases e
    obtain ⟨k, hk⟩ := cntR h1
    have hsp := cnt_spare (ps := psR rs) (b := some (mo - 1)) _ rfl (show who + w ≤ mo from h4) fun x a b => spr_wp (h5 x a b)
    have hc : Cnt (psR rs) (some (mo - 1)) who mo ((if w = 0 then 1 else 0) + (mo - (who + w))) := .on h2 (by rw [Int.max_eq_left (by omega)]; exact hsp)
    rw [if_neg (by omega)] at hc
    have e1 := cnt_uniq hn (cnt_trans hk hc)
    have e2 := at_uniq hp (at_of hps hk rfl (.own h2 h3))
    omega
/-! ### one by one -/
theorem rch_back {ps : List PieceT} {b : Option Int} {s x : Int} (h : Rch ps b s x) : ∀ {w : Int}, WP ps b x w → Rch ps b s (x + max w 1) := by
  induction h with
  | here x => exact fun hw => .on hw (.here _)
  | on h1 _ ih => exact fun hw => .on h1 (ih hw)
/-- on a level there is a last opener, or all are left over -/
theorem ref_ex {ps : List PieceT} (hp : PsOk ps) {bd : Int} : ∀ (k : Nat) {s : Int}, (bd + 1 - s).toNat = k → s ≤ bd + 1 → (∀ y, s ≤ y → y ≤ bd → ∃ t, Pt ps y t) →
    (∀ x, s ≤ x → x ≤ bd → SpR ps (some bd) s x) ∨ ∃ who w, Rch ps (some bd) s who ∧ WP ps (some bd) who w ∧ 0 < w ∧ who + w ≤ bd + 1 ∧ ∀ x, who + w ≤ x → x ≤ bd → SpR ps (some bd) s x := fun k => by
  induction k using Nat.strongRecOn with
  | ind k ih =>
    intro s hk hs hpt
    rcases Int.lt_or_le bd s with c | c
    · exact .inl fun x h1 h2 => by omega
    · obtain ⟨t, ht⟩ := hpt s (Int.le_refl _) c
      have hw := pt_wp (some bd) ht
      generalize wd (some bd) s t = w at hw
      have w0 := wp_nn hp hw
      by_cases cw : w = 0
      · subst cw
        have hm : max (0 : Int) 1 = 1 := rfl
        rcases ih (bd + 1 - (s + 1)).toNat (by omega) (s := s + 1) rfl (by omega) fun y h1 h2 => hpt y (by omega) h2 with h | ⟨who, w, h1, h2, h3, h4, h5⟩
        · refine .inl fun x h1 h2 => ?_
          by_cases e : x = s
          · subst e; exact .here hw
          · exact .on hw (by rw [hm]; omega) (by rw [hm]; exact h x (by omega) h2)
        · refine .inr ⟨who, w, .on hw (by rw [hm]; exact h1), h2, h3, h4, fun x h6 h7 => ?_⟩
          have := rch_le h1
          exact .on hw (by rw [hm]; omega) (by rw [hm]; exact h5 x h6 h7)
      · obtain ⟨p, _, hp1, hp2⟩ := wp_pos hw (by omega)
        have hb := hp2 _ rfl
        have hm : max w 1 = w := by omega
        rcases ih (bd + 1 - (s + w)).toNat (by omega) (s := s + w) rfl (by omega) fun y h1 h2 => hpt y (by omega) h2 with h | ⟨who, w', h1, h2, h3, h4, h5⟩
        · refine .inr ⟨s, w, .here s, hw, by omega, by omega, fun x h1 h2 => .on hw (by rw [hm]; exact h1) (by rw [hm]; exact h x h1 h2)⟩
        · refine .inr ⟨who, w', .on hw (by rw [hm]; exact h1), h2, h3, h4, fun x h6 h7 => ?_⟩
          have := rch_le h1
          exact .on hw (by rw [hm]; omega) (by rw [hm]; exact h5 x h6 h7)
theorem uns_ex {rs : List RowT} {m other : Int} (h : Mo rs m other) : ∃ n, Uns (psR rs) m n ∧ ∃ o, Ref (psR rs) m o := by
  have hps := psR_ok h.f
  have hlo := h.lo
  have hpt : ∀ y, 0 ≤ y → y ≤ m - 1 → ∃ t, Pt (psR rs) y t := fun y h0 h1 => h.pts (x := y) (by have := h.le; omega) y h0 (Int.le_refl _)
  rcases ref_ex hps (bd := m - 1) _ (s := 0) rfl (by omega) hpt with h1 | ⟨who, w, h1, h2, h3, h4, h5⟩
  · have hc := cnt_spare (ps := psR rs) (b := some (m - 1)) _ rfl (show (0 : Int) ≤ m by omega) fun x a b => spr_wp (h1 x a (by omega))
    exact ⟨_, hc, none, .inl ⟨rfl, fun x a b => h1 x a (by omega)⟩⟩
  · obtain ⟨k, hk⟩ := cntR h1
    have hsp := cnt_spare (ps := psR rs) (b := some (m - 1)) _ rfl (show who + w ≤ m by omega) fun x a b => spr_wp (h5 x a (by omega))
    have hc : Cnt (psR rs) (some (m - 1)) who m ((if w = 0 then 1 else 0) + (m - (who + w))) := .on h2 (by rw [Int.max_eq_left (by omega)]; exact hsp)
    exact ⟨_, cnt_trans hk hc, some who, .inr ⟨who, w, rfl, h1, h2, h3, by omega, fun x a b => h5 x a (by omega)⟩⟩
/-- the patience left of one whose patience is that, past whom so many went -/
def leftO (o : Option Int) (c : Int) : Option Int := o.map (· - c)
/-- who stands where when so many have come one by one, how many went past each, what each has left -/
structure Sim (rs : List RowT) (os : List (Option Int)) (m : Nat) (qs past : List Int) (left : List (Option Int)) : Prop where
  lq : qs.length = m
  lp : past.length = os.length
  ll : left.length = os.length
  at_ : ∀ (p : Nat) x, qs[p]? = some x → 0 ≤ x ∧ x < m ∧ At (psR rs) ((m : Int) - 1) 0 x p
  pa : ∀ (x : Nat) l, x < m → LasR rs (x : Int) l → past[x]? = some (lesser l ((m : Int) - 1) - x)
  le : ∀ (x : Nat) o c, x < m → os[x]? = some o → past[x]? = some c → left[x]? = some (leftO o c)
  pz : ∀ x : Nat, m ≤ x → x < os.length → past[x]? = some 0
  lz : ∀ x : Nat, m ≤ x → left[x]? = os[x]?
/-- the patiences of the first people -/
structure Firsts (rs : List RowT) (os : List (Option Int)) : Prop where
  f : Fine rs
  pt : ∀ (x : Nat) o, os[x]? = some o → Pt (psR rs) (x : Int) (pdO o)
  du : ∀ s, dueO rs = some s → (os.length : Int) ≤ s
  hi : os.length ≤ 1000
theorem Firsts.mo {rs : List RowT} {os : List (Option Int)} (h : Firsts rs os) {m n : Nat} (h1 : 1 ≤ m) (h2 : m ≤ n) (h3 : n ≤ os.length) : Mo rs (m : Int) (n : Int) := ⟨h.f, by omega, by omega, by have := h.hi; omega, fun s e => by have := h.du s e; omega⟩
theorem Firsts.las {rs : List RowT} {os : List (Option Int)} (h : Firsts rs os) {x : Nat} (hx : x < os.length) : ∃ l, LasR rs (x : Int) l := by
  have hm := h.mo (m := x + 1) (n := x + 1) (by omega) (Nat.le_refl _) hx
  exact las_total (psR_ok h.f) _ (b := bR rs) (s := 0) (x := (x : Int)) rfl (by omega) (hm.pts (by omega))
/-- one who stands there at a moment: what is known of it -/
theorem Sim.one {rs : List RowT} {os left : List (Option Int)} {m : Nat} {qs past : List Int} {n : Int} (hf : Firsts rs os) (hs : Sim rs os m qs past left) (hm : m ≤ os.length) (hn : Uns (psR rs) (m : Int) n) {p : Nat} {x : Int} (hx : qs[p]? = some x) : ∃ (k : Nat) (l o : Option Int), x = (k : Int) ∧ k < m ∧ p < m ∧ LasR rs x l ∧ os[k]? = some o ∧ past[k]? = some (lesser l ((m : Int) - 1) - x) ∧ left[k]? = some (leftO o (lesser l ((m : Int) - 1) - x)) ∧ (SpR (psR rs) (some ((m : Int) - 1)) 0 x ↔ (m : Int) - n ≤ p) ∧ Las (psR rs) (some ((m : Int) - 1)) 0 x (some (lesser l ((m : Int) - 1))) := by
  obtain ⟨x0, x1, ha⟩ := hs.at_ p x hx
  have hp : p < m := by rw [← hs.lq]; exact (List.getElem?_eq_some_iff.mp hx).1
  obtain ⟨k, rfl⟩ : ∃ k : Nat, x = (k : Int) := ⟨x.toNat, (Int.toNat_of_nonneg x0).symm⟩
  have hk : k < m := by omega
  obtain ⟨l, hl⟩ := hf.las (x := k) (by omega)
  have ho : os[k]? = some os[k] := List.getElem?_eq_getElem (by omega)
  have hp1 := hs.pa k l hk hl
  have hmo := hf.mo (m := m) (n := m) (by omega) (Nat.le_refl _) hm
  have hn' : Cnt (psR rs) (some ((m : Int) - 1)) 0 ((m : Int) - 1 + 1) n := by rw [show (m : Int) - 1 + 1 = m by omega]; exact hn
  have hc := at_calm (psR_ok hf.f) ha (by omega) hn'
  exact ⟨k, l, _, rfl, hk, hp, hl, ho, hp1, hs.le k _ _ hk ho hp1, by rw [hc]; constructor <;> intro h <;> omega, las_under hf.f hl (by omega) hmo.bl⟩
/-- who isn't safe lets somebody past still -/
theorem Sim.lets {rs : List RowT} {os left : List (Option Int)} {m : Nat} {qs past : List Int} {n : Int} (hf : Firsts rs os) (hs : Sim rs os m qs past left) (hm : m ≤ os.length) (hn : Uns (psR rs) (m : Int) n) {p : Nat} {x : Int} (hx : qs[p]? = some x) (hp : (m : Int) - n ≤ p) : ∃ k o, x = ((k : Nat) : Int) ∧ left[k]? = some o ∧ o ≠ some 0 := by
  obtain ⟨k, l, o, rfl, hk, hpm, hl, ho, hpa, hle, hsp, hu⟩ := hs.one hf hm hn hx
  refine ⟨k, _, rfl, hle, fun e => ?_⟩
  have hps := psR_ok hf.f
  have h1 := hsp.mpr hp
  have hpt := hf.pt k o ho
  rcases wp_none hps (spr_wp h1) hpt with h | ⟨q, mm, h, em, hlt⟩
  · cases o with
    | none => cases e
    | some q => cases h
  · cases o with
    | none => cases h
    | some q' =>
      have e2 : q' = q := by cases h; rfl
      subst e2
      cases em
      have e3 : q' - (lesser l ((m : Int) - 1) - k) = 0 := Option.some.inj e
      have h4 : lesser l ((m : Int) - 1) ≤ (m : Int) - 1 := by
        cases l with
        | none => exact Int.le_refl _
        | some z => show (if (m : Int) - 1 < z then (m : Int) - 1 else z) ≤ _; split <;> omega
      omega
/-- the one farthest back of those that are safe lets nobody past -/
theorem Sim.keeps {rs : List RowT} {os left : List (Option Int)} {m : Nat} {qs past : List Int} {n : Int} (hf : Firsts rs os) (hs : Sim rs os m qs past left) (hm : m ≤ os.length) (hn : Uns (psR rs) (m : Int) n) {p : Nat} {x : Int} (hx : qs[p]? = some x) (hp : (p : Int) = (m : Int) - n - 1) : (∃ k, x = ((k : Nat) : Int) ∧ left[k]? = some (some 0)) ∧ Ref (psR rs) (m : Int) (some x) := by
  obtain ⟨k, l, o, rfl, hk, hpm, hl, ho, hpa, hle, hsp, hu⟩ := hs.one hf hm hn hx
  have hps := psR_ok hf.f
  have hmo := hf.mo (m := m) (n := m) (by omega) (Nat.le_refl _) hm
  obtain ⟨n2, hn2, ro, hro⟩ := uns_ex hmo
  obtain rfl := cnt_uniq hn hn2
  obtain ⟨_, _, ha⟩ := hs.at_ p _ hx
  cases ro with
  | none =>
    rcases hro with ⟨_, h⟩ | ⟨_, _, e, _⟩
    · have := hsp.mp (h _ (by omega) (by omega))
      omega
    · cases e
  | some who =>
    have hro' := hro
    rcases hro with ⟨e, _⟩ | ⟨who', w, e, h1, h2, h3, h4, h5⟩
    · cases e
    · cases e
      have hwho := rch_le h1
      obtain ⟨pw, hpw⟩ := at_total hps _ (bd := (m : Int) - 1) (s := 0) (x := who) rfl hwho (hmo.pts (by omega))
      have e1 := ref_place hmo hro' hpw hn
      obtain rfl := at_one hps ha (by omega) (by omega) (by omega) hpw
      refine ⟨⟨k, rfl, ?_⟩, hro'⟩
      obtain ⟨q, hq1, hq2, _⟩ := wp_pos h2 h3
      have e2 := Option.some.inj (las_uniq hu _ (las_of h1 (.own h2 h3)))
      have hpt := pt_uniq (hf.pt k o ho) hq1
      cases o with
      | none => cases hpt
      | some q' =>
        have e3 : q' = q := PyData.int.inj hpt
        rw [hle, e3]
        show some (some (q - (lesser l ((m : Int) - 1) - k))) = some (some 0)
        congr 2
        omega
theorem Sim.none {rs : List RowT} {os left : List (Option Int)} {m : Nat} {qs past : List Int} {n : Int} (hf : Firsts rs os) (hm : m ≤ os.length) (hn : Uns (psR rs) (m : Int) n) (h : (m : Int) = n) : Ref (psR rs) (m : Int) none := by
  have hps := psR_ok hf.f
  refine .inl ⟨rfl, fun x x0 x1 => ?_⟩
  have hmo := hf.mo (m := m) (n := m) (by omega) (Nat.le_refl _) hm
  obtain ⟨p, hp⟩ := at_total hps _ (bd := (m : Int) - 1) (s := 0) (x := x) rfl x0 (hmo.pts (by omega))
  have hn' : Cnt (psR rs) (some ((m : Int) - 1)) 0 ((m : Int) - 1 + 1) n := by rw [show (m : Int) - 1 + 1 = m by omega]; exact hn
  have := at_in hps hp (by omega)
  exact (at_calm hps hp (by omega) hn').mpr (by omega)
/-! ### one more comes -/
/-- all of the last places have let one more past -/
structure Mid (m : Nat) (qs past : List Int) (left : List (Option Int)) (spot : Nat) (past' : List Int) (left' : List (Option Int)) : Prop where
  lp : past'.length = past.length
  ll : left'.length = left.length
  pa : ∀ (x : Nat) c, past[x]? = some c → past'[x]? = some (c + if (x : Int) ∈ qs.drop spot then 1 else 0)
  le : ∀ (x : Nat) o, left[x]? = some o → left'[x]? = some (if (x : Int) ∈ qs.drop spot then o.map (· - 1) else o)
theorem Mid.zero {m : Nat} {qs past : List Int} {left : List (Option Int)} (h : qs.length = m) : Mid m qs past left m past left := by
  have e : qs.drop m = [] := List.drop_of_length_le (by omega)
  refine ⟨rfl, rfl, fun x c hc => ?_, fun x o ho => ?_⟩
  · rw [e, if_neg (by simp), Int.add_zero]; exact hc
  · rw [e, if_neg (by simp)]; exact ho
theorem Sim.next {rs : List RowT} {os left left' : List (Option Int)} {m spot : Nat} {qs past past' : List Int} {n : Int} (hf : Firsts rs os) (hs : Sim rs os m qs past left) (hm : m < os.length) (hn : Uns (psR rs) (m : Int) n) (hsp : (spot : Int) = (m : Int) - n) (hmid : Mid m qs past left spot past' left') : Sim rs os (m + 1) (qs.take spot ++ [(m : Int)] ++ qs.drop spot) past' left' := by
  have hps := psR_ok hf.f
  have n0 := cnt_nn hn
  have hlq := hs.lq
  have hmo1 := hf.mo (m := m + 1) (n := m + 1) (by omega) (Nat.le_refl _) hm
  have e1 : ((m + 1 : Nat) : Int) - 1 = m := by omega
  have key : ∀ (p : Nat) x, qs[p]? = some x → ∃ (k : Nat) (l o : Option Int), x = (k : Int) ∧ k < m ∧ p < m ∧ LasR rs x l ∧ os[k]? = some o ∧ past[k]? = some (lesser l ((m : Int) - 1) - x) ∧ left[k]? = some (leftO o (lesser l ((m : Int) - 1) - x)) ∧ At (psR rs) (m : Int) 0 x (p + if spot ≤ p then 1 else 0) ∧ lesser l (m : Int) = lesser l ((m : Int) - 1) + if spot ≤ p then 1 else 0 := fun p x hx => by
    obtain ⟨k, l, o, rfl, hk, hpm, hl, ho, hpa, hle, hcalm, hu⟩ := hs.one hf (by omega) hn hx
    have hmo := hf.mo (m := m) (n := m + 1) (by omega) (by omega) hm
    obtain ⟨_, _, ha⟩ := hs.at_ p _ hx
    obtain ⟨p', hp'⟩ := at_total hps _ (bd := ((m + 1 : Nat) : Int) - 1) (s := 0) (x := (k : Int)) rfl (by omega) (hmo.pts (by omega))
    have man : Man rs (m : Int) ((m + 1 : Nat) : Int) (k : Int) p p' := ⟨by omega, by omega, ha, hp'⟩
    have hmore := man.more hmo hl
    have hle2 : lesser l (m : Int) = lesser l ((m : Int) - 1) + if spot ≤ p then 1 else 0 := by
      by_cases c : spot ≤ p
      · rw [if_pos c]
        have h1 := hcalm.mpr (by omega)
        rcases las_cut hps hl (show (k : Int) ≤ (m : Int) - 1 by omega) (fun b e => by have := hmo.bl b e; omega) with ⟨_, h2⟩ | ⟨h2, _⟩
        · cases l with
          | none => show (m : Int) = (m : Int) - 1 + 1; omega
          | some z =>
            have := h2 z rfl
            show (if (m : Int) < z then (m : Int) else z) = (if (m : Int) - 1 < z then (m : Int) - 1 else z) + 1
            split <;> (try split) <;> omega
        · exact absurd h1 h2
      · rw [if_neg c, Int.add_zero]
        have h3 := man.calm hmo hl hn (by omega)
        rw [e1] at h3
        exact h3
    rw [e1] at hp' hmore
    refine ⟨k, l, o, rfl, hk, hpm, hl, ho, hpa, hle, ?_, hle2⟩
    rw [show (p : Int) + (if spot ≤ p then 1 else 0) = p' by omega]
    exact hp'
  obtain ⟨pm, hpm⟩ := at_total hps _ (bd := ((m + 1 : Nat) : Int) - 1) (s := 0) (x := (m : Int)) rfl (by omega) (hmo1.pts (by omega))
  rw [e1] at hpm
  have hnew := at_newest hps hpm rfl hn
  have hin : ∀ k : Nat, (k : Int) ∈ qs → ∃ p, qs[p]? = some (k : Int) ∧ ((k : Int) ∈ qs.drop spot ↔ spot ≤ p) := fun k hk => by
    obtain ⟨p, hp⟩ := List.getElem?_of_mem hk
    refine ⟨p, hp, fun h => ?_, fun h => ?_⟩
    · obtain ⟨j, hj⟩ := List.getElem?_of_mem h
      rw [List.getElem?_drop] at hj
      obtain ⟨_, _, a1⟩ := hs.at_ p _ hp
      obtain ⟨_, _, a2⟩ := hs.at_ _ _ hj
      have := at_uniq a1 a2
      omega
    · exact List.mem_of_getElem? (i := p - spot) (by rw [List.getElem?_drop, show spot + (p - spot) = p by omega]; exact hp)
  have hall : ∀ k : Nat, k < m → (k : Int) ∈ qs := fun k hk => by
    have hmo := hf.mo (m := m) (n := m) (by omega) (Nat.le_refl _) (by omega)
    obtain ⟨p, hp⟩ := at_total hps _ (bd := (m : Int) - 1) (s := 0) (x := (k : Int)) rfl (by omega) (hmo.pts (by omega))
    obtain ⟨p0, p1⟩ := at_in hps hp (by omega)
    have hpl : p.toNat < qs.length := by omega
    obtain ⟨_, _, ha⟩ := hs.at_ p.toNat _ (List.getElem?_eq_getElem hpl)
    have e := at_one hps hp (by omega) (by have := (hs.at_ p.toNat _ (List.getElem?_eq_getElem hpl)).2.1; omega) (by omega) ha
    rw [e]
    exact List.getElem_mem hpl
  have hnot : (m : Int) ∉ qs.drop spot := fun h => by
    obtain ⟨p, hp⟩ := List.getElem?_of_mem (List.mem_of_mem_drop h)
    have := (hs.at_ p _ hp).2.1
    omega
  have ltake : (qs.take spot).length = spot := by rw [List.length_take]; omega
  refine ⟨by rw [List.length_append, List.length_append, ltake, List.length_drop, List.length_singleton]; omega, by rw [hmid.lp, hs.lp], by rw [hmid.ll, hs.ll], fun p x hx => ?_, fun x l hx hl => ?_, fun x o c hx ho hc => ?_, fun x hx hx2 => ?_, fun x hx => ?_⟩
  · rw [e1]
    rcases Nat.lt_trichotomy p spot with c | c | c
    · rw [List.append_assoc, List.getElem?_append_left (by omega), List.getElem?_take, if_pos c] at hx
      obtain ⟨k, l, o, rfl, hk, _, _, _, _, _, ha, _⟩ := key p x hx
      rw [if_neg (by omega), Int.add_zero] at ha
      exact ⟨by omega, by omega, ha⟩
    · subst c
      rw [List.append_assoc, List.getElem?_append_right (by omega), ltake, Nat.sub_self] at hx
      cases hx
      exact ⟨by omega, by omega, by rw [hsp]; rw [show (m : Int) - n = pm by omega]; exact hpm⟩
    · rw [List.append_assoc, List.getElem?_append_right (by omega), ltake] at hx
      obtain ⟨j, hj⟩ : ∃ j, p - spot = j + 1 := ⟨p - spot - 1, by omega⟩
      rw [hj] at hx
      have hx' : (qs.drop spot)[j]? = some x := hx
      rw [List.getElem?_drop] at hx'
      obtain ⟨k, l, o, rfl, hk, _, _, _, _, _, ha, _⟩ := key (spot + j) x hx'
      rw [if_pos (by omega), show ((spot + j : Nat) : Int) + 1 = (p : Int) by omega] at ha
      exact ⟨by omega, by omega, ha⟩
  · rw [e1]
    by_cases c : x = m
    · subst c
      have h1 := hmid.pa x 0 (hs.pz x (Nat.le_refl _) hm)
      rw [if_neg hnot] at h1
      rw [h1]
      congr 1
      have h2 := (las_le hl fun b e => by have := hmo1.bl b e; omega).1
      cases l with
      | none => show (0 : Int) + 0 = (x : Int) - x; omega
      | some z =>
        have := (h2 z rfl).1
        show (0 : Int) + 0 = (if (x : Int) < z then (x : Int) else z) - x
        split <;> omega
    · obtain ⟨p, hp, hiff⟩ := hin x (hall x (by omega))
      obtain ⟨k, l', o, ek, hk, _, hl', _, hpa, _, _, hle2⟩ := key p _ hp
      obtain rfl : x = k := by omega
      obtain rfl := las_uniq hl _ hl'
      rw [hmid.pa x _ hpa, hle2]
      congr 1
      by_cases c2 : spot ≤ p
      · rw [if_pos (hiff.mpr c2), if_pos c2]; omega
      · rw [if_neg (fun h => c2 (hiff.mp h)), if_neg c2]; omega
  · by_cases c2 : x = m
    · subst c2
      have h1 := hmid.pa x 0 (hs.pz x (Nat.le_refl _) hm)
      rw [if_neg hnot, hc] at h1
      have h2 := hmid.le x o (by rw [hs.lz x (Nat.le_refl _)]; exact ho)
      rw [if_neg hnot] at h2
      rw [h2]
      have e : c = 0 := by have := Option.some.inj h1; omega
      subst e
      congr 1
      cases o with
      | none => rfl
      | some q => show some q = some (q - 0); rw [Int.sub_zero]
    · obtain ⟨p, hp, hiff⟩ := hin x (hall x (by omega))
      obtain ⟨k, l', o', ek, hk, _, hl', ho', hpa, hle', _, hle2⟩ := key p _ hp
      obtain rfl : x = k := by omega
      rw [ho] at ho'
      cases ho'
      have h1 := hmid.pa x _ hpa
      rw [hc] at h1
      have h2 := hmid.le x _ hle'
      rw [h2]
      have e := Option.some.inj h1
      by_cases c3 : spot ≤ p
      · rw [if_pos (hiff.mpr c3)] at e ⊢
        subst e
        cases o with
        | none => rfl
        | some q => show some (some (q - _ - 1)) = some (some (q - (_ + 1))); congr 2; omega
      · rw [if_neg (fun h => c3 (hiff.mp h))] at e ⊢
        rw [Int.add_zero] at e
        rw [e]
  · have h1 := hmid.pa x 0 (hs.pz x (by omega) hx2)
    have hno : (x : Int) ∉ qs.drop spot := fun h => by
      obtain ⟨p, hp⟩ := List.getElem?_of_mem (List.mem_of_mem_drop h)
      have := (hs.at_ p _ hp).2.1
      omega
    rw [if_neg hno] at h1
    exact h1
  · have hno : (x : Int) ∉ qs.drop spot := fun h => by
      obtain ⟨p, hp⟩ := List.getElem?_of_mem (List.mem_of_mem_drop h)
      have := (hs.at_ p _ hp).2.1
      omega
    cases ho : os[x]? with
    | none =>
      have h1 : os.length ≤ x := by
        rcases Nat.lt_or_ge x os.length with c | c
        · rw [List.getElem?_eq_getElem c] at ho; cases ho
        · exact c
      exact List.getElem?_eq_none (by rw [hmid.ll, hs.ll]; exact h1)
    | some o =>
      have h2 := hmid.le x o (by rw [hs.lz x (by omega)]; exact ho)
      rw [if_neg hno] at h2
      exact h2
end CL
set_option Elab.async false
set_option linter.all false
set_option maxRecDepth 100000
set_option maxHeartbeats 4000000
namespace CL.BG
open PySem PySem.Spec PyProof.Rows L2 GE CL
abbrev sBag : Stmt := topS 56
abbrev sStir : Stmt := topS 57
abbrev sDraw : Stmt := topS 58
theorem scBag : FnScope ["script", "total", "cell"] ["script"] (defScope sBag) := ⟨rfl, rfl, rfl, by decide +kernel, rfl, by decide +kernel, by decide +kernel⟩
theorem scStir : FnScope ["number", "place", "one", "two"] ["number", "place"] (defScope sStir) := ⟨rfl, rfl, rfl, by decide +kernel, rfl, by decide +kernel, by decide +kernel⟩
theorem scDraw : FnScope ["bag", "many", "cell", "found"] ["bag", "many"] (defScope sDraw) := ⟨rfl, rfl, rfl, by decide +kernel, rfl, by decide +kernel, by decide +kernel⟩
abbrev MSP : Int := 2305843009213693951
theorem t64 : (2 : Int) ^ 64 = 18446744073709551616 := by decide +kernel
abbrev M60 : Nat := 1000000000000000000
/-- a bag's place, and its cells' -/
structure Bg where
  a : Addr
  c : Addr
/-- the bag: the cells, which is next, what is left of one, how many draws (n at most), a number mixed -/
structure BagAt (n : Nat) (H : Hp) (r : Bg) : Prop where
  ex : ∃ (ns : List Int) (i : Nat) (b k t : Int), H r.a = some (.lst [.ref r.c, .int i, .int b, .int k, .int t]) ∧ H r.c = some (.lst (ns.map V.int)) ∧ i ≤ ns.length ∧ 0 ≤ b ∧ 0 ≤ k ∧ k ≤ n ∧ 0 ≤ t ∧ t < MSP
/-- all but the bag stays -/
structure Mv (r : Bg) (H H' : Hp) : Prop where
  keep : ∀ b o, b ≠ r.a → H b = some o → H' b = some o
theorem Mv.refl (r : Bg) (H : Hp) : Mv r H H := ⟨fun _ _ _ h => h⟩
theorem Mv.of {r : Bg} {H H' : Hp} (s : Same H H') : Mv r H H' := ⟨fun b o _ h => s b o h⟩
theorem Mv.trans {r : Bg} {H H1 H2 : Hp} (a : Mv r H H1) (b : Mv r H1 H2) : Mv r H H2 := ⟨fun c o n h => b.keep c o n (a.keep c o n h)⟩
theorem Mv.upd {r : Bg} {p : Addr} {H H' : Hp} {o : HO} (m : Mv r H H') (hn : H p = none) : Mv r H (upd H' p o) := ⟨fun b x nb e => by
  rw [upd_ne (ne_of_none e hn)]
  exact m.keep b x nb e⟩
theorem BagAt.mono {n m : Nat} {H : Hp} {r : Bg} (h : BagAt n H r) (l : n ≤ m) : BagAt m H r := by
  obtain ⟨ns, i, b, k, t, er, ec, hi, hb, hk, hn, ht⟩ := h
  exact ⟨ns, i, b, k, t, er, ec, hi, hb, hk, by omega, ht⟩
theorem BagAt.same {n : Nat} {r : Bg} {H H' : Hp} (s : Same H H') (hr : BagAt n H r) : BagAt n H' r := by
  obtain ⟨ns, i, b, k, t, er, ec, h⟩ := hr
  exact ⟨ns, i, b, k, t, s _ _ er, s _ _ ec, h⟩
theorem BagAt.some {n : Nat} {r : Bg} {H : Hp} (hr : BagAt n H r) : H r.a ≠ none := by
  obtain ⟨ns, i, b, k, t, er, h⟩ := hr
  rw [er]
  exact nofun
theorem BagAt.someC {n : Nat} {r : Bg} {H : Hp} (hr : BagAt n H r) : H r.c ≠ none := by
  obtain ⟨ns, i, b, k, t, er, ec, h⟩ := hr
  rw [ec]
  exact nofun
/-- a place that is neither -/
structure Off (r : Bg) (p : Addr) : Prop where
  a : p ≠ r.a
  c : p ≠ r.c
theorem BagAt.new {n : Nat} {r : Bg} {p : Addr} {H : Hp} (hr : BagAt n H r) (np : H p = none) : Off r p := ⟨fun z => hr.some (by rw [← z]; exact np), fun z => hr.someC (by rw [← z]; exact np)⟩
theorem BagAt.store {n : Nat} {r : Bg} {p : Addr} {H : Hp} {o : HO} (hr : BagAt n H r) (f : Off r p) : BagAt n (upd H p o) r := by
  obtain ⟨ns, i, b, k, t, er, ec, h⟩ := hr
  exact ⟨ns, i, b, k, t, by rw [upd_ne (Ne.symm f.a)]; exact er, by rw [upd_ne (Ne.symm f.c)]; exact ec, h⟩
theorem BagAt.kx {n : Nat} {r : Bg} {H H' : Hp} (h : BagAt n H r) (e : Ex H H') : BagAt n H' r := by
  obtain ⟨ns, i, b, k, t, er, ec, h⟩ := h
  exact ⟨ns, i, b, k, t, e.lst er, e.lst ec, h⟩
theorem bag_ne {c r : Addr} {H : Hp} {ns : List Int} {vs : List V} (er : H r = some (.lst (.ref c :: vs))) (ec : H c = some (.lst (ns.map V.int))) : c ≠ r := fun z => by
  rw [z, er] at ec
  cases ns with
  | nil => simp at ec
  | cons x ns => simp at ec
theorem mem_keep {r : Bg} {b : Addr} {H H' : Hp} (m : Mv r H H') (n : b ≠ r.a) (h : H b ≠ none) : H' b ≠ none := fun z => by
  cases q : H b with
  | none => exact h q
  | some o =>
    rw [m.keep b o n q] at z
    cases z
def spStir : Sp := fun vs H Q _ => ∃ a b : Int, vs = [.int a, .int b] ∧ 0 ≤ a ∧ a < MSP ∧ 0 ≤ b ∧ b ≤ (M60 : Int) ∧ ∀ x, Q (.int x) H
def spDraw (r : Bg) : Sp := fun vs H Q _ => ∃ (m : Int) (n : Nat), vs = [.ref r.a, .int m] ∧ BagAt n H r ∧ n < M60 ∧ 1 ≤ m ∧ m < 2 ^ 140 ∧ ∀ x H', BagAt (n + 1) H' r → Mv r H H' → 0 ≤ x → x < m → Q (.int x) H'
def spBag (K : PySem.W.Frag) : Sp := fun vs H Q _ => ∃ (a : Addr) (ns : List Int), vs = [.ref a] ∧ SqL K H a (ns.map V.int) ∧ ∀ (r : Bg) H', Same H H' → H r.a = none → BagAt 0 H' r → Q (.ref r.a) H'
section
variable {P : Program} {w : World} {K : PySem.W.Frag} {mg : Str → Option Value} {base : Heap}
theorem ok_stir {f : Addr} {fd : FuncData} (F : Fun K "_law_stir" "_law_stir" sStir f fd) : FnOk P w K mg base CX0 1 f fd ["number", "place"] spStir := by
  refine F.ok scStir (fun vs H Q E ⟨a, b, e, _⟩ => by rw [e]; rfl) (fun cdv A outer s H vs Q E hr h => ?_)
  obtain ⟨a, b, rfl, a0, a1, b0, b1, q⟩ := h
  have nd := scStir.nd
  refine ⟨_, pss_cons (ps_set (i := 2) nd rfl (.inl rfl) (pe_op op_mod (pe_op op_add (pe_op op_add (pe_op op_mul (pv 0) pe_int) (pe_op op_mul (pv 1) pe_int)) pe_int) pe_int))
    (pss_cons (ps_set (i := 3) nd rfl (.inl rfl) (pe_op op_mod (pe_op op_mul (pv 2) (pv 2)) pe_int))
    (pss_one (ps_ret (pe_op op_fdiv (pe_op op_mod (pe_op op_add (pe_op op_add (pe_op op_mul (pv 3) pe_int) (pe_op op_mul (pe_op op_mul (pv 1) (pv 1)) pe_int)) (pe_op op_fdiv (pv 2) pe_int)) pe_int) pe_int)))), ?_⟩
  have a1' : a < 2305843009213693951 := a1
  have b1' : b ≤ 1000000000000000000 := b1
  refine ⟨.int a, rfl, a, 998244353, rfl, rfl, .inr ⟨by decide, by decide⟩, .int b, rfl, b, 1000000007, rfl, rfl, .inr ⟨by decide, by decide⟩, _, _, rfl, rfl, _, 5, rfl, rfl, _, _, rfl, rfl, (by show (0 : Int) < 2305843009213693951; decide), ?_⟩
  show tSeq _ _ _ [some (.int a), some (.int b), some (.int ((a * 998244353 + b * 1000000007 + 5) % 2305843009213693951)), none] H
  generalize hz : (a * 998244353 + b * 1000000007 + 5) % 2305843009213693951 = z
  have z0 : 0 ≤ z := by rw [← hz]; exact Int.emod_nonneg _ (by decide)
  have z1 : z < 2305843009213693951 := by rw [← hz]; exact Int.emod_lt_of_pos _ (by decide)
  refine ⟨.int z, rfl, .int z, rfl, z, z, rfl, rfl, .inl ⟨by rw [t64]; omega, by rw [t64]; omega⟩, _, _, rfl, rfl, (by show (0 : Int) < 2305843009213693951; decide), ?_⟩
  refine ⟨.int (z * z % 2305843009213693951), rfl, z * z % 2305843009213693951, 2860486313, rfl, rfl, .inr ⟨by decide, by decide⟩, .int b, rfl, .int b, rfl, b, b, rfl, rfl, .inl ⟨by rw [t64]; omega, by rw [t64]; omega⟩, _, 48271, rfl, rfl, .inr ⟨by decide, by decide⟩, _, _, rfl, rfl, .int z, rfl, z, 3, rfl, rfl, ⟨by decide, by decide⟩, _, _, rfl, rfl, _, _, rfl, rfl, (by show (0 : Int) < 2305843009213693921; decide), _, _, rfl, rfl, ⟨by decide, by decide⟩, ?_⟩
  exact q _
theorem ok_draw {f : Addr} {r : Bg} {fd : FuncData} (F : Fun K "_law_draw" "_law_draw" sDraw f fd) (hlen : mg "len" = none) (CS : Cal P w K mg base 1 "_law_stir" ["number", "place"] spStir) : FnOk P w K mg base CX0 2 f fd ["bag", "many"] (spDraw r) := by
  refine F.ok scDraw (fun vs H Q E ⟨m, n, e, _⟩ => by rw [e]; rfl) (fun cdv A outer s H vs Q E hr h => ?_)
  obtain ⟨m, n, rfl, ⟨ns, i, b, k, t, er, ec, hi, hb, hk, hn, ht0, ht1⟩, hn1, m1, m2, q⟩ := h
  have nd := scDraw.nd
  refine ⟨_, pss_cons (ps_if (pt_cmpR op_eq (pv 1) pe_int (nomark _)) (pss_one (ps_ret pe_int)) pss_nil)
    (pss_cons (ps_asg (pe_op op_add (pe_ix ix_list (pv 0) pe_int (fun _ _ => rfl)) pe_int) (pg_sub (pv 0) pe_int set_list))
    (pss_cons (ps_if (PW.pt (pw_and (pt_cmpR op_lt (pe_ix ix_list (pv 0) pe_int (fun _ _ => rfl)) pe_int (nomark _)) (pw_and1 (pt_cmpR op_eq (pe_ix ix_list (pv 0) pe_int (fun _ _ => rfl)) (pe_callB call_len_seq (by rfl) hlen PySem.boot_len (pa_cons (pe_ix ix_list (pv 0) pe_int (fun _ _ => rfl)) pa_nil)) (nomark _)))))
      (pss_one (ps_ret (pe_op op_mod (pe_cal CS hr (by rfl) (pa_cons (pe_ix ix_list (pv 0) pe_int (fun _ _ => rfl)) (pa_cons (pe_ix ix_list (pv 0) pe_int (fun _ _ => rfl)) pa_nil))) (pv 1)))) pss_nil)
    (pss_cons (ps_if (pt_cmpR op_lt (pe_ix ix_list (pv 0) pe_int (fun _ _ => rfl)) pe_int (nomark _))
      (pss_cons (ps_set (i := 2) nd rfl (.inl rfl) (pe_ix ix_list (pe_ix ix_list (pv 0) pe_int (fun _ _ => rfl)) (pe_ix ix_list (pv 0) pe_int (fun _ _ => rfl)) (fun _ _ => rfl)))
      (pss_cons (ps_asg (pe_op op_add (pe_ix ix_list (pv 0) pe_int (fun _ _ => rfl)) pe_int) (pg_sub (pv 0) pe_int set_list))
      (pss_cons (ps_if (pt_cmpR op_lt (pv 2) (pe_op op_pow pe_int pe_int) (nomark _)) (pss_one (ps_ret (pe_op op_mod (pe_cal CS hr (by rfl) (pa_cons (pe_op op_mod (pv 2) pe_int) (pa_cons (pe_ix ix_list (pv 0) pe_int (fun _ _ => rfl)) pa_nil))) (pv 1)))) pss_nil)
      (pss_one (ps_asg (pe_op op_sub (pv 2) (pe_op op_pow pe_int pe_int)) (pg_sub (pv 0) pe_int set_list)))))) pss_nil)
    (pss_cons (ps_set (i := 3) nd rfl (.inl rfl) (pe_op op_mod (pe_ix ix_list (pv 0) pe_int (fun _ _ => rfl)) (pv 1)))
    (pss_cons (ps_asg (pe_op op_fdivW (pe_ix ix_list (pv 0) pe_int (fun _ _ => rfl)) (pv 1)) (pg_sub (pv 0) pe_int set_list))
    (pss_one (ps_ret (pv 3)))))))), ?_⟩
  have hcr := bag_ne er ec
  have mdiv : ∀ f : Int, CDivW f m := fun f => wide_div (b := 140) (by omega) (by omega) (by decide) (by decide)
  have mp : (0 : Int) < m := by omega
  refine ⟨.int m, rfl, rfl, _, rfl, ite2 (fun e => ?_) (fun _ => ?_)⟩
  · exact q 0 H (BagAt.mono (n := n) ⟨ns, i, b, k, t, er, ec, hi, hb, hk, hn, ht0, ht1⟩ (Nat.le_succ n)) (Mv.refl r H) (Int.le_refl 0) mp
  -- the counter
  refine ⟨.ref r.a, rfl, r.a, _, 3, .int k, rfl, rfl, SqL.of er, atI_nat (j := 3) rfl, k, 1, rfl, rfl, .ref r.a, rfl, r.a, _, 3, 3, rfl, rfl, er, rfl, ?_⟩
  show tSeq _ _ _ _ (upd H r.a (.lst [.ref r.c, .int i, .int b, .int (k + 1), .int t]))
  have m1' : Mv r H (upd H r.a (.lst [.ref r.c, .int i, .int b, .int (k + 1), .int t])) := ⟨fun b o nb e => by rw [upd_ne nb]; exact e⟩
  have er1 : (upd H r.a (.lst [.ref r.c, .int i, .int b, .int (k + 1), .int t])) r.a = some (.lst [.ref r.c, .int i, .int b, .int (k + 1), .int t]) := upd_same
  generalize upd H r.a (.lst [.ref r.c, .int i, .int b, .int (k + 1), .int t]) = H1 at m1' er1
  have ec1 := m1'.keep r.c _ hcr ec
  have fin1 : ∀ x : Int, Q (.int (x % m)) H1 := fun x => q _ H1 ⟨ns, i, b, k + 1, t, er1, ec1, hi, hb, by omega, by omega, ht0, ht1⟩ m1' (Int.emod_nonneg _ (by omega)) (Int.emod_lt_of_pos _ mp)
  have last : ∀ (H2 : Hp) (i2 : Nat) (b2 : Int) (y : Option V), Mv r H H2 → H2 r.a = some (.lst [.ref r.c, .int i2, .int b2, .int (k + 1), .int t]) → i2 ≤ ns.length → 0 ≤ b2 → ∀ x : Int, x = b2 % m → Q (.int x) (upd H2 r.a (.lst [.ref r.c, .int i2, .int (b2 / m), .int (k + 1), .int t])) := fun H2 i2 b2 y mv e2 hi2 hb2 x hx => by
    rw [hx]
    exact q _ _ ⟨ns, i2, b2 / m, k + 1, t, upd_same, by rw [upd_ne hcr]; exact mv.keep r.c _ hcr ec, hi2, Int.ediv_nonneg hb2 (by omega), by omega, by omega, ht0, ht1⟩ ⟨fun b o nb e => by rw [upd_ne nb]; exact mv.keep b o nb e⟩ (Int.emod_nonneg _ (by omega)) (Int.emod_lt_of_pos _ mp)
  refine ⟨.ref r.a, rfl, r.a, _, 2, .int b, rfl, rfl, SqL.of er1, atI_nat (j := 2) rfl, b, 2, rfl, rfl, decide (b < 2), rfl, ?_⟩
  by_cases hb2 : b < 2
  · rw [decide_eq_true hb2]
    refine iteT ⟨.ref r.a, rfl, r.a, _, 1, .int i, rfl, rfl, SqL.of er1, atI_nat (j := 1) rfl, .ref r.a, rfl, r.a, _, 0, .ref r.c, rfl, rfl, SqL.of er1, atI_nat (j := 0) rfl, r.c, _, rfl, .inl (SqL.of ec1), rfl, _, rfl, ite2 (fun e => ?_) (fun e => ?_)⟩
    · refine ⟨.ref r.a, rfl, r.a, _, 4, .int t, rfl, rfl, SqL.of er1, atI_nat (j := 4) rfl, .ref r.a, rfl, r.a, _, 3, .int (k + 1), rfl, rfl, SqL.of er1, atI_nat (j := 3) rfl, t, k + 1, rfl, ht0, ht1, by omega, by omega, fun x => ?_⟩
      exact ⟨.int m, rfl, x, m, rfl, rfl, mp, fin1 x⟩
    · have hi2 : i < ns.length := by
        rcases Nat.lt_or_ge i ns.length with z | z
        · exact z
        · refine absurd ?_ e
          have : i = ns.length := by omega
          rw [this, List.length_map]
          exact decide_eq_true rfl
      refine ⟨.ref r.a, rfl, r.a, _, 2, .int b, rfl, rfl, SqL.of er1, atI_nat (j := 2) rfl, b, 2, rfl, rfl, decide (b < 2), rfl, ?_⟩
      rw [decide_eq_true hb2]
      refine iteT ?_
      refine ⟨.ref r.a, rfl, r.a, _, 0, .ref r.c, rfl, rfl, SqL.of er1, atI_nat (j := 0) rfl, .ref r.a, rfl, r.a, _, 1, .int i, rfl, rfl, SqL.of er1, atI_nat (j := 1) rfl, r.c, _, i, .int ns[i], rfl, rfl, SqL.of ec1, atI_nat (j := i) (by rw [List.getElem?_map, List.getElem?_eq_getElem hi2]; rfl), ?_⟩
      refine ⟨.ref r.a, rfl, r.a, _, 1, .int i, rfl, rfl, SqL.of er1, atI_nat (j := 1) rfl, i, 1, rfl, rfl, .ref r.a, rfl, r.a, _, 1, 1, rfl, rfl, er1, rfl, ?_⟩
      show tSeq _ _ _ _ (upd H1 r.a (.lst [.ref r.c, .int (i + 1 : Int), .int b, .int (k + 1), .int t]))
      have m2' : Mv r H (upd H1 r.a (.lst [.ref r.c, .int (i + 1 : Int), .int b, .int (k + 1), .int t])) := ⟨fun b o nb e => by rw [upd_ne nb]; exact m1'.keep b o nb e⟩
      have er2 : (upd H1 r.a (.lst [.ref r.c, .int (i + 1 : Int), .int b, .int (k + 1), .int t])) r.a = some (.lst [.ref r.c, .int ((i + 1 : Nat) : Int), .int b, .int (k + 1), .int t]) := by rw [upd_same]; rfl
      generalize upd H1 r.a (.lst [.ref r.c, .int (i + 1 : Int), .int b, .int (k + 1), .int t]) = H2 at m2' er2
      generalize hcell : ns[i] = cell
      have ec2 := m2'.keep r.c _ hcr ec
      refine ⟨.int cell, rfl, 10, 18, rfl, rfl, ⟨by decide, by decide, by decide⟩, cell, _, rfl, rfl, _, rfl, ?_⟩
      rw [show (10 : Int) ^ (18 : Int).toNat = 1000000000000000000 from p18]
      refine ite2 (fun e1 => ?_) (fun e1 => ?_)
      · refine ⟨.int cell, rfl, cell, 2305843009213693951, rfl, rfl, (by show (0 : Int) < 2305843009213693951; decide), .ref r.a, rfl, r.a, _, 3, .int (k + 1), rfl, rfl, SqL.of er2, atI_nat (j := 3) rfl, cell % 2305843009213693951, k + 1, rfl, Int.emod_nonneg _ (by decide), Int.emod_lt_of_pos _ (by decide), by omega, by omega, fun x => ?_⟩
        exact ⟨.int m, rfl, x, m, rfl, rfl, mp, q _ H2 ⟨ns, i + 1, b, k + 1, t, er2, ec2, hi2, hb, by omega, by omega, ht0, ht1⟩ m2' (Int.emod_nonneg _ (by omega)) (Int.emod_lt_of_pos _ mp)⟩
      · have hc18 : 1000000000000000000 ≤ cell := by
          rcases Int.lt_or_le cell 1000000000000000000 with z | z
          · exact absurd (decide_eq_true z) e1
          · exact z
        refine ⟨.int cell, rfl, 10, 18, rfl, rfl, ⟨by decide, by decide, by decide⟩, cell, _, rfl, rfl, .ref r.a, rfl, r.a, _, 2, 2, rfl, rfl, er2, rfl, ?_⟩
        show tSeq _ _ _ _ (upd H2 r.a (.lst [.ref r.c, .int ((i + 1 : Nat) : Int), .int (cell - (10 : Int) ^ (18 : Int).toNat), .int (k + 1), .int t]))
        rw [show (10 : Int) ^ (18 : Int).toNat = 1000000000000000000 from p18]
        have m3' : Mv r H (upd H2 r.a (.lst [.ref r.c, .int ((i + 1 : Nat) : Int), .int (cell - 1000000000000000000), .int (k + 1), .int t])) := ⟨fun b o nb e => by rw [upd_ne nb]; exact m2'.keep b o nb e⟩
        have er3 : (upd H2 r.a (.lst [.ref r.c, .int ((i + 1 : Nat) : Int), .int (cell - 1000000000000000000), .int (k + 1), .int t])) r.a = some (.lst [.ref r.c, .int ((i + 1 : Nat) : Int), .int (cell - 1000000000000000000), .int (k + 1), .int t]) := upd_same
        have hb3 : 0 ≤ cell - 1000000000000000000 := by omega
        generalize cell - 1000000000000000000 = b2 at m3' er3 hb3
        generalize upd H2 r.a (.lst [.ref r.c, .int ((i + 1 : Nat) : Int), .int b2, .int (k + 1), .int t]) = H3 at m3' er3
        exact ⟨.ref r.a, rfl, r.a, _, 2, .int b2, rfl, rfl, SqL.of er3, atI_nat (j := 2) rfl, .int m, rfl, b2, m, rfl, rfl, mp, .ref r.a, rfl, r.a, _, 2, .int b2, rfl, rfl, SqL.of er3, atI_nat (j := 2) rfl, .int m, rfl, b2, m, rfl, rfl, mdiv b2, .ref r.a, rfl, r.a, _, 2, 2, rfl, rfl, er3, rfl, .int (b2 % m), rfl, last H3 (i + 1) b2 none m3' er3 hi2 hb3 _ rfl⟩
  · rw [decide_eq_false hb2]
    refine iteF ⟨.ref r.a, rfl, r.a, _, 2, .int b, rfl, rfl, SqL.of er1, atI_nat (j := 2) rfl, b, 2, rfl, rfl, decide (b < 2), rfl, ?_⟩
    rw [decide_eq_false hb2]
    exact iteF ⟨.ref r.a, rfl, r.a, _, 2, .int b, rfl, rfl, SqL.of er1, atI_nat (j := 2) rfl, .int m, rfl, b, m, rfl, rfl, mp, .ref r.a, rfl, r.a, _, 2, .int b, rfl, rfl, SqL.of er1, atI_nat (j := 2) rfl, .int m, rfl, b, m, rfl, rfl, mdiv b, .ref r.a, rfl, r.a, _, 2, 2, rfl, rfl, er1, rfl, .int (b % m), rfl, last H1 i b none m1' er1 hi hb _ rfl⟩
theorem ok_bag {f : Addr} {fd : FuncData} (F : Fun K "_law_bag" "_law_bag" sBag f fd) (hlist : mg "list" = none) : FnOk P w K mg base CX0 1 f fd ["script"] (spBag K) := by
  refine F.ok scBag (fun vs H Q E ⟨a, ns, e, _⟩ => by rw [e]; rfl) (fun cdv A outer s H vs Q E hr h => ?_)
  obtain ⟨a, ns, rfl, hS, q⟩ := h
  have nd := scBag.nd
  refine ⟨_, pss_cons (ps_set (i := 1) nd rfl (.inl rfl) pe_int)
    (pss_cons (ps_for PassesOwn.never rfl (pi_list (pv 0)) (pg_name (i := 2) nd rfl (.inl rfl))
      (pss_one (ps_set (i := 1) nd rfl (.inl rfl) (pe_op op_mod (pe_op op_add (pe_op op_add (pe_op op_mul (pv 1) pe_int) (pe_op op_mod (pv 2) pe_int)) pe_int) pe_int))))
    (pss_one (ps_ret (pe_lst (pa_cons (pe_callTy call_list_of (by rfl) hlist (by decide +kernel) (pa_cons (pv 0) pa_nil)) (pa_cons pe_int (pa_cons pe_int (pa_cons pe_int (pa_cons (pv 1) pa_nil))))))))), ?_⟩
  refine ⟨.ref a, rfl, a, rfl, ⟨_, hS⟩, for_list (xs := ns.map V.int) (fun i σ H2 => H2 = H ∧ ∃ t y2, σ = [some (.ref a), some (.int t), y2] ∧ 0 ≤ t ∧ t < MSP) ⟨rfl, 1, none, rfl, by decide, by decide⟩
    (fun i σ H2 _ ⟨e, _⟩ => by rw [e]; exact hS) (fun i x σ H2 hx ⟨e, t, y2, es, t0, t1⟩ => ?_) (fun σ H2 ⟨e, t, y2, es, t0, t1⟩ => ?_)⟩
  · subst e es
    obtain ⟨c, rfl⟩ : ∃ c, x = .int c := by
      rw [List.getElem?_map] at hx
      cases q : ns[i]? with
      | none => rw [q] at hx; cases hx
      | some c => rw [q] at hx; cases hx; exact ⟨c, rfl⟩
    exact ⟨.int t, rfl, t, 1000003, rfl, rfl, .inr ⟨by decide, by decide⟩, .int c, rfl, c, _, rfl, rfl, (by show (0 : Int) < 2305843009213693951; decide), _, _, rfl, rfl, _, 1, rfl, rfl, _, _, rfl, rfl, (by show (0 : Int) < 2305843009213693951; decide), rfl, _, some (.int c), rfl, Int.emod_nonneg _ (by decide), Int.emod_lt_of_pos _ (by decide)⟩
  · subst e es
    refine ⟨.ref a, rfl, a, _, rfl, .inl hS, fun l nl => ⟨.int t, rfl, small_le (by show 5 ≤ 1000; decide), fun r nr => ?_⟩⟩
    have s1 : Same H2 (upd H2 l (.lst (ns.map V.int))) := same_upd nl
    have lr : l ≠ r := fun z => by rw [← z, upd_same] at nr; cases nr
    exact q ⟨r, l⟩ _ (s1.trans (same_upd nr)) (s1.free nr) ⟨ns, 0, 0, 0, t, upd_same, by rw [upd_ne lr]; exact upd_same, Nat.zero_le _, Int.le_refl 0, Int.le_refl 0, Int.le_refl 0, t0, t1⟩
end
end CL.BG
set_option Elab.async false
set_option linter.all false
set_option maxRecDepth 100000
set_option maxHeartbeats 4000000
namespace CL
open PySem PySem.Spec PyProof.Rows L2 GE
/-! ### who comes goes past all that let it -/
theorem goes_zero : ∀ (p : Nat) (l : List (Option Int)) (j : Nat), l[j]? = some (some 0) → (goes p l).2[j]? = some (some 0)
  | 0, l, j, h => h
  | p + 1, l, j, h => by
    unfold goes
    split
    · rename_i k hk
      split
      · exact h
      · rename_i k0
        refine goes_zero p _ j ?_
        rw [List.getElem?_set, if_neg (fun z => ?_)]
        · exact h
        · rw [z, h] at hk
          cases hk
          exact k0 rfl
    · exact goes_zero p l j h
    · exact h
/-- where a nought stands behind, or at, the last of the first g: these are let be -/
theorem goes_drop (g : Nat) : ∀ (p : Nat) (l : List (Option Int)), g + p ≤ l.length → (∃ j, g ≤ j + 1 ∧ j < g + p ∧ l[j]? = some (some 0)) →
    goes p (l.drop g) = ((goes (g + p) l).1 - g, (goes (g + p) l).2.drop g) ∧ g ≤ (goes (g + p) l).1 ∧ (goes (g + p) l).2.take g = l.take g
  | 0, l, hl, ⟨j, h1, h2, h3⟩ => by
    obtain ⟨g', rfl⟩ : ∃ g', g = g' + 1 := ⟨g - 1, by omega⟩
    obtain rfl : j = g' := by omega
    have e : goes (j + 1 + 0) l = (j + 1, l) := by
      show goes (j + 1) l = _
      unfold goes
      rw [h3]
      rfl
    rw [e]
    exact ⟨by simp [goes], Nat.le_refl _, rfl⟩
  | p + 1, l, hl, ⟨j, h1, h2, h3⟩ => by
    have hlt : g + p < l.length := by omega
    have ed : (l.drop g)[p]? = l[g + p]? := List.getElem?_drop
    have es : goes (g + (p + 1)) l = goes (g + p + 1) l := rfl
    rw [es]
    conv => lhs; lhs; unfold goes
    rw [ed]
    have eu : goes (g + p + 1) l = match l[g + p]? with
      | some (some k) => if k = 0 then (g + p + 1, l) else goes (g + p) (l.set (g + p) (some (k - 1)))
      | some none => goes (g + p) l
      | none => (g + p + 1, l) := by
      conv => lhs; unfold goes
      all_goals (rcases l[g + p]? with _ | (_ | _) <;> rfl)
    rw [eu]
    cases q : l[g + p]? with
    | none => rw [List.getElem?_eq_getElem hlt] at q; cases q
    | some o =>
      cases o with
      | none =>
        refine goes_drop g p l (by omega) ⟨j, h1, ?_, h3⟩
        rcases Nat.lt_or_ge j (g + p) with z | z
        · exact z
        · obtain rfl : j = g + p := by omega
          rw [q] at h3; cases h3
      | some k =>
        dsimp only
        by_cases hk : k = 0
        · rw [if_pos hk, if_pos hk]
          exact ⟨by congr 1; show p + 1 = g + p + 1 - g; omega, by show g ≤ g + p + 1; omega, rfl⟩
        · rw [if_neg hk, if_neg hk]
          have hj : j ≠ g + p := fun z => by rw [z, q] at h3; cases h3; exact hk rfl
          obtain ⟨i1, i2, i3⟩ := goes_drop g p (l.set (g + p) (some (k - 1))) (by rw [List.length_set]; omega) ⟨j, h1, by omega, by rw [List.getElem?_set, if_neg (Ne.symm hj)]; exact h3⟩
          have e2 : (l.drop g).set p (some (k - 1)) = (l.set (g + p) (some (k - 1))).drop g := by
            rw [List.drop_set]
            rw [if_neg (by omega)]
            congr 1
            omega
          rw [e2]
          refine ⟨i1, i2, ?_⟩
          rw [i3, List.take_set_of_le (by omega)]
/-! ### a line's state -/
inductive Deed where
  | come (p : Option Int)
  | serve
structure LS where
  xs : List Nat
  rs : List (Option Int)
  ps : List Nat
  sv : List (Nat × Option Int)
  ds : List Deed
def LS.nil : LS := ⟨[], [], [], [], []⟩
def bump (ps : List Nat) : List Nat → List Nat
  | [] => ps
  | y :: ys => bump (ps.set y (ps.getD y 0 + 1)) ys
theorem bump_len : ∀ (ys ps : List Nat), (bump ps ys).length = ps.length
  | [], _ => rfl
  | y :: ys, ps => by
    unfold bump
    rw [bump_len ys, List.length_set]
abbrev LS.k (s : LS) : Nat := (goes s.rs.length s.rs).1
def comeS (s : LS) (p : Option Int) : LS :=
  ⟨s.xs.take s.k ++ s.ps.length :: s.xs.drop s.k, (goes s.rs.length s.rs).2.take s.k ++ p :: (goes s.rs.length s.rs).2.drop s.k, bump s.ps (s.xs.drop s.k) ++ [0], s.sv, s.ds ++ [.come p]⟩
def serveS (s : LS) (x : Nat) (r : Option Int) : LS := ⟨s.xs.tail, s.rs.tail, s.ps, s.sv ++ [(x, r)], s.ds ++ [.serve]⟩
structure LS.Ok (s : LS) : Prop where
  len : s.xs.length = s.rs.length
  lt : ∀ x ∈ s.xs, x < s.ps.length
  tot : s.xs.length + s.sv.length = s.ps.length
  dl : s.ds.length = s.ps.length + s.sv.length
theorem nil_ok : LS.nil.Ok := ⟨rfl, (fun x h => nomatch h), rfl, rfl⟩
theorem LS.Ok.come {s : LS} (h : s.Ok) (p : Option Int) : (comeS s p).Ok := by
  obtain ⟨g1, g2⟩ := goes_le s.rs.length s.rs
  have hl := h.len
  have hps : (comeS s p).ps.length = s.ps.length + 1 := by
    show (bump _ _ ++ [0]).length = _
    rw [List.length_append, bump_len]; rfl
  have hxs : (comeS s p).xs.length = s.xs.length + 1 := by
    show (_ ++ _ :: _).length = _
    rw [List.length_append, List.length_cons, List.length_take, List.length_drop]
    omega
  refine ⟨?_, fun x hx => ?_, ?_, ?_⟩
  · rw [hxs]
    show _ = (_ ++ _ :: _).length
    rw [List.length_append, List.length_cons, List.length_take, List.length_drop, g2]
    omega
  · rw [hps]
    rcases List.mem_append.mp (show x ∈ s.xs.take s.k ++ s.ps.length :: s.xs.drop s.k from hx) with z | z
    · exact Nat.lt_succ_of_lt (h.lt x (List.mem_of_mem_take z))
    · rcases List.mem_cons.mp z with z | z
      · rw [z]; exact Nat.lt_succ_self _
      · exact Nat.lt_succ_of_lt (h.lt x (List.mem_of_mem_drop z))
  · rw [hxs, hps]
    have := h.tot
    show s.xs.length + 1 + s.sv.length = _
    omega
  · rw [hps]
    show (s.ds ++ [_]).length = s.ps.length + 1 + s.sv.length
    rw [List.length_append, h.dl, List.length_singleton]
    omega
theorem LS.Ok.serve {s : LS} (h : s.Ok) {x : Nat} {r : Option Int} {xs : List Nat} (e : s.xs = x :: xs) : (serveS s x r).Ok := by
  have hl := h.len
  refine ⟨?_, fun y hy => h.lt y (List.mem_of_mem_tail (show y ∈ s.xs.tail from hy)), ?_, ?_⟩
  · show s.xs.tail.length = s.rs.tail.length
    rw [List.length_tail, List.length_tail, hl]
  · show s.xs.tail.length + (s.sv ++ [_]).length = s.ps.length
    have := h.tot
    rw [List.length_append, List.length_singleton, List.length_tail, e, List.length_cons] at *
    omega
  · show (s.ds ++ [_]).length = s.ps.length + (s.sv ++ [_]).length
    rw [List.length_append, List.length_append, h.dl, List.length_singleton, List.length_singleton]
    omega
/-! ### the one line serves its front where that is safe -/
structure Beh (g : Nat) (s t : LS) : Prop where
  xs : s.xs = t.xs.drop g
  rs : s.rs = t.rs.drop g
  ps : s.ps = t.ps
  le : g ≤ t.xs.length
  zero : g = 0 ∨ ∃ j, g ≤ j + 1 ∧ t.rs[j]? = some (some 0)
theorem Beh.goes {g : Nat} {s t : LS} (b : Beh g s t) (ht : t.Ok) : CL.goes s.rs.length s.rs = ((CL.goes t.rs.length t.rs).1 - g, (CL.goes t.rs.length t.rs).2.drop g) ∧ g ≤ (CL.goes t.rs.length t.rs).1 ∧ (CL.goes t.rs.length t.rs).2.take g = t.rs.take g := by
  have hl := ht.len
  have hg := b.le
  rw [b.rs]
  rcases b.zero with z | ⟨j, h1, h2⟩
  · subst z
    exact ⟨by simp, Nat.zero_le _, rfl⟩
  · have hj := (List.getElem?_eq_some_iff.mp h2).1
    have h := goes_drop g (t.rs.length - g) t.rs (by omega) ⟨j, h1, by omega, h2⟩
    have e : g + (t.rs.length - g) = t.rs.length := by omega
    rw [e] at h
    rw [List.length_drop]
    exact h
theorem drop_take_cons {α : Type} (l : List α) (a : α) (g k : Nat) (h : g ≤ k) (hk : k ≤ l.length) : (l.take k ++ a :: l.drop k).drop g = (l.drop g).take (k - g) ++ a :: (l.drop g).drop (k - g) := by
  rw [List.drop_append_of_le_length (by rw [List.length_take]; omega), List.drop_take, List.drop_drop]
  congr 3
  omega
theorem take_take_cons {α : Type} (l : List α) (a : α) (g k : Nat) (h : g ≤ k) (hk : k ≤ l.length) : (l.take k ++ a :: l.drop k).take g = l.take g := by
  rw [List.take_append_of_le_length (by rw [List.length_take]; omega), List.take_take, Nat.min_eq_left h]
theorem Beh.come {g : Nat} {s t : LS} (b : Beh g s t) (ht : t.Ok) (p : Option Int) : Beh g (comeS s p) (comeS t p) ∧ (comeS t p).xs.take g = t.xs.take g := by
  obtain ⟨h1, h2, h3⟩ := b.goes ht
  obtain ⟨k1, k2⟩ := goes_le t.rs.length t.rs
  have hl := ht.len
  have hk : s.k = t.k - g := by show (CL.goes s.rs.length s.rs).1 = _; rw [h1]
  have hr : (CL.goes s.rs.length s.rs).2 = (CL.goes t.rs.length t.rs).2.drop g := by rw [h1]
  have hx : (s.xs.drop s.k) = t.xs.drop t.k := by
    rw [hk, b.xs, List.drop_drop]
    congr 1
    show g + ((CL.goes t.rs.length t.rs).1 - g) = (CL.goes t.rs.length t.rs).1
    omega
  refine ⟨⟨?_, ?_, ?_, ?_, ?_⟩, take_take_cons _ _ _ _ h2 (by show (CL.goes t.rs.length t.rs).1 ≤ _; omega)⟩
  · show s.xs.take s.k ++ s.ps.length :: s.xs.drop s.k = (t.xs.take t.k ++ t.ps.length :: t.xs.drop t.k).drop g
    rw [drop_take_cons _ _ _ _ h2 (by show (CL.goes t.rs.length t.rs).1 ≤ _; omega), hk, b.xs, b.ps]
  · show (CL.goes s.rs.length s.rs).2.take s.k ++ p :: (CL.goes s.rs.length s.rs).2.drop s.k = ((CL.goes t.rs.length t.rs).2.take t.k ++ p :: (CL.goes t.rs.length t.rs).2.drop t.k).drop g
    rw [drop_take_cons _ _ _ _ h2 (by show (CL.goes t.rs.length t.rs).1 ≤ _; omega), hk, hr]
  · show bump s.ps (s.xs.drop s.k) ++ [0] = bump t.ps (t.xs.drop t.k) ++ [0]
    rw [hx, b.ps]
  · show g ≤ (_ ++ _ :: _).length
    have := b.le
    rw [List.length_append, List.length_cons, List.length_take, List.length_drop]
    omega
  · rcases b.zero with z | ⟨j, j1, j2⟩
    · exact .inl z
    · refine .inr ?_
      have hz := goes_zero t.rs.length t.rs j j2
      have hkk : t.k = (CL.goes t.rs.length t.rs).1 := rfl
      by_cases hj : j < t.k
      · refine ⟨j, j1, ?_⟩
        show (_ ++ _ :: _)[j]? = _
        rw [List.getElem?_append_left (by rw [List.length_take]; omega), List.getElem?_take, if_pos hj]
        exact hz
      · refine ⟨j + 1, by omega, ?_⟩
        show (_ ++ _ :: _)[j + 1]? = _
        rw [List.getElem?_append_right (by rw [List.length_take]; omega), List.length_take, Nat.min_eq_left (by omega)]
        have e : j + 1 - t.k = (j - t.k) + 1 := by omega
        rw [e, List.getElem?_cons_succ, List.getElem?_drop]
        rw [show t.k + (j - t.k) = j by omega]
        exact hz
theorem Beh.serve {g : Nat} {s t : LS} (b : Beh g s t) (h0 : some 0 ∈ s.rs) {x : Nat} {r : Option Int} {xs : List Nat} (e : s.xs = x :: xs) : Beh (g + 1) (serveS s x r) t ∧ t.xs.take (g + 1) = t.xs.take g ++ [x] := by
  have hx : t.xs.drop g = x :: xs := by rw [← b.xs]; exact e
  have hlt : g < t.xs.length := by
    rcases Nat.lt_or_ge g t.xs.length with z | z
    · exact z
    · rw [List.drop_of_length_le z] at hx; cases hx
  have hget : t.xs[g]? = some x := by
    have : (t.xs.drop g)[0]? = some x := by rw [hx]; rfl
    rw [List.getElem?_drop] at this
    exact this
  refine ⟨⟨?_, ?_, b.ps, hlt, .inr ?_⟩, by rw [List.take_add_one, hget]; rfl⟩
  · show s.xs.tail = _
    rw [b.xs, List.tail_drop]
  · show s.rs.tail = _
    rw [b.rs, List.tail_drop]
  · obtain ⟨j, hj⟩ := List.getElem?_of_mem h0
    rw [b.rs, List.getElem?_drop] at hj
    exact ⟨g + j, by omega, hj⟩
end CL
set_option Elab.async false
set_option linter.all false
set_option maxRecDepth 100000
set_option maxHeartbeats 4000000
namespace CL
open PySem PySem.Spec PyProof.Rows L2 GE
abbrev sLn : Stmt := topS 35
abbrev sInitL : Stmt := inClass sLn 0
abbrev sComeM : Stmt := inClass sLn 1
abbrev sServeM : Stmt := inClass sLn 2
abbrev sQueM : Stmt := inClass sLn 5
abbrev sLeftM : Stmt := inClass sLn 6
abbrev sWentM : Stmt := inClass sLn 7
abbrev sLenM : Stmt := inClass sLn 9
theorem scInitL : FnScope ["self"] ["self"] (defScope sInitL) := ⟨rfl, rfl, rfl, by decide +kernel, rfl, by decide +kernel, by decide +kernel⟩
theorem scComeM : FnScope ["self", "patience", "newcomer", "place", "person"] ["self", "patience"] (defScope sComeM) := ⟨rfl, rfl, rfl, by decide +kernel, rfl, by decide +kernel, by decide +kernel⟩
theorem scServeM : FnScope ["self", "person"] ["self"] (defScope sServeM) := ⟨rfl, rfl, rfl, by decide +kernel, rfl, by decide +kernel, by decide +kernel⟩
theorem scQueM : FnScope ["self"] ["self"] (defScope sQueM) := ⟨rfl, rfl, rfl, by decide +kernel, rfl, by decide +kernel, by decide +kernel⟩
theorem scLeftM : FnScope ["self"] ["self"] (defScope sLeftM) := ⟨rfl, rfl, rfl, by decide +kernel, rfl, by decide +kernel, by decide +kernel⟩
theorem scWentM : FnScope ["self", "person"] ["self", "person"] (defScope sWentM) := ⟨rfl, rfl, rfl, by decide +kernel, rfl, by decide +kernel, by decide +kernel⟩
theorem scLenM : FnScope ["self"] ["self"] (defScope sLenM) := ⟨rfl, rfl, rfl, by decide +kernel, rfl, by decide +kernel, by decide +kernel⟩
/-! ### xs[i] -= e -/
section
variable {P : Program} {w : World} {K : PySem.W.Frag} {mg : Str → Option Value} {base : Heap}
end
/-- people by their numbers, as values -/
def ppl (xs : List Nat) : List V := xs.map fun x : Nat => V.int (x : Int)
theorem ppl_len (xs : List Nat) : (ppl xs).length = xs.length := List.length_map ..
theorem ppl_get {xs : List Nat} {i : Nat} (h : i < xs.length) : (ppl xs)[i]? = some (.int (xs[i] : Int)) := by
  unfold ppl
  rw [List.getElem?_map, List.getElem?_eq_getElem h]
  rfl
theorem small1000 {n : Nat} (h : n < 1000) : n < sizeLine := by
  have : 1000 ≤ sizeLine := by decide
  omega
theorem seq_nat {n j : Nat} (h : j < n) : seqIndex? (j : Int) n = some j := by
  unfold seqIndex?
  have h1 : ¬ ((j : Int) < 0) := by omega
  simp [h1, h]
theorem bump_snoc : ∀ (ys ps : List Nat) (y : Nat), bump ps (ys ++ [y]) = (bump ps ys).set y ((bump ps ys).getD y 0 + 1)
  | [], ps, y => rfl
  | x :: ys, ps, y => bump_snoc ys _ y
/-! ### the class, and a line's places -/
structure LnT (K : PySem.W.Frag) (mg : Str → Option Value) (C : Addr) : Prop where
  cl : Cls K C
  n_pe : NoAttr K C "people"
  n_re : NoAttr K C "rest"
  n_pa : NoAttr K C "past"
  n_se : NoAttr K C "served"
  n_de : NoAttr K C "deeds"
  mgC : mg "Line" = some (.ref C)
structure LnA where
  o : Addr
  pe : Addr
  re : Addr
  pa : Addr
  se : Addr
  de : Addr
def LnA.has (L : LnA) (b : Addr) : Prop := b = L.pe ∨ b = L.re ∨ b = L.pa ∨ b = L.se ∨ b = L.de
structure Flds (fs : List (Str × V)) (L : LnA) : Prop where
  pe : fs.lookup ("people" : Str) = some (V.ref L.pe)
  re : fs.lookup ("rest" : Str) = some (V.ref L.re)
  pa : fs.lookup ("past" : Str) = some (V.ref L.pa)
  se : fs.lookup ("served" : Str) = some (V.ref L.se)
  de : fs.lookup ("deeds" : Str) = some (V.ref L.de)
  no : ∀ m : Str, m ≠ "people" → m ≠ "rest" → m ≠ "past" → m ≠ "served" → m ≠ "deeds" → fs.lookup m = none
def ServV (H : Hp) (v : V) (x : Nat × Option Int) : Prop := ∃ t, v = .ref t ∧ H t = some (.tup [.int (x.1 : Int), optV x.2])
def DeedV (H : Hp) (v : V) : Deed → Prop
  | .come p => ∃ t, v = .ref t ∧ H t = some (.tup [.str "come", optV p])
  | .serve => ∃ t, v = .ref t ∧ H t = some (.tup [.str "serve"])
inductive All2 {α : Type} (R : V → α → Prop) : List V → List α → Prop
  | nil : All2 R [] []
  | cons {v : V} {x : α} {vs : List V} {xs : List α} : R v x → All2 R vs xs → All2 R (v :: vs) (x :: xs)
theorem All2.length {α : Type} {R : V → α → Prop} : ∀ {vs : List V} {xs : List α}, All2 R vs xs → vs.length = xs.length
  | _, _, .nil => rfl
  | _, _, .cons _ t => congrArg (· + 1) (All2.length t)
theorem All2.imp {α : Type} {R R' : V → α → Prop} (h : ∀ v x, R v x → R' v x) : ∀ {vs : List V} {xs : List α}, All2 R vs xs → All2 R' vs xs
  | _, _, .nil => .nil
  | _, _, .cons a t => .cons (h _ _ a) (All2.imp h t)
theorem All2.snoc {α : Type} {R : V → α → Prop} : ∀ {vs : List V} {xs : List α} {v : V} {x : α}, All2 R vs xs → R v x → All2 R (vs ++ [v]) (xs ++ [x])
  | _, _, _, _, .nil, h => .cons h .nil
  | _, _, _, _, .cons a t, h => .cons a (All2.snoc t h)
structure LineAt (C : Addr) (H : Hp) (L : LnA) (s : LS) : Prop where
  ob : ∃ dx fs, H L.o = some (.ins C dx fs) ∧ Flds fs L
  pe : H L.pe = some (.lst (ppl s.xs))
  re : H L.re = some (.lst (s.rs.map optV))
  pa : H L.pa = some (.lst (ppl s.ps))
  se : ∃ vs, H L.se = some (.lst vs) ∧ All2 (ServV H) vs s.sv
  de : ∃ vs, H L.de = some (.lst vs) ∧ All2 (DeedV H) vs s.ds
  nd : [L.pe, L.re, L.pa, L.se, L.de].Nodup
  ok : s.Ok
/-- all but a line's own lists stays -/
structure MvL (L : LnA) (H H' : Hp) : Prop where
  keep : ∀ b o, ¬ L.has b → H b = some o → H' b = some o
theorem MvL.refl (L : LnA) (H : Hp) : MvL L H H := ⟨fun _ _ _ h => h⟩
theorem MvL.trans {L : LnA} {H H1 H2 : Hp} (a : MvL L H H1) (b : MvL L H1 H2) : MvL L H H2 := ⟨fun c o n h => b.keep c o n (a.keep c o n h)⟩
theorem MvL.of {L : LnA} {H H' : Hp} (s : Same H H') : MvL L H H' := ⟨fun b o _ h => s b o h⟩
theorem MvL.upd {L : LnA} {H H' : Hp} {p : Addr} {o : HO} (m : MvL L H H') (h : L.has p) : MvL L H (L2.upd H' p o) := ⟨fun b x nb e => by
  rw [upd_ne fun z => nb (by rw [z]; exact h)]
  exact m.keep b x nb e⟩
theorem MvL.new {L : LnA} {H H' : Hp} {p : Addr} {o : HO} (m : MvL L H H') (h : H' p = none) : MvL L H (L2.upd H' p o) := m.trans (MvL.of (same_upd h))
section
variable {C : Addr} {H H' : Hp} {L : LnA} {s : LS}
theorem LineAt.isl (h : LineAt C H L s) {b : Addr} (hb : L.has b) : ∃ vs, H b = some (.lst vs) := by
  rcases hb with rfl | rfl | rfl | rfl | rfl
  · exact ⟨_, h.pe⟩
  · exact ⟨_, h.re⟩
  · exact ⟨_, h.pa⟩
  · obtain ⟨vs, e, _⟩ := h.se; exact ⟨vs, e⟩
  · obtain ⟨vs, e, _⟩ := h.de; exact ⟨vs, e⟩
theorem LineAt.nol (h : LineAt C H L s) {b : Addr} {o : HO} (e : H b = some o) (n : ∀ vs, o ≠ .lst vs) : ¬ L.has b := fun hb => by
  obtain ⟨vs, z⟩ := h.isl hb
  rw [e] at z
  exact n vs (Option.some.inj z)
theorem ServV.kx {v : V} {x : Nat × Option Int} (k : ∀ t ys, H t = some (.tup ys) → H' t = some (.tup ys)) (h : ServV H v x) : ServV H' v x := by
  obtain ⟨t, e, q⟩ := h
  exact ⟨t, e, k t _ q⟩
theorem DeedV.kx {v : V} {d : Deed} (k : ∀ t ys, H t = some (.tup ys) → H' t = some (.tup ys)) (h : DeedV H v d) : DeedV H' v d := by
  cases d with
  | come p => obtain ⟨t, e, q⟩ := h; exact ⟨t, e, k t _ q⟩
  | serve => obtain ⟨t, e, q⟩ := h; exact ⟨t, e, k t _ q⟩
/-- a line whose own places stay, stays -/
theorem LineAt.kx (h : LineAt C H L s) (k : ∀ b o, (L.has b ∨ ∀ vs, o ≠ .lst vs) → H b = some o → H' b = some o) : LineAt C H' L s := by
  obtain ⟨dx, fs, ho, hf⟩ := h.ob
  obtain ⟨vs, e1, a1⟩ := h.se
  obtain ⟨ws, e2, a2⟩ := h.de
  have kt : ∀ t ys, H t = some (.tup ys) → H' t = some (.tup ys) := fun t ys e => k t _ (.inr fun _ => nofun) e
  exact ⟨⟨dx, fs, k _ _ (.inr fun _ => nofun) ho, hf⟩, k _ _ (.inl (.inl rfl)) h.pe, k _ _ (.inl (.inr (.inl rfl))) h.re, k _ _ (.inl (.inr (.inr (.inl rfl)))) h.pa, ⟨vs, k _ _ (.inl (.inr (.inr (.inr (.inl rfl))))) e1, a1.imp fun _ _ => ServV.kx kt⟩, ⟨ws, k _ _ (.inl (.inr (.inr (.inr (.inr rfl))))) e2, a2.imp fun _ _ => DeedV.kx kt⟩, h.nd, h.ok⟩
theorem LineAt.same (h : LineAt C H L s) (m : Same H H') : LineAt C H' L s := h.kx fun b o _ e => m b o e
/-- one line's deeds are nothing to another one -/
theorem LineAt.other {C' : Addr} {L' : LnA} {s' : LS} (h : LineAt C H L s) (h' : LineAt C' H L' s') (d : ∀ b, L.has b → ¬ L'.has b) (m : MvL L' H H') : LineAt C H' L s := h.kx fun b o hb e => m.keep b o (hb.elim (d b) (h'.nol e)) e
theorem nodup5 {a b c d e : Addr} (h : [a, b, c, d, e].Nodup) : a ≠ b ∧ a ≠ c ∧ a ≠ d ∧ a ≠ e ∧ b ≠ c ∧ b ≠ d ∧ b ≠ e ∧ c ≠ d ∧ c ≠ e ∧ d ≠ e := by
  simp only [List.nodup_cons, List.mem_cons, List.not_mem_nil, or_false, not_or, List.nodup_nil, and_true] at h
  obtain ⟨⟨h1, h2, h3, h4⟩, ⟨h5, h6, h7⟩, ⟨h8, h9⟩, h10, _⟩ := h
  exact ⟨h1, h2, h3, h4, h5, h6, h7, h8, h9, h10⟩
end
/-! ### what each method promises -/
def spInitL (C : Addr) : Sp := fun vs H Q _ => ∃ o dx, vs = [.ref o] ∧ H o = some (.ins C dx []) ∧ ∀ (L : LnA) H', L.o = o → (∀ b, L.has b → H b = none) → LineAt C H' L LS.nil → (∀ b x, b ≠ o → H b = some x → H' b = some x) → Q .non H'
def spComeM (C : Addr) : Sp := fun vs H Q _ => ∃ (L : LnA) (s : LS) (p : Option Int), vs = [.ref L.o, optV p] ∧ LineAt C H L s ∧ isPatience (optD p) = true ∧ s.ps.length ≤ 400 ∧ ∀ H', LineAt C H' L (comeS s p) → MvL L H H' → Q (.int (s.ps.length : Int)) H'
def spServeM (C : Addr) : Sp := fun vs H Q _ => ∃ (L : LnA) (s : LS) (x : Nat) (xs : List Nat), vs = [.ref L.o] ∧ LineAt C H L s ∧ s.xs = x :: xs ∧ s.ps.length ≤ 400 ∧ ∀ H' r, s.rs.head? = some r → LineAt C H' L (serveS s x r) → MvL L H H' → Q (.int (x : Int)) H'
def spQueM (C : Addr) : Sp := fun vs H Q _ => ∃ (L : LnA) (s : LS), vs = [.ref L.o] ∧ LineAt C H L s ∧ ∀ p, H p = none → Q (.ref p) (upd H p (.lst (ppl s.xs)))
def spLeftM (C : Addr) : Sp := fun vs H Q _ => ∃ (L : LnA) (s : LS), vs = [.ref L.o] ∧ LineAt C H L s ∧ ∀ p, H p = none → Q (.ref p) (upd H p (.lst (s.rs.map optV)))
def spWentM (C : Addr) : Sp := fun vs H Q _ => ∃ (L : LnA) (s : LS) (x : Nat) (h : x < s.ps.length), vs = [.ref L.o, .int (x : Int)] ∧ LineAt C H L s ∧ ∀ H', Same H H' → Q (.int (s.ps[x] : Int)) H'
def spLenM (C : Addr) : Sp := fun vs H Q _ => ∃ (L : LnA) (s : LS), vs = [.ref L.o] ∧ LineAt C H L s ∧ Q (.int (s.xs.length : Int)) H
theorem init_one {K : PySem.W.Frag} {D : Ends} {σ : L2.St} {G : Hp} {o C dx : Addr} {fs : List (Str × V)} {f : Str} {n : Nat} (h0 : σ[0]? = some (some (.ref o))) (ho : G o = some (.ins C dx fs)) (hc : Cls K C) (hn : NoAttr K C f) (hl : fs.length ≤ n) (h9 : n < 900)
    (q : ∀ p, G p = none → ∀ G', G' o = some (.ins C dx (putF f (.ref p) fs)) → G' p = some (.lst []) → (∀ b x, b ≠ o → G b = some x → G' b = some x) → (putF f (.ref p) fs).length ≤ n + 1 → D.nx σ G') : sFld K (tVar 0) (tLst tNil) f D σ G := by
  refine ⟨Nat.zero_le _, fun p np => ?_⟩
  have hpo : p ≠ o := fun z => by rw [z, ho] at np; cases np
  refine ⟨.ref o, h0, o, C, dx, fs, rfl, by rw [upd_ne (Ne.symm hpo)]; exact ho, hc, hn, by omega, q p np _ upd_same (by rw [upd_ne hpo]; exact upd_same) (fun b x hb e => ?_) (Nat.le_trans (length_putF _ _ _) (Nat.succ_le_succ hl))⟩
  rw [upd_ne hb, upd_ne (ne_of_none e np)]
  exact e
theorem nameq : (("people" : Str) ≠ "rest" ∧ ("people" : Str) ≠ "past" ∧ ("people" : Str) ≠ "served" ∧ ("people" : Str) ≠ "deeds") ∧ (("rest" : Str) ≠ "past" ∧ ("rest" : Str) ≠ "served" ∧ ("rest" : Str) ≠ "deeds") ∧ (("past" : Str) ≠ "served" ∧ ("past" : Str) ≠ "deeds") ∧ ("served" : Str) ≠ "deeds" := by decide +kernel
section
variable {P : Program} {w : World} {K : PySem.W.Frag} {mg : Str → Option Value} {base : Heap} {C : Addr}
theorem ok_initL {f : Addr} {fd : FuncData} (F : Fun K "__init__" "Line.__init__" sInitL f fd) (T : LnT K mg C) : FnOk P w K mg base CX0 1 f fd ["self"] (spInitL C) := by
  refine F.ok scInitL (fun vs H Q E ⟨o, dx, e, _⟩ => by rw [e]; rfl) (fun cdv A outer s H vs Q E hr h => ?_)
  obtain ⟨o, dx, rfl, ho, q⟩ := h
  refine ⟨_, (pss_cons (ps_fld (pv 0) (pe_lst pa_nil) rfl) (pss_cons (ps_fld (pv 0) (pe_lst pa_nil) rfl) (pss_cons (ps_fld (pv 0) (pe_lst pa_nil) rfl) (pss_cons (ps_fld (pv 0) (pe_lst pa_nil) rfl) (pss_one (ps_fld (pv 0) (pe_lst pa_nil) rfl)))))), ?_⟩
  refine init_one (o := o) rfl ho T.cl T.n_pe (Nat.le_refl 0) (by decide) fun p1 n1 G1 a1 b1 k1 l1 => ?_
  refine init_one (o := o) rfl a1 T.cl T.n_re l1 (by decide) fun p2 n2 G2 a2 b2 k2 l2 => ?_
  refine init_one (o := o) rfl a2 T.cl T.n_pa l2 (by decide) fun p3 n3 G3 a3 b3 k3 l3 => ?_
  refine init_one (o := o) rfl a3 T.cl T.n_se l3 (by decide) fun p4 n4 G4 a4 b4 k4 l4 => ?_
  refine init_one (o := o) rfl a4 T.cl T.n_de l4 (by decide) fun p5 n5 G5 a5 b5 k5 l5 => ?_
  have ne : ∀ {G : Hp} {p q : Addr} {vs : List V}, G p = some (.lst vs) → G q = none → p ≠ q := fun {G p q vs} e n z => by rw [z, n] at e; cases e
  have no : ∀ {G : Hp} {p : Addr} {fs : List (Str × V)}, G o = some (.ins C dx fs) → G p = none → p ≠ o := fun {G p fs} e n z => by rw [z, e] at n; cases n
  have o1 := no ho n1
  have o2 := no a1 n2
  have o3 := no a2 n3
  have o4 := no a3 n4
  have o5 := no a4 n5
  have b12 := k2 _ _ o1 b1
  have b13 := k3 _ _ o1 b12
  have b14 := k4 _ _ o1 b13
  have b15 := k5 _ _ o1 b14
  have b23 := k3 _ _ o2 b2
  have b24 := k4 _ _ o2 b23
  have b25 := k5 _ _ o2 b24
  have b34 := k4 _ _ o3 b3
  have b35 := k5 _ _ o3 b34
  have b45 := k5 _ _ o4 b4
  have fr : ∀ {G G' : Hp} {p : Addr}, p ≠ o → (∀ b x, b ≠ o → G b = some x → G' b = some x) → G' p = none → G p = none := fun {G G' p} hp k n => by
    cases z : G p with
    | none => rfl
    | some x => rw [k p x hp z] at n; cases n
  have m2 := fr o2 k1 n2
  have m3 := fr o3 k1 (fr o3 k2 n3)
  have m4 := fr o4 k1 (fr o4 k2 (fr o4 k3 n4))
  have m5 := fr o5 k1 (fr o5 k2 (fr o5 k3 (fr o5 k4 n5)))
  obtain ⟨⟨q1, q2, q3, q4⟩, ⟨q5, q6, q7⟩, ⟨q8, q9⟩, q10⟩ := nameq
  refine q ⟨o, p1, p2, p3, p4, p5⟩ G5 rfl (fun b hb => ?_) ⟨⟨dx, _, a5, ?_⟩, b15, b25, b35, ⟨[], b45, .nil⟩, ⟨[], b5, .nil⟩, ?_, nil_ok⟩ fun b x hb e => k5 b x hb (k4 b x hb (k3 b x hb (k2 b x hb (k1 b x hb e))))
  · rcases hb with rfl | rfl | rfl | rfl | rfl
    · exact n1
    · exact m2
    · exact m3
    · exact m4
    · exact m5
  · refine ⟨?_, ?_, ?_, ?_, ?_, fun m h1 h2 h3 h4 h5 => ?_⟩
    · rw [lookup_putF, if_neg q4, lookup_putF, if_neg q3, lookup_putF, if_neg q2, lookup_putF, if_neg q1, lookup_putF, if_pos rfl]
    · rw [lookup_putF, if_neg q7, lookup_putF, if_neg q6, lookup_putF, if_neg q5, lookup_putF, if_pos rfl]
    · rw [lookup_putF, if_neg q9, lookup_putF, if_neg q8, lookup_putF, if_pos rfl]
    · rw [lookup_putF, if_neg q10, lookup_putF, if_pos rfl]
    · rw [lookup_putF, if_pos rfl]
    · rw [lookup_putF, if_neg h5, lookup_putF, if_neg h4, lookup_putF, if_neg h3, lookup_putF, if_neg h2, lookup_putF, if_neg h1]
      rfl
  · have c12 : p1 ≠ p2 := ne b1 n2
    have c13 : p1 ≠ p3 := ne b12 n3
    have c14 : p1 ≠ p4 := ne b13 n4
    have c15 : p1 ≠ p5 := ne b14 n5
    have c23 : p2 ≠ p3 := ne b2 n3
    have c24 : p2 ≠ p4 := ne b23 n4
    have c25 : p2 ≠ p5 := ne b24 n5
    have c34 : p3 ≠ p4 := ne b3 n4
    have c35 : p3 ≠ p5 := ne b34 n5
    have c45 : p4 ≠ p5 := ne b4 n5
    simp [c12, c13, c14, c15, c23, c24, c25, c34, c35, c45]
theorem ok_comeM {f : Addr} {fd : FuncData} (F : Fun K "come" "Line.come" sComeM f fd) (hT : Nm mg) (T : LnT K mg C) (CP : Cal P w K mg base 2 "is_patience" ["thing"] (spOne isPatience)) (CL : Cal P w K mg base 1 "let_past" ["left"] spLet) : FnOk P w K mg base CX0 3 f fd ["self", "patience"] (spComeM C) := by
  refine F.ok scComeM (fun vs H Q E ⟨L, s, p, e, _⟩ => by rw [e]; rfl) (fun cdv A outer s H vs Q E hr h => ?_)
  obtain ⟨L, s, p, rfl, hL, hp, hn, q⟩ := h
  have nd := scComeM.nd
  refine ⟨_, (pss_cons (ps_if (pt_not (pt_val (pe_cal CP (hr.mono (by decide)) (by rfl) (pa_cons (pv 1) pa_nil)))) (pss_one ps_never) pss_nil)
      (pss_cons (ps_set (i := 2) nd rfl (.inl rfl) (pe_callB call_len_seq (by rfl) hT.len PySem.boot_len (pa_cons (pe_fld (pv 0) rfl) pa_nil)))
      (pss_cons (ps_set (i := 3) nd rfl (.inl rfl) (pe_cal CL (hr.mono (by decide)) (by rfl) (pa_cons (pe_fld (pv 0) rfl) pa_nil)))
      (pss_cons (ps_for PassesOwn.never rfl (pi_list (pe_slice sl_list (pe_fld (pv 0) rfl) (po_some (pv 3)) po_none)) (pg_name (i := 4) nd rfl (.inl rfl)) (pss_one (ps_augS (pe_fld (pv 0) rfl) (pv 4) get_list pe_int ip_add set_list)))
      (pss_cons (ps_expr (pe_bm PySem.F.plainAttrs_list PySem.F.slot_list_insert PySem.F.type_list_insert mt_insert (pe_fld (pv 0) rfl) (pa_cons (pv 3) (pa_cons (pv 2) pa_nil))))
      (pss_cons (ps_expr (pe_bm PySem.F.plainAttrs_list PySem.F.slot_list_insert PySem.F.type_list_insert mt_insert (pe_fld (pv 0) rfl) (pa_cons (pv 3) (pa_cons (pv 1) pa_nil))))
      (pss_cons (ps_expr (pe_bm PySem.F.plainAttrs_list PySem.F.slot_list_append PySem.F.type_list_append mt_append (pe_fld (pv 0) rfl) (pa_cons pe_int pa_nil)))
      (pss_cons (ps_expr (pe_bm PySem.F.plainAttrs_list PySem.F.slot_list_append PySem.F.type_list_append mt_append (pe_fld (pv 0) rfl) (pa_cons (pe_tup (pa_cons pe_str (pa_cons (pv 1) pa_nil))) pa_nil)))
      (pss_one (ps_ret (pv 2))))))))))), ?_⟩
  obtain ⟨d1, d2, d3, d4, d5, d6, d7, d8, d9, d10⟩ := nodup5 hL.nd
  have ok := hL.ok
  have hxl : s.xs.length ≤ 400 := by have := ok.tot; omega
  have hrl : s.rs.length ≤ 400 := by rw [← ok.len]; exact hxl
  have hdl : s.ds.length ≤ 800 := by have := ok.dl; have := ok.tot; omega
  refine ⟨optV p, rfl, optV p, optD p, rfl, rp_opt2 p, fun H1 s1 => ⟨_, rfl, ?_⟩⟩
  rw [hp]
  refine iteF ?_
  have hL1 := hL.same s1
  obtain ⟨⟨dx, fs, hob, hf⟩, e_pe, e_re, e_pa, ⟨vs, e_se, a_se⟩, ⟨ws, e_de, a_de⟩, _, _⟩ := hL1
  refine ⟨.ref L.o, rfl, L.o, C, dx, fs, .ref L.pa, rfl, hob, T.cl, T.n_pa, hf.pa, L.pa, _, rfl, .inl (SqL.of e_pa), ?_⟩
  rw [ppl_len]
  refine ⟨.ref L.o, rfl, L.o, C, dx, fs, .ref L.re, rfl, hob, T.cl, T.n_re, hf.re, L.re, s.rs, rfl, e_re, by omega, fun H2 k2 f2 => ?_⟩
  obtain ⟨g1, g2⟩ := goes_le s.rs.length s.rs
  have hk : s.k ≤ s.xs.length := by rw [ok.len]; exact g1
  show tSeq _ _ _ [some (.ref L.o), some (optV p), some (.int (s.ps.length : Int)), some (.int (s.k : Int)), none] H2
  have nli : ∀ {b : Addr} {o : HO} {vs : List V}, H1 b = some o → (∀ vs, o ≠ .lst vs) → H1 L.re = some (.lst vs) → b ≠ L.re := fun {b o vs} e n e2 z => by rw [z, e2] at e; exact n _ (Option.some.inj e).symm
  have hob2 : H2 L.o = some (.ins C dx fs) := by rw [k2 _ (nli hob (fun _ => nofun) e_re)]; exact hob
  have e_pe2 : H2 L.pe = some (.lst (ppl s.xs)) := by rw [k2 _ d1]; exact e_pe
  have e_pa2 : H2 L.pa = some (.lst (ppl s.ps)) := by rw [k2 _ (Ne.symm d5)]; exact e_pa
  have e_se2 : H2 L.se = some (.lst vs) := by rw [k2 _ (Ne.symm d6)]; exact e_se
  have e_de2 : H2 L.de = some (.lst ws) := by rw [k2 _ (Ne.symm d7)]; exact e_de
  have m2 : MvL L H H2 := (MvL.of s1).trans ⟨fun b o nb e => by rw [k2 b fun z => nb (.inr (.inl z))]; exact e⟩
  have kt2 : ∀ t ys, H1 t = some (.tup ys) → H2 t = some (.tup ys) := fun t ys e => by rw [k2 t (nli e (fun _ => nofun) e_re)]; exact e
  refine ⟨.ref L.o, rfl, L.o, C, dx, fs, .ref L.pe, rfl, hob2, T.cl, T.n_pe, hf.pe, .int (s.k : Int), rfl, (s.k : Int), rfl, L.pe, _, rfl, SqL.of e_pe2, fun D nD => ?_⟩
  rw [cut_from]
  have ed : (ppl s.xs).drop s.k = ppl (s.xs.drop s.k) := List.map_drop.symm
  rw [ed]
  have sD : Same H2 (upd H2 D (.lst (ppl (s.xs.drop s.k)))) := same_upd nD
  have eD : (upd H2 D (.lst (ppl (s.xs.drop s.k)))) D = some (.lst (ppl (s.xs.drop s.k))) := upd_same
  have nDpa : D ≠ L.pa := fun z => by rw [z, e_pa2] at nD; cases nD
  generalize upd H2 D (.lst (ppl (s.xs.drop s.k))) = H3 at sD eD
  refine ⟨D, rfl, ⟨_, SqL.of eD⟩, for_list (xs := ppl (s.xs.drop s.k)) (fun i σ G => (∃ y, σ = [some (.ref L.o), some (optV p), some (.int (s.ps.length : Int)), some (.int (s.k : Int)), y]) ∧ (∀ b, b ≠ L.pa → G b = H3 b) ∧ G L.pa = some (.lst (ppl (bump s.ps ((s.xs.drop s.k).take i)))))
    ⟨⟨_, rfl⟩, fun _ _ => rfl, sD _ _ e_pa2⟩ (fun i σ G _ ⟨_, k, _⟩ => SqL.of (by rw [k _ nDpa]; exact eD)) (fun i x σ G hx hP => ?_) (fun σ G hP => ?_)⟩
  · obtain ⟨⟨y, rfl⟩, kG, eG⟩ := hP
    have il : i < (s.xs.drop s.k).length := by rw [← ppl_len]; exact (List.getElem?_eq_some_iff.mp hx).1
    rw [ppl_get il] at hx
    obtain rfl := (Option.some.inj hx).symm
    have hsn : (s.xs.drop s.k).take (i + 1) = (s.xs.drop s.k).take i ++ [(s.xs.drop s.k)[i]] := by rw [List.take_add_one, List.getElem?_eq_getElem il]; rfl
    have hlt : (s.xs.drop s.k)[i] < s.ps.length := ok.lt _ (List.mem_of_mem_drop (List.getElem_mem il))
    rw [hsn, bump_snoc]
    have hbl := bump_len ((s.xs.drop s.k).take i) s.ps
    generalize bump s.ps ((s.xs.drop s.k).take i) = ps at eG hbl
    generalize (s.xs.drop s.k)[i] = y at hlt
    have hob3 : G L.o = some (.ins C dx fs) := by rw [kG _ (fun z => by rw [z, e_pa2] at hob2; cases hob2)]; exact sD _ _ hob2
    have hg : (ppl ps)[y]? = some (.int ((ps.getD y 0 : Nat) : Int)) := by
      rw [ppl_get (by omega)]
      rw [List.getD_eq_getElem?_getD, List.getElem?_eq_getElem (by omega)]
      rfl
    refine ⟨.ref L.o, rfl, L.o, C, dx, fs, .ref L.pa, rfl, hob3, T.cl, T.n_pa, hf.pa, .int (y : Int), rfl, L.pa, _, y, _, rfl, rfl, SqL.of eG, hg, _, 1, rfl, rfl, L.pa, _, (y : Int), y, rfl, rfl, eG, ixN_nat (by rw [ppl_len]; omega), ⟨_, rfl⟩, fun b nb => by rw [upd_ne nb]; exact kG b nb, ?_⟩
    rw [upd_same]
    unfold ppl
    rw [List.map_set]
    rfl
  · obtain ⟨⟨y, rfl⟩, kG, eG⟩ := hP
    rw [ppl_len, List.take_length] at eG
    have up : ∀ {b : Addr} {o : HO}, b ≠ L.pa → H2 b = some o → G b = some o := fun {b o} n e => by rw [kG b n]; exact sD _ _ e
    have hob3 : G L.o = some (.ins C dx fs) := up (fun z => by rw [z, e_pa2] at hob2; cases hob2) hob2
    have e_pe3 := up d2 e_pe2
    have e_re3 := up d5 f2
    have e_se3 := up (Ne.symm d8) e_se2
    have e_de3 := up (Ne.symm d9) e_de2
    have m3 : MvL L H G := m2.trans ⟨fun b o nb e => up (fun z => nb (.inr (.inr (.inl z)))) e⟩
    have kt3 : ∀ t ys, H2 t = some (.tup ys) → G t = some (.tup ys) := fun t ys e => up (fun z => by rw [z, e_pa2] at e; cases e) e
    have b1 : bump s.ps (s.xs.drop s.k) = bump s.ps (s.xs.drop s.k) := rfl
    have hbl := bump_len (s.xs.drop s.k) s.ps
    -- self.people.insert(place, newcomer)
    refine ⟨.ref L.o, rfl, L.o, C, dx, fs, .ref L.pe, rfl, hob3, T.cl, T.n_pe, hf.pe, .inl ⟨rfl, _, SqL.of e_pe3⟩, .int (s.k : Int), rfl, .int (s.ps.length : Int), rfl, L.pe, _, (s.k : Int), _, rfl, rfl, e_pe3, by rw [ppl_len]; exact small1000 (by omega), by omega, by omega, ?_⟩
    have ei : (ppl s.xs).take (s.k : Int).toNat ++ [V.int (s.ps.length : Int)] ++ (ppl s.xs).drop (s.k : Int).toNat = ppl (comeS s p).xs := by
      show _ = ppl (s.xs.take s.k ++ s.ps.length :: s.xs.drop s.k)
      unfold ppl
      rw [List.map_append, List.map_cons, List.map_take, List.map_drop, List.append_assoc]
      rfl
    rw [ei]
    have q_pe4 : (upd G L.pe (.lst (ppl (comeS s p).xs))) L.pe = some (.lst (ppl (comeS s p).xs)) := upd_same
    have k4 : ∀ b, b ≠ L.pe → (upd G L.pe (.lst (ppl (comeS s p).xs))) b = G b := fun b n => upd_ne n
    have m4 := m3.upd (o := .lst (ppl (comeS s p).xs)) (.inl rfl)
    generalize upd G L.pe (.lst (ppl (comeS s p).xs)) = G4 at q_pe4 k4 m4
    have hob4 : G4 L.o = some (.ins C dx fs) := by rw [k4 _ (fun z => by rw [z, e_pe3] at hob3; cases hob3)]; exact hob3
    have e_re4 : G4 L.re = _ := (k4 _ (Ne.symm d1)).trans e_re3
    -- self.rest.insert(place, patience)
    refine ⟨.ref L.o, rfl, L.o, C, dx, fs, .ref L.re, rfl, hob4, T.cl, T.n_re, hf.re, .inl ⟨rfl, _, SqL.of e_re4⟩, .int (s.k : Int), rfl, optV p, rfl, L.re, _, (s.k : Int), _, rfl, rfl, e_re4, by rw [List.length_map, g2]; exact small1000 (by omega), by omega, by omega, ?_⟩
    have er : ((goes s.rs.length s.rs).2.map optV).take (s.k : Int).toNat ++ [optV p] ++ ((goes s.rs.length s.rs).2.map optV).drop (s.k : Int).toNat = (comeS s p).rs.map optV := by
      show _ = ((goes s.rs.length s.rs).2.take s.k ++ p :: (goes s.rs.length s.rs).2.drop s.k).map optV
      rw [List.map_append, List.map_cons, List.map_take, List.map_drop, List.append_assoc]
      rfl
    rw [er]
    have q_re5 : (upd G4 L.re (.lst ((comeS s p).rs.map optV))) L.re = some (.lst ((comeS s p).rs.map optV)) := upd_same
    have k5 : ∀ b, b ≠ L.re → (upd G4 L.re (.lst ((comeS s p).rs.map optV))) b = G4 b := fun b n => upd_ne n
    have m5 := m4.upd (o := .lst ((comeS s p).rs.map optV)) (.inr (.inl rfl))
    generalize upd G4 L.re (.lst ((comeS s p).rs.map optV)) = G5 at q_re5 k5 m5
    have hob5 : G5 L.o = some (.ins C dx fs) := by rw [k5 _ (fun z => by rw [z, e_re4] at hob4; cases hob4)]; exact hob4
    have e_pa5 : G5 L.pa = _ := (k5 _ (Ne.symm d5)).trans ((k4 _ (Ne.symm d2)).trans eG)
    -- self.past.append(0)
    refine ⟨.ref L.o, rfl, L.o, C, dx, fs, .ref L.pa, rfl, hob5, T.cl, T.n_pa, hf.pa, .inl ⟨rfl, _, SqL.of e_pa5⟩, L.pa, _, _, rfl, rfl, e_pa5, by rw [ppl_len, hbl]; exact small1000 (by omega), ?_⟩
    have ep : ppl (bump s.ps (s.xs.drop s.k)) ++ [V.int 0] = ppl (comeS s p).ps := by
      show _ = ppl (bump s.ps (s.xs.drop s.k) ++ [0])
      unfold ppl
      rw [List.map_append]
      rfl
    rw [ep]
    have q_pa6 : (upd G5 L.pa (.lst (ppl (comeS s p).ps))) L.pa = some (.lst (ppl (comeS s p).ps)) := upd_same
    have k6 : ∀ b, b ≠ L.pa → (upd G5 L.pa (.lst (ppl (comeS s p).ps))) b = G5 b := fun b n => upd_ne n
    have m6 := m5.upd (o := .lst (ppl (comeS s p).ps)) (.inr (.inr (.inl rfl)))
    generalize upd G5 L.pa (.lst (ppl (comeS s p).ps)) = G6 at q_pa6 k6 m6
    have hob6 : G6 L.o = some (.ins C dx fs) := by rw [k6 _ (fun z => by rw [z, e_pa5] at hob5; cases hob5)]; exact hob5
    have e_de6 : G6 L.de = some (.lst ws) := (k6 _ (Ne.symm d9)).trans ((k5 _ (Ne.symm d7)).trans ((k4 _ (Ne.symm d4)).trans e_de3))
    have e_se6 : G6 L.se = some (.lst vs) := (k6 _ (Ne.symm d8)).trans ((k5 _ (Ne.symm d6)).trans ((k4 _ (Ne.symm d3)).trans e_se3))
    have e_pe6 : G6 L.pe = _ := (k6 _ d2).trans ((k5 _ d1).trans q_pe4)
    have e_re6 : G6 L.re = _ := (k6 _ d5).trans q_re5
    have kt6 : ∀ t ys, H1 t = some (.tup ys) → G6 t = some (.tup ys) := fun t ys e => by
      have e3 := kt3 _ _ (kt2 _ _ e)
      have n1 : t ≠ L.pe := fun z => by rw [z, e_pe3] at e3; cases e3
      have n2 : t ≠ L.re := fun z => by rw [z, e_re3] at e3; cases e3
      have n3 : t ≠ L.pa := fun z => by rw [z, eG] at e3; cases e3
      exact (k6 _ n3).trans ((k5 _ n2).trans ((k4 _ n1).trans e3))
    -- self.deeds.append(("come", patience))
    refine ⟨.ref L.o, rfl, L.o, C, dx, fs, .ref L.de, rfl, hob6, T.cl, T.n_de, hf.de, .inl ⟨rfl, _, SqL.of e_de6⟩, optV p, rfl, small_le (by show 2 ≤ 1000; decide), fun t nt => ⟨L.de, ws, .ref t, rfl, rfl, (same_upd nt) _ _ e_de6, by rw [a_de.length]; exact small1000 (by omega), ?_⟩⟩
    have st : Same G6 (upd G6 t (.tup [.str "come", optV p])) := same_upd nt
    have et : (upd G6 t (.tup [.str "come", optV p])) t = some (.tup [.str "come", optV p]) := upd_same
    have m7 := m6.new (o := .tup [.str "come", optV p]) nt
    generalize upd G6 t (.tup [.str "come", optV p]) = G7 at st et m7
    have ntd : t ≠ L.de := fun z => by rw [z, e_de6] at nt; cases nt
    have kt8 : ∀ t' ys, G7 t' = some (.tup ys) → (upd G7 L.de (.lst (ws ++ [.ref t]))) t' = some (.tup ys) := fun t' ys e => by
      rw [upd_ne (fun z => by rw [z, st _ _ e_de6] at e; cases e)]; exact e
    refine ⟨_, rfl, q _ ⟨⟨dx, fs, ?_, hf⟩, ?_, ?_, ?_, ⟨vs, ?_, a_se.imp fun _ _ => ServV.kx fun t' ys e => kt8 _ _ (st _ _ (kt6 _ _ e))⟩, ⟨ws ++ [.ref t], upd_same, All2.snoc (a_de.imp fun _ _ => DeedV.kx fun t' ys e => kt8 _ _ (st _ _ (kt6 _ _ e))) ⟨t, rfl, kt8 _ _ et⟩⟩, hL.nd, ok.come p⟩ (m7.upd (.inr (.inr (.inr (.inr rfl)))))⟩
    · rw [upd_ne (fun z => by rw [z, e_de6] at hob6; cases hob6)]; exact st _ _ hob6
    · rw [upd_ne d4]; exact st _ _ e_pe6
    · rw [upd_ne d7]; exact st _ _ e_re6
    · rw [upd_ne d9]; exact st _ _ q_pa6
    · rw [upd_ne d10]; exact st _ _ e_se6
end
end CL
set_option Elab.async false
set_option linter.all false
set_option maxRecDepth 100000
set_option maxHeartbeats 4000000
namespace CL
open PySem PySem.Spec PyProof.Rows L2 GE
/-- len(x) of an instance whose class has a __len__ of its own -/
theorem call_lenOwn {X : Cx} {C f : Addr} {fd : FuncData} {ps : List Str} {k : Nat} {CX : CXT} {E : XK} {sp : Sp} (F : FnOk X.prog X.w X.K X.mg X.base CX k f fd ps sp) (hr : Room (k + 1) X.A)
    (hs : PySem.W.findIn X.K (.ref C) "__len__" = some (some (.ref f))) (hf : PySem.W.isFn X.K (.ref f) = true) (hb : Binds X.K fd ps []) (hx : Passes CX X E) :
    CallR X (.builtin "len") (fun xs H Q => ∃ a dx fs, xs = [.ref a] ∧ H a = some (.ins C dx fs) ∧ sp [.ref a] H (fun v H' => ∃ n : Nat, v = .int (n : Int) ∧ n < 2 ^ 62 ∧ Q (.int (n : Int)) H') E) := by
  intro pins s σ H xs us Q I r h
  obtain ⟨a, dx, fs, rfl, ha, hsp⟩ := h
  obtain ⟨u, rfl, ru⟩ := vals1 r
  obtain rfl : u = Value.ref a := ru
  obtain ⟨mA, J, _⟩ := ins_get I.hok ha
  obtain ⟨od, J, _⟩ := J.look
  obtain ⟨m, hF⟩ := I.fr
  refine PySem.W.len_K hF I.ok.mod.kin J hs hf ?_
  have e0 : Env0 X.prog X.w X.K X.mg X.base X.A.in1 X.stack s H := by
    have e := I.env0
    exact ⟨e.frames, e.mod, e.bs, e.bsz, e.funs, e.frf, e.hok, e.bare⟩
  have hl := F.len _ _ _ _ hsp
  refine wpAny_call (codeAny_mono (F.run X.A.in1 X.stack s H ⟨[.ref a], []⟩ [.ref a] [.ref a] _ E hr.in1 e0 (by
    have := hb s [.ref a] I.kIn (by simpa using hl)
    simpa using this) (.cons rfl .nil) hsp) fun r s' hq => ?_)
  cases r with
  | error e => exact hx pins σ H s e s' I hq
  | ok fl =>
    cases fl with
    | ret w =>
      obtain ⟨z, H', I', rz, n, ez, hn, q⟩ := I.after hq
      subst ez
      obtain ⟨t, rfl⟩ := rz
      exact ⟨⟨Int.natCast_nonneg n, by omega⟩, .int (n : Int), H', I'.tok _, ⟨_, rfl⟩, q⟩
    | next => exact False.elim hq
    | brk => exact False.elim hq
    | cont => exact False.elim hq
section
variable {P : Program} {w : World} {K : PySem.W.Frag} {mg : Str → Option Value} {base : Heap} {C : Addr}
theorem ok_queM {f : Addr} {fd : FuncData} (F : Fun K "queue" "Line.queue" sQueM f fd) (hT : Nm mg) (T : LnT K mg C) : FnOk P w K mg base CX0 1 f fd ["self"] (spQueM C) := by
  refine F.ok scQueM (fun vs H Q E ⟨L, s, e, _⟩ => by rw [e]; rfl) (fun cdv A outer s H vs Q E hr h => ?_)
  obtain ⟨L, s, rfl, hL, q⟩ := h
  refine ⟨_, pss_one (ps_ret (pe_callTy call_list_of (by rfl) hT.list (by decide +kernel) (pa_cons (pe_fld (pv 0) rfl) pa_nil))), ?_⟩
  obtain ⟨⟨dx, fs, hob, hf⟩, e_pe, e_re, _⟩ := id hL
  exact ⟨.ref L.o, rfl, L.o, C, dx, fs, .ref L.pe, rfl, hob, T.cl, T.n_pe, hf.pe, L.pe, _, rfl, .inl (SqL.of e_pe), fun p np => q p np⟩
theorem ok_leftM {f : Addr} {fd : FuncData} (F : Fun K "left" "Line.left" sLeftM f fd) (hT : Nm mg) (T : LnT K mg C) : FnOk P w K mg base CX0 1 f fd ["self"] (spLeftM C) := by
  refine F.ok scLeftM (fun vs H Q E ⟨L, s, e, _⟩ => by rw [e]; rfl) (fun cdv A outer s H vs Q E hr h => ?_)
  obtain ⟨L, s, rfl, hL, q⟩ := h
  refine ⟨_, pss_one (ps_ret (pe_callTy call_list_of (by rfl) hT.list (by decide +kernel) (pa_cons (pe_fld (pv 0) rfl) pa_nil))), ?_⟩
  obtain ⟨⟨dx, fs, hob, hf⟩, e_pe, e_re, _⟩ := id hL
  exact ⟨.ref L.o, rfl, L.o, C, dx, fs, .ref L.re, rfl, hob, T.cl, T.n_re, hf.re, L.re, _, rfl, .inl (SqL.of e_re), fun p np => q p np⟩
theorem ok_wentM {f : Addr} {fd : FuncData} (F : Fun K "went_past" "Line.went_past" sWentM f fd) (hT : Nm mg) (T : LnT K mg C) (CW : Cal P w K mg base 1 "is_whole" ["thing"] (spOne isWhole)) : FnOk P w K mg base CX0 2 f fd ["self", "person"] (spWentM C) := by
  refine F.ok scWentM (fun vs H Q E ⟨L, s, x, hx, e, _⟩ => by rw [e]; rfl) (fun cdv A outer s H vs Q E hr h => ?_)
  obtain ⟨L, s, x, hx, rfl, hL, q⟩ := h
  refine ⟨_, pss_cons (ps_if (PW.pt (pw_or (pt_not (pt_val (pe_cal CW hr (by rfl) (pa_cons (pv 1) pa_nil)))) (pw_or1 (pt_not (pt_chain op_le op_lt pe_int (pv 1) (pe_callB call_len_seq (by rfl) hT.len PySem.boot_len (pa_cons (pe_fld (pv 0) rfl) pa_nil))))))) (pss_one ps_never) pss_nil)
    (pss_one (ps_ret (pe_ix ix_list (pe_fld (pv 0) rfl) (pv 1) (fun _ _ => rfl)))), ?_⟩
  refine ⟨.int (x : Int), rfl, .int (x : Int), .int (x : Int), rfl, .int _, fun H1 s1 => ⟨true, rfl, ?_⟩⟩
  have hL1 := hL.same s1
  obtain ⟨⟨dx, fs, hob, hf⟩, e_pe, e_re, e_pa, _⟩ := hL1
  refine iteF ⟨.int (x : Int), rfl, 0, (x : Int), rfl, rfl, decide ((0 : Int) ≤ (x : Int)), rfl, ?_⟩
  rw [decide_eq_true (Int.natCast_nonneg x)]
  refine iteT ⟨.ref L.o, rfl, L.o, C, dx, fs, .ref L.pa, rfl, hob, T.cl, T.n_pa, hf.pa, L.pa, _, rfl, .inl (SqL.of e_pa), (x : Int), _, rfl, rfl, decide ((x : Int) < ((ppl s.ps).length : Int)), rfl, ?_⟩
  rw [decide_eq_true (by rw [ppl_len]; omega)]
  refine iteF ⟨.ref L.o, rfl, L.o, C, dx, fs, .ref L.pa, rfl, hob, T.cl, T.n_pa, hf.pa, .int (x : Int), rfl, L.pa, _, (x : Int), _, rfl, rfl, SqL.of e_pa, atI_nat (ppl_get hx), q H1 s1⟩
theorem ok_lenM {f : Addr} {fd : FuncData} (F : Fun K "__len__" "Line.__len__" sLenM f fd) (hT : Nm mg) (T : LnT K mg C) : FnOk P w K mg base CX0 1 f fd ["self"] (spLenM C) := by
  refine F.ok scLenM (fun vs H Q E ⟨L, s, e, _⟩ => by rw [e]; rfl) (fun cdv A outer s H vs Q E hr h => ?_)
  obtain ⟨L, s, rfl, hL, q⟩ := h
  refine ⟨_, pss_one (ps_ret (pe_callB call_len_seq (by rfl) hT.len PySem.boot_len (pa_cons (pe_fld (pv 0) rfl) pa_nil))), ?_⟩
  obtain ⟨⟨dx, fs, hob, hf⟩, e_pe, e_re, _⟩ := id hL
  refine ⟨.ref L.o, rfl, L.o, C, dx, fs, .ref L.pe, rfl, hob, T.cl, T.n_pe, hf.pe, L.pe, _, rfl, .inl (SqL.of e_pe), ?_⟩
  rw [ppl_len]
  exact q
end
end CL
set_option Elab.async false
set_option linter.all false
set_option pp.maxSteps 900
set_option maxRecDepth 100000
set_option maxHeartbeats 4000000
namespace CL
open PySem PySem.Spec PyProof.Rows L2 GE
/-! ### a line that the people of a plan come to -/
def decO (o : Option Int) : Option Int := o.map (· - 1)
theorem goes_spot : ∀ (p spot : Nat) (l : List (Option Int)), spot ≤ p → p ≤ l.length → (∀ (j : Nat) o, spot ≤ j → j < p → l[j]? = some o → o ≠ some 0) → (spot = 0 ∨ ∃ j, spot = j + 1 ∧ l[j]? = some (some 0)) →
    (goes p l).1 = spot ∧ ∀ j : Nat, (goes p l).2[j]? = if spot ≤ j ∧ j < p then (l[j]?).map decO else l[j]?
  | 0, spot, l, h1, h2, h3, h4 => by
    have e : spot = 0 := by omega
    subst e
    exact ⟨rfl, fun j => by rw [if_neg (by omega)]; rfl⟩
  | p + 1, spot, l, h1, h2, h3, h4 => by
    by_cases c : spot = p + 1
    · subst c
      obtain ⟨j, e, hj⟩ : ∃ j, p + 1 = j + 1 ∧ l[j]? = some (some 0) := by
        rcases h4 with h | h
        · omega
        · exact h
      obtain rfl : p = j := by omega
      have eg : goes (p + 1) l = (p + 1, l) := by
        unfold goes
        rw [hj]
        rfl
      rw [eg]
      exact ⟨rfl, fun j => by rw [if_neg (by omega)]⟩
    · have hp : p < l.length := by omega
      obtain ⟨o, ho⟩ : ∃ o, l[p]? = some o := ⟨_, List.getElem?_eq_getElem hp⟩
      have hno := h3 p o (by omega) (by omega) ho
      cases o with
      | none =>
        have eg : goes (p + 1) l = goes p l := by
          conv => lhs; unfold goes
          rw [ho]
        rw [eg]
        obtain ⟨i1, i2⟩ := goes_spot p spot l (by omega) (by omega) (fun j o a b => h3 j o a (by omega)) h4
        refine ⟨i1, fun j => ?_⟩
        rw [i2 j]
        by_cases cj : j = p
        · subst cj
          rw [if_neg (by omega), if_pos (by omega), ho]
          rfl
        · by_cases c2 : spot ≤ j ∧ j < p
          · rw [if_pos c2, if_pos (by omega)]
          · rw [if_neg c2, if_neg (by omega)]
      | some k =>
        have hk : k ≠ 0 := fun z => hno (by rw [z])
        have eg : goes (p + 1) l = goes p (l.set p (some (k - 1))) := by
          conv => lhs; unfold goes
          rw [ho]
          dsimp only
          rw [if_neg hk]
        rw [eg]
        have hs : ∀ j : Nat, (l.set p (some (k - 1)))[j]? = if j = p then some (some (k - 1)) else l[j]? := fun j => by
          rw [List.getElem?_set]
          by_cases cj : p = j
          · rw [if_pos cj, if_pos cj.symm, if_pos (by omega)]
          · rw [if_neg cj, if_neg (fun z => cj z.symm)]
        obtain ⟨i1, i2⟩ := goes_spot p spot (l.set p (some (k - 1))) (by omega) (by rw [List.length_set]; omega) (fun j o a b h => by
          rw [hs j, if_neg (by omega)] at h
          exact h3 j o a (by omega) h) (by
          rcases h4 with h | ⟨j, e, h⟩
          · exact .inl h
          · exact .inr ⟨j, e, by rw [hs j, if_neg (by omega)]; exact h⟩)
        refine ⟨i1, fun j => ?_⟩
        rw [i2 j, hs j]
        by_cases cj : j = p
        · subst cj
          rw [if_neg (by omega), if_pos rfl, if_pos (by omega), ho]
          rfl
        · rw [if_neg cj]
          by_cases c2 : spot ≤ j ∧ j < p
          · rw [if_pos c2, if_pos (by omega)]
          · rw [if_neg c2, if_neg (by omega)]
theorem bump_get : ∀ (ys ps : List Nat), ys.Nodup → (∀ y ∈ ys, y < ps.length) → ∀ x : Nat, (bump ps ys)[x]? = (ps[x]?).map (· + if x ∈ ys then 1 else 0)
  | [], ps, _, _, x => by
    show ps[x]? = _
    cases ps[x]? with
    | none => rfl
    | some c => simp
  | y :: ys, ps, nd, h, x => by
    obtain ⟨n1, n2⟩ := List.nodup_cons.mp nd
    have hy := h y List.mem_cons_self
    show (bump (ps.set y (ps.getD y 0 + 1)) ys)[x]? = _
    rw [bump_get ys _ n2 (fun z hz => by rw [List.length_set]; exact h z (List.mem_cons_of_mem _ hz)), List.getElem?_set]
    by_cases c : y = x
    · subst c
      rw [if_pos rfl, if_pos hy, if_neg n1, if_pos List.mem_cons_self]
      have e : ps.getD y 0 = ps[y] := by
        rw [List.getD_eq_getElem?_getD, List.getElem?_eq_getElem hy]
        rfl
      rw [e, List.getElem?_eq_getElem hy]
      rfl
    · rw [if_neg c]
      have e : (x ∈ y :: ys) = (x ∈ ys) := by
        rw [List.mem_cons]
        exact propext ⟨fun z => z.resolve_left fun e => c e.symm, .inr⟩
      simp only [e]
def up (xs : List Nat) : List Int := xs.map fun (x : Nat) => (x : Int)
theorem up_get (xs : List Nat) (j : Nat) : (up xs)[j]? = (xs[j]?).map fun (x : Nat) => (x : Int) := List.getElem?_map ..
theorem up_mem {xs : List Nat} {x : Nat} : (x : Int) ∈ up xs ↔ x ∈ xs := by
  constructor
  · intro h
    obtain ⟨y, hy, e⟩ := List.mem_map.mp h
    have e : y = x := by exact_mod_cast e
    rw [← e]; exact hy
  · exact fun h => List.mem_map.mpr ⟨x, h, rfl⟩
theorem up_drop (xs : List Nat) (k : Nat) : (up xs).drop k = up (xs.drop k) := by unfold up; rw [List.map_drop]
theorem up_take (xs : List Nat) (k : Nat) : (up xs).take k = up (xs.take k) := by unfold up; rw [List.map_take]
structure LSim (rs : List RowT) (os : List (Option Int)) (m : Nat) (s : LS) : Prop where
  ok : s.Ok
  lp : s.ps.length = m
  nd : s.xs.Nodup
  sim : ∃ past left, Sim rs os m (up s.xs) past left ∧ (∀ x : Nat, x < m → past[x]? = (s.ps[x]?).map fun (c : Nat) => (c : Int)) ∧ ∀ (j x : Nat), s.xs[j]? = some x → left[x]? = s.rs[j]?
theorem LSim.zero {rs : List RowT} {os : List (Option Int)} : LSim rs os 0 LS.nil := by
  refine ⟨nil_ok, rfl, List.nodup_nil, List.replicate os.length 0, os, ⟨rfl, List.length_replicate, rfl, fun p x h => absurd h (by simp [LS.nil, up]), fun x l h => absurd h (by omega), fun x o c h => absurd h (by omega), fun x _ h => by rw [List.getElem?_replicate, if_pos h], fun x _ => rfl⟩, fun x h => absurd h (by omega), fun j x h => absurd h (by simp [LS.nil])⟩
/-- each by an index -/
def byIx {α : Type} (d : α) (l : List α) (g : Nat → α → α) : List α := (List.range l.length).map fun x => g x (l.getD x d)
theorem byIx_len {α : Type} (d : α) (l : List α) (g : Nat → α → α) : (byIx d l g).length = l.length := by unfold byIx; rw [List.length_map, List.length_range]
theorem byIx_get {α : Type} (d : α) (l : List α) (g : Nat → α → α) {x : Nat} {c : α} (h : l[x]? = some c) : (byIx d l g)[x]? = some (g x c) := by
  have hx : x < l.length := (List.getElem?_eq_some_iff.mp h).1
  unfold byIx
  rw [List.getElem?_map, List.getElem?_range hx]
  show some (g x (l.getD x d)) = _
  rw [List.getD_eq_getElem?_getD, h]
  rfl
theorem LSim.next {rs : List RowT} {os : List (Option Int)} {m : Nat} {s : LS} {o : Option Int} (hf : Firsts rs os) (h : LSim rs os m s) (hm : m < os.length) (ho : os[m]? = some o) : LSim rs os (m + 1) (comeS s o) := by
  obtain ⟨past, left, hs, hpast, hleft⟩ := h.sim
  have hps := psR_ok hf.f
  have hlx : s.xs.length = m := by have := hs.lq; unfold up at this; rw [List.length_map] at this; exact this
  have hlr : s.rs.length = m := by rw [← h.ok.len]; exact hlx
  obtain ⟨n, hn, n0, n1⟩ : ∃ n, Uns (psR rs) (m : Int) n ∧ 0 ≤ n ∧ n ≤ m := by
    cases m with
    | zero => exact ⟨0, .here _, by decide, by decide⟩
    | succ m =>
      obtain ⟨n, hn, _⟩ := uns_ex (hf.mo (m := m + 1) (n := m + 1) (by omega) (Nat.le_refl _) (by omega))
      exact ⟨n, hn, cnt_nn hn, by have := cnt_up hps hn; omega⟩
  obtain ⟨spot, hsp⟩ : ∃ spot : Nat, (spot : Int) = (m : Int) - n := ⟨((m : Int) - n).toNat, by omega⟩
  have hspm : spot ≤ m := by omega
  have gx : ∀ {j : Nat}, j < m → ∃ x, s.xs[j]? = some x := fun {j} hj => ⟨_, List.getElem?_eq_getElem (by omega)⟩
  obtain ⟨g1, g2⟩ := goes_spot s.rs.length spot s.rs (by omega) (Nat.le_refl _) (fun j o' a b e => by
    obtain ⟨x, hx⟩ := gx (j := j) (by omega)
    obtain ⟨k, o2, e1, e2, e3⟩ := hs.lets hf (by omega) hn (p := j) (x := (x : Int)) (by rw [up_get, hx]; rfl) (by omega)
    have e4 : x = k := by exact_mod_cast e1
    subst e4
    rw [hleft j x hx, e] at e2
    cases e2
    exact e3) (by
    cases hspot : spot with
    | zero => exact .inl rfl
    | succ j =>
      obtain ⟨x, hx⟩ := gx (j := j) (by omega)
      obtain ⟨⟨k, e1, e2⟩, _⟩ := hs.keeps hf (by omega) hn (p := j) (x := (x : Int)) (by rw [up_get, hx]; rfl) (by omega)
      have e4 : x = k := by exact_mod_cast e1
      subst e4
      exact .inr ⟨j, rfl, by rw [← hleft j x hx]; exact e2⟩)
  have hk : s.k = spot := g1
  have hmid : Mid m (up s.xs) past left spot (byIx 0 past fun x c => c + if (x : Int) ∈ (up s.xs).drop spot then 1 else 0) (byIx none left fun x c => if (x : Int) ∈ (up s.xs).drop spot then c.map (· - 1) else c) :=
    ⟨byIx_len .., byIx_len .., fun x c e => byIx_get 0 past _ e, fun x c e => byIx_get none left _ e⟩
  have hnext := hs.next hf hm hn hsp hmid
  have hlt : ∀ x ∈ s.xs, x < m := fun x hx => by have := h.ok.lt x hx; rw [h.lp] at this; exact this
  have mdrop : ∀ x : Nat, ((x : Int) ∈ (up s.xs).drop spot) = (x ∈ s.xs.drop spot) := fun x => by rw [up_drop]; exact propext up_mem
  have nm : m ∉ s.xs.drop spot := fun z => by have := hlt m (List.mem_of_mem_drop z); omega
  have exs : (comeS s o).xs = s.xs.take spot ++ m :: s.xs.drop spot := by
    show s.xs.take s.k ++ s.ps.length :: s.xs.drop s.k = _
    rw [hk, h.lp]
  have ers : (comeS s o).rs = (goes s.rs.length s.rs).2.take spot ++ o :: (goes s.rs.length s.rs).2.drop spot := by
    show (goes s.rs.length s.rs).2.take s.k ++ o :: (goes s.rs.length s.rs).2.drop s.k = _
    rw [hk]
  have eps : (comeS s o).ps = bump s.ps (s.xs.drop spot) ++ [0] := by
    show bump s.ps (s.xs.drop s.k) ++ [0] = _
    rw [hk]
  have ndd : (s.xs.drop spot).Nodup := h.nd.sublist (List.drop_sublist _ _)
  have hlg : (goes s.rs.length s.rs).2.length = m := by rw [(goes_le _ _).2]; exact hlr
  refine ⟨h.ok.come o, by rw [eps, List.length_append, bump_len, h.lp]; rfl, ?_, (byIx 0 past fun x c => c + if (x : Int) ∈ (up s.xs).drop spot then 1 else 0), (byIx none left fun x c => if (x : Int) ∈ (up s.xs).drop spot then c.map (· - 1) else c), ?_, fun x hx => ?_, fun j x hx => ?_⟩
  · rw [exs]
    have h1 := h.nd
    rw [← List.take_append_drop spot s.xs] at h1
    obtain ⟨a1, a2, a3⟩ := List.nodup_append.mp h1
    refine List.nodup_append.mpr ⟨a1, List.nodup_cons.mpr ⟨nm, a2⟩, fun a ha b hb => ?_⟩
    rcases List.mem_cons.mp hb with rfl | hb
    · intro z
      have := hlt a (List.mem_of_mem_take ha)
      omega
    · exact a3 a ha b hb
  · rw [exs]
    have e : up (s.xs.take spot ++ m :: s.xs.drop spot) = (up s.xs).take spot ++ [(m : Int)] ++ (up s.xs).drop spot := by
      rw [up_take, up_drop]
      unfold up
      rw [List.map_append, List.map_cons, List.append_assoc]
      rfl
    rw [e]
    exact hnext
  · rw [eps]
    by_cases c : x < m
    · rw [List.getElem?_append_left (by rw [bump_len, h.lp]; exact c), bump_get _ _ ndd (fun y hy => h.ok.lt y (List.mem_of_mem_drop hy))]
      obtain ⟨c0, hc0⟩ : ∃ c0, s.ps[x]? = some c0 := ⟨_, List.getElem?_eq_getElem (by rw [h.lp]; exact c)⟩
      have hp := hpast x c
      rw [hc0] at hp
      rw [byIx_get 0 past _ hp, hc0]
      simp only [mdrop]
      show some ((c0 : Int) + _) = some (((c0 + _ : Nat) : Int))
      split <;> simp
    · have e : x = m := by omega
      subst e
      rw [List.getElem?_append_right (by rw [bump_len, h.lp]; exact Nat.le_refl _), bump_len, h.lp, Nat.sub_self, byIx_get 0 past _ (hs.pz x (Nat.le_refl _) hm)]
      simp only [mdrop]
      rw [if_neg nm]
      rfl
  · rw [exs] at hx
    rw [ers]
    have ltk : (s.xs.take spot).length = spot := by rw [List.length_take]; omega
    have ltg : ((goes s.rs.length s.rs).2.take spot).length = spot := by rw [List.length_take]; omega
    by_cases c : j < spot
    · rw [List.getElem?_append_left (by omega)] at hx
      rw [List.getElem?_append_left (by omega), List.getElem?_take_of_lt c, g2 j, if_neg (by omega)]
      rw [List.getElem?_take_of_lt c] at hx
      have hl := hleft j x hx
      obtain ⟨r, hr⟩ : ∃ r, s.rs[j]? = some r := ⟨_, List.getElem?_eq_getElem (by omega)⟩
      rw [hr] at hl
      rw [byIx_get none left _ hl, hr]
      simp only [mdrop]
      rw [if_neg fun z => ?_]
      obtain ⟨i, hi⟩ := List.getElem?_of_mem z
      rw [List.getElem?_drop] at hi
      have h5 := (List.getElem?_eq_some_iff.mp hx)
      have h6 := (List.getElem?_eq_some_iff.mp hi)
      exact List.pairwise_iff_getElem.mp h.nd j (spot + i) h5.1 h6.1 (by omega) (h5.2.trans h6.2.symm)
    · rw [List.getElem?_append_right (by omega), ltk] at hx
      rw [List.getElem?_append_right (by omega), ltg]
      cases e : j - spot with
      | zero =>
        rw [e] at hx
        cases hx
        obtain ⟨r, hr⟩ : ∃ r, left[m]? = some r := ⟨o, by rw [hs.lz m (Nat.le_refl _)]; exact ho⟩
        have hro : r = o := by
          have := hs.lz m (Nat.le_refl _)
          rw [hr, ho] at this
          exact Option.some.inj this
        subst hro
        rw [byIx_get none left _ hr]
        simp only [mdrop]
        rw [if_neg nm]
        rfl
      | succ i =>
        rw [e] at hx
        have hx : (s.xs.drop spot)[i]? = some x := hx
        have hxd := hx
        rw [List.getElem?_drop] at hx
        show _ = ((goes s.rs.length s.rs).2.drop spot)[i]?
        have hji : spot + i < m := by have := (List.getElem?_eq_some_iff.mp hx).1; omega
        rw [List.getElem?_drop, g2 (spot + i), if_pos ⟨by omega, by omega⟩]
        have hl := hleft (spot + i) x hx
        obtain ⟨r, hr⟩ : ∃ r, s.rs[spot + i]? = some r := ⟨_, List.getElem?_eq_getElem (by omega)⟩
        rw [hr] at hl
        rw [byIx_get none left _ hl, hr]
        simp only [mdrop]
        rw [if_pos (List.mem_of_getElem? hxd)]
        rfl
/-- the line when so many of them have come -/
def lsOf (os : List (Option Int)) : Nat → LS
  | 0 => LS.nil
  | m + 1 => comeS (lsOf os m) (os.getD m none)
theorem lsOf_sim {rs : List RowT} {os : List (Option Int)} (hf : Firsts rs os) : ∀ m : Nat, m ≤ os.length → LSim rs os m (lsOf os m)
  | 0, _ => .zero
  | m + 1, h => by
    have ho : os[m]? = some (os.getD m none) := by
      rw [List.getD_eq_getElem?_getD, List.getElem?_eq_getElem (show m < os.length by omega)]
      rfl
    exact (lsOf_sim hf m (by omega)).next hf (by omega) ho
theorem lsOf_lined {os : List (Option Int)} {pat : Nat → Option Int} : ∀ m : Nat, m ≤ os.length → (∀ j : Nat, j < m → os[j]? = some (pat j)) → lined pat m = (up (lsOf os m).xs, (lsOf os m).rs) ∧ (lsOf os m).ps.length = m ∧ (lsOf os m).Ok
  | 0, _, _ => ⟨rfl, rfl, nil_ok⟩
  | m + 1, h, hp => by
    obtain ⟨h1, h2, h3⟩ := lsOf_lined m (by omega) fun j hj => hp j (by omega)
    have ho : os.getD m none = pat m := by
      rw [List.getD_eq_getElem?_getD, hp m (by omega)]
      rfl
    refine ⟨?_, ?_, h3.come _⟩
    · show stand (lined pat m) (m : Int) (pat m) = _
      rw [h1]
      have hl : (up (lsOf os m).xs).length = (lsOf os m).rs.length := by unfold up; rw [List.length_map]; exact h3.len
      unfold stand
      dsimp only
      rw [hl]
      show _ = (up ((lsOf os m).xs.take (lsOf os m).k ++ (lsOf os m).ps.length :: (lsOf os m).xs.drop (lsOf os m).k), (goes (lsOf os m).rs.length (lsOf os m).rs).2.take (lsOf os m).k ++ os.getD m none :: (goes (lsOf os m).rs.length (lsOf os m).rs).2.drop (lsOf os m).k)
      rw [ho, h2, up_take, up_drop]
      unfold up
      rw [List.map_append, List.map_cons, List.append_assoc, List.append_assoc]
      rfl
    · show (bump (lsOf os m).ps _ ++ [0]).length = _
      rw [List.length_append, bump_len, h2]
      rfl
end CL
set_option Elab.async false
set_option linter.all false
set_option pp.maxSteps 900
set_option maxRecDepth 100000
set_option maxHeartbeats 4000000
namespace CL
open PySem PySem.Spec PyProof.Rows L2 GE
theorem rp_opt {H : Hp} {v : V} {o : Option Int} (h : Rp H v (pdO o)) : v = optV o := by
  cases o with
  | none => cases h; rfl
  | some i => cases h; rfl
theorem rp_opts {H : Hp} : ∀ {os : List (Option Int)} {zs : List V}, RpAll H zs (os.map pdO) → zs = os.map optV
  | [], _, .nil => rfl
  | o :: os, _, .cons h t => by rw [rp_opts t, rp_opt h]; rfl
theorem opts_rp {H : Hp} : ∀ os : List (Option Int), RpAll H (os.map optV) (os.map pdO)
  | [] => .nil
  | o :: os => .cons (by cases o <;> constructor) (opts_rp os)
theorem tup_row {H : Hp} {v : V} {os : List (Option Int)} {m : PyData} (h : Rp H v (rowD (os, m))) : ∃ b t vm, v = .ref b ∧ H b = some (.tup [.ref t, vm]) ∧ H t = some (.lst (os.map optV)) ∧ Rp H vm m := by
  cases h with
  | @tup b xs _ hb hxs =>
    cases hxs with
    | @cons vt _ _ _ ht hxs2 =>
      cases hxs2 with
      | @cons vm _ _ _ hm hxs3 =>
        cases hxs3
        cases ht with
        | @lst a ys _ ha hys =>
          exact ⟨b, a, vm, rfl, hb, by rw [← rp_opts hys]; exact ha, hm⟩
theorem row_tup {H : Hp} {b t : Addr} {vm : V} {os : List (Option Int)} {m : PyData} (hb : H b = some (.tup [.ref t, vm])) (ht : H t = some (.lst (os.map optV))) (hm : Rp H vm m) : Rp H (.ref b) (rowD (os, m)) := .tup hb (.cons (.lst ht (opts_rp os)) (.cons hm .nil))
/-- a list of rows that grows, or is told anew -/
structure Gw (r pf : Addr) (H H2 : Hp) (fvs : List V) (L : List RowT) : Prop where
  re : ReelAt H2 r
  mv : Mv r H H2
  ne : pf ≠ r
  n0 : H pf = none
  e : H2 pf = some (.lst fvs)
  rp : RpAll (Hw (fun b => b = r ∨ b = pf) H2) fvs (L.map rowD)
section
variable {r pf : Addr} {H H2 H3 : Hp} {fvs : List V} {L : List RowT}
theorem Gw.len (T : Gw r pf H H2 fvs L) : fvs.length = L.length := by have := T.rp.length; rw [List.length_map] at this; exact this
theorem Gw.mvs (T : Gw r pf H H2 fvs L) (re : ReelAt H3 r) (m : Mv r H2 H3) : Gw r pf H H3 fvs L :=
  ⟨re, T.mv.trans m, T.ne, T.n0, m.keep pf _ T.ne T.e, RpAll.sm (m.hw (W := fun b => b = r ∨ b = pf) (.inl rfl)) T.rp⟩
theorem Gw.sm (T : Gw r pf H H2 fvs L) (s : Same H2 H3) : Gw r pf H H3 fvs L := T.mvs (T.re.same s) (Mv.of s)
theorem Gw.out (T : Gw r pf H H2 fvs L) {b : Addr} (n : H2 b = none) : ¬ (b = r ∨ b = pf) := fun z => z.elim (T.re.new n) fun z => by rw [z, T.e] at n; cases n
theorem Gw.of (T : Gw r pf H H2 fvs L) {b : Addr} {o : HO} (h : Hw (fun b => b = r) H b = some o) : Hw (fun b => b = r ∨ b = pf) H2 b = some o := by
  have nb := Hw.ne h
  have h' := Hw.sub _ H _ _ h
  rw [Hw.at (W := fun b => b = r ∨ b = pf) fun z => z.elim nb fun z => by rw [z, T.n0] at h'; cases h']
  exact T.mv.keep b o nb h'
theorem Gw.push (T : Gw r pf H H2 fvs L) {v : V} {row : RowT} (h : Rp (Hw (fun b => b = r ∨ b = pf) H2) v (rowD row)) : Gw r pf H (upd H2 pf (.lst (fvs ++ [v]))) (fvs ++ [v]) (L ++ [row]) :=
  ⟨T.re.store T.ne, T.mv.upd T.n0, T.ne, T.n0, upd_same, by
    rw [hw_upd (W := fun b => b = r ∨ b = pf) (a := pf) (.inr rfl), List.map_append]
    exact T.rp.snoc h⟩
theorem Gw.swap (T : Gw r pf H H2 fvs L) {q : Addr} (nq : H2 q = none) {vs : List V} {rows : List RowT} (h : RpAll (Hw (fun b => b = r ∨ b = pf) H2) vs (rows.map rowD)) : Gw r q H (upd H2 q (.lst (fvs ++ vs))) (fvs ++ vs) (L ++ rows) := by
  have fr := T.re.new nq
  have n0 : H q = none := by
    cases z : H q with
    | none => rfl
    | some o =>
      rw [T.mv.keep q o fr z] at nq
      cases nq
  refine ⟨T.re.store fr, T.mv.upd n0, fr, n0, upd_same, ?_⟩
  rw [hw_upd (W := fun b => b = r ∨ b = q) (a := q) (.inr rfl), List.map_append]
  exact RpAll.sm (Hw.more (W := fun b => b = r ∨ b = pf) (W' := fun b => b = r ∨ b = q) fun b hb => hb.elim (fun z => .inl (.inl z)) fun z => .inr (by rw [z]; exact nq)) (T.rp.append h)
end
theorem pick2o {a b x : Int} (h0 : 0 ≤ x) (h1 : x < 2) : ∃ z, atI [V.int a, .int b] x = some (.int z) ∧ (z = a ∨ z = b) := by
  have hh : x = 0 ∨ x = 1 := by omega
  rcases hh with z | z <;> rw [z]
  · exact ⟨a, atI_nat (j := 0) rfl, .inl rfl⟩
  · exact ⟨b, atI_nat (j := 1) rfl, .inr rfl⟩
theorem seqE {te : TE} {σ : L2.St} {H : Hp} {Q : VK} (R : V → Hp → Prop) (hA : ∀ Q' : VK, (∀ v H', R v H' → Q' v H') → te σ H Q') (hB : ∀ v H', R v H' → Q v H') : te σ H Q := hA Q hB
theorem pick3o {a b c : Int} {x : Int} (h0 : 0 ≤ x) (h1 : x < 3) : ∃ z, atI [V.int a, .int b, .int c] x = some (.int z) ∧ (z = a ∨ z = b ∨ z = c) := by
  have hh : x = 0 ∨ x = 1 ∨ x = 2 := by omega
  rcases hh with z | z | z <;> rw [z]
  · exact ⟨a, atI_nat (j := 0) rfl, .inl rfl⟩
  · exact ⟨b, atI_nat (j := 1) rfl, .inr (.inl rfl)⟩
  · exact ⟨c, atI_nat (j := 2) rfl, .inr (.inr rfl)⟩
end CL
set_option Elab.async false
set_option linter.all false
set_option pp.maxSteps 900
set_option maxRecDepth 100000
set_option maxHeartbeats 4000000
namespace CL
open PySem PySem.Spec PyProof.Rows L2 GE
def pcsR : Int → List RowT → List PieceT
  | _, [] => []
  | f, x :: rs => (f, pastO f x.2, x.1.map pdO) :: pcsR (f + worth x.2) rs
theorem pcs_rows : ∀ (f : Int) (rs : List RowT), pcs f (rs.map rowD) = pcsR f rs
  | _, [] => rfl
  | f, x :: rs => by
    show (f, pastO f x.2, x.1.map pdO) :: pcs (f + worth x.2) (rs.map rowD) = _
    rw [pcs_rows]
    rfl
theorem psR_pcs (rs : List RowT) : psR rs = pcsR 0 rs := pcs_rows 0 rs
/-! ### whose patience comes by rows -/
def inRow (x : RowT) (n : Int) : Bool := match x.2 with
  | .int m => decide (n < m)
  | _ => true
def dueR : List RowT → Int → Option PyData
  | [], _ => none
  | x :: rs, n => if inRow x n = true then (x.1.map pdO)[(n % (x.1.length : Int)).toNat]? else dueR rs (n - worth x.2)
theorem comes_row (n f : Int) (x : RowT) : comes n (f, pastO f x.2, x.1.map pdO) = inRow x (n - f) := by
  unfold comes inRow
  cases x.2 with
  | int m =>
    show decide (n < f + m) = decide (n - f < m)
    exact decide_eq_decide.mpr ⟨fun h => by omega, fun h => by omega⟩
  | _ => rfl
theorem due_find (n : Int) : ∀ (f : Int) (rs : List RowT), dueR rs (n - f) = ((pcsR f rs).find? (comes n)).bind fun pc => pc.2.2[((n - pc.1) % (pc.2.2.length : Int)).toNat]?
  | _, [] => rfl
  | f, x :: rs => by
    show (if inRow x (n - f) = true then (x.1.map pdO)[((n - f) % (x.1.length : Int)).toNat]? else dueR rs (n - f - worth x.2)) = ((List.find? (comes n) ((f, pastO f x.2, x.1.map pdO) :: pcsR (f + worth x.2) rs)).bind _)
    rw [List.find?_cons, comes_row]
    cases h : inRow x (n - f) with
    | true =>
      show _ = (x.1.map pdO)[((n - f) % ((x.1.map pdO).length : Int)).toNat]?
      rw [List.length_map]
      rfl
    | false =>
      rw [if_neg Bool.false_ne_true, show n - f - worth x.2 = n - (f + worth x.2) by omega]
      exact due_find n (f + worth x.2) rs
theorem pt_due {rs : List RowT} {n : Int} {t : PyData} : Pt (psR rs) n t ↔ dueR rs n = some t := by
  have e := due_find n 0 rs
  rw [Int.sub_zero] at e
  rw [psR_pcs, e]
  constructor
  · rintro ⟨pp, h1, h2⟩
    rw [h1]
    exact h2
  · intro h
    obtain ⟨pp, h1, h2⟩ := Option.bind_eq_some_iff.mp h
    exact ⟨pp, h1, h2⟩
theorem due_cons (x : RowT) (B : List RowT) (n : Int) : dueR (x :: B) n = if inRow x n = true then (x.1.map pdO)[(n % (x.1.length : Int)).toNat]? else dueR B (n - worth x.2) := rfl
theorem in_int (t : List (Option Int)) (m n : Int) : inRow (t, .int m) n = decide (n < m) := rfl
end CL
set_option Elab.async false
set_option linter.all false
set_option pp.maxSteps 900
set_option maxRecDepth 100000
set_option maxHeartbeats 2000000
namespace CL
open PySem PySem.Spec PyProof.Rows L2 GE
abbrev sPatB : Stmt := topS 60
abbrev sPlanB : Stmt := topS 61
abbrev nPatB : List Str := ["bag", "most"]
theorem scPatB : FnScope nPatB ["bag", "most"] (defScope sPatB) := ⟨rfl, rfl, rfl, by decide +kernel, rfl, by decide +kernel, by decide +kernel⟩
abbrev nPlanB : List Str := ["bag", "found", "people", "many", "k", "patiences", "spot", "at"]
theorem scPlanB : FnScope nPlanB ["bag"] (defScope sPlanB) := ⟨rfl, rfl, rfl, by decide +kernel, rfl, by decide +kernel, by decide +kernel⟩
theorem ix_blk {X : Cx} {s : Shared} {H : Hp} {scope : Scope} {cenv : Env} {fp : List Addr} : IxR (X.blk s H scope cenv fp) (rIxL X.K) := ix_list
theorem ixT_blk {X : Cx} {s : Shared} {H : Hp} {scope : Scope} {cenv : Env} {fp : List Addr} : IxR (X.blk s H scope cenv fp) (rIxT X.K) := ix_tup
theorem len_blk {X : Cx} {s : Shared} {H : Hp} {scope : Scope} {cenv : Env} {fp : List Addr} : CallR (X.blk s H scope cenv fp) (.builtin "len") (fun xs H Q => ∃ p ys, xs = [.ref p] ∧ (SqL X.K H p ys ∨ SqT X.K H p ys) ∧ Q (.int ys.length) H) := call_len_seq
theorem set_c {v : V} {i : Nat} {B : TS} {D : Ends} {σ : L2.St} {H : Hp} (h : B D (σ.set i (some v)) H) : tSeq (tAsg (tC v) (gName i)) B D σ H := h
theorem p30B : (10 : Int) ^ (30 : Int).toNat = 1000000000000000000000000000000 := by decide +kernel
theorem t140B : (2 : Int) ^ 140 = 1393796574908163946345982392040522594123776 := by decide +kernel
/-! ### the bag, seen as some list -/
theorem bag_reel {n : Nat} {H : Hp} {r : BG.Bg} (h : BG.BagAt n H r) : ReelAt H r.a := by
  obtain ⟨ns, i, b, k, t, er, _⟩ := h
  exact ⟨_, (), (), er, trivial⟩
theorem bag_mv {H H' : Hp} {r : BG.Bg} (m : BG.Mv r H H') : Mv r.a H H' := ⟨m.keep⟩
/-! ### the first people of a plan -/
def cyc (os : List (Option Int)) (a k : Nat) : List (Option Int) := (List.range k).map fun i => os.getD ((a + i) % os.length) none
theorem cyc_len (os : List (Option Int)) (a k : Nat) : (cyc os a k).length = k := by unfold cyc; rw [List.length_map, List.length_range]
theorem cyc_get {os : List (Option Int)} {a k x : Nat} {o : Option Int} (h0 : 1 ≤ os.length) (h : (cyc os a k)[x]? = some o) : x < k ∧ os[(a + x) % os.length]? = some o := by
  have hx : x < k := by have := (List.getElem?_eq_some_iff.mp h).1; rwa [cyc_len] at this
  refine ⟨hx, ?_⟩
  unfold cyc at h
  rw [List.getElem?_map, List.getElem?_range hx] at h
  have h : os.getD ((a + x) % os.length) none = o := Option.some.inj h
  have hl : (a + x) % os.length < os.length := Nat.mod_lt _ (by omega)
  rw [List.getElem?_eq_getElem hl]
  rw [List.getD_eq_getElem?_getD, List.getElem?_eq_getElem hl] at h
  rw [← h]
  rfl
theorem cyc_append (os : List (Option Int)) (k j : Nat) : cyc os 0 k ++ cyc os k j = cyc os 0 (k + j) := by
  unfold cyc
  rw [List.range_add, List.map_append, List.map_map]
  congr 1
  refine List.map_congr_left fun i _ => ?_
  show os.getD ((k + i) % os.length) none = os.getD ((0 + (k + i)) % os.length) none
  rw [Nat.zero_add]
def peopleOf (L : List RowT) : List (Option Int) := (L.map fun x => cyc x.1 0 (worth x.2).toNat).flatten
theorem peopleOf_snoc (L : List RowT) (x : RowT) : peopleOf (L ++ [x]) = peopleOf L ++ cyc x.1 0 (worth x.2).toNat := by
  unfold peopleOf
  rw [List.map_append, List.flatten_append]
  simp
/-- so many people there are by rows that end -/
structure Few (L : List RowT) : Prop where
  row : ∀ x ∈ L, GoodRow x ∧ ∃ m : Int, x.2 = .int m ∧ 0 ≤ m ∧ m < 30
theorem few_len : ∀ {L : List RowT}, Few L → ((peopleOf L).length : Int) = sumW L ∧ sumW L ≤ 30 * L.length
  | [], _ => ⟨rfl, by show (0 : Int) ≤ _; simp⟩
  | x :: L, h => by
    obtain ⟨i1, i2⟩ := few_len (L := L) ⟨fun y hy => h.row y (List.mem_cons_of_mem _ hy)⟩
    obtain ⟨_, m, hm, m0, m1⟩ := h.row x List.mem_cons_self
    have e1 : sumW (x :: L) = m + sumW L := by
      unfold sumW
      rw [List.map_cons, List.sum_cons, hm]
      rfl
    have e2 : (peopleOf (x :: L)).length = m.toNat + (peopleOf L).length := by
      unfold peopleOf
      rw [List.map_cons, List.flatten_cons, List.length_append, cyc_len, hm]
      rfl
    rw [e1, e2, List.length_cons]
    push_cast
    omega
theorem due_app : ∀ {L : List RowT}, Few L → ∀ (B : List RowT) (x : Int), 0 ≤ x → dueR (L ++ B) x = if x < sumW L then dueR L x else dueR B (x - sumW L)
  | [], _, B, x, h0 => by
    show dueR B x = if x < 0 then _ else dueR B (x - 0)
    rw [if_neg (by omega), Int.sub_zero]
  | r :: L, h, B, x, h0 => by
    obtain ⟨_, m, hm, m0, m1⟩ := h.row r List.mem_cons_self
    obtain ⟨os, m'⟩ := r
    dsimp only at hm
    subst hm
    have hF : Few L := ⟨fun y hy => h.row y (List.mem_cons_of_mem _ hy)⟩
    have e1 : sumW ((os, PyData.int m) :: L) = m + sumW L := by
      unfold sumW
      rw [List.map_cons, List.sum_cons]
      rfl
    have nn : 0 ≤ sumW L := sumW_nn fun y hy => (hF.row y hy).1.many
    rw [e1, List.cons_append, due_cons, due_cons, in_int]
    by_cases c : x < m
    · rw [if_pos (decide_eq_true c), if_pos (by omega), if_pos (decide_eq_true c)]
    · have cd : ¬ decide (x < m) = true := by rw [decide_eq_true_eq]; exact c
      rw [if_neg cd, if_neg cd]
      show dueR (L ++ B) (x - m) = if x < m + sumW L then dueR L (x - m) else _
      rw [due_app hF B (x - m) (by omega)]
      by_cases c2 : x - m < sumW L
      · rw [if_pos c2, if_pos (by omega)]
      · rw [if_neg c2, if_neg (by omega), show x - m - sumW L = x - (m + sumW L) by omega]
theorem cyc_due {os : List (Option Int)} {k x : Nat} {o : Option Int} (h0 : 1 ≤ os.length) (h : (cyc os 0 k)[x]? = some o) : (os.map pdO)[((x : Int) % (os.length : Int)).toNat]? = some (pdO o) := by
  have h2 := (cyc_get h0 h).2
  rw [Nat.zero_add] at h2
  rw [List.getElem?_map, show ((x : Int) % (os.length : Int)).toNat = x % os.length by omega, h2]
  rfl
theorem people_due : ∀ {L : List RowT}, Few L → ∀ (x : Nat) o, (peopleOf L)[x]? = some o → dueR L (x : Int) = some (pdO o)
  | [], _, x, o, h => by cases h
  | r :: L, h, x, o, hx => by
    obtain ⟨g, m, hm, m0, m1⟩ := h.row r List.mem_cons_self
    obtain ⟨os, m'⟩ := r
    dsimp only at hm
    subst hm
    have hF : Few L := ⟨fun y hy => h.row y (List.mem_cons_of_mem _ hy)⟩
    have e2 : peopleOf ((os, PyData.int m) :: L) = cyc os 0 m.toNat ++ peopleOf L := rfl
    rw [e2] at hx
    rw [due_cons, in_int]
    by_cases c : (x : Int) < m
    · rw [if_pos (decide_eq_true c)]
      rw [List.getElem?_append_left (by rw [cyc_len]; omega)] at hx
      exact cyc_due g.lo hx
    · rw [if_neg (by rw [decide_eq_true_eq]; exact c)]
      rw [List.getElem?_append_right (by rw [cyc_len]; omega), cyc_len] at hx
      show dueR L ((x : Int) - m) = _
      rw [show (x : Int) - m = ((x - m.toNat : Nat) : Int) by omega]
      exact people_due hF _ _ hx
/-- what is told of a plan's first people -/
structure PplOk (L : List RowT) (os : List (Option Int)) : Prop where
  f : Fine L
  pt : ∀ (x : Nat) o, os[x]? = some o → dueR L (x : Int) = some (pdO o)
  du : ∀ s, dueO L = some s → (os.length : Int) ≤ s
  hi : os.length ≤ 300
theorem PplOk.firsts {L : List RowT} {os : List (Option Int)} (h : PplOk L os) (k : Nat) : Firsts L (os.take k) :=
  ⟨h.f, fun x o e => pt_due.mpr (h.pt x o (by
    have hx : x < k := by have := (List.getElem?_eq_some_iff.mp e).1; rw [List.length_take] at this; omega
    rwa [List.getElem?_take_of_lt hx] at e)), fun s e => by have := h.du s e; rw [List.length_take]; omega, by have := h.hi; rw [List.length_take]; omega⟩
theorem few_fine {L : List RowT} (h : Few L) (l1 : 1 ≤ L.length) (l8 : L.length ≤ 5) : Fine L :=
  ⟨l1, by omega, fun x hx => (h.row x hx).1, fun x hx => by
    obtain ⟨_, m, hm, _⟩ := h.row x (List.mem_of_mem_take hx)
    rw [hm]
    rfl, by
    have := (few_len h).2
    have G30 : GREAT = 1000000000000000000000000000000 := rfl
    omega⟩
theorem few_ok {L : List RowT} (h : Few L) (l1 : 1 ≤ L.length) (l8 : L.length ≤ 5) : PplOk L (peopleOf L) := by
  obtain ⟨h1, h2⟩ := few_len h
  refine ⟨few_fine h l1 l8, people_due h, fun s e => ?_, by omega⟩
  have := (rows_last (few_fine h l1 l8)).2 s e
  omega
theorem endless_ok {L : List RowT} {os : List (Option Int)} {m : Int} (h : Few (L ++ [(os, .int m)])) (l8 : L.length + 1 ≤ 5) : PplOk (L ++ [(os, .none)]) (peopleOf (L ++ [(os, .int m)]) ++ cyc os m.toNat 70) := by
  obtain ⟨g, m', hm, m0, m1⟩ := h.row (os, .int m) (List.mem_append_right _ List.mem_cons_self)
  cases hm
  have hL : Few L := ⟨fun x hx => h.row x (List.mem_append_left _ hx)⟩
  obtain ⟨h1, h2⟩ := few_len h
  obtain ⟨h3, h4⟩ := few_len hL
  have nn : 0 ≤ sumW L := sumW_nn fun y hy => (hL.row y hy).1.many
  rw [List.length_append, List.length_singleton] at h2
  have eS : sumW (L ++ [(os, PyData.none)]) = sumW L := by
    unfold sumW
    rw [List.map_append, List.sum_append]
    show _ + (worth PyData.none + 0) = _
    show _ + (0 + 0) = _
    omega
  refine ⟨⟨by rw [List.length_append, List.length_singleton]; omega, by rw [List.length_append, List.length_singleton]; omega, fun x hx => ?_, fun x hx => ?_, ?_⟩, fun x o hx => ?_, fun s e => ?_, by rw [List.length_append, cyc_len]; omega⟩
  · rcases List.mem_append.mp hx with hx | hx
    · exact (hL.row x hx).1
    · rw [List.mem_singleton.mp hx]
      exact ⟨g.lo, g.hi, g.pat, rfl⟩
  · rw [List.length_append, List.length_singleton, Nat.add_sub_cancel, List.take_left] at hx
    obtain ⟨_, k, hk, _⟩ := hL.row x hx
    rw [hk]
    rfl
  · rw [eS]
    have G30 : GREAT = 1000000000000000000000000000000 := rfl
    omega
  · rw [peopleOf_snoc, List.append_assoc] at hx
    have e0 : worth (PyData.int m) = m := rfl
    dsimp only at hx
    rw [e0, cyc_append] at hx
    rw [due_app hL _ _ (by omega)]
    by_cases c : (x : Int) < sumW L
    · rw [if_pos c]
      rw [List.getElem?_append_left (by omega)] at hx
      exact people_due hL x o hx
    · rw [if_neg c]
      rw [List.getElem?_append_right (by omega)] at hx
      show (os.map pdO)[(((x : Int) - sumW L) % (os.length : Int)).toNat]? = _
      rw [show (x : Int) - sumW L = ((x - (peopleOf L).length : Nat) : Int) by omega]
      exact cyc_due g.lo hx
  · exfalso
    unfold dueO at e
    have : (szs (L ++ [(os, PyData.none)])).any (·.isNone) = true := by
      unfold szs
      rw [List.map_append, List.any_append]
      show (_ || (Option.isNone (none : Option Int) || false)) = true
      simp
    rw [this] at e
    cases e
def spPatB (r : BG.Bg) : Sp := fun vs H Q _ => ∃ (m : Int) (n : Nat), vs = [.ref r.a, .int m] ∧ BG.BagAt n H r ∧ n + 10 < BG.M60 ∧ 0 ≤ m ∧ m ≤ GREAT ∧ ∀ o H', BG.BagAt (n + 4) H' r → BG.Mv r H H' → goodO o → Q (optV o) H'
def spPlanB (r : BG.Bg) : Sp := fun vs H Q _ => ∃ n : Nat, vs = [.ref r.a] ∧ BG.BagAt n H r ∧ n + 1000 < BG.M60 ∧ ∀ t p q L os H', BG.BagAt (n + 500) H' r → BG.Mv r H H' → H' t = some (.lst [.ref p, .ref q]) → Rp (Hw (fun b => b = r.a) H') (.ref p) (.list (L.map rowD)) → H' q = some (.lst (os.map optV)) → q ≠ r.a → Firsts L os → os.length ≤ 70 → Q (.ref t) H'
section
variable {P : Program} {w : World} {K : PySem.W.Frag} {mg : Str → Option Value} {base : Heap}
theorem ok_patB {f : Addr} {r : BG.Bg} {fd : FuncData} (F : Fun K "_law_patience" "_law_patience" sPatB f fd) (CD : Cal P w K mg base 2 "_law_draw" ["bag", "many"] (BG.spDraw r)) : FnOk P w K mg base CX0 3 f fd ["bag", "most"] (spPatB r) := by
  refine F.ok scPatB (fun vs H Q E ⟨m, n, e, _⟩ => by rw [e]; rfl) (fun cdv A outer s H vs Q E hr h => ?_)
  obtain ⟨m, n, rfl, re, hn, m0, m1, q⟩ := h
  have nd := scPatB.nd
  have G30 : GREAT = 1000000000000000000000000000000 := rfl
  have M6 : BG.M60 = 1000000000000000000 := rfl
  refine ⟨_, (pss_one (ps_ret (pe_ix ix_list (pe_lst (pa_cons (pe_cal (CD.mono (by decide)) hr (by rfl) (pa_cons (pv 0) (pa_cons pe_int pa_nil))) (pa_cons (pe_cal (CD.mono (by decide)) hr (by rfl) (pa_cons (pv 0) (pa_cons pe_int pa_nil))) (pa_cons (pe_cal (CD.mono (by decide)) hr (by rfl) (pa_cons (pv 0) (pa_cons (pe_op op_add (pv 1) pe_int) pa_nil))) (pa_cons pe_non pa_nil))))) (pe_cal (CD.mono (by decide)) hr (by rfl) (pa_cons (pv 0) (pa_cons pe_int pa_nil))) (fun _ _ => rfl)))), ?_⟩
  refine ⟨.ref r.a, rfl, 3, n, rfl, re, by omega, by decide, by decide, fun x1 H1 re1 v1 a1 b1 => ?_⟩
  refine ⟨.ref r.a, rfl, 3, n + 1, rfl, re1, by omega, by decide, by decide, fun x2 H2 re2 v2 a2 b2 => ?_⟩
  refine ⟨.ref r.a, rfl, .int m, rfl, m, 1, rfl, rfl, m + 1, n + 1 + 1, rfl, re2, by omega, by omega, by rw [t140B]; omega, fun x3 H3 re3 v3 a3 b3 => ?_⟩
  refine ⟨small_le (by show 4 ≤ 1000; decide), fun L nL => ?_⟩
  have s4 := same_upd (o := .lst [.int x1, .int x2, .int x3, .non]) nL
  have e4 : (upd H3 L (.lst [.int x1, .int x2, .int x3, .non])) L = some (.lst ([some x1, some x2, some x3, none].map optV)) := upd_same
  have Lr := (re3.new nL).a
  have re4 := re3.same s4
  generalize upd H3 L (.lst [.int x1, .int x2, .int x3, .non]) = H4 at s4 e4 re4 ⊢
  refine ⟨.ref r.a, rfl, 4, n + 1 + 1 + 1, rfl, re4, by omega, by decide, by decide, fun z H5 re5 v5 z0 z1 => ?_⟩
  obtain ⟨zn, rfl⟩ : ∃ zn : Nat, z = (zn : Int) := ⟨z.toNat, by omega⟩
  have hall : ∀ o ∈ ([some x1, some x2, some x3, none] : List (Option Int)), goodO o := by
    intro o ho
    simp only [List.mem_cons, List.not_mem_nil, or_false] at ho
    rcases ho with rfl | rfl | rfl | rfl
    · exact ⟨a1, by omega⟩
    · exact ⟨a2, by omega⟩
    · exact ⟨a3, by omega⟩
    · trivial
  obtain ⟨o, ho⟩ : ∃ o, ([some x1, some x2, some x3, none] : List (Option Int))[zn]? = some o := ⟨_, List.getElem?_eq_getElem (by show zn < 4; omega)⟩
  refine ⟨L, _, (zn : Int), optV o, rfl, rfl, SqL.of (v5.keep _ _ Lr e4), atI_nat (by rw [List.getElem?_map, ho]; rfl), ?_⟩
  exact q o H5 re5 ((v1.trans v2).trans (v3.trans ((BG.Mv.of s4).trans v5))) (hall o (List.mem_of_getElem? ho))
theorem ok_planB {f : Addr} {r : BG.Bg} {fd : FuncData} (F : Fun K "_law_plan" "_law_plan" sPlanB f fd) (T : Nm mg) (T2 : Nm2 mg) (CD : Cal P w K mg base 2 "_law_draw" ["bag", "many"] (BG.spDraw r)) (CP : Cal P w K mg base 3 "_law_patience" ["bag", "most"] (spPatB r)) : FnOk P w K mg base CX0 4 f fd ["bag"] (spPlanB r) := by
  refine F.ok scPlanB (fun vs H Q E ⟨n, e, _⟩ => by rw [e]; rfl) (fun cdv A outer s H vs Q E hr h => ?_)
  obtain ⟨n, rfl, re, hn, q⟩ := h
  have nd := scPlanB.nd
  have M6 : BG.M60 = 1000000000000000000 := rfl
  have G30 : GREAT = 1000000000000000000000000000000 := rfl
  refine ⟨_, (pss_cons (ps_set (i := 1) nd rfl (.inr rfl) (pe_lst pa_nil))
      (pss_cons (ps_set (i := 2) nd rfl (.inl rfl) (pe_lst pa_nil))
      (pss_cons (ps_set (i := 3) nd rfl (.inr rfl) pe_int)
      (pss_cons (ps_for PassesOwn.never rfl (pi_range1 (by rfl) T2.range (pa_cons (pe_op op_add pe_int (pe_cal (CD.mono (by decide)) hr (by rfl) (pa_cons (pv 0) (pa_cons pe_int pa_nil)))) pa_nil)) (pg_name (i := 4) nd rfl (.inl rfl)) (pss_cons (ps_set (i := 5) nd rfl (.inr rfl) (pe_lc (own := [("spot", 6)]) (g := (gName 6)) (tt := tYes) rfl nd (pi_range1 (by rfl) T2.range (pa_cons (pe_op op_add pe_int (pe_cal (CD.mono (by decide)) hr (by rfl) (pa_cons (pv 0) (pa_cons pe_int pa_nil)))) pa_nil)) (blkOk_by (own := [("spot", 6)]) (N := nPlanB) (sc := (defScope sPlanB)) (by decide +kernel)) (fun _ _ _ _ _ => (pg_name (i := 6) nd rfl (.inl rfl))) (fun _ _ _ _ _ => pts_nil) (fun _ _ _ _ _ => (pe_cal (CP.mono (by decide)) hr (by rfl) (pa_cons (pv 0) (pa_cons (pe_ix ix_blk (pe_lst (pa_cons pe_int (pa_cons pe_int (pa_cons (pe_op op_pow pe_int pe_int) pa_nil)))) (pe_cal (CD.mono (by decide)) hr (by rfl) (pa_cons (pv 0) (pa_cons pe_int pa_nil))) (fun _ _ => rfl)) pa_nil))))))
      (pss_cons (ps_set (i := 3) nd rfl (.inr rfl) (pe_cal (CD.mono (by decide)) hr (by rfl) (pa_cons (pv 0) (pa_cons pe_int pa_nil))))
      (pss_cons (ps_expr (pe_bm PySem.F.plainAttrs_list PySem.F.slot_list_append PySem.F.type_list_append mt_append (pv 1) (pa_cons (pe_tup (pa_cons (pv 5) (pa_cons (pv 3) pa_nil))) pa_nil)))
      (pss_one (ps_set (i := 2) nd rfl (.inl rfl) (pe_op op_cat (pv 2) (pe_lc (own := [("at", 7)]) (g := (gName 7)) (tt := tYes) rfl nd (pi_range1 (by rfl) T2.range (pa_cons (pv 3) pa_nil)) (blkOk_by (own := [("at", 7)]) (N := nPlanB) (sc := (defScope sPlanB)) (by decide +kernel)) (fun _ _ _ _ _ => (pg_name (i := 7) nd rfl (.inl rfl))) (fun _ _ _ _ _ => pts_nil) (fun _ _ _ _ _ => (pe_ix ix_blk (pv 5) (pe_op op_mod (pv 7) (pe_callB len_blk (by rfl) T.len PySem.boot_len (pa_cons (pv 5) pa_nil))) (fun _ _ => rfl)))))))))))
      (pss_cons (ps_if (pt_cmpR op_eq (pe_cal (CD.mono (by decide)) hr (by rfl) (pa_cons (pv 0) (pa_cons pe_int pa_nil))) pe_int (nomark _)) (pss_cons (ps_asg (pe_tup (pa_cons (pe_ix ix_tup (pe_ix ix_list (pv 1) (pe_un un_neg pe_int) (fun _ _ => rfl)) pe_int (fun _ _ => rfl)) (pa_cons pe_non pa_nil))) (pg_sub (pv 1) (pe_un un_neg pe_int) set_list))
      (pss_one (ps_set (i := 2) nd rfl (.inl rfl) (pe_op op_cat (pv 2) (pe_lc (own := [("at", 7)]) (g := (gName 7)) (tt := tYes) rfl nd (pi_range1 (by rfl) T2.range (pa_cons pe_int pa_nil)) (blkOk_by (own := [("at", 7)]) (N := nPlanB) (sc := (defScope sPlanB)) (by decide +kernel)) (fun _ _ _ _ _ => (pg_name (i := 7) nd rfl (.inl rfl))) (fun _ _ _ _ _ => pts_nil) (fun _ _ _ _ _ => (pe_ix ix_blk (pe_ix ixT_blk (pe_ix ix_blk (pv 1) (pe_un un_neg pe_int) (fun _ _ => rfl)) pe_int (fun _ _ => rfl)) (pe_op op_mod (pe_op op_add (pv 3) (pv 7)) (pe_callB len_blk (by rfl) T.len PySem.boot_len (pa_cons (pe_ix ixT_blk (pe_ix ix_blk (pv 1) (pe_un un_neg pe_int) (fun _ _ => rfl)) pe_int (fun _ _ => rfl)) pa_nil))) (fun _ _ => rfl)))))))) pss_nil)
      (pss_one (ps_ret (pe_lst (pa_cons (pv 1) (pa_cons (pe_slice sl_list (pv 2) po_none (po_some pe_int)) pa_nil)))))))))), ?_⟩
  refine ⟨Nat.zero_le _, fun pf npf => ?_⟩
  have re1 : BG.BagAt n (upd H pf (.lst [])) r := re.store (re.new npf)
  have G1 : Gw r.a pf H (upd H pf (.lst [])) [] [] := ⟨bag_reel re1, (Mv.refl r.a H).upd npf, (re.new npf).a, npf, upd_same, .nil⟩
  have b1 : BG.Mv r H (upd H pf (.lst [])) := (BG.Mv.refl r H).upd npf
  generalize upd H pf (.lst []) = H1 at re1 G1 b1 ⊢
  dsimp only [gName]
  show tSeq _ _ _ [some (.ref r.a), some (.ref pf), none, none, none, none, none, none] H1
  refine ⟨Nat.zero_le _, fun pq npq => ?_⟩
  have s2 := same_upd (o := .lst []) npq
  have eq2 : (upd H1 pq (.lst [])) pq = some (.lst (((peopleOf []).map optV))) := upd_same
  have G2 := G1.sm s2
  have re2 := re1.same s2
  have b2 := b1.trans (BG.Mv.of s2)
  have qr := (re1.new npq).a
  have qf : pq ≠ pf := fun z => by rw [z, G1.e] at npq; cases npq
  generalize upd H1 pq (.lst []) = H2 at s2 eq2 G2 re2 b2 ⊢
  dsimp only [gName]
  show tSeq _ _ _ [some (.ref r.a), some (.ref pf), some (.ref pq), none, none, none, none, none] H2
  refine set_c ?_
  show tSeq _ _ _ [some (.ref r.a), some (.ref pf), some (.ref pq), some (.int 0), none, none, none, none] H2
  refine ⟨.ref r.a, rfl, 5, n, rfl, re2, by omega, by decide, by decide, fun x H3 re3 v3 x0 x1 => ⟨1, x, rfl, rfl, 1 + x, rfl, by omega, by omega, ?_⟩⟩
  obtain ⟨sz, hsz⟩ : ∃ sz : Nat, 1 + x = (sz : Int) := ⟨(1 + x).toNat, by omega⟩
  rw [hsz]
  have G3 := G2.mvs (bag_reel re3) (bag_mv v3)
  refine for_range (lo := 0) (n := ((sz : Int)).toNat) (fun i σ H4 => ∃ fvs L pq y3 y4 y5, σ = [some (.ref r.a), some (.ref pf), some (.ref pq), some (.int y3), y4, y5, none, none] ∧ Gw r.a pf H H4 fvs L ∧ BG.BagAt (n + 1 + 60 * i) H4 r ∧ BG.Mv r H H4 ∧ H4 pq = some (.lst ((peopleOf L).map optV)) ∧ pq ≠ r.a ∧ pq ≠ pf ∧ Few L ∧ L.length = i ∧ ∀ L0 x, L = L0 ++ [x] → x.2 = .int y3)
    ⟨[], [], pq, 0, none, none, rfl, G3, re3, b2.trans v3, v3.keep pq _ qr eq2, qr, qf, ⟨fun x hx => nomatch hx⟩, rfl, fun L0 x e => by simp at e⟩ (fun i σ H4 hi hP => ?_) (fun σ H4 hP => ?_)
  · obtain ⟨fvs, L, pq, y3, y4, y5, rfl, G4, re4, b4, eq4, qr, qf, hF, hL, _⟩ := hP
    have hi5 : i < 5 := by omega
    dsimp only [gName]
    show tSeq _ _ _ [some (.ref r.a), some (.ref pf), some (.ref pq), some (.int y3), some (.int (0 + (i : Int))), y5, none, none] H4
    refine ⟨.ref r.a, rfl, 5, n + 1 + 60 * i, rfl, re4, by omega, by decide, by decide, fun y H5 re5 v5 y0 y1 => ⟨1, y, rfl, rfl, 1 + y, rfl, by omega, by omega, fun D hD => ?_⟩⟩
    have Dr := (re5.new hD).a
    have G5 := G4.mvs (bag_reel re5) (bag_mv v5)
    have eq5 := v5.keep pq _ qr eq4
    refine lc_range (lo := 0) (n := (1 + y).toNat) (fun j H6 => ∃ os : List (Option Int), BG.BagAt (n + 1 + 60 * i + 1 + 5 * j) H6 r ∧ BG.Mv r H5 H6 ∧ H6 D = some (.lst (os.map optV)) ∧ os.length = j ∧ ∀ o ∈ os, goodO o)
      ⟨[], re5.store (re5.new hD), (BG.Mv.refl r H5).upd hD, upd_same, rfl, fun o ho => nomatch ho⟩ (fun j H6 hj ⟨os, re6, m6, eD, los, hos⟩ => ?_) (fun H6 ⟨os, re6, m6, eD, los, hos⟩ => ?_)
    · have hj5 : j < 5 := by omega
      refine ⟨rfl, yesT ⟨.ref r.a, rfl, 10, 30, rfl, rfl, ⟨by decide, by decide, by decide⟩, small_le (by show 3 ≤ 1000; decide), fun L3 nL3 => ?_⟩⟩
      dsimp only []
      rw [p30B]
      have s7 := same_upd (o := .lst [.int 4, .int 30, .int 1000000000000000000000000000000]) nL3
      have e7 : (upd H6 L3 (.lst [.int 4, .int 30, .int 1000000000000000000000000000000])) L3 = some (.lst [.int 4, .int 30, .int 1000000000000000000000000000000]) := upd_same
      have L3r := (re6.new nL3).a
      have re7 := re6.same s7
      have eD7 := s7 _ _ eD
      have m7 := m6.trans (BG.Mv.of s7)
      generalize upd H6 L3 (.lst [.int 4, .int 30, .int 1000000000000000000000000000000]) = H7 at s7 e7 re7 eD7 m7 ⊢
      refine ⟨.ref r.a, rfl, 3, _, rfl, re7, by omega, by decide, by decide, fun z H8 re8 v8 z0 z1 => ?_⟩
      obtain ⟨mo, hmo, hmo3⟩ := pick3o (a := 4) (b := 30) (c := 1000000000000000000000000000000) z0 z1
      refine ⟨L3, _, z, .int mo, rfl, rfl, SqL.of (v8.keep _ _ L3r e7), hmo, ?_⟩
      refine ⟨mo, _, rfl, re8, by omega, by omega, by omega, fun o H9 re9 v9 ho => ?_⟩
      have eD9 := v9.keep D _ Dr (v8.keep D _ Dr eD7)
      refine ⟨os.map optV, eD9, by rw [List.length_map]; exact small1000 (by omega), os ++ [o], (re9.mono (by omega)).store (re5.new hD), ((m7.trans v8).trans v9).upd hD, by rw [upd_same, List.map_append]; rfl, by rw [List.length_append, los]; rfl, fun o2 ho2 => ?_⟩
      rcases List.mem_append.mp ho2 with ho2 | ho2
      · exact hos o2 ho2
      · rw [List.mem_singleton.mp ho2]; exact ho
    have hl1 : 1 ≤ os.length ∧ os.length ≤ 5 := by omega
    have G6 := G5.mvs (bag_reel re6) (bag_mv m6)
    have re6 := re6.mono (m := n + 1 + 60 * i + 30) (by omega)
    have eq6 := m6.keep pq _ qr eq5
    have b6 := b4.trans (v5.trans m6)
    have qD : pq ≠ D := fun z => by rw [← z, eq5] at hD; cases hD
    clear los G5 eq5
    dsimp only [gName]
    show tSeq _ _ _ [some (.ref r.a), some (.ref pf), some (.ref pq), some (.int y3), some (.int (0 + (i : Int))), some (.ref D), none, none] H6
    refine ⟨.ref r.a, rfl, 30, _, rfl, re6, by omega, by decide, by decide, fun mn H7 re7 v7 mn0 mn1 => ?_⟩
    have G7 := G6.mvs (bag_reel re7) (bag_mv v7)
    have eq7 := v7.keep pq _ qr eq6
    have eD7 := v7.keep D _ Dr eD
    have b7 := b6.trans v7
    dsimp only [gName]
    show tSeq _ _ _ [some (.ref r.a), some (.ref pf), some (.ref pq), some (.int mn), some (.int (0 + (i : Int))), some (.ref D), none, none] H7
    refine ⟨.ref pf, rfl, .inl ⟨rfl, _, SqL.of G7.e⟩, .ref D, rfl, .int mn, rfl, small_le (by show 2 ≤ 1000; decide), fun u nu => ?_⟩
    have s8 := same_upd (o := .tup [.ref D, .int mn]) nu
    have eu : (upd H7 u (.tup [.ref D, .int mn])) u = some (.tup [.ref D, .int mn]) := upd_same
    have uW := G7.out nu
    have G8 := G7.sm s8
    have eD8 := s8 _ _ eD7
    have eq8 := s8 _ _ eq7
    have re8 := re7.same s8
    have b8 := b7.trans (BG.Mv.of s8)
    generalize upd H7 u (.tup [.ref D, .int mn]) = H8 at s8 eu G8 eD8 eq8 re8 b8 ⊢
    have hlf := G8.len
    have DW : ¬ (D = r.a ∨ D = pf) := fun z => z.elim Dr fun z => by
      rw [z, G8.e] at eD8
      have := G4.mvs (bag_reel re5) (bag_mv v5)
      rw [z, this.e] at hD
      cases hD
    refine ⟨pf, _, .ref u, rfl, rfl, G8.e, small1000 (by omega), ?_⟩
    have row : Rp (Hw (fun b => b = r.a ∨ b = pf) H8) (.ref u) (rowD (os, .int mn)) := row_tup (by rw [Hw.at (W := fun b => b = r.a ∨ b = pf) uW]; exact eu) (by rw [Hw.at (W := fun b => b = r.a ∨ b = pf) DW]; exact eD8) (.int _)
    have G9 := G8.push row
    have eD9 : (upd H8 pf (.lst (fvs ++ [.ref u]))) D = some (.lst (os.map optV)) := by rw [upd_ne fun z => DW (.inr z)]; exact eD8
    have eq9 : (upd H8 pf (.lst (fvs ++ [.ref u]))) pq = some (.lst ((peopleOf L).map optV)) := by rw [upd_ne qf]; exact eq8
    have re9 : BG.BagAt (n + 1 + 60 * i + 31) (upd H8 pf (.lst (fvs ++ [.ref u]))) r := (re8.mono (by omega)).store (re.new npf)
    have b9 : BG.Mv r H (upd H8 pf (.lst (fvs ++ [.ref u]))) := b8.upd npf
    generalize upd H8 pf (.lst (fvs ++ [.ref u])) = H9 at G9 eD9 eq9 re9 b9 ⊢
    dsimp only []
    show tAsg _ _ _ [some (.ref r.a), some (.ref pf), some (.ref pq), some (.int mn), some (.int (0 + (i : Int))), some (.ref D), none, none] H9
    refine ⟨.ref pq, rfl, .int mn, rfl, mn, rfl, by omega, by omega, fun D2 hD2 => ?_⟩
    have D2r := re9.new hD2
    refine lc_range (lo := 0) (n := mn.toNat) (fun j H' => H' = upd H9 D2 (.lst ((cyc os 0 j).map optV))) rfl (fun j H' hj e => ?_) (fun H' e => ?_)
    · subst e
      have eDj : (upd H9 D2 (.lst ((cyc os 0 j).map optV))) D = some (.lst (os.map optV)) := by rw [upd_ne fun z => by rw [← z, eD9] at hD2; cases hD2]; exact eD9
      have hix : j % os.length < os.length := Nat.mod_lt _ (by omega)
      have hj0 : (0 + (j : Int)) % (os.length : Int) = ((j % os.length : Nat) : Int) := by rw [Int.zero_add]; omega
      refine ⟨rfl, yesT ⟨.ref D, rfl, .int (0 + (j : Int)), rfl, .ref D, rfl, D, _, rfl, .inl (SqL.of eDj), ?_⟩⟩
      rw [List.length_map]
      refine ⟨0 + (j : Int), (os.length : Int), rfl, rfl, (by show (0 : Int) < (os.length : Int); omega), ?_⟩
      refine ⟨D, _, (0 + (j : Int)) % (os.length : Int), optV (os.getD (j % os.length) none), rfl, rfl, SqL.of eDj, ?_, ?_⟩
      · rw [hj0]
        refine atI_nat ?_
        rw [List.getElem?_map, List.getD_eq_getElem?_getD, List.getElem?_eq_getElem hix]
        rfl
      · refine ⟨_, upd_same, by rw [List.length_map, cyc_len]; exact small1000 (by omega), ?_⟩
        rw [upd_upd]
        have : cyc os 0 (j + 1) = cyc os 0 j ++ [os.getD (j % os.length) none] := by
          unfold cyc
          rw [List.range_succ, List.map_append]
          simp
        rw [this, List.map_append]
        rfl
    · subst e
      have s10 := same_upd (o := .lst ((cyc os 0 mn.toNat).map optV)) hD2
      have e10 : (upd H9 D2 (.lst ((cyc os 0 mn.toNat).map optV))) D2 = some (.lst ((cyc os 0 mn.toNat).map optV)) := upd_same
      have eq10 := s10 _ _ eq9
      have G10 := G9.sm s10
      have re10 := re9.same s10
      have b10 := b9.trans (BG.Mv.of s10)
      generalize upd H9 D2 (.lst ((cyc os 0 mn.toNat).map optV)) = H10 at s10 e10 eq10 G10 re10 b10 ⊢
      have hF' : Few (L ++ [(os, .int mn)]) := ⟨fun x hx => by
        rcases List.mem_append.mp hx with hx | hx
        · exact hF.row x hx
        · rw [List.mem_singleton.mp hx]
          exact ⟨⟨hl1.1, by show os.length ≤ 8; omega, hos, decide_eq_true mn0⟩, mn, rfl, mn0, by omega⟩⟩
      have hpl : (peopleOf L).length ≤ 150 := by have := few_len hF; omega
      refine ⟨pq, D2, _, _, rfl, rfl, eq10, e10, small_add (by rw [List.length_map]; omega) (by rw [List.length_map, cyc_len]; omega), fun t nt => ?_⟩
      have s11 := same_upd (o := .lst ((peopleOf L).map optV ++ (cyc os 0 mn.toNat).map optV)) nt
      refine ⟨_, L ++ [(os, .int mn)], t, mn, _, _, rfl, G10.sm s11, (re10.same s11).mono (by omega), b10.trans (BG.Mv.of s11), ?_, (re10.new nt).a, (fun z => by rw [z, G10.e] at nt; cases nt), hF', by rw [List.length_append, hL]; rfl, fun L0 x e => ?_⟩
      · rw [upd_same, peopleOf_snoc, List.map_append]
        rfl
      · have := congrArg List.getLast? e
        rw [List.getLast?_concat, List.getLast?_concat] at this
        rw [← Option.some.inj this]
  · obtain ⟨fvs, L, pq, y3, y4, y5, rfl, G4, re4, b4, eq4, qr, qf, hF, hL, hy3⟩ := hP
    have hsz5 : 1 ≤ L.length ∧ L.length ≤ 5 := by omega
    have re4 := re4.mono (m := n + 400) (by omega)
    dsimp only []
    show tSeq (tIfS _ _ _) _ _ [some (.ref r.a), some (.ref pf), some (.ref pq), some (.int y3), y4, y5, none, none] H4
    refine seqP (fun σ' H' => ∃ fvs L pq os y3 y4 y5, σ' = [some (.ref r.a), some (.ref pf), some (.ref pq), y3, y4, y5, none, none] ∧ Gw r.a pf H H' fvs L ∧ BG.BagAt (n + 401) H' r ∧ BG.Mv r H H' ∧ H' pq = some (.lst (os.map optV)) ∧ pq ≠ r.a ∧ PplOk L os) (fun σ' H' hR => ?_) (fun nx hnx => ?_)
    · obtain ⟨fvs, L, pq, os, y3, y4, y5, rfl, G5, re5, b5, eq5, qr, hok⟩ := hR
      refine ⟨.ref pf, rfl, .ref pq, rfl, 70, rfl, pq, _, rfl, SqL.of eq5, fun p1 np1 => ?_⟩
      rw [show cutV (os.map optV) none (some 70) = (os.take 70).map optV by rw [show cutV (os.map optV) none (some 70) = (os.map optV).take 70 from cut_to _ 70, List.map_take]]
      have s6 := same_upd (o := .lst ((os.take 70).map optV)) np1
      have e6 : (upd H' p1 (.lst ((os.take 70).map optV))) p1 = some (.lst ((os.take 70).map optV)) := upd_same
      have G6 := G5.sm s6
      have re6 := re5.same s6
      have b6 := b5.trans (BG.Mv.of s6)
      have p1r := (re5.new np1).a
      have p1f : p1 ≠ pf := fun z => by rw [z, G5.e] at np1; cases np1
      generalize upd H' p1 (.lst ((os.take 70).map optV)) = H6 at s6 e6 G6 re6 b6 ⊢
      refine ⟨small_le (by show 2 ≤ 1000; decide), fun t nt => ?_⟩
      have s7 := same_upd (o := .lst [.ref pf, .ref p1]) nt
      have G7 := G6.sm s7
      refine q t pf p1 L (os.take 70) _ ((re6.same s7).mono (by omega)) (b6.trans (BG.Mv.of s7)) upd_same ?_ (s7 _ _ e6) p1r (hok.firsts 70) (by rw [List.length_take]; omega)
      exact .lst (by rw [Hw.at (W := fun b => b = r.a) G7.ne]; exact G7.e) (RpAll.sm (Hw.less (W := fun b => b = r.a) (W' := fun b => b = r.a ∨ b = pf) fun b hb => .inl hb) G7.rp)
    · refine ⟨.ref r.a, rfl, 2, _, rfl, re4, by omega, by decide, by decide, fun z H5 re5 v5 z0 z1 => ⟨rfl, _, rfl, ite2 (fun c => ?_) (fun c => ?_)⟩⟩
      rotate_left
      · exact hnx _ _ ⟨fvs, L, pq, peopleOf L, _, _, _, rfl, G4.mvs (bag_reel re5) (bag_mv v5), re5, b4.trans v5, v5.keep pq _ qr eq4, qr, few_ok hF hsz5.1 hsz5.2⟩
      clear c
      have G5 := G4.mvs (bag_reel re5) (bag_mv v5)
      have eq5 := v5.keep pq _ qr eq4
      have b5 := b4.trans v5
      obtain ⟨L0, ⟨os, mm⟩, rfl⟩ : ∃ L0 x, L = L0 ++ [x] := ⟨L.dropLast, L.getLast (by intro z; rw [z] at hsz5; exact absurd hsz5.1 (by decide)), (List.dropLast_concat_getLast _).symm⟩
      have e3 := hy3 L0 _ rfl
      dsimp only at e3
      subst e3
      have hrp := G5.rp
      rw [List.map_append, List.map_cons, List.map_nil] at hrp
      obtain ⟨fv0, vl, rfl, hrp0, hrpl⟩ := hrp.unsnoc
      obtain ⟨b, t, vm, rfl, hb, ht, hm⟩ := tup_row hrpl
      have hb' := Hw.sub _ _ _ _ hb
      have ht' := Hw.sub _ _ _ _ ht
      have tW := Hw.ne ht
      cases hm
      obtain ⟨g, m', hm', m0, m1⟩ := hF.row (os, .int y3) (List.mem_append_right _ List.mem_cons_self)
      cases hm'
      have l1 := g.lo
      have l8 := g.hi
      dsimp only at l1 l8
      refine ⟨.ref pf, rfl, 1, rfl, pf, _, -1, .ref b, rfl, rfl, SqL.of G5.e, atI_last _ _, b, _, 0, .ref t, rfl, rfl, SqT.of hb', rfl, small_le (by show 2 ≤ 1000; decide), fun u nu => ?_⟩
      have s6 := same_upd (o := .tup [.ref t, .non]) nu
      have eu : (upd H5 u (.tup [.ref t, .non])) u = some (.tup [.ref t, .non]) := upd_same
      have uW := G5.out nu
      have G6 := G5.sm s6
      have ht6 := s6 _ _ ht'
      have eq6 := s6 _ _ eq5
      have re6 := re5.same s6
      have b6 := b5.trans (BG.Mv.of s6)
      have hrp06 := RpAll.sm (Same.hw (W := fun b => b = r.a ∨ b = pf) s6) hrp0
      generalize upd H5 u (.tup [.ref t, .non]) = H6 at s6 eu G6 ht6 eq6 re6 b6 hrp06 ⊢
      have hixl : ixN (fv0 ++ [V.ref b]).length (-1) = some fv0.length := by
        rw [List.length_append, List.length_singleton]
        exact ix_last _
      refine ⟨.ref pf, rfl, 1, rfl, pf, _, -1, fv0.length, rfl, rfl, G6.e, hixl, ?_⟩
      have eset : (fv0 ++ [V.ref b]).set fv0.length (V.ref u) = fv0 ++ [.ref u] := by rw [List.set_append_right _ _ (Nat.le_refl _), Nat.sub_self]; rfl
      rw [eset]
      have G7 : Gw r.a pf H (upd H6 pf (.lst (fv0 ++ [.ref u]))) (fv0 ++ [.ref u]) (L0 ++ [(os, .none)]) := by
        refine ⟨G6.re.store G6.ne, G6.mv.upd G6.n0, G6.ne, G6.n0, upd_same, ?_⟩
        rw [hw_upd (W := fun b => b = r.a ∨ b = pf) (a := pf) (.inr rfl), List.map_append]
        exact hrp06.snoc (row_tup (by rw [Hw.at (W := fun b => b = r.a ∨ b = pf) uW]; exact eu) (by rw [Hw.at (W := fun b => b = r.a ∨ b = pf) tW]; exact ht6) .non)
      have ht7 : (upd H6 pf (.lst (fv0 ++ [.ref u]))) t = some (.lst (os.map optV)) := by rw [upd_ne fun z => tW (.inr z)]; exact ht6
      have eu7 : (upd H6 pf (.lst (fv0 ++ [.ref u]))) u = some (.tup [.ref t, .non]) := by rw [upd_ne fun z => uW (.inr z)]; exact eu
      have eq7 : (upd H6 pf (.lst (fv0 ++ [.ref u]))) pq = some (.lst ((peopleOf (L0 ++ [(os, .int y3)])).map optV)) := by rw [upd_ne qf]; exact eq6
      have re7 : BG.BagAt (n + 401) (upd H6 pf (.lst (fv0 ++ [.ref u]))) r := re6.store (re.new npf)
      have b7 : BG.Mv r H (upd H6 pf (.lst (fv0 ++ [.ref u]))) := b6.upd npf
      generalize upd H6 pf (.lst (fv0 ++ [.ref u])) = H7 at G7 ht7 eu7 eq7 re7 b7 ⊢
      dsimp only []
      show tAsg _ _ _ [some (.ref r.a), some (.ref pf), some (.ref pq), some (.int y3), y4, y5, none, none] H7
      refine ⟨.ref pq, rfl, 70, rfl, by decide, by decide, fun D2 hD2 => ?_⟩
      refine lc_range (lo := 0) (n := (70 : Int).toNat) (fun j H' => H' = upd H7 D2 (.lst ((cyc os y3.toNat j).map optV))) rfl (fun j H' hj e => ?_) (fun H' e => ?_)
      · subst e
        have hj70 : j < 70 := hj
        have sj : Same H7 (upd H7 D2 (.lst ((cyc os y3.toNat j).map optV))) := same_upd hD2
        have epj := sj _ _ G7.e
        have euj := sj _ _ eu7
        have etj := sj _ _ ht7
        have hix : (y3.toNat + j) % os.length < os.length := Nat.mod_lt _ (by omega)
        have hj0 : (y3 + (0 + (j : Int))) % (os.length : Int) = (((y3.toNat + j) % os.length : Nat) : Int) := by
          rw [show y3 + (0 + (j : Int)) = ((y3.toNat + j : Nat) : Int) by omega]
          omega
        refine ⟨rfl, yesT ⟨.ref pf, rfl, 1, rfl, pf, _, -1, .ref u, rfl, rfl, SqL.of epj, atI_last _ _, u, _, 0, .ref t, rfl, rfl, SqT.of euj, rfl, ?_⟩⟩
        refine ⟨.int y3, rfl, .int (0 + (j : Int)), rfl, y3, 0 + (j : Int), rfl, rfl, .ref pf, rfl, 1, rfl, pf, _, -1, .ref u, rfl, rfl, SqL.of epj, atI_last _ _, u, _, 0, .ref t, rfl, rfl, SqT.of euj, rfl, t, _, rfl, .inl (SqL.of etj), ?_⟩
        rw [List.length_map]
        refine ⟨y3 + (0 + (j : Int)), (os.length : Int), rfl, rfl, (by show (0 : Int) < (os.length : Int); omega), ?_⟩
        refine ⟨t, _, (y3 + (0 + (j : Int))) % (os.length : Int), optV (os.getD ((y3.toNat + j) % os.length) none), rfl, rfl, SqL.of etj, ?_, ?_⟩
        · rw [hj0]
          refine atI_nat ?_
          rw [List.getElem?_map, List.getD_eq_getElem?_getD, List.getElem?_eq_getElem hix]
          rfl
        · refine ⟨_, upd_same, by rw [List.length_map, cyc_len]; exact small1000 (by omega), ?_⟩
          rw [upd_upd]
          have : cyc os y3.toNat (j + 1) = cyc os y3.toNat j ++ [os.getD ((y3.toNat + j) % os.length) none] := by
            unfold cyc
            rw [List.range_succ, List.map_append]
            rfl
          rw [this, List.map_append]
          rfl
      · subst e
        have s8 := same_upd (o := .lst ((cyc os y3.toNat (70 : Int).toNat).map optV)) hD2
        have e8 : (upd H7 D2 (.lst ((cyc os y3.toNat (70 : Int).toNat).map optV))) D2 = some (.lst ((cyc os y3.toNat 70).map optV)) := upd_same
        have eq8 := s8 _ _ eq7
        have G8 := G7.sm s8
        have re8 := re7.same s8
        have b8 := b7.trans (BG.Mv.of s8)
        generalize upd H7 D2 (.lst ((cyc os y3.toNat (70 : Int).toNat).map optV)) = H8 at s8 e8 eq8 G8 re8 b8 ⊢
        have hpl : (peopleOf (L0 ++ [(os, PyData.int y3)])).length ≤ 150 := by have := few_len hF; omega
        refine ⟨pq, D2, _, _, rfl, rfl, eq8, e8, small_add (by rw [List.length_map]; omega) (by rw [List.length_map, cyc_len]; omega), fun t2 nt2 => ?_⟩
        have s9 := same_upd (o := .lst ((peopleOf (L0 ++ [(os, PyData.int y3)])).map optV ++ (cyc os y3.toNat 70).map optV)) nt2
        refine hnx _ _ ⟨_, L0 ++ [(os, .none)], t2, peopleOf (L0 ++ [(os, .int y3)]) ++ cyc os y3.toNat 70, _, _, _, rfl, G8.sm s9, re8.same s9, b8.trans (BG.Mv.of s9), ?_, (re8.new nt2).a, endless_ok hF (by rw [List.length_append] at hsz5; simpa using hsz5.2)⟩
        rw [upd_same, List.map_append]
end
end CL
set_option Elab.async false
set_option linter.all false
set_option pp.maxSteps 900
set_option maxRecDepth 100000
set_option maxHeartbeats 2000000
namespace CL
open PySem PySem.Spec PyProof.Rows L2 GE
abbrev sSm : Stmt := topS 62
abbrev nSm : List Str := ["line", "plan", "moment", "stand", "person", "place"]
theorem scSm : FnScope nSm ["line", "plan", "moment"] (defScope sSm) := ⟨rfl, rfl, rfl, by decide +kernel, rfl, by decide +kernel, by decide +kernel⟩
theorem opts_dp {K : PySem.W.Frag} {H : Hp} : ∀ os : List (Option Int), DpAll K H (os.map optV) (os.map optD)
  | [] => .nil
  | o :: os => .cons (optV_dp o) (opts_dp os)
theorem opts_lay : ∀ os : List (Option Int), PyData.canLayAll0 (os.map optD) = true
  | [] => by simp [PyData.canLayAll0]
  | o :: os => by
    have := opts_lay os
    cases o <;> simp [PyData.canLayAll0, PyData.canLay0, this, optD]
theorem opts_depth : ∀ os : List (Option Int), PyData.depthAll (os.map optD) = 0
  | [] => rfl
  | o :: os => by
    have := opts_depth os
    show max (PyData.depth (optD o)) (PyData.depthAll (os.map optD)) = 0
    rw [this]
    cases o <;> rfl
theorem opts_shaped (os : List (Option Int)) : SeqAt.shaped (.list (os.map optD)) = true := by
  unfold SeqAt.shaped
  have h1 : PyData.canLay0 (.list (os.map optD)) = true := by
    have := opts_lay os
    simp [PyData.canLay0, this]
  have h2 : PyData.depth (.list (os.map optD)) = 1 := by
    show PyData.depthAll (os.map optD) + 1 = 1
    rw [opts_depth]
  rw [h1, h2]
  rfl
theorem eqvAll_opts : ∀ as : List (Option Int), PyData.eqvAll (as.map optD) (as.map optD) = true
  | [] => by simp [PyData.eqvAll]
  | o :: as => by
    have := eqvAll_opts as
    cases o <;> simp [PyData.eqvAll, PyData.eqv, optD, this]
theorem eqv_opts (as : List (Option Int)) : PyData.eqv (.list (as.map optD)) (.list (as.map optD)) = true := by
  have := eqvAll_opts as
  simp [PyData.eqv, this]
def so (xs : List Nat) : List (Option Int) := xs.map fun x : Nat => some (x : Int)
theorem ppl_so (xs : List Nat) : ppl xs = (so xs).map optV := by
  unfold ppl so
  rw [List.map_map]
  rfl

theorem up_so (xs : List Nat) : (up xs).map V.int = (so xs).map optV := by
  unfold up so
  rw [List.map_map, List.map_map]
  rfl
theorem ppl_up (xs : List Nat) : ppl xs = (up xs).map V.int := by rw [ppl_so, up_so]
section
variable {C : Addr} {H H' : Hp} {L : LnA} {s : LS}
theorem LineAt.ex (h : LineAt C H L s) (e : Ex H H') : LineAt C H' L s := by
  obtain ⟨dx, fs, ho, hf⟩ := h.ob
  obtain ⟨vs, e1, a1⟩ := h.se
  obtain ⟨ws, e2, a2⟩ := h.de
  have kt : ∀ t ys, H t = some (.tup ys) → H' t = some (.tup ys) := fun t ys z => e.tup z
  exact ⟨⟨dx, fs, e.keep ho (fun _ => nofun), hf⟩, e.lst h.pe, e.lst h.re, e.lst h.pa, ⟨vs, e.lst e1, a1.imp fun _ _ => ServV.kx kt⟩, ⟨ws, e.lst e2, a2.imp fun _ _ => DeedV.kx kt⟩, h.nd, h.ok⟩
end
section
variable {r P1 P2 C C2 C3 C4 : Addr} {v : V} {rs : List RowT} {H : Hp} {Q : VK} {E : XK}
theorem has_pt {n : Int} {o : Option Int} (h : HasP (psR rs) n (optD o)) : Pt (psR rs) n (pdO o) := by
  obtain ⟨pp, h1, _, h3⟩ := h
  have e : optD o = pdO o := by cases o <;> rfl
  rw [e] at h3
  exact ⟨pp, h1, h3⟩
theorem c_mom (hF : Fine rs) (s : Sl r P1 P2 v rs H) {m : Nat} (hm : momentOk (dueO rs) (.int (m : Int)) = true) (h2 : m ≤ 2000) {R : (Nat → Option Int) → Nat → Prop} (q : ∀ pat : Nat → Option Int, (∀ k : Nat, k < m → Pt (psR rs) (k : Int) (pdO (pat k))) → R pat m) : MomP P1 P2 C C3 C4 (.list (rs.map rowD)) (.int (m : Int)) H E R := by
  obtain ⟨ps, pc, e, e2, e3⟩ := parts hF
  refine ⟨fun z => absurd (fine_plan hF) (by rw [z]; simp), fun _ => ⟨ps, pc, e, fun z => absurd hm (by rw [← e3, z]; simp), fun _ => ⟨m, rfl, fun z => absurd h2 (by omega), fun _ pat hp => q pat fun k hk => has_pt (hp k hk)⟩⟩⟩
theorem c_queue (hF : Fine rs) (s : Sl r P1 P2 v rs H) {m : Nat} (hm : momentOk (dueO rs) (.int (m : Int)) = true) (h2 : m ≤ 2000) (q : ∀ pat : Nat → Option Int, (∀ k : Nat, k < m → Pt (psR rs) (k : Int) (pdO (pat k))) → ∀ L H', Ex H H' → Sl r P1 P2 v rs H' → H L = none → H' L = some (.lst ((lined pat m).1.map V.int)) → Q (.ref L) H') : spQueue P1 P2 C C3 C4 [v, .int (m : Int)] H Q E :=
  ⟨v, .int (m : Int), _, .int (m : Int), rfl, s.rpH, .int _, s.tb, c_mom hF s hm h2 fun pat hp L H' e1 t1 nL eL => q pat hp L H' e1 (s.ex e1 t1) nL eL⟩
theorem c_left (hF : Fine rs) (s : Sl r P1 P2 v rs H) {m : Nat} (hm : momentOk (dueO rs) (.int (m : Int)) = true) (h2 : m ≤ 2000) (q : ∀ pat : Nat → Option Int, (∀ k : Nat, k < m → Pt (psR rs) (k : Int) (pdO (pat k))) → ∀ L H', Ex H H' → Sl r P1 P2 v rs H' → H L = none → H' L = some (.lst ((lined pat m).2.map optV)) → Q (.ref L) H') : spLeft P1 P2 C C3 C4 [v, .int (m : Int)] H Q E :=
  ⟨v, .int (m : Int), _, .int (m : Int), rfl, s.rpH, .int _, s.tb, c_mom hF s hm h2 fun pat hp L H' e1 t1 nL eL => q pat hp L H' e1 (s.ex e1 t1) nL eL⟩
end
theorem pdO_inj {a b : Option Int} (h : pdO a = pdO b) : a = b := by
  cases a with
  | none => cases b with
    | none => rfl
    | some j => cases h
  | some i => cases b with
    | none => cases h
    | some j => cases h; rfl
/-- the pats are the people's -/
theorem pat_os {rs : List RowT} {os : List (Option Int)} (hf : Firsts rs os) {pat : Nat → Option Int} {m : Nat} (hm : m ≤ os.length) (h : ∀ k : Nat, k < m → Pt (psR rs) (k : Int) (pdO (pat k))) : ∀ k : Nat, k < m → os[k]? = some (pat k) := fun k hk => by
  have ho : os[k]? = some os[k] := List.getElem?_eq_getElem (by omega)
  rw [ho, pdO_inj (pt_uniq (hf.pt k _ ho) (h k hk))]
theorem firsts_mom {rs : List RowT} {os : List (Option Int)} (hf : Firsts rs os) {m : Nat} (hm : m ≤ os.length) : momentOk (dueO rs) (.int (m : Int)) = true := by
  have hi := hf.hi
  rw [momentOk_int, decide_eq_true (show (0 : Int) ≤ (m : Int) by omega), decide_eq_true (show (m : Int) ≤ GREAT from (show (m : Int) ≤ (1000000000000000000000000000000 : Int) by omega))]
  cases z : dueO rs with
  | none => rfl
  | some t =>
    have := hf.du t z
    exact decide_eq_true (by omega)
theorem Flds.come {fs : List (Str × V)} {L : LnA} (h : Flds fs L) : fs.lookup ("come" : Str) = none := h.no _ (by decide +kernel) (by decide +kernel) (by decide +kernel) (by decide +kernel) (by decide +kernel)
theorem Flds.queue {fs : List (Str × V)} {L : LnA} (h : Flds fs L) : fs.lookup ("queue" : Str) = none := h.no _ (by decide +kernel) (by decide +kernel) (by decide +kernel) (by decide +kernel) (by decide +kernel)
theorem Flds.left {fs : List (Str × V)} {L : LnA} (h : Flds fs L) : fs.lookup ("left" : Str) = none := h.no _ (by decide +kernel) (by decide +kernel) (by decide +kernel) (by decide +kernel) (by decide +kernel)
theorem Flds.went {fs : List (Str × V)} {L : LnA} (h : Flds fs L) : fs.lookup ("went_past" : Str) = none := h.no _ (by decide +kernel) (by decide +kernel) (by decide +kernel) (by decide +kernel) (by decide +kernel)
def spSm (C P1 P2 : Addr) : Sp := fun vs H Q _ => ∃ (L : LnA) (v : V) (m : Nat) (r : Addr) (rs : List RowT) (os : List (Option Int)), vs = [.ref L.o, v, .int (m : Int)] ∧ LineAt C H L (lsOf os m) ∧ Sl r P1 P2 v rs H ∧ Firsts rs os ∧ m ≤ os.length ∧ os.length ≤ 70 ∧ ∀ H', Ex H H' → Sl r P1 P2 v rs H' → Q (.bl true) H'
section
variable {P : Program} {w : World} {K : PySem.W.Frag} {mg : Str → Option Value} {base : Heap} {C fQ fL fW : Addr}
theorem ok_sm {f P1 P2 X1 X2 X3 X4 : Addr} {fd fdQ fdL fdW : FuncData} (F : Fun K "_law_same" "_law_same" sSm f fd) (T : Nm mg) (T2 : Nm2 mg) (TL : LnT K mg C)
    (mQ : Meth K C "queue" fQ) (GQ : FnOk P w K mg base CX0 1 fQ fdQ ["self"] (spQueM C)) (bQ : Binds K fdQ ["self"] [])
    (mL : Meth K C "left" fL) (GL : FnOk P w K mg base CX0 1 fL fdL ["self"] (spLeftM C)) (bL : Binds K fdL ["self"] [])
    (mW : Meth K C "went_past" fW) (GW : FnOk P w K mg base CX0 2 fW fdW ["self", "person"] (spWentM C)) (bW : Binds K fdW ["self", "person"] [])
    (CQa : CalX P w K mg base 11 "queue_at" ["plan", "moment"] (spQueue P1 P2 X1 X3 X4)) (CLa : CalX P w K mg base 11 "left_at" ["plan", "moment"] (spLeft P1 P2 X1 X3 X4)) (CWe : CalX P w K mg base 10 "went_past" ["plan", "person", "moment"] (spWent P1 P2 X1 X2 X3)) (CPo : CalX P w K mg base 10 "place_of" ["plan", "moment", "person"] (spPlaceOf P1 P2 X1 X3 X2)) : FnOk P w K mg base CX0 12 f fd ["line", "plan", "moment"] (spSm C P1 P2) := by
  refine F.ok scSm (fun vs H Q E ⟨_, _, _, _, _, _, e, _⟩ => by rw [e]; rfl) (fun cdv A outer s0 H vs Q E hr h => ?_)
  obtain ⟨L, v, m, r, rs, os, rfl, hL, S0, hf, hm, h70, q⟩ := h
  have nd := scSm.nd
  have hmom := firsts_mom hf hm
  have hsim := lsOf_sim hf m hm
  refine ⟨_, (pss_cons (ps_set (i := 3) nd rfl (.inl rfl) (pe_calX (CQa.mono (by decide)) hr (by rfl) (passes_call takes0 fun _ _ _ _ h => h) (pa_cons (pv 1) (pa_cons (pv 2) pa_nil))))
      (pss_cons (ps_if (PW.pt (pw_or (pt_cmpR (op_neD hr.units) (pe_meth0 (pv 0) TL.cl mQ GQ (hr.mono (by decide)) bQ .nil pass0) (pv 3) (nomark _)) (pw_or1 (pt_cmpR (op_neD hr.units) (pe_meth0 (pv 0) TL.cl mL GL (hr.mono (by decide)) bL .nil pass0) (pe_calX (CLa.mono (by decide)) hr (by rfl) (passes_call takes0 fun _ _ _ _ h => h) (pa_cons (pv 1) (pa_cons (pv 2) pa_nil))) (nomark _))))) (pss_one (ps_ret pe_bl)) pss_nil)
      (pss_cons (ps_if (pt_cmpR (op_neE hr.units0) (pe_lc (own := [("person", 4)]) (g := (gName 4)) rfl nd (pi_range1 (by rfl) T2.range (pa_cons (pv 2) pa_nil)) (blkOk_by (own := [("person", 4)]) (N := nSm) (sc := (defScope sSm)) (by decide +kernel)) (fun _ _ _ _ _ => (pg_name (i := 4) nd rfl (.inl rfl))) (fun _ _ _ _ _ => pts_one (pt_cmpR op_ne (pe_meth (pv 0) TL.cl mW GW (hr.mono (by decide)) bW .nil pass0 (pa_cons (pv 4) pa_nil)) (pe_calX (CWe.mono (by decide)) hr (by rfl) (passes_call takes0 fun _ _ _ _ h => h) (pa_cons (pv 1) (pa_cons (pv 4) (pa_cons (pv 2) pa_nil)))) (nomark _))) (fun _ _ _ _ _ => (pv 4))) (pe_lst pa_nil) (nomark _)) (pss_one (ps_ret pe_bl)) pss_nil)
      (pss_one (ps_ret (pe_cmpR (op_eqD hr.units) (pe_lc (own := [("place", 5), ("person", 4)]) (g := (gTup K 2 (gCons (gName 5) (gCons (gName 4) gNil)))) rfl nd (pi_enum (by rfl) T2.enum (pa_cons (pv 3) pa_nil)) (blkOk_by (own := [("place", 5), ("person", 4)]) (N := nSm) (sc := (defScope sSm)) (by decide +kernel)) (fun _ _ _ _ _ => (pg_tup rfl (pgs_cons (pg_name (i := 5) nd rfl (.inl rfl) (.inr rfl)) (pgs_cons (pg_name (i := 4) nd rfl (.inl rfl) (.inr rfl)) pgs_nil)))) (fun _ _ _ _ _ => pts_one (pt_cmpR op_ne (pe_calX (CPo.mono (by decide)) hr (by rfl) (passes_call takes0 fun _ _ _ _ h => h) (pa_cons (pv 1) (pa_cons (pv 2) (pa_cons (pv 4) pa_nil)))) (pv 5) (nomark _))) (fun _ _ _ _ _ => (pv 5))) (pe_lst pa_nil) (nomark _))))))), ?_⟩
  refine ⟨v, rfl, .int (m : Int), rfl, ?_⟩
  dsimp only [tNil]
  show spQueue P1 P2 X1 X3 X4 [v, .int (m : Int)] H _ _
  refine c_queue hf.f S0 hmom (by omega) fun pat hpat A1 H1 ex1 S1 nA1 eA1 => ?_
  have hos := pat_os hf hm hpat
  obtain ⟨hln, hps, hok⟩ := lsOf_lined m hm hos
  rw [hln] at eA1
  dsimp only at eA1
  have hL1 := hL.ex ex1
  dsimp only [gName]
  show tSeq _ _ _ [some (.ref L.o), some v, some (.int (m : Int)), some (.ref A1), none, none] H1
  have hlx : (lsOf os m).xs.length = m := by
    have := (lined_len pat m).1
    rw [hln] at this
    unfold up at this
    rw [List.length_map] at this
    exact this
  obtain ⟨past, left, hs, hpast, hleft⟩ := hsim.sim
  have hlp := hsim.lp
  have hnd := hsim.nd
  generalize hst : lsOf os m = st at hL hL1 hln hps hok hlx hs hpast hleft hlp hnd eA1
  -- the queue, the patiences left
  obtain ⟨dx, fs, hob, hfl⟩ := hL1.ob
  refine ⟨.ref L.o, rfl, L.o, dx, fs, rfl, hob, hfl.queue, L, st, rfl, hL1, fun A2 nA2 => ?_⟩
  have s2 := same_upd (o := .lst (ppl st.xs)) nA2
  have eA2 : (upd H1 A2 (.lst (ppl st.xs))) A2 = some (.lst ((so st.xs).map optV)) := by rw [upd_same, ppl_so]
  have S2 := S1.sm s2
  have hL2 := hL1.same s2
  have ex2 := ex1.trans (Ex.of s2)
  have eA12 := s2 _ _ eA1
  generalize upd H1 A2 (.lst (ppl st.xs)) = H2 at s2 eA2 S2 hL2 ex2 eA12 ⊢
  have eA12' := eA12
  rw [up_so] at eA12'
  refine ⟨.ref A1, rfl, .list ((so st.xs).map optD), .list ((so st.xs).map optD), .lst (SqL.of eA2) (opts_dp _), .lst (SqL.of eA12') (opts_dp _), opts_shaped _, opts_shaped _, _, rfl, ite2 (fun y => absurd y (by rw [eqv_opts]; simp)) (fun _ => ?_)⟩
  obtain ⟨dx, fs, hob, hfl⟩ := hL2.ob
  refine ⟨.ref L.o, rfl, L.o, dx, fs, rfl, hob, hfl.left, L, st, rfl, hL2, fun A3 nA3 => ?_⟩
  have s3 := same_upd (o := .lst (st.rs.map optV)) nA3
  have eA3 : (upd H2 A3 (.lst (st.rs.map optV))) A3 = some (.lst (st.rs.map optV)) := upd_same
  have S3 := S2.sm s3
  have hL3 := hL2.same s3
  have ex3 := ex2.trans (Ex.of s3)
  have eA13 := s3 _ _ eA12
  generalize upd H2 A3 (.lst (st.rs.map optV)) = H3 at s3 eA3 S3 hL3 ex3 eA13 ⊢
  refine ⟨v, rfl, .int (m : Int), rfl, ?_⟩
  dsimp only [tNil]
  show spLeft P1 P2 X1 X3 X4 [v, .int (m : Int)] H3 _ _
  refine c_left hf.f S3 hmom (by omega) fun pat2 hpat2 A4 H4 ex4 S4 nA4 eA4 => ?_
  have hln2 := (lsOf_lined m hm (pat_os hf hm hpat2)).1
  rw [hst] at hln2
  rw [hln2] at eA4
  dsimp only at eA4
  have hL4 := hL3.ex ex4
  have ex14 := ex3.trans ex4
  have eA14 := ex4.lst eA13
  refine ⟨.list (st.rs.map optD), .list (st.rs.map optD), .lst (SqL.of (ex4.lst eA3)) (opts_dp _), .lst (SqL.of eA4) (opts_dp _), opts_shaped _, opts_shaped _, _, rfl, ite2 (fun y => absurd y (by rw [eqv_opts]; simp)) (fun _ => ?_)⟩
  clear S0 S1 S2 S3 hL hL1 hL2 hL3 ex1 ex2 ex3 eA1 eA12 eA12' eA13 eA2 eA3 eA4 hob hfl
  dsimp only [tNext]
  -- how many went past each
  refine ⟨.int (m : Int), rfl, (m : Int), rfl, by omega, by omega, fun D hD => ?_⟩
  have hmo : ∀ j : Nat, j < m → Mo rs (m : Int) (m : Int) := fun j hj => hf.mo (by omega) (Nat.le_refl _) hm
  refine lc_range (lo := 0) (n := ((m : Int)).toNat) (fun j H' => Ex H4 H' ∧ Sl r P1 P2 v rs H' ∧ H' D = some (.lst [])) ⟨Ex.new hD, S4.sm (same_upd hD), upd_same⟩ (fun j H5 hj ⟨ex5, S5, eD⟩ => ?_) (fun H5 ⟨ex5, S5, eD⟩ => ?_)
  · have hjm : j < m := by omega
    rw [Int.zero_add]
    have hL5 := hL4.ex ex5
    obtain ⟨dx, fs, hob, hfl⟩ := hL5.ob
    have hjp : j < st.ps.length := by rw [hlp]; exact hjm
    refine ⟨rfl, .ref L.o, rfl, L.o, dx, fs, rfl, hob, hfl.went, .int (j : Int), rfl, L, st, j, hjp, rfl, hL5, fun H6 s6 => ?_⟩
    have S6 := S5.sm s6
    refine ⟨v, rfl, .int (j : Int), rfl, .int (m : Int), rfl, ?_⟩
    dsimp only [tNil]
    show spWent P1 P2 X1 X2 X3 [v, .int (j : Int), .int (m : Int)] H6 _ _
    refine c_went hf.f S6 ((hmo j hjm).ask (by omega) (by omega)) hmom (by omega) fun l H7 hl ex7 S7 => ?_
    have e1 := hs.pa j l hjm hl
    rw [hpast j hjm, List.getElem?_eq_getElem hjp] at e1
    have e2 : ((st.ps[j] : Nat) : Int) = pastV l (j : Int) (m : Int) := by rw [past_less]; exact Option.some.inj e1
    refine ⟨rfl, _, rfl, ?_⟩
    rw [show (!decide (V.int ((st.ps[j] : Nat) : Int) = V.int (pastV l (j : Int) (m : Int)))) = false by rw [e2]; simp]
    refine iteF ?_
    exact ⟨(ex5.trans (Ex.of s6)).trans ex7, S7, ex7.lst (s6 _ _ eD)⟩
  refine ⟨small_le (by show 0 ≤ 1000; decide), fun E1 nE1 => ⟨D, E1, [], rfl, rfl, (same_upd nE1 : Same H5 _) _ _ eD, upd_same, _, rfl, iteF ?_⟩⟩
  have s6 := same_upd (o := .lst []) nE1
  have S6 := S5.sm s6
  have ex6 := ex5.trans (Ex.of s6)
  have eA16 := ex6.lst eA14
  generalize upd H5 E1 (.lst []) = H6 at s6 S6 ex6 eA16 ⊢
  clear S4 S5 eD hL4
  -- the places
  dsimp only [tNext]
  refine ⟨.ref A1, rfl, A1, _, rfl, SqL.of eA16, fun D2 hD2 => ?_⟩
  refine lc_it (walk_enum (xs := (up st.xs).map V.int)) (fun i H' => Ex H6 H' ∧ Sl r P1 P2 v rs H' ∧ H' D2 = some (.lst [])) ⟨Ex.new hD2, S6.sm (same_upd hD2), upd_same⟩ (fun i H' _ hP => SqL.of (hP.1.lst eA16)) (fun i x H7 H8 hi hP hY => ?_) (fun H7 hP => ?_)
  · obtain ⟨ex7, S7, eD⟩ := hP
    obtain ⟨Tt, xi, xc, rfl, nT, rfl, hxi, hxc⟩ := hY
    cases hxi
    have hxc : ((up st.xs).map V.int)[i]? = some xc := hxc
    rw [List.getElem?_map] at hxc
    obtain ⟨x, hx, rfl⟩ := Option.map_eq_some_iff.mp hxc
    obtain ⟨x0, x1, hat⟩ := hs.at_ i x hx
    have s8 := same_upd (o := .tup [.int (i : Nat), .int x]) nT
    have e8 : (upd H7 Tt (.tup [.int (i : Nat), .int x])) Tt = some (.tup [.int (i : Nat), .int x]) := upd_same
    have S8 := S7.sm s8
    have eD8 := s8 _ _ eD
    have ex8 := ex7.trans (Ex.of s8)
    generalize upd H7 Tt (.tup [.int (i : Nat), .int x]) = H8 at s8 e8 S8 eD8 ex8 ⊢
    refine ⟨Tt, _, rfl, SqT.of e8, rfl, .int (i : Nat), _, rfl, .int x, _, rfl, rfl, rfl, ?_⟩
    refine ⟨v, rfl, .int (m : Int), rfl, .int x, rfl, ?_⟩
    dsimp only [tNil]
    show spPlaceOf P1 P2 X1 X3 X2 [v, .int (m : Int), .int x] H8 _ _
    refine c_place hf.f S8 hmom x0 x1 fun p H9 hp ex9 S9 => ?_
    have ep : p = (i : Int) := at_uniq hp hat
    refine ⟨.int (i : Nat), rfl, rfl, _, rfl, ?_⟩
    rw [show (!decide (V.int p = V.int ((i : Nat) : Int))) = false by rw [ep]; simp]
    exact iteF ⟨ex8.trans ex9, S9, ex9.lst eD8⟩
  · obtain ⟨ex7, S7, eD⟩ := hP
    refine ⟨small_le (by show 0 ≤ 1000; decide), fun E2 nE2 => ?_⟩
    have s8 := same_upd (o := .lst []) nE2
    refine ⟨.list [], .list [], .lst (SqL.of (s8 _ _ eD)) .nil, .lst (SqL.of upd_same) .nil, rfl, rfl, ?_⟩
    rw [show PyData.eqv (.list []) (.list []) = true from eqv_opts []]
    exact q _ (((ex14.trans ex6).trans ex7).trans (Ex.of s8)) (S7.sm s8)
end
end CL
set_option Elab.async false
set_option linter.all false
set_option pp.maxSteps 900
set_option maxRecDepth 100000
set_option maxHeartbeats 2000000
namespace CL
open PySem PySem.Spec PyProof.Rows L2 GE
abbrev sLaw : Stmt := topS 63
abbrev nLaw : List Str := ["script", "bag", "turn", "plan", "people", "line", "number", "patience", "stand", "place"]
theorem scLaw : FnScope nLaw ["script"] (defScope sLaw) := ⟨rfl, rfl, rfl, by decide +kernel, rfl, by decide +kernel, by decide +kernel⟩
def spE (sp : BG.Bg → Sp) : Sp := fun vs H Q E => ∃ r, sp r vs H Q E
def spLaw (K : PySem.W.Frag) (P1 P2 : Addr) : Sp := fun vs H Q _ => ∃ (a : Addr) (ns : List Int), vs = [.ref a] ∧ SqL K H a (ns.map V.int) ∧ ns.length ≤ 63 ∧ Tb P1 P2 H ∧ ∀ H', Q (.bl true) H'
/-- a line, and the plan whose first people come to it -/
structure W42 (C P1 P2 : Addr) (r : BG.Bg) (p q : Addr) (L : LnA) (rs : List RowT) (os : List (Option Int)) (n m : Nat) (H : Hp) : Prop where
  la : LineAt C H L (lsOf os m)
  bg : BG.BagAt n H r
  tb : Tb P1 P2 H
  rp : Rp (Hw (fun b => b = r.a ∨ L.has b) H) (.ref p) (.list (rs.map rowD))
  pe : H q = some (.lst (os.map optV))
  nq : ¬ L.has q
  na : ¬ L.has r.a
  nc : ¬ L.has r.c
  n1 : ¬ L.has P1
  n2 : ¬ L.has P2
section
variable {C P1 P2 : Addr} {r : BG.Bg} {p q : Addr} {L : LnA} {rs : List RowT} {os : List (Option Int)} {n m : Nat} {H H' : Hp}
theorem W42.sl (w : W42 C P1 P2 r p q L rs os n m H) : Sl r.a P1 P2 (.ref p) rs H := ⟨bag_reel w.bg, w.tb, Rp.sm (Hw.less (W := fun b => b = r.a) (W' := fun b => b = r.a ∨ L.has b) fun b hb => .inl hb) w.rp⟩
theorem W42.ex (w : W42 C P1 P2 r p q L rs os n m H) (e : Ex H H') (t : Tb P1 P2 H') : W42 C P1 P2 r p q L rs os n m H' := ⟨w.la.ex e, w.bg.kx e, t, Rp.ex e.hw _ _ w.rp, e.lst w.pe, w.nq, w.na, w.nc, w.n1, w.n2⟩
theorem W42.same (w : W42 C P1 P2 r p q L rs os n m H) (s : Same H H') : W42 C P1 P2 r p q L rs os n m H' := w.ex (Ex.of s) (w.tb.same s)
theorem tabG_keep {P : Addr} {H H' : Hp} (h : GxR.TabG H P) (k : ∀ o, H P = some o → H' P = some o) : GxR.TabG H' P := by
  obtain ⟨ps, e, t⟩ := h
  exact ⟨ps, k _ e, t⟩
theorem W42.mvl (w : W42 C P1 P2 r p q L rs os n m H) (l : LineAt C H' L (lsOf os (m + 1))) (v : MvL L H H') : W42 C P1 P2 r p q L rs os n (m + 1) H' := by
  refine ⟨l, ?_, ⟨tabG_keep w.tb.1 fun o e => v.keep _ _ w.n1 e, tabG_keep w.tb.2 fun o e => v.keep _ _ w.n2 e⟩, Rp.sm (fun b o e => ?_) w.rp, v.keep _ _ w.nq w.pe, w.nq, w.na, w.nc, w.n1, w.n2⟩
  · obtain ⟨ns, i, b, k, t, er, ec, rest⟩ := w.bg
    exact ⟨ns, i, b, k, t, v.keep _ _ w.na er, v.keep _ _ w.nc ec, rest⟩
  · have hb := Hw.ne e
    rw [Hw.at hb]
    exact v.keep _ _ (fun z => hb (.inr z)) (Hw.sub _ _ _ _ e)
end
theorem optV_flat : ∀ o : Option Int, flatV (optV o) = true
  | none => rfl
  | some _ => rfl
section
variable {P : Program} {w : World} {K : PySem.W.Frag} {mg : Str → Option Value} {base : Heap} {C fI fC fQ fL fW : Addr}
theorem ok_law {f P1 P2 X1 X2 X3 X5 : Addr} {fd fdI fdC fdQ : FuncData} (F : Fun K "law" "law" sLaw f fd) (T : Nm mg) (T2 : Nm2 mg) (TL : LnT K mg C) (M : Mk K C fI)
    (GI : FnOk P w K mg base CX0 1 fI fdI ["self"] (spInitL C)) (bI : Binds K fdI ["self"] [])
    (mC : Meth K C "come" fC) (GC : FnOk P w K mg base CX0 3 fC fdC ["self", "patience"] (spComeM C)) (bC : Binds K fdC ["self", "patience"] [])
    (mQ : Meth K C "queue" fQ) (GQ : FnOk P w K mg base CX0 1 fQ fdQ ["self"] (spQueM C)) (bQ : Binds K fdQ ["self"] [])
    (CB : Cal P w K mg base 1 "_law_bag" ["script"] (BG.spBag K)) (CPl : Cal P w K mg base 4 "_law_plan" ["bag"] (spE spPlanB)) (CSa : Cal P w K mg base 12 "_law_same" ["line", "plan", "moment"] (spSm C P1 P2))
    (CPf : CalX P w K mg base 10 "patience_of" ["plan", "person"] (spPatOf P1 P2 X1 X2)) (CPe : CalX P w K mg base 10 "person_at" ["plan", "moment", "place"] (spPersonAt P1 P2 X1 X3 X5)) : FnG P w K mg base 13 f fd ["script"] (spLaw K P1 P2) := by
  refine fng_of F scLaw (fun vs H Q E ⟨a, ns, e, _⟩ => by rw [e]; rfl) (fun cdv A outer s H vs Q E hgd hr h => ?_)
  obtain ⟨a, ns, rfl, hS, h63, hTb, q⟩ := h
  have nd := scLaw.nd
  have M6 : BG.M60 = 1000000000000000000 := rfl
  refine ⟨_, (pss_cons (ps_set (i := 1) nd rfl (.inl rfl) (pe_cal (CB.mono (by decide)) hr (by rfl) (pa_cons (pv 0) pa_nil)))
      (pss_cons (ps_for PassesOwn.never rfl (pi_range1 (by rfl) T2.range (pa_cons (pe_op op_add pe_int (pe_callB (call_min2 rfl) (by rfl) T2.min (by decide +kernel) (pa_cons pe_int (pa_cons (pe_callB call_len_seq (by rfl) T.len PySem.boot_len (pa_cons (pv 0) pa_nil)) pa_nil)))) pa_nil)) (pg_name (i := 2) nd rfl (.inl rfl)) (pss_cons (ps_asg (pe_cal (CPl.mono (by decide)) hr (by rfl) (pa_cons (pv 1) pa_nil)) (pg_seq rfl (pgs_cons (pg_name (i := 3) nd rfl (.inr rfl)) (pgs_cons (pg_name (i := 4) nd rfl (.inr rfl)) pgs_nil))))
      (pss_cons (ps_set (i := 5) nd rfl (.inl rfl) (pe_make0 M GI (hr.mono (by decide)) rfl TL.mgC bI .nil pass0))
      (pss_cons (ps_if (pt_not (pt_val (pe_cal (CSa.mono (by decide)) hr (by rfl) (pa_cons (pv 5) (pa_cons (pv 3) (pa_cons pe_int pa_nil)))))) (pss_one (ps_ret pe_bl)) pss_nil)
      (pss_cons (ps_for PassesOwn.never rfl (pi_enum (by rfl) T2.enum (pa_cons (pv 4) pa_nil)) (pg_seq rfl (pgs_cons (pg_name (i := 6) nd rfl (.inl rfl)) (pgs_cons (pg_name (i := 7) nd rfl (.inl rfl)) pgs_nil))) (pss_cons (ps_if (PW.pt (pw_or (pt_cmpR op_ne (pe_calX (CPf.mono (by decide)) hr (by rfl) (passes_call takes0 fun _ _ _ _ h => h) (pa_cons (pv 3) (pa_cons (pv 6) pa_nil))) (pv 7) (nomark _)) (pw_or1 (pt_cmpR op_ne (pe_meth (pv 5) TL.cl mC GC (hr.mono (by decide)) bC .nil pass0 (pa_cons (pv 7) pa_nil)) (pv 6) (nomark _))))) (pss_one (ps_ret pe_bl)) pss_nil)
      (pss_one (ps_if (PW.pt (pw_and (pt_cmpR op_eq (pe_op op_mod (pv 6) pe_int) pe_int (nomark _)) (pw_and1 (pt_not (pt_val (pe_cal (CSa.mono (by decide)) hr (by rfl) (pa_cons (pv 5) (pa_cons (pv 3) (pa_cons (pe_op op_add (pv 6) pe_int) pa_nil))))))))) (pss_one (ps_ret pe_bl)) pss_nil))))
      (pss_cons (ps_if (pt_not (pt_val (pe_cal (CSa.mono (by decide)) hr (by rfl) (pa_cons (pv 5) (pa_cons (pv 3) (pa_cons (pe_callB call_len_seq (by rfl) T.len PySem.boot_len (pa_cons (pv 4) pa_nil)) pa_nil)))))) (pss_one (ps_ret pe_bl)) pss_nil)
      (pss_cons (ps_set (i := 8) nd rfl (.inl rfl) (pe_meth0 (pv 5) TL.cl mQ GQ (hr.mono (by decide)) bQ .nil pass0))
      (pss_one (ps_if (pt_cmpR (op_neD hr.units) (pe_lc (own := [("place", 9)]) (g := (gName 9)) (tt := tYes) rfl nd (pi_range1 (by rfl) T2.range (pa_cons (pe_callB call_len_seq (by rfl) T.len PySem.boot_len (pa_cons (pv 8) pa_nil)) pa_nil)) (blkOk_by (own := [("place", 9)]) (N := nLaw) (sc := (defScope sLaw)) (by decide +kernel)) (fun _ _ _ _ _ => (pg_name (i := 9) nd rfl (.inl rfl))) (fun _ _ _ _ _ => pts_nil) (fun _ _ _ _ _ => (pe_calX (CPe.mono (by decide)) hr (by rfl) (passes_call takes0 fun _ _ _ _ h => h) (pa_cons (pv 3) (pa_cons (pe_callB len_blk (by rfl) T.len PySem.boot_len (pa_cons (pv 4) pa_nil)) (pa_cons (pv 9) pa_nil)))))) (pv 8) (nomark _)) (pss_one (ps_ret pe_bl)) pss_nil)))))))))
      (pss_one (ps_ret pe_bl)))), ?_⟩
  refine ⟨.ref a, rfl, a, ns, rfl, hS, fun r H1 s1 nr b1 => ?_⟩
  have lm : (ns.map V.int).length = ns.length := List.length_map ..
  have tb1 := hTb.same s1
  dsimp only [gName]
  show tSeq _ _ _ [some (.ref a), some (.ref r.a), none, none, none, none, none, none, none, none] H1
  refine ⟨.ref a, rfl, a, ns.map V.int, rfl, .inl (s1.seq hS), 2, (ns.map V.int).length, rfl, 1, _, rfl, rfl, _, rfl, by split <;> omega, by split <;> omega, ?_⟩
  refine for_range (lo := 0) (n := ((1 : Int) + (if ((ns.map V.int).length : Int) < 2 then ((ns.map V.int).length : Int) else 2)).toNat) (fun i σ H2 => ∃ y2 y3 y4 y5 y6 y7 y8, σ = [some (.ref a), some (.ref r.a), y2, y3, y4, y5, y6, y7, y8, none] ∧ BG.BagAt (1000 * i) H2 r ∧ Tb P1 P2 H2)
    ⟨none, none, none, none, none, none, none, rfl, b1, tb1⟩ (fun i0 σ H2 hi hP => ?_) (fun σ H2 _ => q H2)
  obtain ⟨y2, y3, y4, y5, y6, y7, y8, rfl, b2, tb2⟩ := hP
  have hi3 : i0 < 3 := by split at hi <;> omega
  clear hi b1 tb1 hS hTb
  dsimp only [gName]
  show tSeq _ _ _ [some (.ref a), some (.ref r.a), some (.int (0 + (i0 : Int))), y3, y4, y5, y6, y7, y8, none] H2
  refine ⟨.ref r.a, rfl, r, 1000 * i0, rfl, b2, by omega, fun t p qq rs os H3 b3 m3 et rp3 eq3 qr hf h70 => ?_⟩
  have tb3 := tb2.mv (bag_reel b2) (bag_mv m3)
  refine ⟨t, _, rfl, ⟨.inl et⟩, rfl, .ref p, _, rfl, .ref qq, _, rfl, rfl, ?_⟩
  show tSeq _ _ _ [some (.ref a), some (.ref r.a), some (.int (0 + (i0 : Int))), some (.ref p), some (.ref qq), y5, y6, y7, y8, none] H3
  refine fun x1 dx1 nx1 nd1 ne1 => ⟨x1, dx1, rfl, upd_same, fun L H4 eA nA lA kA => ⟨rfl, ?_⟩⟩
  have s34 : Same H3 H4 := fun b o e => kA b o (ne_of_none e nx1) (by rw [upd_ne (ne_of_none e nx1), upd_ne (ne_of_none e nd1)]; exact e)
  have nA0 : ∀ b, L.has b → H3 b = none := fun b hb => by
    cases z : H3 b with
    | none => rfl
    | some o =>
      have := nA b hb
      rw [upd_ne (ne_of_none z nx1), upd_ne (ne_of_none z nd1), z] at this
      cases this
  have out : ∀ {b : Addr} {o : HO}, H3 b = some o → ¬ L.has b := fun {b o} e z => by rw [nA0 b z] at e; cases e
  have W0 : W42 C P1 P2 r p qq L rs os (1000 * i0 + 500) 0 H4 := by
    have b3' := b3
    obtain ⟨ns', i', b', k', t', er, ec, _⟩ := b3'
    have tb3' := tb3
    obtain ⟨⟨q1, e1, _⟩, ⟨q2, e2, _⟩⟩ := tb3'
    refine ⟨lA, b3.same s34, tb3.same s34, Rp.sm (fun b o e => ?_) rp3, s34 _ _ eq3, out eq3, out er, out ec, out e1, out e2⟩
    have hb := Hw.ne e
    have e' := Hw.sub _ _ _ _ e
    rw [Hw.at (W := fun b => b = r.a ∨ L.has b) (fun z => z.elim hb (out e'))]
    exact s34 _ _ e'
  subst eA
  clear s34 nA0 out lA kA nA rp3 eq3 et tb3 b3 m3 b2 tb2 nx1 nd1 ne1
  dsimp only [gName]
  show tSeq _ _ _ [some (.ref a), some (.ref r.a), some (.int (0 + (i0 : Int))), some (.ref p), some (.ref qq), some (.ref L.o), y6, y7, y8, none] H4
  have hi := hf.hi
  refine ⟨.ref L.o, rfl, .ref p, rfl, L, .ref p, 0, r.a, rs, os, rfl, W0.la, W0.sl, hf, Nat.zero_le _, h70, fun H5 ex5 S5 => ⟨true, rfl, iteF ?_⟩⟩
  have W5 := W0.ex ex5 S5.tb
  clear W0 S5 ex5
  dsimp only [tNext]
  show tSeq _ _ _ [some (.ref a), some (.ref r.a), some (.int (0 + (i0 : Int))), some (.ref p), some (.ref qq), some (.ref L.o), y6, y7, y8, none] H5
  refine ⟨.ref qq, rfl, qq, _, rfl, SqL.of W5.pe, for_it (walk_enum (xs := os.map optV)) (fun i σ H6 => ∃ y6 y7, σ = [some (.ref a), some (.ref r.a), some (.int (0 + (i0 : Int))), some (.ref p), some (.ref qq), some (.ref L.o), y6, y7, y8, none] ∧ i ≤ os.length ∧ W42 C P1 P2 r p qq L rs os (1000 * i0 + 500) i H6)
    ⟨y6, y7, rfl, Nat.zero_le _, W5⟩ (fun i σ H6 _ hP => SqL.of hP.choose_spec.choose_spec.2.2.pe) (fun i x σ H6 H7 hi hP hY => ?_) (fun σ H6 hP => ?_)⟩
  · obtain ⟨y6, y7, rfl, _, W6⟩ := hP
    obtain ⟨Tt, xi, xc, rfl, nT, rfl, hxi, hxc⟩ := hY
    cases hxi
    have hxc : (os.map optV)[i]? = some xc := hxc
    rw [List.getElem?_map] at hxc
    obtain ⟨o, ho, rfl⟩ := Option.map_eq_some_iff.mp hxc
    have hio : i < os.length := (List.getElem?_eq_some_iff.mp ho).1
    have s7 := same_upd (o := .tup [.int (i : Nat), optV o]) nT
    have e7 : (upd H6 Tt (.tup [.int (i : Nat), optV o])) Tt = some (.tup [.int (i : Nat), optV o]) := upd_same
    have W7 := W6.same s7
    generalize upd H6 Tt (.tup [.int (i : Nat), optV o]) = H7 at s7 e7 W7 ⊢
    clear W6 s7
    refine ⟨Tt, _, rfl, ⟨.inr e7⟩, rfl, .int (i : Nat), _, rfl, optV o, _, rfl, rfl, ?_⟩
    show tSeq _ _ _ [some (.ref a), some (.ref r.a), some (.int (0 + (i0 : Int))), some (.ref p), some (.ref qq), some (.ref L.o), some (.int (i : Nat)), some (optV o), y8, none] H7
    have hmo := hf.mo (m := i + 1) (n := i + 1) (by omega) (Nat.le_refl _) hio
    refine ⟨.ref p, rfl, .int (i : Nat), rfl, ?_⟩
    dsimp only [tNil]
    show spPatOf P1 P2 X1 X2 [.ref p, .int (i : Nat)] H7 _ _
    refine c_pat hf.f W7.sl (hmo.ask (by omega) (by omega)) fun tt x H8 hpt hpat hx ex8 S8 => ?_
    have ett := pt_uniq hpt (hf.pt i o ho)
    subst ett
    obtain rfl := rp_opt hx
    have W8 := W7.ex ex8 S8.tb
    clear W7 ex8 S8 e7
    have hpd : isPatience (optD o) = true := by
      have e : optD o = pdO o := by cases o <;> rfl
      rw [e]; exact hpat
    have ne0 : (!decide (optV o = optV o)) = false := by simp
    refine ⟨optV o, rfl, by cases o <;> rfl, _, rfl, ?_⟩
    rw [ne0]
    refine iteF ?_
    obtain ⟨dx, fs, hob, hfl⟩ := W8.la.ob
    have hpl : (lsOf os i).ps.length = i := (lsOf_sim hf i (by omega)).lp
    refine ⟨.ref L.o, rfl, L.o, dx, fs, rfl, hob, hfl.come, optV o, rfl, L, lsOf os i, o, rfl, W8.la, hpd, by omega, fun H9 l9 m9 => ?_⟩
    have ho2 : os.getD i none = o := by rw [List.getD_eq_getElem?_getD, ho]; rfl
    have W9 : W42 C P1 P2 r p qq L rs os (1000 * i0 + 500) (i + 1) H9 := W8.mvl (by show LineAt C H9 L (comeS (lsOf os i) (os.getD i none)); rw [ho2]; exact l9) m9
    clear W8 l9 m9
    refine ⟨.int (i : Nat), rfl, rfl, _, rfl, ?_⟩
    rw [show (!decide (V.int ((lsOf os i).ps.length : Int) = V.int ((i : Nat) : Int))) = false by rw [hpl]; simp]
    refine iteF ?_
    dsimp only [tNext]
    refine ⟨.int (i : Nat), rfl, (i : Int), 30, rfl, rfl, (by show (0 : Int) < 30; decide), rfl, _, rfl, ite2 (fun _ => ?_) (fun _ => iteF ?_)⟩
    · refine ⟨.ref L.o, rfl, .ref p, rfl, .int (i : Nat), rfl, (i : Int), 1, rfl, rfl, L, .ref p, i + 1, r.a, rs, os, rfl, W9.la, W9.sl, hf, hio, h70, fun H10 ex10 S10 => ⟨true, rfl, iteF ?_⟩⟩
      exact ⟨_, _, rfl, hio, W9.ex ex10 S10.tb⟩
    · exact ⟨_, _, rfl, hio, W9⟩
  · obtain ⟨y6, y7, rfl, _, W6⟩ := hP
    have lmo : (os.map optV).length = os.length := List.length_map ..
    rw [lmo] at W6
    dsimp only []
    show tSeq _ _ _ [some (.ref a), some (.ref r.a), some (.int (0 + (i0 : Int))), some (.ref p), some (.ref qq), some (.ref L.o), y6, y7, y8, none] H6
    refine ⟨.ref L.o, rfl, .ref p, rfl, .ref qq, rfl, qq, _, rfl, .inl (SqL.of W6.pe), L, .ref p, os.length, r.a, rs, os, by rw [lmo]; rfl, W6.la, W6.sl, hf, Nat.le_refl _, h70, fun H7 ex7 S7 => ⟨true, rfl, iteF ?_⟩⟩
    have W7 := W6.ex ex7 S7.tb
    clear W6 W5 ex7 S7
    dsimp only [tNext]
    obtain ⟨dx, fs, hob, hfl⟩ := W7.la.ob
    have hsim := lsOf_sim hf os.length (Nat.le_refl _)
    obtain ⟨past, left, hs, hpast, hleft⟩ := hsim.sim
    refine ⟨.ref L.o, rfl, L.o, dx, fs, rfl, hob, hfl.queue, L, lsOf os os.length, rfl, W7.la, fun A2 nA2 => ?_⟩
    have s8 := same_upd (o := .lst (ppl (lsOf os os.length).xs)) nA2
    have e8 : (upd H7 A2 (.lst (ppl (lsOf os os.length).xs))) A2 = some (.lst ((up (lsOf os os.length).xs).map V.int)) := by rw [upd_same, ppl_up]
    have W8 := W7.same s8
    generalize upd H7 A2 (.lst (ppl (lsOf os os.length).xs)) = H8 at s8 e8 W8 ⊢
    clear W7 hob hfl s8
    have hql := hs.lq
    generalize lsOf os os.length = st at hs hpast hleft hql e8 hsim
    have hmom := firsts_mom hf (Nat.le_refl os.length)
    dsimp only [gName]
    show tIfS _ _ _ _ [some (.ref a), some (.ref r.a), some (.int (0 + (i0 : Int))), some (.ref p), some (.ref qq), some (.ref L.o), y6, y7, some (.ref A2), none] H8
    refine ⟨.ref A2, rfl, A2, _, rfl, .inl (SqL.of e8), _, rfl, by rw [List.length_map]; omega, by rw [List.length_map]; omega, fun D hD => ?_⟩
    rw [List.length_map, hql]
    refine lc_range (lo := 0) (n := ((os.length : Int)).toNat) (fun j H' => Ex H8 H' ∧ Sl r.a P1 P2 (.ref p) rs H' ∧ H' D = some (.lst (((up st.xs).take j).map V.int))) ⟨Ex.new hD, W8.sl.sm (same_upd hD), upd_same⟩ (fun j H9 hj ⟨ex9, S9, eD⟩ => ?_) (fun H9 ⟨ex9, S9, eD⟩ => ?_)
    · have hjm : j < os.length := by omega
      rw [Int.zero_add]
      have Dn : D ≠ qq := fun z => by rw [z, W8.pe] at hD; cases hD
      refine ⟨rfl, yesT ⟨.ref p, rfl, .ref qq, rfl, qq, _, rfl, .inl (SqL.of (ex9.lst W8.pe)), .int (j : Int), rfl, ?_⟩⟩
      dsimp only [tNil]
      rw [lmo]
      show spPersonAt P1 P2 X1 X3 X5 [.ref p, .int (os.length : Int), .int (j : Int)] H9 _ _
      refine c_pers hf.f S9 hmom (by omega) (by omega) fun x H10 hat x0 x1 ex10 S10 => ?_
      obtain ⟨x', hx'⟩ : ∃ x', (up st.xs)[j]? = some x' := ⟨_, List.getElem?_eq_getElem (by omega)⟩
      obtain ⟨x'0, x'1, hat'⟩ := hs.at_ j x' hx'
      have exx : x = x' := at_one (psR_ok hf.f) hat (by omega) (by omega) rfl hat'
      refine ⟨_, ex10.lst eD, by rw [List.length_map, List.length_take]; exact small1000 (by omega), ?_, ?_, ?_⟩
      · exact ex_updN (ex9.trans ex10) hD
      · have exU : Ex H8 (upd H10 D (.lst (((up st.xs).take j).map V.int ++ [V.int x]))) := ex_updN (ex9.trans ex10) hD
        exact ⟨bag_reel (W8.bg.kx exU), tb_upd S10.tb (ex10.lst eD), Rp.ex exU.hw _ _ W8.sl.rp⟩
      · rw [upd_same, List.take_add_one, hx', List.map_append, exx]
        rfl
    · rw [show ((os.length : Int)).toNat = (up st.xs).length by omega, List.take_length] at eD
      refine ⟨.ref A2, rfl, .list ((so st.xs).map optD), .list ((so st.xs).map optD), .lst (SqL.of (by rw [up_so] at eD; exact eD)) (opts_dp _), .lst (SqL.of (by have := ex9.lst e8; rw [up_so] at this; exact this)) (opts_dp _), opts_shaped _, opts_shaped _, _, rfl, ite2 (fun y => absurd y (by rw [eqv_opts]; simp)) (fun _ => ?_)⟩
      exact ⟨_, _, _, _, _, _, _, rfl, (W8.bg.kx ex9).mono (by omega), S9.tb⟩
end
end CL
set_option Elab.async false
set_option linter.all false
set_option maxRecDepth 100000
set_option maxHeartbeats 4000000
namespace CL
open PySem PySem.Spec PyProof.Rows L2 GE
/-! ### the end: what is tracked when the law is called, and that the run leaves the heap as it was but for the tables -/
def H0 (ts : List Addr) (K : PySem.W.Frag) (a : Addr) (vs : List Value) (ns : List Int) : Hp := fun b =>
  if b ∈ ts then some (.tbl #[]) else if b = a ∧ (K.lookup a).isNone = true then some (.frz { cls := .type "list", data := .seq vs.toArray } (.lst (ns.map V.int))) else none
section
variable {ts : List Addr} {K : PySem.W.Frag} {a : Addr} {vs : List Value} {ns : List Int} {h : Heap}
theorem H0.tab {b : Addr} (m : b ∈ ts) : H0 ts K a vs ns b = some (.tbl #[]) := if_pos m
theorem H0.cases {b : Addr} {u : HO} (e : H0 ts K a vs ns b = some u) : (b ∈ ts ∧ u = .tbl #[]) ∨ (b = a ∧ K.lookup a = none ∧ u = .frz { cls := .type "list", data := .seq vs.toArray } (.lst (ns.map V.int))) := by
  unfold H0 at e
  split at e
  · rename_i m
    exact .inl ⟨m, (Option.some.inj e).symm⟩
  · split at e
    · rename_i z
      exact .inr ⟨z.1, Option.isNone_iff_eq_none.mp z.2, (Option.some.inj e).symm⟩
    · cases e
/-- an object that is no list and no empty table is not tracked -/
theorem H0.other (hT : ∀ b ∈ ts, h.get? b = some { cls := .none, data := .fields #[] }) (ha : h.get? a = some { cls := .type "list", data := .seq vs.toArray }) {b : Addr} {o : Obj} (e : h.get? b = some o) (h1 : o.data ≠ .seq vs.toArray) (h2 : o.data ≠ .fields #[]) :
    H0 ts K a vs ns b = none := by
  cases q : H0 ts K a vs ns b with
  | none => rfl
  | some u =>
    rcases H0.cases q with ⟨m, _⟩ | ⟨rfl, _, _⟩
    · rw [hT b m] at e
      cases e
      exact absurd rfl h2
    · rw [ha] at e
      cases e
      exact absurd rfl h1
end
theorem end_own {P : Program} {w : World} {K : PySem.W.Frag} {mg mb : Str → Option Value} {q : Program} {loose : List Str} {mean : ExcName → Option Value} {k : Nat} {fa a : Addr} {fd : FuncData} {x : Str} {sp : Sp} {s₁ : Shared} {vs : List Value} {ns : List Int} (ts : List Addr)
    (KX : K.In s₁.heap) (T : Top q loose mean mg mb s₁.heap) (hi0 : importsNone q = true) (hg : s₁.gens = #[])
    (hT : ∀ b ∈ ts, s₁.heap.get? b = some { cls := .none, data := .fields #[] }) (hC : ∀ b ∈ ts, ∃ c, PySem.W.codeHdIn K c b = true) (nT : ∀ b ∈ ts, K.lookup b = none)
    (ha : s₁.heap.get? a = some { cls := .type "list", data := .seq vs.toArray }) (hi : IntsAre vs ns) (hl : ns.length ≤ sizeLine) (hr : Room k callerA)
    (F : ∀ base : Heap, K.In base → base.Ns mainGlobals mg → (∃ o, base.get? sysModules = some o) → (∀ b ∈ ts, base.BuiltinsAt mg b ∧ mainGlobals ≠ b) → FnG P w K mg base k fa fd [x] sp)
    (hbind : ∀ (s : Shared) (u : Value), BindsTo s fd ⟨[u], []⟩ [(x, u)])
    (hsp : ∀ H : Hp, (∀ b ∈ ts, H b = some (.tbl #[])) → SqL K H a (ns.map V.int) → sp [.ref a] H (fun v _ => v = .bl true) fun _ _ _ => False) :
    codeAny (model P w) callerA (.call (.ref fa) ⟨[.ref a], []⟩) (fun r s' => r = .ok (.ret (.bool true)) ∧ OldK s₁.heap s'.heap ∧ s'.os = s₁.os ∧ AllBare s'.gens) s₁ := by
  have rv := vals_ints hi
  have aT : a ∉ ts := fun m => by
    have z := hT a m
    rw [ha] at z
    cases z
  generalize hH : H0 ts K a vs ns = H
  have tabs : ∀ b ∈ ts, H b = some (.tbl #[]) := fun b m => by rw [← hH]; exact H0.tab m
  have cs : ∀ {b : Addr} {u : HO}, H b = some u → (b ∈ ts ∧ u = .tbl #[]) ∨ (b = a ∧ K.lookup a = none ∧ u = .frz { cls := .type "list", data := .seq vs.toArray } (.lst (ns.map V.int))) := fun e => by
    rw [← hH] at e
    exact H0.cases e
  have oth : ∀ {b : Addr} {o : Obj}, s₁.heap.get? b = some o → o.data ≠ .seq vs.toArray → o.data ≠ .fields #[] → H b = none := fun e h1 h2 => by
    rw [← hH]
    exact H0.other hT ha e h1 h2
  have inB : ∀ {b : Addr} {o : Obj}, s₁.heap.get? b = some o → H b = none → (hidT s₁.heap H).get? b = some o := fun e n => hidT_get e n
  have nsB : ∀ {b : Addr} {m : Str → Option Value}, s₁.heap.Ns b m → (hidT s₁.heap H).Ns b m := fun ⟨o, es, ep, e, d, r⟩ => ⟨o, es, ep, inB e (oth e (by rw [d]; exact nofun) (by rw [d]; exact nofun)), d, r⟩
  have hok : HOk P w H s₁.heap := fun b u e => by
    rcases cs e with ⟨m, rfl⟩ | ⟨rfl, _, rfl⟩
    · exact hT b m
    · exact ⟨ha, by rw [List.length_map]; exact hl, vs, _, rv, ha⟩
  have hS : SqL K H a (ns.map V.int) := by
    cases hk : K.lookup a with
    | some o =>
      have e := KX a o hk
      rw [ha] at e
      cases e
      exact .inr ⟨_, vs.toArray, _, hk, rfl, rfl, rfl, by rw [List.size_toArray, hi.length]; exact hl, by simpa using rv⟩
    | none =>
      have e : H a = some (.frz { cls := .type "list", data := .seq vs.toArray } (.lst (ns.map V.int))) := by
        rw [← hH]
        unfold H0
        rw [if_neg aT, if_pos ⟨rfl, by rw [hk]; rfl⟩]
      exact .inl (.inr ⟨_, e⟩)
  have KB : K.In (hidT s₁.heap H) := fun b o e => inB (KX b o e) (by
    cases z : H b with
    | none => rfl
    | some u =>
      rcases cs z with ⟨m, _⟩ | ⟨rfl, n, _⟩
      · rw [nT b m] at e; cases e
      · rw [n] at e; cases e)
  have hM : L2.Mod K mg (hidT s₁.heap H) := ⟨KB, nsB T.g, ⟨mb, nsB T.b, T.builtins⟩, let ⟨mc, h1, h2⟩ := T.nolimit; ⟨mc, nsB h1, h2⟩⟩
  have sysB : ∃ o, (hidT s₁.heap H).get? sysModules = some o := by
    obtain ⟨mm, ⟨o, es, ep, e, d, _⟩, _⟩ := (T.seer hi0).mods
    exact ⟨o, inB e (oth e (by rw [d]; exact nofun) (by rw [d]; exact nofun))⟩
  have gB : ∀ b ∈ ts, mainGlobals ≠ b := fun b m z => by
    obtain ⟨o, es, ep, e, d, _⟩ := T.g
    rw [z, hT b m] at e
    cases e
    cases d
  have bB : ∀ b ∈ ts, (hidT s₁.heap H).BuiltinsAt mg b := fun b m => by
    obtain ⟨bm, ob, b1, b2, b3, b4, b5, b6⟩ := T.bmain
    refine ⟨bm, ob, b1, b2, fun z => ?_, fun z => ?_, inB b3 (oth b3 (by rw [b6]; exact nofun) (by rw [b6]; exact nofun)), b4, b5, b6⟩
    · obtain ⟨o, es, ep, e, d, _⟩ := T.g
      rw [z, e] at b3
      cases b3
      rw [d] at b6
      cases b6
    · rw [z, hT b m] at b3
      cases b3
      cases b6
  have e0 : Env0 P w K mg (hidT s₁.heap H) callerA [] s₁ H := ⟨rfl, hM, fun b o e => of_hidT e, Nat.le_of_eq (hidT_size _ _), trivial, fun b hb => absurd (show b ∈ ([] : List Addr) from hb) (by simp), hok, .of_eq hg⟩
  have G := F _ KB (nsB T.g) sysB fun b m => ⟨bB b m, gB b m⟩
  refine codeAny_mono (G.run callerA [] s₁ H ⟨[.ref a], []⟩ [.ref a] [.ref a] _ _ rfl hr e0 (hbind s₁ (.ref a)) (.cons rfl .nil) (hsp H tabs hS)) fun r s' z => ?_
  cases r with
  | error e => exact False.elim z
  | ok fl =>
    cases fl with
    | next => exact False.elim z
    | brk => exact False.elim z
    | cont => exact False.elim z
    | ret u =>
      obtain ⟨v, H', os, bare, un, hok', r', e'⟩ := z
      obtain rfl : v = .bl true := e'
      obtain rfl : u = Value.bool true := r'
      have stays : ∀ b o, b ∉ ts → s₁.heap.get? b = some o → s'.heap.get? b = some o := fun b o nb e => by
        cases z : H b with
        | none => exact un.keep b o e z (fun y => absurd (show b ∈ ([] : List Addr) from y) (by simp)) (by simp)
        | some u =>
          rcases cs z with ⟨m, _⟩ | ⟨rfl, _, rfl⟩
          · exact absurd m nb
          · rw [ha] at e
            cases e
            exact (hok' _ _ (un.frzs _ _ _ z)).1
      have grow : ∀ b ∈ ts, ∃ more : Array Value, s'.heap.get? b = some { cls := .none, data := .fields more } := fun b m => by
        obtain ⟨more, e⟩ := un.tbls b #[] (tabs b m)
        exact ⟨_, hok' b _ e⟩
      refine ⟨rfl, ⟨fun b o e => ?_, fun b o e => ?_⟩, os, bare⟩
      · by_cases m : b ∈ ts
        · obtain ⟨c, hc⟩ := hC b m
          obtain ⟨more, hm⟩ := grow b m
          rw [hT b m] at e
          cases e
          exact .inr (.inl ⟨((PySem.W.codeHd_of_K KX hc).tab (hT b m)).isCodeTable, rfl, #[], more, rfl, by rw [Array.empty_append]; exact hm⟩)
        · exact .inl (stays b o m e)
      · by_cases m : b ∈ ts
        · obtain ⟨more, hm⟩ := grow b m
          exact ⟨_, hm⟩
        · exact ⟨o, stays b o m e⟩
end CL
set_option Elab.async false
set_option linter.all false
set_option maxRecDepth 100000
set_option maxHeartbeats 4000000
namespace CL
open PySem PySem.Spec PyProof.Rows L2 GE
theorem fnE {P : Program} {w : World} {K : PySem.W.Frag} {mg : Str → Option Value} {base : Heap} {k : Nat} {f : Addr} {fd : FuncData} {ps : List Str} {sp : BG.Bg → Sp} (F : ∀ r, FnOk P w K mg base CX0 k f fd ps (sp r)) : FnOk P w K mg base CX0 k f fd ps (spE sp) :=
  ⟨fun vs H Q E ⟨r, h⟩ => (F r).len vs H Q E h, fun A outer s H args us vs Q E hr e0 hb rv ⟨r, h⟩ => (F r).run A outer s H args us vs Q E hr e0 hb rv h⟩
/-- the table of a def of the program is empty when the law is called -/
theorem tab_of {q : Program} {loose : List Str} {mean : ExcName → Option Value} {mg mb : Str → Option Value} {h : Heap} {K : PySem.W.Frag} {n : Str} {f c P : Addr} {o : Obj} {fd : FuncData} (T : Top q loose mean mg mb h) (KX : K.In h) (hr : ((recsOf q).any fun e => e.name == n) = true)
    (hm : mg n = some (.ref f)) (k1 : K.lookup f = some o) (k2 : o.data = .func fd) (k3 : fd.code = .ref c) (hh : PySem.W.codeHdIn K c P = true) : h.get? P = some { cls := .none, data := .fields #[] } := by
  obtain ⟨d, hd, e⟩ := List.any_eq_true.mp hr
  have e' : d.name = n := beq_iff_eq.mp e
  obtain ⟨a', o', fd', c', P', t1, t2, t3, t4, t5, t6⟩ := T.tab d hd
  rw [e', hm] at t1
  cases t1
  rw [KX _ _ k1] at t2
  cases t2
  rw [k2] at t3
  cases t3
  rw [k3] at t4
  cases t4
  obtain ⟨⟨oc, vc, g1, _, g3, g4⟩, g5⟩ := t6
  obtain ⟨oh, uh, _, _, _, _, _, _, _, i1, _, i2, i3, _⟩ := PySem.W.codeHd_of_K KX hh
  rw [g1] at i1
  cases i1
  rw [g3] at i2
  cases i2
  rw [g4] at i3
  cases i3
  exact g5
/-- what the head must know of the law's def -/
def AtLaw (l : PySem.W.OpenLaw) (w : World) (K : PySem.W.Frag) (mg : Str → Option Value) (fa : Addr) (h : Heap) : Prop :=
  ∃ (fd : FuncData) (P1 P2 : Addr), (∀ b ∈ [P1, P2], h.get? b = some { cls := .none, data := .fields #[] }) ∧ (∀ b ∈ [P1, P2], ∃ c, PySem.W.codeHdIn K c b = true) ∧ (∀ b ∈ [P1, P2], K.lookup b = none) ∧ (∀ (s : Shared) (u : Value), BindsTo s fd ⟨[u], []⟩ [("script", u)]) ∧
    ∀ base : Heap, K.In base → base.Ns mainGlobals mg → (∃ o, base.get? sysModules = some o) → (∀ b ∈ [P1, P2], base.BuiltinsAt mg b ∧ mainGlobals ≠ b) → FnG l.prog w K mg base 13 fa fd ["script"] (spLaw K P1 P2)
theorem walk {l : PySem.W.OpenLaw} {q : Program} {loose : List Str} {XP : (Str → Option Value) → Heap → Prop} {YP : World → Heap → Prop} {d : DefRec} {K : Params → PySem.W.Frag} (hn : l.most = some 63) (hdf : d.params.defaults = []) (hi0 : importsNone q = true)
    (hY : ∀ (w : World) (h : Heap), YP w h → (K w.params).In h)
    (F : ∀ (w : World) (mg mb : Str → Option Value) (mean : ExcName → Option Value) (lo : List Str) (fa : Addr) (h : Heap), (K w.params).In h → Top q lo mean mg mb h → mg d.name = some (.ref fa) → AtLaw l w (K w.params) mg fa h) :
    PySem.W.WalkO q loose XP YP l.row.toRowW d [] (fun f vs => PySem.call f vs) := by
  refine Att.attach_callB hn hdf fun w s₀ s₁ mg mb fa o pm cd doc a vs ns G Y ho hd hcd hmg hobj hints hlen _ hg => ?_
  obtain ⟨fd, P1, P2, h1, h2, h3, h4, h5⟩ := F w mg mb _ _ fa s₁.heap (hY w _ Y) G.T hmg
  exact end_own [P1, P2] (hY w _ Y) G.T hi0 hg h1 h2 h3 hobj hints (Nat.le_trans hlen (by decide)) ⟨rfl, by decide, by decide⟩ h5 h4 fun H t hS => ⟨a, ns, rfl, hS, hlen, ⟨⟨#[], t P1 (by simp), trivial⟩, ⟨#[], t P2 (by simp), trivial⟩⟩, fun _ => rfl⟩
theorem all_mk {l : PySem.W.OpenLaw} {w : World} {K : PySem.W.Frag} {q : Program} {lo : List Str} {mean : ExcName → Option Value} {h : Heap} {mg mb : Str → Option Value} {fa fMI fMC fMQ fML fMW fW fR fA fT fI fL fck fG fM fV fta fpt fC fN flp fln flt fqu fle fpf fIn fse fwi fss fro fob fls fso fwn fli fwe fsa fwa fpo fpe fBG fSR fD fpa fpl fsm fZ cT cL PT PL X1 X2 X3 X5 X7 CR cLN : Addr} (X : K.In h) (G : Top q lo mean mg mb h) (hfa : mg "law" = some (.ref fa))
    {odMI anMI : Option Addr} {slMI : Array (Option Value)} {ocMI kVMI dcMI pmMI cdMI ctMI : Value}
    {odMC anMC : Option Addr} {slMC : Array (Option Value)} {ocMC kVMC dcMC pmMC cdMC ctMC : Value}
    {odMQ anMQ : Option Addr} {slMQ : Array (Option Value)} {ocMQ kVMQ dcMQ pmMQ cdMQ ctMQ : Value}
    {odML anML : Option Addr} {slML : Array (Option Value)} {ocML kVML dcML pmML cdML ctML : Value}
    {odMW anMW : Option Addr} {slMW : Array (Option Value)} {ocMW kVMW dcMW pmMW cdMW ctMW : Value}
    {odW anW : Option Addr} {slW : Array (Option Value)} {ocW kVW dcW pmW cdW ctW : Value}
    {odR anR : Option Addr} {slR : Array (Option Value)} {ocR kVR dcR pmR cdR ctR : Value}
    {odA anA : Option Addr} {slA : Array (Option Value)} {ocA kVA dcA pmA cdA ctA : Value}
    {odT anT : Option Addr} {slT : Array (Option Value)} {ocT kVT dcT pmT ctT : Value}
    {odI anI : Option Addr} {slI : Array (Option Value)} {ocI kVI dcI pmI cdI ctI : Value}
    {odL anL : Option Addr} {slL : Array (Option Value)} {ocL kVL dcL pmL ctL : Value}
    {odck anck : Option Addr} {slck : Array (Option Value)} {occk kVck dcck pmck cdck ctck : Value}
    {odG anG : Option Addr} {slG : Array (Option Value)} {ocG kVG dcG pmG cdG ctG : Value}
    {odM anM : Option Addr} {slM : Array (Option Value)} {ocM kVM dcM pmM cdM ctM : Value}
    {odV anV : Option Addr} {slV : Array (Option Value)} {ocV kVV dcV pmV cdV ctV : Value}
    {odta anta : Option Addr} {slta : Array (Option Value)} {octa kVta dcta pmta cdta ctta : Value}
    {odpt anpt : Option Addr} {slpt : Array (Option Value)} {ocpt kVpt dcpt pmpt cdpt ctpt : Value}
    {odC anC : Option Addr} {slC : Array (Option Value)} {ocC kVC dcC pmC cdC ctC : Value}
    {odN anN : Option Addr} {slN : Array (Option Value)} {ocN kVN dcN pmN cdN ctN : Value}
    {odlp anlp : Option Addr} {sllp : Array (Option Value)} {oclp kVlp dclp pmlp cdlp ctlp : Value}
    {odln anln : Option Addr} {slln : Array (Option Value)} {ocln kVln dcln pmln cdln ctln : Value}
    {odlt anlt : Option Addr} {sllt : Array (Option Value)} {oclt kVlt dclt pmlt cdlt ctlt : Value}
    {odqu anqu : Option Addr} {slqu : Array (Option Value)} {ocqu kVqu dcqu pmqu cdqu ctqu : Value}
    {odle anle : Option Addr} {slle : Array (Option Value)} {ocle kVle dcle pmle cdle ctle : Value}
    {odpf anpf : Option Addr} {slpf : Array (Option Value)} {ocpf kVpf dcpf pmpf cdpf ctpf : Value}
    {odIn anIn : Option Addr} {slIn : Array (Option Value)} {ocIn kVIn dcIn pmIn cdIn ctIn : Value}
    {odse anse : Option Addr} {slse : Array (Option Value)} {ocse kVse dcse pmse cdse ctse : Value}
    {odwi anwi : Option Addr} {slwi : Array (Option Value)} {ocwi kVwi dcwi pmwi cdwi ctwi : Value}
    {odss anss : Option Addr} {slss : Array (Option Value)} {ocss kVss dcss pmss cdss ctss : Value}
    {odro anro : Option Addr} {slro : Array (Option Value)} {ocro kVro dcro pmro cdro ctro : Value}
    {odob anob : Option Addr} {slob : Array (Option Value)} {ocob kVob dcob pmob cdob ctob : Value}
    {odls anls : Option Addr} {slls : Array (Option Value)} {ocls kVls dcls pmls cdls ctls : Value}
    {odso anso : Option Addr} {slso : Array (Option Value)} {ocso kVso dcso pmso cdso ctso : Value}
    {odwn anwn : Option Addr} {slwn : Array (Option Value)} {ocwn kVwn dcwn pmwn cdwn ctwn : Value}
    {odli anli : Option Addr} {slli : Array (Option Value)} {ocli kVli dcli pmli cdli ctli : Value}
    {odwe anwe : Option Addr} {slwe : Array (Option Value)} {ocwe kVwe dcwe pmwe cdwe ctwe : Value}
    {odsa ansa : Option Addr} {slsa : Array (Option Value)} {ocsa kVsa dcsa pmsa cdsa ctsa : Value}
    {odwa anwa : Option Addr} {slwa : Array (Option Value)} {ocwa kVwa dcwa pmwa cdwa ctwa : Value}
    {odpo anpo : Option Addr} {slpo : Array (Option Value)} {ocpo kVpo dcpo pmpo cdpo ctpo : Value}
    {odpe anpe : Option Addr} {slpe : Array (Option Value)} {ocpe kVpe dcpe pmpe cdpe ctpe : Value}
    {odBG anBG : Option Addr} {slBG : Array (Option Value)} {ocBG kVBG dcBG pmBG cdBG ctBG : Value}
    {odSR anSR : Option Addr} {slSR : Array (Option Value)} {ocSR kVSR dcSR pmSR cdSR ctSR : Value}
    {odD anD : Option Addr} {slD : Array (Option Value)} {ocD kVD dcD pmD cdD ctD : Value}
    {odpa anpa : Option Addr} {slpa : Array (Option Value)} {ocpa kVpa dcpa pmpa cdpa ctpa : Value}
    {odpl anpl : Option Addr} {slpl : Array (Option Value)} {ocpl kVpl dcpl pmpl cdpl ctpl : Value}
    {odsm ansm : Option Addr} {slsm : Array (Option Value)} {ocsm kVsm dcsm pmsm cdsm ctsm : Value}
    {odZ anZ : Option Addr} {slZ : Array (Option Value)} {ocZ kVZ dcZ pmZ cdZ ctZ : Value} {eT : Value} {dT : Option Addr} {usT : Array Value} {wT : Array (Option Value)} {eL : Value} {dL : Option Addr} {usL : Array Value} {wL : Array (Option Value)}
    (aCLS : PySem.W.nsIn K mainGlobals "Line" = some (some (.ref cLN)))
    (pgC : PySem.W.plainGet K cLN Str.empty = true)
    (hdC : PySem.W.hasDictIn K cLN = true)
    (poC : PySem.W.plainOver K cLN = true)
    (saC : PySem.W.findIn K (.ref cLN) "__setattr__" = some (some (.builtin "object.__setattr__")))
    (mkC : PySem.W.makesIn K cLN = true)
    (kcC : PySem.W.keepIn K (.ref cLN) = true)
    (nF0 : PySem.W.findIn K (.ref cLN) "people" = some none)
    (nF1 : PySem.W.findIn K (.ref cLN) "rest" = some none)
    (nF2 : PySem.W.findIn K (.ref cLN) "past" = some none)
    (nF3 : PySem.W.findIn K (.ref cLN) "served" = some none)
    (nF4 : PySem.W.findIn K (.ref cLN) "deeds" = some none)
    (gR : PySem.W.nsIn K mainGlobals "Run" = some (some (.ref CR)))
    (pgR : PySem.W.plainGet K CR Str.empty = true)
    (hdR : PySem.W.hasDictIn K CR = true)
    (poR : PySem.W.plainOver K CR = true)
    (saR : PySem.W.findIn K (.ref CR) "__setattr__" = some (some (.builtin "object.__setattr__")))
    (mkR : PySem.W.makesIn K CR = true)
    (kcR : PySem.W.keepIn K (.ref CR) = true)
    (nSt : PySem.W.findIn K (.ref CR) "steps" = some none)
    (nSp : PySem.W.findIn K (.ref CR) "spare" = some none)
    (nLe : PySem.W.findIn K (.ref CR) "length" = some none)
    (nTi : PySem.W.findIn K (.ref CR) "times" = some none)
    (aMI : PySem.W.findIn K (.ref cLN) "__init__" = some (some (.ref fMI))) (lMI : K.lookup fMI = some ⟨ocMI, odMI, .func (PySem.W.fnOf "__init__" "Line.__init__" (defArgs sInitL) (defBody sInitL) (defScope sInitL) .none kVMI dcMI pmMI anMI cdMI ctMI), slMI⟩) (MIc : PySem.W.codeIn K cdMI "Line.__init__" = true) (kMI : PySem.W.keepIn K (.ref fMI) = true) (iMI : PySem.W.isFn K (.ref fMI) = true)
    (aMC : PySem.W.findIn K (.ref cLN) "come" = some (some (.ref fMC))) (lMC : K.lookup fMC = some ⟨ocMC, odMC, .func (PySem.W.fnOf "come" "Line.come" (defArgs sComeM) (defBody sComeM) (defScope sComeM) .none kVMC dcMC pmMC anMC cdMC ctMC), slMC⟩) (MCc : PySem.W.codeIn K cdMC "Line.come" = true) (kMC : PySem.W.keepIn K (.ref fMC) = true) (iMC : PySem.W.isFn K (.ref fMC) = true)
    (aMQ : PySem.W.findIn K (.ref cLN) "queue" = some (some (.ref fMQ))) (lMQ : K.lookup fMQ = some ⟨ocMQ, odMQ, .func (PySem.W.fnOf "queue" "Line.queue" (defArgs sQueM) (defBody sQueM) (defScope sQueM) .none kVMQ dcMQ pmMQ anMQ cdMQ ctMQ), slMQ⟩) (MQc : PySem.W.codeIn K cdMQ "Line.queue" = true) (kMQ : PySem.W.keepIn K (.ref fMQ) = true) (iMQ : PySem.W.isFn K (.ref fMQ) = true)
    (aML : PySem.W.findIn K (.ref cLN) "left" = some (some (.ref fML))) (lML : K.lookup fML = some ⟨ocML, odML, .func (PySem.W.fnOf "left" "Line.left" (defArgs sLeftM) (defBody sLeftM) (defScope sLeftM) .none kVML dcML pmML anML cdML ctML), slML⟩) (MLc : PySem.W.codeIn K cdML "Line.left" = true) (kML : PySem.W.keepIn K (.ref fML) = true) (iML : PySem.W.isFn K (.ref fML) = true)
    (aMW : PySem.W.findIn K (.ref cLN) "went_past" = some (some (.ref fMW))) (lMW : K.lookup fMW = some ⟨ocMW, odMW, .func (PySem.W.fnOf "went_past" "Line.went_past" (defArgs sWentM) (defBody sWentM) (defScope sWentM) .none kVMW dcMW pmMW anMW cdMW ctMW), slMW⟩) (MWc : PySem.W.codeIn K cdMW "Line.went_past" = true) (kMW : PySem.W.keepIn K (.ref fMW) = true) (iMW : PySem.W.isFn K (.ref fMW) = true)
    (aW : PySem.W.nsIn K mainGlobals "is_whole" = some (some (.ref fW))) (lW : K.lookup fW = some ⟨ocW, odW, .func (PySem.W.fnOf "is_whole" "is_whole" (defArgs sWhole) (defBody sWhole) (defScope sWhole) .none kVW dcW pmW anW cdW ctW), slW⟩) (Wc : PySem.W.codeIn K cdW "is_whole" = true) (kW : PySem.W.keepIn K (.ref fW) = true)
    (aR : PySem.W.nsIn K mainGlobals "is_row" = some (some (.ref fR))) (lR : K.lookup fR = some ⟨ocR, odR, .func (PySem.W.fnOf "is_row" "is_row" (defArgs sRow) (defBody sRow) (defScope sRow) .none kVR dcR pmR anR cdR ctR), slR⟩) (Rc : PySem.W.codeIn K cdR "is_row" = true) (kR : PySem.W.keepIn K (.ref fR) = true)
    (aA : PySem.W.nsIn K mainGlobals "is_patience" = some (some (.ref fA))) (lA : K.lookup fA = some ⟨ocA, odA, .func (PySem.W.fnOf "is_patience" "is_patience" (defArgs sPat) (defBody sPat) (defScope sPat) .none kVA dcA pmA anA cdA ctA), slA⟩) (Ac : PySem.W.codeIn K cdA "is_patience" = true) (kA : PySem.W.keepIn K (.ref fA) = true)
    (aT : PySem.W.nsIn K mainGlobals "is_turns" = some (some (.ref fT))) (lT : K.lookup fT = some ⟨ocT, odT, .func (PySem.W.fnOf "is_turns" "is_turns" (defArgs sTurns) (defBody sTurns) (defScope sTurns) .none kVT dcT pmT anT (.ref cT) ctT), slT⟩) (Tc : PySem.W.codeIn K (.ref cT) "is_turns" = true) (kT : PySem.W.keepIn K (.ref fT) = true)
    (aI : PySem.W.nsIn K mainGlobals "is_piece" = some (some (.ref fI))) (lI : K.lookup fI = some ⟨ocI, odI, .func (PySem.W.fnOf "is_piece" "is_piece" (defArgs sPiece) (defBody sPiece) (defScope sPiece) .none kVI dcI pmI anI cdI ctI), slI⟩) (Ic : PySem.W.codeIn K cdI "is_piece" = true) (kI : PySem.W.keepIn K (.ref fI) = true)
    (aL : PySem.W.nsIn K mainGlobals "is_plan" = some (some (.ref fL))) (lL : K.lookup fL = some ⟨ocL, odL, .func (PySem.W.fnOf "is_plan" "is_plan" (defArgs sPlan) (defBody sPlan) (defScope sPlan) .none kVL dcL pmL anL (.ref cL) ctL), slL⟩) (Lc : PySem.W.codeIn K (.ref cL) "is_plan" = true) (kL : PySem.W.keepIn K (.ref fL) = true)
    (ack : PySem.W.nsIn K mainGlobals "check_plan" = some (some (.ref fck))) (lck : K.lookup fck = some ⟨occk, odck, .func (PySem.W.fnOf "check_plan" "check_plan" (defArgs sCheck) (defBody sCheck) (defScope sCheck) .none kVck dcck pmck anck cdck ctck), slck⟩) (ckc : PySem.W.codeIn K cdck "check_plan" = true) (kck : PySem.W.keepIn K (.ref fck) = true)
    (aG : PySem.W.nsIn K mainGlobals "pieces_of" = some (some (.ref fG))) (lG : K.lookup fG = some ⟨ocG, odG, .func (PySem.W.fnOf "pieces_of" "pieces_of" (defArgs sPieces) (defBody sPieces) (defScope sPieces) .none kVG dcG pmG anG cdG ctG), slG⟩) (Gc : PySem.W.codeIn K cdG "pieces_of" = true) (kG : PySem.W.keepIn K (.ref fG) = true)
    (aM : PySem.W.nsIn K mainGlobals "many_in" = some (some (.ref fM))) (lM : K.lookup fM = some ⟨ocM, odM, .func (PySem.W.fnOf "many_in" "many_in" (defArgs sMany) (defBody sMany) (defScope sMany) .none kVM dcM pmM anM cdM ctM), slM⟩) (Mc : PySem.W.codeIn K cdM "many_in" = true) (kM : PySem.W.keepIn K (.ref fM) = true)
    (aV : PySem.W.nsIn K mainGlobals "piece_number" = some (some (.ref fV))) (lV : K.lookup fV = some ⟨ocV, odV, .func (PySem.W.fnOf "piece_number" "piece_number" (defArgs sPieceNo) (defBody sPieceNo) (defScope sPieceNo) .none kVV dcV pmV anV cdV ctV), slV⟩) (Vc : PySem.W.codeIn K cdV "piece_number" = true) (kV : PySem.W.keepIn K (.ref fV) = true)
    (ata : PySem.W.nsIn K mainGlobals "turn_at" = some (some (.ref fta))) (lta : K.lookup fta = some ⟨octa, odta, .func (PySem.W.fnOf "turn_at" "turn_at" (defArgs sTurnAt) (defBody sTurnAt) (defScope sTurnAt) .none kVta dcta pmta anta cdta ctta), slta⟩) (tac : PySem.W.codeIn K cdta "turn_at" = true) (kta : PySem.W.keepIn K (.ref fta) = true)
    (apt : PySem.W.nsIn K mainGlobals "patience_at" = some (some (.ref fpt))) (lpt : K.lookup fpt = some ⟨ocpt, odpt, .func (PySem.W.fnOf "patience_at" "patience_at" (defArgs sPatAt) (defBody sPatAt) (defScope sPatAt) .none kVpt dcpt pmpt anpt cdpt ctpt), slpt⟩) (ptc : PySem.W.codeIn K cdpt "patience_at" = true) (kpt : PySem.W.keepIn K (.ref fpt) = true)
    (aC : PySem.W.nsIn K mainGlobals "check_person" = some (some (.ref fC))) (lC : K.lookup fC = some ⟨ocC, odC, .func (PySem.W.fnOf "check_person" "check_person" (defArgs sCkP) (defBody sCkP) (defScope sCkP) .none kVC dcC pmC anC cdC ctC), slC⟩) (Cc : PySem.W.codeIn K cdC "check_person" = true) (kC : PySem.W.keepIn K (.ref fC) = true)
    (aN : PySem.W.nsIn K mainGlobals "check_moment" = some (some (.ref fN))) (lN : K.lookup fN = some ⟨ocN, odN, .func (PySem.W.fnOf "check_moment" "check_moment" (defArgs sCkM) (defBody sCkM) (defScope sCkM) .none kVN dcN pmN anN cdN ctN), slN⟩) (Nc : PySem.W.codeIn K cdN "check_moment" = true) (kN : PySem.W.keepIn K (.ref fN) = true)
    (alp : PySem.W.nsIn K mainGlobals "let_past" = some (some (.ref flp))) (llp : K.lookup flp = some ⟨oclp, odlp, .func (PySem.W.fnOf "let_past" "let_past" (defArgs sLet) (defBody sLet) (defScope sLet) .none kVlp dclp pmlp anlp cdlp ctlp), sllp⟩) (lpc : PySem.W.codeIn K cdlp "let_past" = true) (klp : PySem.W.keepIn K (.ref flp) = true)
    (aln : PySem.W.nsIn K mainGlobals "line_up" = some (some (.ref fln))) (lln : K.lookup fln = some ⟨ocln, odln, .func (PySem.W.fnOf "line_up" "line_up" (defArgs sLine) (defBody sLine) (defScope sLine) .none kVln dcln pmln anln cdln ctln), slln⟩) (lnc : PySem.W.codeIn K cdln "line_up" = true) (kln : PySem.W.keepIn K (.ref fln) = true)
    (alt : PySem.W.nsIn K mainGlobals "listed_at" = some (some (.ref flt))) (llt : K.lookup flt = some ⟨oclt, odlt, .func (PySem.W.fnOf "listed_at" "listed_at" (defArgs sListed) (defBody sListed) (defScope sListed) .none kVlt dclt pmlt anlt cdlt ctlt), sllt⟩) (ltc : PySem.W.codeIn K cdlt "listed_at" = true) (klt : PySem.W.keepIn K (.ref flt) = true)
    (aqu : PySem.W.nsIn K mainGlobals "queue_at" = some (some (.ref fqu))) (lqu : K.lookup fqu = some ⟨ocqu, odqu, .func (PySem.W.fnOf "queue_at" "queue_at" (defArgs sQueue) (defBody sQueue) (defScope sQueue) .none kVqu dcqu pmqu anqu cdqu ctqu), slqu⟩) (quc : PySem.W.codeIn K cdqu "queue_at" = true) (kqu : PySem.W.keepIn K (.ref fqu) = true)
    (ale : PySem.W.nsIn K mainGlobals "left_at" = some (some (.ref fle))) (lle : K.lookup fle = some ⟨ocle, odle, .func (PySem.W.fnOf "left_at" "left_at" (defArgs sLeft) (defBody sLeft) (defScope sLeft) .none kVle dcle pmle anle cdle ctle), slle⟩) (lec : PySem.W.codeIn K cdle "left_at" = true) (kle : PySem.W.keepIn K (.ref fle) = true)
    (apf : PySem.W.nsIn K mainGlobals "patience_of" = some (some (.ref fpf))) (lpf : K.lookup fpf = some ⟨ocpf, odpf, .func (PySem.W.fnOf "patience_of" "patience_of" (defArgs sPatOf) (defBody sPatOf) (defScope sPatOf) .none kVpf dcpf pmpf anpf cdpf ctpf), slpf⟩) (pfc : PySem.W.codeIn K cdpf "patience_of" = true) (kpf : PySem.W.keepIn K (.ref fpf) = true)
    (aIn : PySem.W.findIn K (.ref CR) "__init__" = some (some (.ref fIn))) (lIn : K.lookup fIn = some ⟨ocIn, odIn, .func (PySem.W.fnOf "__init__" "Run.__init__" (defArgs sInit) (defBody sInit) (defScope sInit) .none kVIn dcIn pmIn anIn cdIn ctIn), slIn⟩) (Inc : PySem.W.codeIn K cdIn "Run.__init__" = true) (kIn : PySem.W.keepIn K (.ref fIn) = true)
    (ase : PySem.W.nsIn K mainGlobals "stretch_end" = some (some (.ref fse))) (lse : K.lookup fse = some ⟨ocse, odse, .func (PySem.W.fnOf "stretch_end" "stretch_end" (defArgs sEnd) (defBody sEnd) (defScope sEnd) .none kVse dcse pmse anse cdse ctse), slse⟩) (sec : PySem.W.codeIn K cdse "stretch_end" = true) (kse : PySem.W.keepIn K (.ref fse) = true)
    (awi : PySem.W.nsIn K mainGlobals "window_widths" = some (some (.ref fwi))) (lwi : K.lookup fwi = some ⟨ocwi, odwi, .func (PySem.W.fnOf "window_widths" "window_widths" (defArgs sWid) (defBody sWid) (defScope sWid) .none kVwi dcwi pmwi anwi cdwi ctwi), slwi⟩) (wic : PySem.W.codeIn K cdwi "window_widths" = true) (kwi : PySem.W.keepIn K (.ref fwi) = true)
    (ass : PySem.W.nsIn K mainGlobals "stretch_steps" = some (some (.ref fss))) (lss : K.lookup fss = some ⟨ocss, odss, .func (PySem.W.fnOf "stretch_steps" "stretch_steps" (defArgs sSteps) (defBody sSteps) (defScope sSteps) .none kVss dcss pmss anss cdss ctss), slss⟩) (ssc : PySem.W.codeIn K cdss "stretch_steps" = true) (kss : PySem.W.keepIn K (.ref fss) = true)
    (aro : PySem.W.nsIn K mainGlobals "runs_on" = some (some (.ref fro))) (lro : K.lookup fro = some ⟨ocro, odro, .func (PySem.W.fnOf "runs_on" "runs_on" (defArgs sRuns) (defBody sRuns) (defScope sRuns) .none kVro dcro pmro anro cdro ctro), slro⟩) (roc : PySem.W.codeIn K cdro "runs_on" = true) (kro : PySem.W.keepIn K (.ref fro) = true)
    (aob : PySem.W.nsIn K mainGlobals "outer_bound" = some (some (.ref fob))) (lob : K.lookup fob = some ⟨ocob, odob, .func (PySem.W.fnOf "outer_bound" "outer_bound" (defArgs sBnd) (defBody sBnd) (defScope sBnd) .none kVob dcob pmob anob cdob ctob), slob⟩) (obc : PySem.W.codeIn K cdob "outer_bound" = true) (kob : PySem.W.keepIn K (.ref fob) = true)
    (als : PySem.W.nsIn K mainGlobals "last_step" = some (some (.ref fls))) (lls : K.lookup fls = some ⟨ocls, odls, .func (PySem.W.fnOf "last_step" "last_step" (defArgs sLstStep) (defBody sLstStep) (defScope sLstStep) .none kVls dcls pmls anls cdls ctls), slls⟩) (lsc : PySem.W.codeIn K cdls "last_step" = true) (kls : PySem.W.keepIn K (.ref fls) = true)
    (aso : PySem.W.nsIn K mainGlobals "spare_on" = some (some (.ref fso))) (lso : K.lookup fso = some ⟨ocso, odso, .func (PySem.W.fnOf "spare_on" "spare_on" (defArgs sSpareOn) (defBody sSpareOn) (defScope sSpareOn) .none kVso dcso pmso anso cdso ctso), slso⟩) (soc : PySem.W.codeIn K cdso "spare_on" = true) (kso : PySem.W.keepIn K (.ref fso) = true)
    (awn : PySem.W.nsIn K mainGlobals "windows_in" = some (some (.ref fwn))) (lwn : K.lookup fwn = some ⟨ocwn, odwn, .func (PySem.W.fnOf "windows_in" "windows_in" (defArgs sWins) (defBody sWins) (defScope sWins) .none kVwn dcwn pmwn anwn cdwn ctwn), slwn⟩) (wnc : PySem.W.codeIn K cdwn "windows_in" = true) (kwn : PySem.W.keepIn K (.ref fwn) = true)
    (ali : PySem.W.nsIn K mainGlobals "last_in" = some (some (.ref fli))) (lli : K.lookup fli = some ⟨ocli, odli, .func (PySem.W.fnOf "last_in" "last_in" (defArgs sLastIn) (defBody sLastIn) (defScope sLastIn) .none kVli dcli pmli anli cdli ctli), slli⟩) (lic : PySem.W.codeIn K cdli "last_in" = true) (kli : PySem.W.keepIn K (.ref fli) = true)
    (awe : PySem.W.nsIn K mainGlobals "went_past" = some (some (.ref fwe))) (lwe : K.lookup fwe = some ⟨ocwe, odwe, .func (PySem.W.fnOf "went_past" "went_past" (defArgs sWent) (defBody sWent) (defScope sWent) .none kVwe dcwe pmwe anwe cdwe ctwe), slwe⟩) (wec : PySem.W.codeIn K cdwe "went_past" = true) (kwe : PySem.W.keepIn K (.ref fwe) = true)
    (asa : PySem.W.nsIn K mainGlobals "spare_at" = some (some (.ref fsa))) (lsa : K.lookup fsa = some ⟨ocsa, odsa, .func (PySem.W.fnOf "spare_at" "spare_at" (defArgs sSpareAt) (defBody sSpareAt) (defScope sSpareAt) .none kVsa dcsa pmsa ansa cdsa ctsa), slsa⟩) (sac : PySem.W.codeIn K cdsa "spare_at" = true) (ksa : PySem.W.keepIn K (.ref fsa) = true)
    (awa : PySem.W.nsIn K mainGlobals "window_at" = some (some (.ref fwa))) (lwa : K.lookup fwa = some ⟨ocwa, odwa, .func (PySem.W.fnOf "window_at" "window_at" (defArgs sWinAt) (defBody sWinAt) (defScope sWinAt) .none kVwa dcwa pmwa anwa cdwa ctwa), slwa⟩) (wac : PySem.W.codeIn K cdwa "window_at" = true) (kwa : PySem.W.keepIn K (.ref fwa) = true)
    (apo : PySem.W.nsIn K mainGlobals "place_of" = some (some (.ref fpo))) (lpo : K.lookup fpo = some ⟨ocpo, odpo, .func (PySem.W.fnOf "place_of" "place_of" (defArgs sPlaceOf) (defBody sPlaceOf) (defScope sPlaceOf) .none kVpo dcpo pmpo anpo cdpo ctpo), slpo⟩) (poc : PySem.W.codeIn K cdpo "place_of" = true) (kpo : PySem.W.keepIn K (.ref fpo) = true)
    (ape : PySem.W.nsIn K mainGlobals "person_at" = some (some (.ref fpe))) (lpe : K.lookup fpe = some ⟨ocpe, odpe, .func (PySem.W.fnOf "person_at" "person_at" (defArgs sPersonAt) (defBody sPersonAt) (defScope sPersonAt) .none kVpe dcpe pmpe anpe cdpe ctpe), slpe⟩) (pec : PySem.W.codeIn K cdpe "person_at" = true) (kpe : PySem.W.keepIn K (.ref fpe) = true)
    (aBG : PySem.W.nsIn K mainGlobals "_law_bag" = some (some (.ref fBG))) (lBG : K.lookup fBG = some ⟨ocBG, odBG, .func (PySem.W.fnOf "_law_bag" "_law_bag" (defArgs BG.sBag) (defBody BG.sBag) (defScope BG.sBag) .none kVBG dcBG pmBG anBG cdBG ctBG), slBG⟩) (BGc : PySem.W.codeIn K cdBG "_law_bag" = true) (kBG : PySem.W.keepIn K (.ref fBG) = true)
    (aSR : PySem.W.nsIn K mainGlobals "_law_stir" = some (some (.ref fSR))) (lSR : K.lookup fSR = some ⟨ocSR, odSR, .func (PySem.W.fnOf "_law_stir" "_law_stir" (defArgs BG.sStir) (defBody BG.sStir) (defScope BG.sStir) .none kVSR dcSR pmSR anSR cdSR ctSR), slSR⟩) (SRc : PySem.W.codeIn K cdSR "_law_stir" = true) (kSR : PySem.W.keepIn K (.ref fSR) = true)
    (aD : PySem.W.nsIn K mainGlobals "_law_draw" = some (some (.ref fD))) (lD : K.lookup fD = some ⟨ocD, odD, .func (PySem.W.fnOf "_law_draw" "_law_draw" (defArgs BG.sDraw) (defBody BG.sDraw) (defScope BG.sDraw) .none kVD dcD pmD anD cdD ctD), slD⟩) (Dc : PySem.W.codeIn K cdD "_law_draw" = true) (kD : PySem.W.keepIn K (.ref fD) = true)
    (apa : PySem.W.nsIn K mainGlobals "_law_patience" = some (some (.ref fpa))) (lpa : K.lookup fpa = some ⟨ocpa, odpa, .func (PySem.W.fnOf "_law_patience" "_law_patience" (defArgs sPatB) (defBody sPatB) (defScope sPatB) .none kVpa dcpa pmpa anpa cdpa ctpa), slpa⟩) (pac : PySem.W.codeIn K cdpa "_law_patience" = true) (kpa : PySem.W.keepIn K (.ref fpa) = true)
    (apl : PySem.W.nsIn K mainGlobals "_law_plan" = some (some (.ref fpl))) (lpl : K.lookup fpl = some ⟨ocpl, odpl, .func (PySem.W.fnOf "_law_plan" "_law_plan" (defArgs sPlanB) (defBody sPlanB) (defScope sPlanB) .none kVpl dcpl pmpl anpl cdpl ctpl), slpl⟩) (plc : PySem.W.codeIn K cdpl "_law_plan" = true) (kpl : PySem.W.keepIn K (.ref fpl) = true)
    (asm : PySem.W.nsIn K mainGlobals "_law_same" = some (some (.ref fsm))) (lsm : K.lookup fsm = some ⟨ocsm, odsm, .func (PySem.W.fnOf "_law_same" "_law_same" (defArgs sSm) (defBody sSm) (defScope sSm) .none kVsm dcsm pmsm ansm cdsm ctsm), slsm⟩) (smc : PySem.W.codeIn K cdsm "_law_same" = true) (ksm : PySem.W.keepIn K (.ref fsm) = true)
    (aZ : PySem.W.nsIn K mainGlobals "law" = some (some (.ref fZ))) (lZ : K.lookup fZ = some ⟨ocZ, odZ, .func (PySem.W.fnOf "law" "law" (defArgs sLaw) (defBody sLaw) (defScope sLaw) .none kVZ dcZ pmZ anZ cdZ ctZ), slZ⟩) (Zc : PySem.W.codeIn K cdZ "law" = true) (kZ : PySem.W.keepIn K (.ref fZ) = true)
    (iIn : PySem.W.isFn K (.ref fIn) = true)
    (z_isinstance : PySem.W.nsIn K mainGlobals "isinstance" = some none) (z_len : PySem.W.nsIn K mainGlobals "len" = some none) (z_all : PySem.W.nsIn K mainGlobals "all" = some none) (z_any : PySem.W.nsIn K mainGlobals "any" = some none) (z_sum : PySem.W.nsIn K mainGlobals "sum" = some none) (z_int : PySem.W.nsIn K mainGlobals "int" = some none) (z_bool : PySem.W.nsIn K mainGlobals "bool" = some none) (z_list : PySem.W.nsIn K mainGlobals "list" = some none) (z_tuple : PySem.W.nsIn K mainGlobals "tuple" = some none) (z_range : PySem.W.nsIn K mainGlobals "range" = some none) (z_min : PySem.W.nsIn K mainGlobals "min" = some none) (z_repr : PySem.W.nsIn K mainGlobals "repr" = some none) (z_enumerate : PySem.W.nsIn K mainGlobals "enumerate" = some none) (z_max : PySem.W.nsIn K mainGlobals "max" = some none) (z_divmod : PySem.W.nsIn K mainGlobals "divmod" = some none)
    (mT : K.lookup cT = some ⟨eT, dT, .fields usT, wT⟩) (pT : usT[11]? = some (.ref PT)) (qT : PySem.W.codeHdIn K cT PT = true) (nT : (K.lookup PT).isNone = true) (rT : ((recsOf q).any fun e => e.name == "is_turns") = true)
    (mL : K.lookup cL = some ⟨eL, dL, .fields usL, wL⟩) (pL : usL[11]? = some (.ref PL)) (qL : PySem.W.codeHdIn K cL PL = true) (nL : (K.lookup PL).isNone = true) (rL : ((recsOf q).any fun e => e.name == "is_plan") = true)
    (xg1 : PySem.W.nsIn K mainGlobals "NoPlan" = some (some (.ref X1)))
    (xx1 : PySem.W.excIn K X1 [.type "ValueError", .type "Exception", .type "BaseException", .type "object"] "ValueError.__new__" = true)
    (xk1 : PySem.W.keepIn K (.ref X1) = true)
    (xb1 : PySem.W.subIn K (.ref X1) (.type "BaseException") = some true)
    (xt1 : PySem.W.typeIn K (.ref X1) = some (.type "type"))
    (xg2 : PySem.W.nsIn K mainGlobals "NoPerson" = some (some (.ref X2)))
    (xx2 : PySem.W.excIn K X2 [.type "ValueError", .type "Exception", .type "BaseException", .type "object"] "ValueError.__new__" = true)
    (xk2 : PySem.W.keepIn K (.ref X2) = true)
    (xb2 : PySem.W.subIn K (.ref X2) (.type "BaseException") = some true)
    (xt2 : PySem.W.typeIn K (.ref X2) = some (.type "type"))
    (xg3 : PySem.W.nsIn K mainGlobals "NoMoment" = some (some (.ref X3)))
    (xx3 : PySem.W.excIn K X3 [.type "ValueError", .type "Exception", .type "BaseException", .type "object"] "ValueError.__new__" = true)
    (xk3 : PySem.W.keepIn K (.ref X3) = true)
    (xb3 : PySem.W.subIn K (.ref X3) (.type "BaseException") = some true)
    (xt3 : PySem.W.typeIn K (.ref X3) = some (.type "type"))
    (xg5 : PySem.W.nsIn K mainGlobals "NoPlace" = some (some (.ref X5)))
    (xx5 : PySem.W.excIn K X5 [.type "ValueError", .type "Exception", .type "BaseException", .type "object"] "ValueError.__new__" = true)
    (xk5 : PySem.W.keepIn K (.ref X5) = true)
    (xb5 : PySem.W.subIn K (.ref X5) (.type "BaseException") = some true)
    (xt5 : PySem.W.typeIn K (.ref X5) = some (.type "type"))
    (xg7 : PySem.W.nsIn K mainGlobals "TooMany" = some (some (.ref X7)))
    (xx7 : PySem.W.excIn K X7 [.type "ValueError", .type "Exception", .type "BaseException", .type "object"] "ValueError.__new__" = true)
    (xk7 : PySem.W.keepIn K (.ref X7) = true)
    (xb7 : PySem.W.subIn K (.ref X7) (.type "BaseException") = some true)
    (xt7 : PySem.W.typeIn K (.ref X7) = some (.type "type"))
    {tg tl tm : Tok} (gMost : PySem.W.nsIn K mainGlobals "MOST_LISTED" = some (some (.int 2000 tm))) (gG : PySem.W.nsIn K mainGlobals "GREATEST" = some (some (.int GREAT tg))) (gL : PySem.W.nsIn K mainGlobals "LONGEST" = some (some (.int 8 tl))) : AtLaw l w K mg fa h := by
  have e := hfa.symm.trans (PySem.W.mg_of X G.g aZ)
  cases e
  have FMI := fun_mk (st := sInitL) lMI MIc kMI
  have FMC := fun_mk (st := sComeM) lMC MCc kMC
  have FMQ := fun_mk (st := sQueM) lMQ MQc kMQ
  have FML := fun_mk (st := sLeftM) lML MLc kML
  have FMW := fun_mk (st := sWentM) lMW MWc kMW
  have FW := fun_mk (st := sWhole) lW Wc kW
  have FR := fun_mk (st := sRow) lR Rc kR
  have FA := fun_mk (st := sPat) lA Ac kA
  have FT := fun_mk (st := sTurns) lT Tc kT
  have FI := fun_mk (st := sPiece) lI Ic kI
  have FL := fun_mk (st := sPlan) lL Lc kL
  have Fck := fun_mk (st := sCheck) lck ckc kck
  have FG := fun_mk (st := sPieces) lG Gc kG
  have FM := fun_mk (st := sMany) lM Mc kM
  have FV := fun_mk (st := sPieceNo) lV Vc kV
  have Fta := fun_mk (st := sTurnAt) lta tac kta
  have Fpt := fun_mk (st := sPatAt) lpt ptc kpt
  have FC := fun_mk (st := sCkP) lC Cc kC
  have FN := fun_mk (st := sCkM) lN Nc kN
  have Flp := fun_mk (st := sLet) llp lpc klp
  have Fln := fun_mk (st := sLine) lln lnc kln
  have Flt := fun_mk (st := sListed) llt ltc klt
  have Fqu := fun_mk (st := sQueue) lqu quc kqu
  have Fle := fun_mk (st := sLeft) lle lec kle
  have Fpf := fun_mk (st := sPatOf) lpf pfc kpf
  have FIn := fun_mk (st := sInit) lIn Inc kIn
  have Fse := fun_mk (st := sEnd) lse sec kse
  have Fwi := fun_mk (st := sWid) lwi wic kwi
  have Fss := fun_mk (st := sSteps) lss ssc kss
  have Fro := fun_mk (st := sRuns) lro roc kro
  have Fob := fun_mk (st := sBnd) lob obc kob
  have Fls := fun_mk (st := sLstStep) lls lsc kls
  have Fso := fun_mk (st := sSpareOn) lso soc kso
  have Fwn := fun_mk (st := sWins) lwn wnc kwn
  have Fli := fun_mk (st := sLastIn) lli lic kli
  have Fwe := fun_mk (st := sWent) lwe wec kwe
  have Fsa := fun_mk (st := sSpareAt) lsa sac ksa
  have Fwa := fun_mk (st := sWinAt) lwa wac kwa
  have Fpo := fun_mk (st := sPlaceOf) lpo poc kpo
  have Fpe := fun_mk (st := sPersonAt) lpe pec kpe
  have FBG := fun_mk (st := BG.sBag) lBG BGc kBG
  have FSR := fun_mk (st := BG.sStir) lSR SRc kSR
  have FD := fun_mk (st := BG.sDraw) lD Dc kD
  have Fpa := fun_mk (st := sPatB) lpa pac kpa
  have Fpl := fun_mk (st := sPlanB) lpl plc kpl
  have Fsm := fun_mk (st := sSm) lsm smc ksm
  have FZ := fun_mk (st := sLaw) lZ Zc kZ
  have bMI := FMI.binds (ps := ["self"]) fun _ _ _ _ _ _ us hl => match us, hl with | [_], _ => rfl
  have bMC := FMC.binds (ps := ["self", "patience"]) fun _ _ _ _ _ _ us hl => match us, hl with | [_, _], _ => rfl
  have bMQ := FMQ.binds (ps := ["self"]) fun _ _ _ _ _ _ us hl => match us, hl with | [_], _ => rfl
  have bML := FML.binds (ps := ["self"]) fun _ _ _ _ _ _ us hl => match us, hl with | [_], _ => rfl
  have bMW := FMW.binds (ps := ["self", "person"]) fun _ _ _ _ _ _ us hl => match us, hl with | [_, _], _ => rfl
  have bW := FW.binds (ps := ["thing"]) fun _ _ _ _ _ _ us hl => match us, hl with | [_], _ => rfl
  have bR := FR.binds (ps := ["thing"]) fun _ _ _ _ _ _ us hl => match us, hl with | [_], _ => rfl
  have bA := FA.binds (ps := ["thing"]) fun _ _ _ _ _ _ us hl => match us, hl with | [_], _ => rfl
  have bT := FT.binds (ps := ["thing"]) fun _ _ _ _ _ _ us hl => match us, hl with | [_], _ => rfl
  have bI := FI.binds (ps := ["thing"]) fun _ _ _ _ _ _ us hl => match us, hl with | [_], _ => rfl
  have bL := FL.binds (ps := ["thing"]) fun _ _ _ _ _ _ us hl => match us, hl with | [_], _ => rfl
  have bck := Fck.binds (ps := ["thing"]) fun _ _ _ _ _ _ us hl => match us, hl with | [_], _ => rfl
  have bG := FG.binds (ps := ["plan"]) fun _ _ _ _ _ _ us hl => match us, hl with | [_], _ => rfl
  have bM := FM.binds (ps := ["pieces"]) fun _ _ _ _ _ _ us hl => match us, hl with | [_], _ => rfl
  have bV := FV.binds (ps := ["pieces", "person"]) fun _ _ _ _ _ _ us hl => match us, hl with | [_, _], _ => rfl
  have bta := Fta.binds (ps := ["pieces", "person"]) fun _ _ _ _ _ _ us hl => match us, hl with | [_, _], _ => rfl
  have bpt := Fpt.binds (ps := ["pieces", "person"]) fun _ _ _ _ _ _ us hl => match us, hl with | [_, _], _ => rfl
  have bC := FC.binds (ps := ["pieces", "person"]) fun _ _ _ _ _ _ us hl => match us, hl with | [_, _], _ => rfl
  have bN := FN.binds (ps := ["pieces", "moment"]) fun _ _ _ _ _ _ us hl => match us, hl with | [_, _], _ => rfl
  have blp := Flp.binds (ps := ["left"]) fun _ _ _ _ _ _ us hl => match us, hl with | [_], _ => rfl
  have bln := Fln.binds (ps := ["pieces", "moment"]) fun _ _ _ _ _ _ us hl => match us, hl with | [_, _], _ => rfl
  have blt := Flt.binds (ps := ["plan", "moment"]) fun _ _ _ _ _ _ us hl => match us, hl with | [_, _], _ => rfl
  have bqu := Fqu.binds (ps := ["plan", "moment"]) fun _ _ _ _ _ _ us hl => match us, hl with | [_, _], _ => rfl
  have ble := Fle.binds (ps := ["plan", "moment"]) fun _ _ _ _ _ _ us hl => match us, hl with | [_, _], _ => rfl
  have bpf := Fpf.binds (ps := ["plan", "person"]) fun _ _ _ _ _ _ us hl => match us, hl with | [_, _], _ => rfl
  have bIn := FIn.binds (ps := ["self", "steps", "room"]) fun _ _ _ _ _ _ us hl => match us, hl with | [_, _, _], _ => rfl
  have bse := Fse.binds (ps := ["piece", "start", "bound", "stop"]) fun _ _ _ _ _ _ us hl => match us, hl with | [_, _, _, _], _ => rfl
  have bwi := Fwi.binds (ps := ["turns", "start", "bound"]) fun _ _ _ _ _ _ us hl => match us, hl with | [_, _, _], _ => rfl
  have bss := Fss.binds (ps := ["piece", "start", "bound", "end"]) fun _ _ _ _ _ _ us hl => match us, hl with | [_, _, _, _], _ => rfl
  have bro := Fro.binds (ps := ["pieces", "start", "bound", "stop"]) fun _ _ _ _ _ _ us hl => match us, hl with | [_, _, _, _], _ => rfl
  have bob := Fob.binds (ps := ["pieces"]) fun _ _ _ _ _ _ us hl => match us, hl with | [_], _ => rfl
  have bls := Fls.binds (ps := ["runs"]) fun _ _ _ _ _ _ us hl => match us, hl with | [_], _ => rfl
  have bso := Fso.binds (ps := ["runs"]) fun _ _ _ _ _ _ us hl => match us, hl with | [_], _ => rfl
  have bwn := Fwn.binds (ps := ["pieces", "person"]) fun _ _ _ _ _ _ us hl => match us, hl with | [_, _], _ => rfl
  have bli := Fli.binds (ps := ["pieces", "person"]) fun _ _ _ _ _ _ us hl => match us, hl with | [_, _], _ => rfl
  have bwe := Fwe.binds (ps := ["plan", "person", "moment"]) fun _ _ _ _ _ _ us hl => match us, hl with | [_, _, _], _ => rfl
  have bsa := Fsa.binds (ps := ["runs", "number"]) fun _ _ _ _ _ _ us hl => match us, hl with | [_, _], _ => rfl
  have bwa := Fwa.binds (ps := ["runs", "place"]) fun _ _ _ _ _ _ us hl => match us, hl with | [_, _], _ => rfl
  have bpo := Fpo.binds (ps := ["plan", "moment", "person"]) fun _ _ _ _ _ _ us hl => match us, hl with | [_, _, _], _ => rfl
  have bpe := Fpe.binds (ps := ["plan", "moment", "place"]) fun _ _ _ _ _ _ us hl => match us, hl with | [_, _, _], _ => rfl
  have bBG := FBG.binds (ps := ["script"]) fun _ _ _ _ _ _ us hl => match us, hl with | [_], _ => rfl
  have bSR := FSR.binds (ps := ["number", "place"]) fun _ _ _ _ _ _ us hl => match us, hl with | [_, _], _ => rfl
  have bD := FD.binds (ps := ["bag", "many"]) fun _ _ _ _ _ _ us hl => match us, hl with | [_, _], _ => rfl
  have bpa := Fpa.binds (ps := ["bag", "most"]) fun _ _ _ _ _ _ us hl => match us, hl with | [_, _], _ => rfl
  have bpl := Fpl.binds (ps := ["bag"]) fun _ _ _ _ _ _ us hl => match us, hl with | [_], _ => rfl
  have bsm := Fsm.binds (ps := ["line", "plan", "moment"]) fun _ _ _ _ _ _ us hl => match us, hl with | [_, _, _], _ => rfl
  have bZ := FZ.binds (ps := ["script"]) fun _ _ _ _ _ _ us hl => match us, hl with | [_], _ => rfl
  have CT : FunC K "is_turns" "is_turns" sTurns fT _ cT := ⟨⟨ocT, odT, kVT, dcT, pmT, anT, ctT, slT, rfl, lT, Tc⟩, kT⟩
  have CL : FunC K "is_plan" "is_plan" sPlan fL _ cL := ⟨⟨ocL, odL, kVL, dcL, pmL, anL, ctL, slL, rfl, lL, Lc⟩, kL⟩
  have m := fun {n : Str} (e : PySem.W.nsIn K mainGlobals n = some none) => PySem.W.mg_none_of X G.g e
  have g := fun {n : Str} {v : Value} (e : PySem.W.nsIn K mainGlobals n = some (some v)) => PySem.W.mg_of X G.g e
  have T : Nm mg := ⟨m z_isinstance, m z_len, m z_all, m z_any, m z_sum, m z_int, m z_bool, m z_list, m z_tuple, ⟨_, g gG⟩, ⟨_, g gL⟩⟩
  have T2 : Nm2 mg := ⟨m z_range, m z_min, m z_repr, m z_enumerate⟩
  have TL : LnT K mg cLN := ⟨⟨pgC, hdC, poC, saC⟩, nF0, nF1, nF2, nF3, nF4, g aCLS⟩
  have XC1 : ExcC K mg "NoPlan" X1 := ⟨g xg1, xx1, xk1, xb1, xt1⟩
  have XC2 : ExcC K mg "NoPerson" X2 := ⟨g xg2, xx2, xk2, xb2, xt2⟩
  have XC3 : ExcC K mg "NoMoment" X3 := ⟨g xg3, xx3, xk3, xb3, xt3⟩
  have XC5 : ExcC K mg "NoPlace" X5 := ⟨g xg5, xx5, xk5, xb5, xt5⟩
  have XC7 : ExcC K mg "TooMany" X7 := ⟨g xg7, xx7, xk7, xb7, xt7⟩
  have TR : RunC K mg CR fIn := ⟨⟨pgR, hdR, poR, saR⟩, nSt, nSp, nLe, nTi, g gR, ⟨mkR, aIn, iIn, kcR⟩⟩
  have nT' := Option.isNone_iff_eq_none.mp nT
  have nL' := Option.isNone_iff_eq_none.mp nL
  refine ⟨PySem.W.fnOf "law" "law" (defArgs sLaw) (defBody sLaw) (defScope sLaw) .none kVZ dcZ pmZ anZ cdZ ctZ, PT, PL, fun b hb => ?_, fun b hb => ?_, fun b hb => ?_, fun s v => .of_eq rfl, fun base _ _ hsys hB => ?_⟩
  · rcases List.mem_cons.mp hb with rfl | hb
    · exact tab_of G X rT (PySem.W.mg_of X G.g aT) lT rfl rfl qT
    · rw [List.mem_singleton.mp hb]
      exact tab_of G X rL (PySem.W.mg_of X G.g aL) lL rfl rfl qL
  · rcases List.mem_cons.mp hb with rfl | hb
    · exact ⟨_, qT⟩
    · rw [List.mem_singleton.mp hb]
      exact ⟨_, qL⟩
  · rcases List.mem_cons.mp hb with rfl | hb
    · exact nT'
    · rw [List.mem_singleton.mp hb]
      exact nL'
  · have XB : K.In base := ‹K.In base›
    have TB1 : GxR.TabB base mg cT PT := ⟨PySem.W.codeHd_of_K XB qT, (hB PT (by simp)).1, (hB PT (by simp)).2⟩
    have TB2 : GxR.TabB base mg cL PL := ⟨PySem.W.codeHd_of_K XB qL, (hB PL (by simp)).1, (hB PL (by simp)).2⟩
    have KW : Cal l.prog w K mg base 1 "is_whole" ["thing"] (spOne isWhole) := ⟨fW, _, g aW, kW, bW, ok_whole FW T⟩
    have KR : Cal l.prog w K mg base 1 "is_row" ["thing"] (spOne isRow) := ⟨fR, _, g aR, kR, bR, ok_row FR T⟩
    have KA : Cal l.prog w K mg base 2 "is_patience" ["thing"] (spOne isPatience) := ⟨fA, _, g aA, kA, bA, ok_pat FA T KW⟩
    have KT : Cal l.prog w K mg base 4 "is_turns" ["thing"] (spTab PT PL isTurns) := ⟨fT, _, g aT, kT, bT, ok_turns CT T TB1 KR KA⟩
    have KI : Cal l.prog w K mg base 5 "is_piece" ["thing"] (spTab PT PL isPiece) := ⟨fI, _, g aI, kI, bI, ok_piece FI T KW KR KT⟩
    have KP : Cal l.prog w K mg base 7 "is_plan" ["thing"] (spTab PT PL isPlan) := ⟨fL, _, g aL, kL, bL, ok_plan CL T TB2 KR KI⟩
    have Kck : CalX l.prog w K mg base 8 "check_plan" ["thing"] (spCheck PT PL X1) := ⟨fck, _, g ack, kck, bck, ok_check Fck XC1 KP⟩
    have KG : CalX l.prog w K mg base 9 "pieces_of" ["plan"] (spPieces PT PL X1) := ⟨fG, _, g aG, kG, bG, ok_pieces FG T Kck⟩
    have KM : Cal l.prog w K mg base 1 "many_in" ["pieces"] (spMany) := ⟨fM, _, g aM, kM, bM, ok_many FM⟩
    have KV : Cal l.prog w K mg base 1 "piece_number" ["pieces", "person"] (spPieceNo) := ⟨fV, _, g aV, kV, bV, ok_pieceNo FV⟩
    have Kta : Cal l.prog w K mg base 2 "turn_at" ["pieces", "person"] (spTurnAt) := ⟨fta, _, g ata, kta, bta, ok_turnAt Fta T KV⟩
    have Kpt : Cal l.prog w K mg base 3 "patience_at" ["pieces", "person"] (spPatAt) := ⟨fpt, _, g apt, kpt, bpt, ok_patAt Fpt Kta⟩
    have KC : CalX l.prog w K mg base 2 "check_person" ["pieces", "person"] (spCkP X2) := ⟨fC, _, g aC, kC, bC, ok_ckp FC XC2 KM KW⟩
    have KN : CalX l.prog w K mg base 2 "check_moment" ["pieces", "moment"] (spCkM X3) := ⟨fN, _, g aN, kN, bN, ok_ckm FN T XC3 KM KW⟩
    have KLe : Cal l.prog w K mg base 1 "let_past" ["left"] (spLet) := ⟨flp, _, g alp, klp, blp, ok_let Flp T⟩
    have Kln : Cal l.prog w K mg base 4 "line_up" ["pieces", "moment"] (spLine) := ⟨fln, _, g aln, kln, bln, ok_line Fln T T2.range Kpt (KLe.mono (by decide))⟩
    have Klt : CalX l.prog w K mg base 10 "listed_at" ["plan", "moment"] (spListed PT PL X1 X3 X7) := ⟨flt, _, g alt, klt, blt, ok_listed Flt ⟨_, g gMost⟩ XC7 KG (KN.mono (by decide)) (Kln.mono (by decide))⟩
    have Kqu : CalX l.prog w K mg base 11 "queue_at" ["plan", "moment"] (spQueue PT PL X1 X3 X7) := ⟨fqu, _, g aqu, kqu, bqu, ok_queue Fqu Klt⟩
    have Kle : CalX l.prog w K mg base 11 "left_at" ["plan", "moment"] (spLeft PT PL X1 X3 X7) := ⟨fle, _, g ale, kle, ble, ok_left Fle Klt⟩
    have Kpf : CalX l.prog w K mg base 10 "patience_of" ["plan", "person"] (spPatOf PT PL X1 X2) := ⟨fpf, _, g apf, kpf, bpf, ok_patOf Fpf KG (KC.mono (by decide)) (Kpt.mono (by decide))⟩
    have Kse : Cal l.prog w K mg base 1 "stretch_end" ["piece", "start", "bound", "stop"] (spEnd) := ⟨fse, _, g ase, kse, bse, ok_end Fse (m z_min)⟩
    have Kwi : Cal l.prog w K mg base 1 "window_widths" ["turns", "start", "bound"] (spWid) := ⟨fwi, _, g awi, kwi, bwi, ok_wid Fwi⟩
    have Kss : Cal l.prog w K mg base 2 "stretch_steps" ["piece", "start", "bound", "end"] (spSteps) := ⟨fss, _, g ass, kss, bss, ok_steps Fss T (m z_max) Kwi⟩
    have FI1 := ok_init (P := l.prog) (w := w) (base := base) FIn T (m z_max) TR
    have Kro : Cal l.prog w K mg base 3 "runs_on" ["pieces", "start", "bound", "stop"] (spRuns CR) := ⟨fro, _, g aro, kro, bro, ok_runs Fro TR FI1 bIn KV Kse Kss⟩
    have Kob : Cal l.prog w K mg base 2 "outer_bound" ["pieces"] (spBnd) := ⟨fob, _, g aob, kob, bob, ok_bnd Fob KM⟩
    have Kls : Cal l.prog w K mg base 1 "last_step" ["runs"] (spLast CR) := ⟨fls, _, g als, kls, bls, ok_last Fls TR⟩
    have Kso : Cal l.prog w K mg base 1 "spare_on" ["runs"] (spSpareOn CR) := ⟨fso, _, g aso, kso, bso, ok_spareOn Fso T TR⟩
    have Kwn : Cal l.prog w K mg base 4 "windows_in" ["pieces", "person"] (spWins) := ⟨fwn, _, g awn, kwn, bwn, ok_wins Fwn Kob Kro Kls⟩
    have Kli : Cal l.prog w K mg base 5 "last_in" ["pieces", "person"] (spLastIn) := ⟨fli, _, g ali, kli, bli, ok_lastIn Fli Kwn Kob⟩
    have Kwe : CalX l.prog w K mg base 10 "went_past" ["plan", "person", "moment"] (spWent PT PL X1 X2 X3) := ⟨fwe, _, g awe, kwe, bwe, ok_went Fwe (m z_min) XC3 KG KC KN Kli⟩
    have Ksa : Cal l.prog w K mg base 1 "spare_at" ["runs", "number"] (spSpareAt CR) := ⟨fsa, _, g asa, ksa, bsa, ok_spareAt Fsa (m z_divmod) TR⟩
    have Kwa : Cal l.prog w K mg base 1 "window_at" ["runs", "place"] (spWinAt CR) := ⟨fwa, _, g awa, kwa, bwa, ok_winAt Fwa (m z_divmod) TR⟩
    have Kpo : CalX l.prog w K mg base 10 "place_of" ["plan", "moment", "person"] (spPlaceOf PT PL X1 X3 X2) := ⟨fpo, _, g apo, kpo, bpo, ok_placeOf Fpo XC2 KW KG KN Kro Kls Kso⟩
    have Kpe : CalX l.prog w K mg base 10 "person_at" ["plan", "moment", "place"] (spPersonAt PT PL X1 X3 X5) := ⟨fpe, _, g ape, kpe, bpe, ok_personAt Fpe XC5 KW KG KN Kro Kso Ksa Kwa⟩
    have mC : Meth K cLN "come" fMC := ⟨aMC, iMC, kMC⟩
    have mQ : Meth K cLN "queue" fMQ := ⟨aMQ, iMQ, kMQ⟩
    have mL : Meth K cLN "left" fML := ⟨aML, iML, kML⟩
    have mW : Meth K cLN "went_past" fMW := ⟨aMW, iMW, kMW⟩
    have GQ := ok_queM (P := l.prog) (w := w) (base := base) FMQ T TL
    have GL := ok_leftM (P := l.prog) (w := w) (base := base) FML T TL
    have GW := ok_wentM (P := l.prog) (w := w) (base := base) FMW T TL KW
    have KB : Cal l.prog w K mg base 1 "_law_bag" ["script"] (BG.spBag K) := ⟨fBG, _, g aBG, kBG, bBG, BG.ok_bag FBG T.list⟩
    have KSR : Cal l.prog w K mg base 1 "_law_stir" ["number", "place"] (BG.spStir) := ⟨fSR, _, g aSR, kSR, bSR, BG.ok_stir FSR⟩
    have kd : ∀ r, Cal l.prog w K mg base 2 "_law_draw" ["bag", "many"] (BG.spDraw r) := fun r => ⟨fD, _, g aD, kD, bD, BG.ok_draw FD T.len KSR⟩
    have kp : ∀ r, Cal l.prog w K mg base 3 "_law_patience" ["bag", "most"] (spPatB r) := fun r => ⟨fpa, _, g apa, kpa, bpa, ok_patB Fpa (kd r)⟩
    have KPl : Cal l.prog w K mg base 4 "_law_plan" ["bag"] (spE spPlanB) := ⟨fpl, _, g apl, kpl, bpl, fnE fun r => ok_planB Fpl T T2 (kd r) (kp r)⟩
    have Ksm : Cal l.prog w K mg base 12 "_law_same" ["line", "plan", "moment"] (spSm cLN PT PL) := ⟨fsm, _, g asm, ksm, bsm, ok_sm Fsm T T2 TL mQ GQ bMQ mL GL bML mW GW bMW Kqu Kle Kwe Kpo⟩
    exact ok_law FZ T T2 TL ⟨mkC, aMI, iMI, kcC⟩ (ok_initL FMI TL) bMI mC (ok_comeM FMC T TL KA KLe) bMC mQ GQ bMQ KB KPl Ksm Kpf Kpe
end CL
open PySem PySem.W PyProof.Rows
set_option maxRecDepth 100000 in
set_option maxHeartbeats 0 in
theorem PySem.Challenge.cw_comersline_k42_whole_lines_by_plans_holds : PySem.Challenge.rw_comersline_k42_whole_lines_by_plans.Holds := by
  w_on; o_law; k_head; (case hw => w_witness2)
  k_fill
  refine CL.walk (l := PySem.Challenge.rw_comersline_k42_whole_lines_by_plans) rfl rfl (by decide +kernel) (fun w h Y => PySem.W.kIn_of Y) ?F
  case F =>
    intro w mg mb mean lo fa h KX G hmg
    refine' CL.all_mk KX G hmg ?aCLS ?pgC ?hdC ?poC ?saC ?mkC ?kcC ?nF0 ?nF1 ?nF2 ?nF3 ?nF4 ?gR ?pgR ?hdR ?poR ?saR ?mkR ?kcR ?nSt ?nSp ?nLe ?nTi ?aMI ?lMI ?MIc ?kMI ?iMI ?aMC ?lMC ?MCc ?kMC ?iMC ?aMQ ?lMQ ?MQc ?kMQ ?iMQ ?aML ?lML ?MLc ?kML ?iML ?aMW ?lMW ?MWc ?kMW ?iMW ?aW ?lW ?Wc ?kW ?aR ?lR ?Rc ?kR ?aA ?lA ?Ac ?kA ?aT ?lT ?Tc ?kT ?aI ?lI ?Ic ?kI ?aL ?lL ?Lc ?kL ?ack ?lck ?ckc ?kck ?aG ?lG ?Gc ?kG ?aM ?lM ?Mc ?kM ?aV ?lV ?Vc ?kV ?ata ?lta ?tac ?kta ?apt ?lpt ?ptc ?kpt ?aC ?lC ?Cc ?kC ?aN ?lN ?Nc ?kN ?alp ?llp ?lpc ?klp ?aln ?lln ?lnc ?kln ?alt ?llt ?ltc ?klt ?aqu ?lqu ?quc ?kqu ?ale ?lle ?lec ?kle ?apf ?lpf ?pfc ?kpf ?aIn ?lIn ?Inc ?kIn ?ase ?lse ?sec ?kse ?awi ?lwi ?wic ?kwi ?ass ?lss ?ssc ?kss ?aro ?lro ?roc ?kro ?aob ?lob ?obc ?kob ?als ?lls ?lsc ?kls ?aso ?lso ?soc ?kso ?awn ?lwn ?wnc ?kwn ?ali ?lli ?lic ?kli ?awe ?lwe ?wec ?kwe ?asa ?lsa ?sac ?ksa ?awa ?lwa ?wac ?kwa ?apo ?lpo ?poc ?kpo ?ape ?lpe ?pec ?kpe ?aBG ?lBG ?BGc ?kBG ?aSR ?lSR ?SRc ?kSR ?aD ?lD ?Dc ?kD ?apa ?lpa ?pac ?kpa ?apl ?lpl ?plc ?kpl ?asm ?lsm ?smc ?ksm ?aZ ?lZ ?Zc ?kZ ?iIn ?z_isinstance ?z_len ?z_all ?z_any ?z_sum ?z_int ?z_bool ?z_list ?z_tuple ?z_range ?z_min ?z_repr ?z_enumerate ?z_max ?z_divmod ?mT ?pT ?qT ?nT ?rT ?mL ?pL ?qL ?nL ?rL ?xg1 ?xx1 ?xk1 ?xb1 ?xt1 ?xg2 ?xx2 ?xk2 ?xb2 ?xt2 ?xg3 ?xx3 ?xk3 ?xb3 ?xt3 ?xg5 ?xx5 ?xk5 ?xb5 ?xt5 ?xg7 ?xx7 ?xk7 ?xb7 ?xt7 ?gMost ?gG ?gL
    (case aCLS => k_is)
    (case pgC => k_is)
    (case hdC => k_is)
    (case poC => k_is)
    (case saC => k_is)
    (case mkC => k_is)
    (case kcC => k_is)
    (case nF0 => k_is)
    (case nF1 => k_is)
    (case nF2 => k_is)
    (case nF3 => k_is)
    (case nF4 => k_is)
    (case gR => k_is)
    (case pgR => k_is)
    (case hdR => k_is)
    (case poR => k_is)
    (case saR => k_is)
    (case mkR => k_is)
    (case kcR => k_is)
    (case nSt => k_is)
    (case nSp => k_is)
    (case nLe => k_is)
    (case nTi => k_is)
    (case aMI => k_is)
    (case lMI => k_is)
    (case MIc => k_is)
    (case kMI => k_is)
    (case iMI => k_is)
    (case aMC => k_is)
    (case lMC => k_is)
    (case MCc => k_is)
    (case kMC => k_is)
    (case iMC => k_is)
    (case aMQ => k_is)
    (case lMQ => k_is)
    (case MQc => k_is)
    (case kMQ => k_is)
    (case iMQ => k_is)
    (case aML => k_is)
    (case lML => k_is)
    (case MLc => k_is)
    (case kML => k_is)
    (case iML => k_is)
    (case aMW => k_is)
    (case lMW => k_is)
    (case MWc => k_is)
    (case kMW => k_is)
    (case iMW => k_is)
    (case aW => k_is)
    (case lW => k_is)
    (case Wc => k_is)
    (case kW => k_is)
    (case aR => k_is)
    (case lR => k_is)
    (case Rc => k_is)
    (case kR => k_is)
    (case aA => k_is)
    (case lA => k_is)
    (case Ac => k_is)
    (case kA => k_is)
    (case aT => k_is)
    (case lT => k_is)
    (case Tc => k_is)
    (case kT => k_is)
    (case aI => k_is)
    (case lI => k_is)
    (case Ic => k_is)
    (case kI => k_is)
    (case aL => k_is)
    (case lL => k_is)
    (case Lc => k_is)
    (case kL => k_is)
    (case ack => k_is)
    (case lck => k_is)
    (case ckc => k_is)
    (case kck => k_is)
    (case aG => k_is)
    (case lG => k_is)
    (case Gc => k_is)
    (case kG => k_is)
    (case aM => k_is)
    (case lM => k_is)
    (case Mc => k_is)
    (case kM => k_is)
    (case aV => k_is)
    (case lV => k_is)
    (case Vc => k_is)
    (case kV => k_is)
    (case ata => k_is)
    (case lta => k_is)
    (case tac => k_is)
    (case kta => k_is)
    (case apt => k_is)
    (case lpt => k_is)
    (case ptc => k_is)
    (case kpt => k_is)
    (case aC => k_is)
    (case lC => k_is)
    (case Cc => k_is)
    (case kC => k_is)
    (case aN => k_is)
    (case lN => k_is)
    (case Nc => k_is)
    (case kN => k_is)
    (case alp => k_is)
    (case llp => k_is)
    (case lpc => k_is)
    (case klp => k_is)
    (case aln => k_is)
    (case lln => k_is)
    (case lnc => k_is)
    (case kln => k_is)
    (case alt => k_is)
    (case llt => k_is)
    (case ltc => k_is)
    (case klt => k_is)
    (case aqu => k_is)
    (case lqu => k_is)
    (case quc => k_is)
    (case kqu => k_is)
    (case ale => k_is)
    (case lle => k_is)
    (case lec => k_is)
    (case kle => k_is)
    (case apf => k_is)
    (case lpf => k_is)
    (case pfc => k_is)
    (case kpf => k_is)
    (case aIn => k_is)
    (case lIn => k_is)
    (case Inc => k_is)
    (case kIn => k_is)
    (case ase => k_is)
    (case lse => k_is)
    (case sec => k_is)
    (case kse => k_is)
    (case awi => k_is)
    (case lwi => k_is)
    (case wic => k_is)
    (case kwi => k_is)
    (case ass => k_is)
    (case lss => k_is)
    (case ssc => k_is)
    (case kss => k_is)
    (case aro => k_is)
    (case lro => k_is)
    (case roc => k_is)
    (case kro => k_is)
    (case aob => k_is)
    (case lob => k_is)
    (case obc => k_is)
    (case kob => k_is)
    (case als => k_is)
    (case lls => k_is)
    (case lsc => k_is)
    (case kls => k_is)
    (case aso => k_is)
    (case lso => k_is)
    (case soc => k_is)
    (case kso => k_is)
    (case awn => k_is)
    (case lwn => k_is)
    (case wnc => k_is)
    (case kwn => k_is)
    (case ali => k_is)
    (case lli => k_is)
    (case lic => k_is)
    (case kli => k_is)
    (case awe => k_is)
    (case lwe => k_is)
    (case wec => k_is)
    (case kwe => k_is)
    (case asa => k_is)
    (case lsa => k_is)
    (case sac => k_is)
    (case ksa => k_is)
    (case awa => k_is)
    (case lwa => k_is)
    (case wac => k_is)
    (case kwa => k_is)
    (case apo => k_is)
    (case lpo => k_is)
    (case poc => k_is)
    (case kpo => k_is)
    (case ape => k_is)
    (case lpe => k_is)
    (case pec => k_is)
    (case kpe => k_is)
    (case aBG => k_is)
    (case lBG => k_is)
    (case BGc => k_is)
    (case kBG => k_is)
    (case aSR => k_is)
    (case lSR => k_is)
    (case SRc => k_is)
    (case kSR => k_is)
    (case aD => k_is)
    (case lD => k_is)
    (case Dc => k_is)
    (case kD => k_is)
    (case apa => k_is)
    (case lpa => k_is)
    (case pac => k_is)
    (case kpa => k_is)
    (case apl => k_is)
    (case lpl => k_is)
    (case plc => k_is)
    (case kpl => k_is)
    (case asm => k_is)
    (case lsm => k_is)
    (case smc => k_is)
    (case ksm => k_is)
    (case aZ => k_is)
    (case lZ => k_is)
    (case Zc => k_is)
    (case kZ => k_is)
    (case iIn => k_is)
    (case z_isinstance => k_is)
    (case z_len => k_is)
    (case z_all => k_is)
    (case z_any => k_is)
    (case z_sum => k_is)
    (case z_int => k_is)
    (case z_bool => k_is)
    (case z_list => k_is)
    (case z_tuple => k_is)
    (case z_range => k_is)
    (case z_min => k_is)
    (case z_repr => k_is)
    (case z_enumerate => k_is)
    (case z_max => k_is)
    (case z_divmod => k_is)
    (case mT => k_is)
    (case pT => rfl)
    (case qT => kernel_rfl)
    (case nT => kernel_rfl)
    (case rT => kernel_rfl)
    (case mL => k_is)
    (case pL => rfl)
    (case qL => kernel_rfl)
    (case nL => kernel_rfl)
    (case rL => kernel_rfl)
    (case xg1 => k_is)
    (case xx1 => k_exc)
    (case xk1 => k_is)
    (case xb1 => k_is)
    (case xt1 => k_is)
    (case xg2 => k_is)
    (case xx2 => k_exc)
    (case xk2 => k_is)
    (case xb2 => k_is)
    (case xt2 => k_is)
    (case xg3 => k_is)
    (case xx3 => k_exc)
    (case xk3 => k_is)
    (case xb3 => k_is)
    (case xt3 => k_is)
    (case xg5 => k_is)
    (case xx5 => k_exc)
    (case xk5 => k_is)
    (case xb5 => k_is)
    (case xt5 => k_is)
    (case xg7 => k_is)
    (case xx7 => k_exc)
    (case xk7 => k_is)
    (case xb7 => k_is)
    (case xt7 => k_is)
    (case gMost => k_is)
    (case gG => k_is)
    (case gL => k_is)
