import PyProof.Rows.All
import Wide.All
import OpenK.AllK
import Wide.FinOn
import HandS.ForMost
import HandS.ForExc
import HandS.AnyAll
import HandS.GenBody
import HandS.IsInst
import HandS.TupAny
import HandS.Wide
import HandS.Codes
import HandS.More
import HandS.Walk
import HandS.WideBits
import PyProof.Rows.FactsN_abs
import HandS.Text
import KE.IntTextLaws
import HandS.SortInts
import HandS.Conv
import HandS.EndTab
import HandS.NestedK
import PySem.Challenge.RW_comersline_k12_places_near
set_option Elab.async false
set_option linter.all false
set_option maxRecDepth 100000
set_option maxHeartbeats 1000000
namespace GE
open PySem PySem.Spec PyProof.Rows L2 GenW
open Sem (wp)

/-- what a consumer holds between two turns of a generator -/
structure Con (α : Type) where
  fp : List Addr
  at_ : α → Heap → Prop
structure ConOk {α : Type} (C : Con α) : Prop where
  obj : ∀ a h, C.at_ a h → ∀ b ∈ C.fp, ∃ o, h.get? b = some o ∧ ∀ v, o.data ≠ .cell v
  keep : ∀ a h h', C.at_ a h → (∀ b ∈ C.fp, ∀ o, h.get? b = some o → h'.get? b = some o) → C.at_ a h'
  inj : ∀ a b h, C.at_ a h → C.at_ b h → a = b
def conU : Con Unit := ⟨[], fun _ _ => True⟩
theorem conU_ok : ConOk conU := ⟨(fun _ _ _ b hb => nomatch hb), (fun _ _ _ _ _ => trivial), (fun _ _ _ _ _ => rfl)⟩

abbrev nones (n : Nat) : L2.St := List.replicate n none
theorem nones_some {n i : Nat} {v : V} (h : (nones n)[i]? = some (some v)) : False := by
  rw [List.getElem?_replicate] at h
  split at h <;> cases h

section
variable {α : Type}
def GI (Y : Cx) (C : Con α) (fpI : List Addr) (tn : Nat → Heap → Prop) (a : α) (i : Nat) (H : Hp) (s : Shared) : Prop :=
  Inv Y (pinsAt C.fp s.heap) (nones Y.N.length) H s ∧ C.at_ a s.heap ∧ tn i s.heap ∧ ∀ b ∈ fpI, H b = none
def GP (Y : Cx) (C : Con α) (fpI : List Addr) (tn : Nat → Heap → Prop) (Out : α → V → Hp → (α → Hp → Prop) → Prop) : Protocol := fun _ s₀ v s kap =>
  ∃ a i H y Nx, RelV y v ∧ GI Y C fpI tn a i H s ∧ Out a y H Nx ∧ (∀ b ∈ C.fp, ∀ o, s₀.heap.get? b = some o → s.heap.get? b = some o) ∧ ∀ a' s'', GI Y C fpI tn a' i H s'' → Nx a' H → kap (.send .none) s''
def GF (Y : Cx) (C : Con α) (Fin : α → Hp → Prop) : Nat → Shared → Shared → Prop := fun _ s₀ s₁ =>
  ∃ a H, Inv Y (pinsAt C.fp s₁.heap) (nones Y.N.length) H s₁ ∧ C.at_ a s₁.heap ∧ (∀ b ∈ C.fp, ∀ o, s₀.heap.get? b = some o → s₁.heap.get? b = some o) ∧ Fin a H
abbrev GRr (Y : Cx) (C : Con α) (Fin : α → Hp → Prop) : GenEnd := fun n s₀ r s₁ => r = .ok .next ∧ GF Y C Fin n s₀ s₁
def TurnOf (J : It) (n0 : Nat) (g : TG) (tt : TT) (te : TE) (Out : α → V → Hp → (α → Hp → Prop) → Prop) (Fin : α → Hp → Prop) (W : α → Nat → Nat → Hp → Prop) : Prop :=
  ∀ a i m H, W a i m H → (J.stop i H ∧ Fin a H) ∨ (J.go i H ∧ ∃ Nx : α → Hp → Prop, (∀ a' H', Nx a' H' → ∃ m', m' < m ∧ W a' (i + 1) m' H') ∧
    ∀ x H', J.yld i H x H' → g x (nones n0) H' fun σ2 H2 => tt σ2 H2 fun b H3 => if b = true then te σ2 H3 fun y H4 => Out a y H4 Nx else Nx a H3)

def GoOn (M : Model) (A : Around) (R : GenEnd) (P : Protocol) (gi : α → Shared → Prop) (nx : α → Prop) (gs1 : GenState) : Nat → Prop
  | 0 => ∀ a' s'', gi a' s'' → nx a' → False
  | n1 + 1 => ∀ a' s'', gi a' s'' → nx a' → gs1.Goes M A R P n1 (.send .none) s''
theorem over_loopG {A : Around} {elt tg iter : Expr} {ifs : List Expr} {scope : Scope} {pos : Pos} {it acc : Value} {env : Env} :
    A.over (.compLoop (.GeneratorExp elt [⟨tg, iter, ifs, 0⟩] scope pos) 0 it acc env) [] = A.deeper env := by
  first
    | rfl
    | (obtain ⟨hd, d, fr, gs, u⟩ := A; simp [Around.over, Around.deeper, marksOver, frameCount, unitsOf, envsOf, guardsOf, pushEnvs, pushGuards, Code.envs, Code.env?, Code.isFrame, Code.guards, Code.isGuard, Code.weight, Code.frames, Code.isCreation, Code.isCaller, Code.cUnits])
theorem over_startG {A : Around} {elt tg iter : Expr} {ifs : List Expr} {scope : Scope} {pos : Pos} {it acc : Value} {env : Env} :
    A.over (.compStart (.GeneratorExp elt [⟨tg, iter, ifs, 0⟩] scope pos) 0 it acc env) [] = A.deeper env := by
  first
    | rfl
    | (obtain ⟨hd, d, fr, gs, u⟩ := A; simp [Around.over, Around.deeper, marksOver, frameCount, unitsOf, envsOf, guardsOf, pushEnvs, pushGuards, Code.envs, Code.env?, Code.isFrame, Code.guards, Code.isGuard, Code.weight, Code.frames, Code.isCreation, Code.isCaller, Code.cUnits])

theorem Inv.gensG {X : Cx} {pins : List (Addr × Obj)} {σ : L2.St} {H : Hp} {s : Shared} (I : Inv X pins σ H s) {G : Array GenState} (h : AllBare G) : Inv X pins σ H { s with gens := G } :=
  ⟨I.ok, I.os, h, I.base, I.loc, I.cell, I.free, I.freeC, I.pin, I.hok, I.len⟩
theorem bare_setGen {s : Shared} {g : Nat} {x : GenState} (h : AllBare s.gens) (hx : x.bare = true) : AllBare (s.setGen g x).gens := by
  intro y hy
  show y.bare = true
  have hy : y ∈ s.gens.setIfInBounds g x := hy
  rcases Array.mem_or_eq_of_mem_setIfInBounds hy with h1 | h1
  · exact h y h1
  · rw [h1]; exact hx

section
variable {Y : Cx} {C : Con α} {tg elt iter : Expr} {ifs : List Expr} {scope : Scope} {pos : Pos} {J : It} {fpI : List Addr} {it : Addr} {tn : Nat → Heap → Prop} {g : TG} {tt : TT} {te : TE}
  {Out : α → V → Hp → (α → Hp → Prop) → Prop} {Fin : α → Hp → Prop} {W : α → Nat → Nat → Hp → Prop} {A : Around}
/-- the loop of a generator expression -/
theorem seg_loop (CO : ConOk C) (hcalm : Y.calm = true) (T : Turn Y.prog Y.w Y.K tg J fpI it tn) (hg : PG Y tg g) (ht : PTs Y ifs tt) (he : PE Y elt te) (hA : A.deeper Y.env = Y.A)
    (hex : ∀ b ∈ fpI, b ∈ Y.ex) (hdis : ∀ b ∈ C.fp, b ∉ fpI) (hpn : ∀ p ∈ Y.pn, p.1 ∉ fpI) (hxe : Y.xe = fun _ _ => False) (hco : Y.env.scope.isCoroutine = false) (turn : TurnOf J Y.N.length g tt te Out Fin W) :
    ∀ (m : Nat) (a : α) (i n : Nat) (H : Hp) (s₀ s : Shared), m < n → W a i m H → GI Y C fpI tn a i H s → (∀ b ∈ C.fp, ∀ o, s₀.heap.get? b = some o → s.heap.get? b = some o) →
      Seg (model Y.prog Y.w) A (GRr Y C Fin) (GP Y C fpI tn Out) n s₀ (.compLoop (.GeneratorExp elt [⟨tg, iter, ifs, 0⟩] scope pos) 0 (.ref it) .none Y.env)
        ((model Y.prog Y.w).den (.compLoop (.GeneratorExp elt [⟨tg, iter, ifs, 0⟩] scope pos) 0 (.ref it) .none Y.env)) [] s := by
  have ov : A.over (.compLoop (.GeneratorExp elt [⟨tg, iter, ifs, 0⟩] scope pos) 0 (.ref it) .none Y.env) [] = Y.A := over_loopG.trans hA
  have stat : ∀ {pins : List (Addr × Obj)} {σ' : L2.St} {H' : Hp} {s' : Shared}, Inv Y pins σ' H' s' → (∀ p ∈ pins, p.1 ∉ fpI) → (∀ b ∈ fpI, H' b = none) → ∀ b ∈ fpI, FpOk Y pins H' b := fun {pins σ' H' s'} I' hp hn b hb =>
    ⟨hn b hb, (I'.ok.exf b (hex b hb)).1, I'.ok.exfs b (hex b hb), .inl (hex b hb), fun x c e => (I'.ok.exf b (hex b hb)).2 x c e, fun p hp' z => (List.mem_append.mp hp').elim (fun q => hpn p q (z ▸ hb)) fun q => hp p q (z ▸ hb)⟩
  have pinN : ∀ h : Heap, ∀ p ∈ pinsAt C.fp h, p.1 ∉ fpI := fun h p hp => hdis p.1 (of_pinsAt hp).1
  intro m
  induction m using Nat.strongRecOn with
  | ind m ih =>
    intro a i n H s₀ s hmn hw hGI since
    obtain ⟨I, hat, st, hn0⟩ := hGI
    show Seg _ A _ _ n s₀ _ ((compTurn (.GeneratorExp elt [⟨tg, iter, ifs, 0⟩] scope pos) 0 (.ref it) .none Y.env).onRaise (leaving Y.env)) [] s
    rw [compTurn_gen, Sem.onRaise_eq_wrap]
    refine seg_bind_wrap (wpAny_standAt ?_)
    have sf := stat I (pinN s.heap) hn0
    rcases turn a i m H hw with ⟨stop, fin⟩ | ⟨go, Nx, hNx, step⟩
    · refine seg_bind_wrap ?_
      rw [ov]
      refine thnF (T.done Y rfl rfl rfl hcalm i _ s _ H (fun _ _ => False) I sf st stop) fun r s1 ⟨hr, I1⟩ => ?_
      subst hr
      have hk : ∀ b ∈ C.fp, ∀ o, s.heap.get? b = some o → s1.heap.get? b = some o := fun b hb o e => (I1.pin (b, o) (List.mem_append_right _ (mem_pinsAt hb e))).1
      refine seg_end (.ok .next) ⟨rfl, a, H, I1.pins_of fun p hp => ?_, CO.keep _ _ _ hat hk, fun b hb o e => hk b hb o (since b hb o e), fin⟩
      obtain ⟨hb, e⟩ := of_pinsAt hp
      obtain ⟨o, e2, _⟩ := CO.obj _ _ hat p.1 hb
      have e3 := hk p.1 hb o e2
      rw [e] at e3
      cases e3
      exact I1.pin (p.1, p.2) (List.mem_append_right _ (mem_pinsAt hb e2))
    · refine seg_bind_wrap ?_
      rw [ov]
      refine thnF (T.item Y rfl rfl rfl hcalm i _ s _ H (fun _ _ => False) I sf st go) fun r s1 ⟨u, hr, h1⟩ => ?_
      subst hr
      refine seg_bind_wrap ?_
      rw [ov]
      refine thnF h1 fun _ s2 ⟨x, H2, I2, r2, y2, st2, n2⟩ => ?_
      have I2' := I2.pinned (stat I2 (pinN s.heap) n2) (T.obj _ _ st2)
      refine seg_bind_wrap ?_
      rw [ov]
      have xf : ∀ {β : Type} {t : Sem β} {P P' : β → Shared → Prop} {E' : Value → Shared → Prop} {z : Shared}, wpAny (model Y.prog Y.w) Y.A t P Y.xe z → (∀ a s, P a s → P' a s) → wpAny (model Y.prog Y.w) Y.A t P' E' z := fun {β t P P' E' z} q hq => by
        rw [hxe] at q
        exact thnF q hq
      refine xf (hg.run _ s2 _ H2 x u _ I2' r2 (step x H2 y2)) fun _ s3 ⟨σ3, H3, I3, q3⟩ => ?_
      refine seg_bind_wrap ?_
      rw [ov]
      refine xf (ht.run _ s3 σ3 H3 _ I3 q3) fun ok s4 ⟨H4, I4, q4⟩ => ?_
      -- what stands at a turn's end
      have fin : ∀ {s' : Shared} {H' : Hp} {σ' : L2.St}, Inv Y (pinsAt C.fp s.heap ++ pinsAt fpI s2.heap) σ' H' s' →
          GI Y C fpI tn a (i + 1) H' s' ∧ ∀ b ∈ C.fp, ∀ o, s₀.heap.get? b = some o → s'.heap.get? b = some o := fun {s' H' σ'} I' => by
        have hk : ∀ b ∈ C.fp, ∀ o, s.heap.get? b = some o → s'.heap.get? b = some o := fun b hb o e => (I'.pin (b, o) (List.mem_append_right _ (List.mem_append_left _ (mem_pinsAt hb e)))).1
        have pin' : ∀ b ∈ fpI, ∀ o, s2.heap.get? b = some o → s'.heap.get? b = some o ∧ H' b = none := fun b hb o e =>
          let z := I'.pin (b, o) (List.mem_append_right _ (List.mem_append_right _ (mem_pinsAt hb e)))
          ⟨z.1, z.2.1⟩
        have I1 : Inv Y (pinsAt C.fp s'.heap) σ' H' s' := I'.pins_of fun p hp => by
          obtain ⟨hb, e⟩ := of_pinsAt hp
          obtain ⟨o, e2, _⟩ := CO.obj _ _ hat p.1 hb
          have e3 := hk p.1 hb o e2
          rw [e] at e3
          cases e3
          exact I'.pin (p.1, p.2) (List.mem_append_right _ (List.mem_append_left _ (mem_pinsAt hb e2)))
        refine ⟨⟨I1.weak (by rw [I1.len, List.length_replicate]) fun j v e => (nones_some e).elim, CO.keep _ _ _ hat hk, T.keep _ _ _ st2 fun b hb o e => (pin' b hb o e).1, fun b hb => ?_⟩, fun b hb o e => hk b hb o (since b hb o e)⟩
        obtain ⟨o, e, _⟩ := T.obj _ _ st2 b hb
        exact (pin' b hb o e).2
      cases ok with
      | false =>
        simp only [Bool.false_eq_true, if_false] at q4 ⊢
        obtain ⟨f1, f2⟩ := fin I4
        obtain ⟨m', hm', w'⟩ := hNx a H4 q4
        exact seg_again rfl (ih m' hm' a (i + 1) n H4 s₀ s4 (by omega) w' f1 f2)
      | true =>
        simp only [if_true] at q4 ⊢
        obtain ⟨n', rfl⟩ : ∃ n', n = n' + 1 := ⟨n - 1, by omega⟩
        have hy : ∀ v, yieldOut Y.env v = yieldValue v := fun v => by simp only [yieldOut, hco, Bool.false_eq_true, if_false]
        simp only [hy]
        rw [Sem.bind_eq_wrap', Sem.bind_eq_wrap', Sem.wrap_wrap, Sem.wrap_wrap]
        refine seg_wrap ?_
        rw [ov]
        refine xf (he.run _ s4 σ3 H4 _ I4 q4) fun y s5 ⟨yv, H5, I5, r5, o5⟩ => ?_
        obtain ⟨f1, f2⟩ := fin I5
        refine seg_at (seg_yield rfl rfl rfl ⟨a, i + 1, H5, yv, Nx, r5, f1, o5, f2, fun a' s'' hGI' hN' => ?_⟩)
        obtain ⟨m', hm', w'⟩ := hNx a' H5 hN'
        exact seg_again rfl (ih m' hm' a' (i + 1) n' H5 s'' s'' (by omega) w' hGI' fun _ _ _ e => e)

/-- .. and its start -/
theorem seg_start (CO : ConOk C) (hcalm : Y.calm = true) (T : Turn Y.prog Y.w Y.K tg J fpI it tn) (hg : PG Y tg g) (ht : PTs Y ifs tt) (he : PE Y elt te) (hA : A.deeper Y.env = Y.A)
    (hex : ∀ b ∈ fpI, b ∈ Y.ex) (hdis : ∀ b ∈ C.fp, b ∉ fpI) (hpn : ∀ p ∈ Y.pn, p.1 ∉ fpI) (hxe : Y.xe = fun _ _ => False) (hco : Y.env.scope.isCoroutine = false) (turn : TurnOf J Y.N.length g tt te Out Fin W)
    (m : Nat) (a : α) (n : Nat) (H : Hp) (s : Shared) (hm : m < n) (hw : W a 0 m H) (hGI : GI Y C fpI tn a 0 H s) :
      Seg (model Y.prog Y.w) A (GRr Y C Fin) (GP Y C fpI tn Out) n s (.compStart (.GeneratorExp elt [⟨tg, iter, ifs, 0⟩] scope pos) 0 (.ref it) .none Y.env)
        ((model Y.prog Y.w).den (.compStart (.GeneratorExp elt [⟨tg, iter, ifs, 0⟩] scope pos) 0 (.ref it) .none Y.env)) [] s := by
  have loop := seg_loop (iter := iter) (scope := scope) (pos := pos) CO hcalm T hg ht he hA hex hdis hpn hxe hco turn m a 0 n H s s hm hw hGI fun _ _ _ e => e
  show Seg _ A _ _ _ s _ ((compStart (.GeneratorExp elt [⟨tg, iter, ifs, 0⟩] scope pos) 0 (.ref it) .none Y.env).onRaise (leaving Y.env)) [] s
  unfold compStart
  rw [Sem.onRaise_eq_wrap]
  show Seg _ A _ _ _ s _ ((ask >>= _).wrap _ _ _ _) [] s
  refine seg_bind_wrap (wpAny_askSetting ?_)
  split
  · exact seg_again rfl loop
  · first
      | exact seg_bind_wrap (wpAny_rule (seg_bind_wrap (wpAny_standAt (seg_bind_wrap (T.self _ 0 s _ _ hGI.2.2.1 (seg_again rfl loop))))))
      | (refine seg_bind_wrap (wpAny_rule ?_); show Seg _ A _ _ _ s _ ((standAt iter.pos >>= _).wrap _ _ _ _) [] s; exact seg_bind_wrap (wpAny_standAt (seg_bind_wrap (T.self _ 0 s _ _ hGI.2.2.1 (seg_again rfl loop)))))

theorem repin {a : α} {h : Heap} {σ : L2.St} {H : Hp} {s' : Shared} (CO : ConOk C) (hat : C.at_ a h) (I : Inv Y (pinsAt C.fp h) σ H s') (hk : ∀ b ∈ C.fp, ∀ o, h.get? b = some o → s'.heap.get? b = some o) :
    Inv Y (pinsAt C.fp s'.heap) σ H s' := I.pins_of fun p hp => by
  obtain ⟨hb, e⟩ := of_pinsAt hp
  obtain ⟨o, e2, _⟩ := CO.obj _ _ hat p.1 hb
  have e3 := hk p.1 hb o e2
  rw [e] at e3
  cases e3
  exact I.pin (p.1, p.2) (List.mem_append_right _ (mem_pinsAt hb e2))

/-- one item of such a generator -/
theorem next_ge {A : Around} {ga : Addr} {go : Obj} {g i n : Nat} {gs : GenState} {a : α} {H : Hp} {Nx : α → Hp → Prop} {s : Shared} {Q : Option Value → Shared → Prop} {E : Value → Shared → Prop}
    (CO : ConOk C) (hh : A.handled = none) (hd : A.depth < recursionLimit) (hpn : (ga, go) ∈ Y.pn) (hgo : ∀ h : Heap, h.get? ga = some go → h.IsGen ga g) (hgs : s.gens[g]? = some gs)
    (gi : GI Y C fpI tn a i H s) (hN : Nx a H)
    (goes : ∀ a' s'', GI Y C fpI tn a' i H s'' → Nx a' H → gs.Goes (model Y.prog Y.w) A.in1 (GRr Y C Fin) (GP Y C fpI tn Out) n (.send .none) s'')
    (hsome : ∀ i1 H1 y v Nx1 s1 gs1, RelV y v → GI Y C fpI tn a i1 H1 s1 → Out a y H1 Nx1 → s1.gens[g]? = some gs1 →
      GoOn (model Y.prog Y.w) A.in1 (GRr Y C Fin) (GP Y C fpI tn Out) (fun a' s'' => GI Y C fpI tn a' i1 H1 s'') (fun a' => Nx1 a' H1) gs1 n → Q (some v) s1)
    (hnone : ∀ H1 s1, Inv Y (pinsAt C.fp s1.heap) (nones Y.N.length) H1 s1 → C.at_ a s1.heap → Fin a H1 → Q none s1) :
    wpAny (model Y.prog Y.w) A (pyNext (.ref ga)) Q E s := by
  obtain ⟨I, hat, st, hn0⟩ := id gi
  have hlt : g < s.gens.size := by
    rcases Nat.lt_or_ge g s.gens.size with h' | h'
    · exact h'
    · rw [Array.getElem?_eq_none h'] at hgs; cases hgs
  refine wpAny_gsz (n := g + 1) hlt ?_
  have gi' : GI Y C fpI tn a i H (s.setGen g .running) := ⟨Inv.gensG I (bare_setGen I.bare rfl), hat, st, hn0⟩
  have hig : s.heap.IsGen ga g := hgo _ (I.pin (ga, go) (List.mem_append_left _ hpn)).1
  refine wpAny_pyNext_genexpQ (P := GF Y C Fin) (Y := GP Y C fpI tn Out) hh I.nolimit hd hig hgs (goes a _ gi' hN) (fun v s1 gs1 hb hv => ?_) (fun s1 hp h' hk => ?_)
  · obtain ⟨a1, i1, H1, y, Nx1, rv, gi1, o1, since, kap⟩ := hv
    have hat1 : C.at_ a s1.heap := CO.keep _ _ _ hat since
    have ea : a1 = a := CO.inj _ _ _ gi1.2.1 hat1
    subst ea
    intro hsz
    have hlt1 : g < s1.gens.size := by
      rw [setGen_size] at hsz
      exact hsz
    have gi2 : GI Y C fpI tn a1 i1 H1 (s1.setGen g gs1) := ⟨Inv.gensG gi1.1 (bare_setGen gi1.1.bare hb), gi1.2.1, gi1.2.2.1, gi1.2.2.2⟩
    refine hsome i1 H1 y v Nx1 _ gs1 rv gi2 o1 (by simp [Shared.setGen, hlt1]) ?_
    cases n with
    | zero => exact fun a' s'' q1 q2 => kap a' s'' q1 q2
    | succ n1 => exact fun a' s'' q1 q2 => kap a' s'' q1 q2
  · obtain ⟨a1, H1, I1, hat1, since, fin⟩ := hp
    have ea : a1 = a := CO.inj _ _ _ hat1 (CO.keep _ _ _ hat since)
    subst ea
    intro _
    have I2 : Inv Y (pinsAt C.fp s1.heap) (nones Y.N.length) H1 { s1.setGen g .finished with heap := h' } := (Inv.gensG I1 (bare_setGen (x := .finished) (g := g) I1.bare rfl)).kept (t' := s1.toks) hk
    exact hnone H1 _ (repin CO hat1 I2 fun b _ o e => hk b o e) (CO.keep _ _ _ hat1 fun b _ o e => hk b o e) fin
end
end

section
variable {Y : Cx} {fpI : List Addr} {tn : Nat → Heap → Prop}
def outAll (QB : Bool → Hp → Prop) : Unit → V → Hp → (Unit → Hp → Prop) → Prop := fun _ y H Nx => ∃ c, y = .bl c ∧ if c = true then Nx () H else QB false H
def outAny (QB : Bool → Hp → Prop) : Unit → V → Hp → (Unit → Hp → Prop) → Prop := fun _ y H Nx => ∃ c, y = .bl c ∧ if c = true then QB true H else Nx () H
theorem all_loop {A : Around} {ga : Addr} {go : Obj} {g : Nat} {QB : Bool → Hp → Prop} {R : Result → Shared → Prop} (hh : A.handled = none) (hd : A.depth < recursionLimit) (hpn : (ga, go) ∈ Y.pn) (hgo : ∀ h : Heap, h.get? ga = some go → h.IsGen ga g)
    (hR : ∀ b s' H', Inv Y [] (nones Y.N.length) H' s' → QB b H' → R (.ok (.ret (.bool b))) s') :
    ∀ (n i : Nat) (H : Hp) (Nx : Unit → Hp → Prop) (s : Shared) (gs : GenState), s.gens[g]? = some gs → GI Y conU fpI tn () i H s → Nx () H →
      (∀ a' s'', GI Y conU fpI tn a' i H s'' → Nx a' H → gs.Goes (model Y.prog Y.w) A.in1.in1 (GRr Y conU fun _ H => QB true H) (GP Y conU fpI tn (outAll QB)) n (.send .none) s'') →
      codeAny (model Y.prog Y.w) A (.builtin "all.loop" ⟨[.ref ga], []⟩) R s := by
  intro n
  induction n with
  | zero =>
    intro i H Nx s gs hgs gi hN goes
    refine codeAny_builtin F.entry_all_loop ?_
    rw [Around.under_plainId F.plain_all_loop _]
    show wpAny _ A.in1 (pyNext (.ref ga) >>= _) _ _ s
    refine wpAny_bind (next_ge (A := A.in1) conU_ok hh hd hpn hgo hgs gi hN goes (fun i1 H1 y v Nx1 s1 gs1 rv gi1 o1 hg1 go1 => ?_) (fun H1 s1 I1 _ fin => ?_))
    · obtain ⟨c, rfl, hc⟩ := o1
      cases (show v = Value.bool c from rv)
      refine wpAny_bind (wpAny_holding (wpAny_truthy_bool ?_))
      refine wpAny_bind (wpAny_letGo ?_)
      cases c with
      | true => exact (go1 () s1 gi1 hc).elim
      | false =>
        simp only [Bool.false_eq_true, if_false]
        exact wpAny_bind (wpAny_rule (wpAny_pure (hR false s1 H1 gi1.1 hc)))
    · exact wpAny_bind (wpAny_rule (wpAny_pure (hR true s1 H1 I1 fin)))
  | succ n ih =>
    intro i H Nx s gs hgs gi hN goes
    refine codeAny_builtin F.entry_all_loop ?_
    rw [Around.under_plainId F.plain_all_loop _]
    show wpAny _ A.in1 (pyNext (.ref ga) >>= _) _ _ s
    refine wpAny_bind (next_ge (A := A.in1) conU_ok hh hd hpn hgo hgs gi hN goes (fun i1 H1 y v Nx1 s1 gs1 rv gi1 o1 hg1 go1 => ?_) (fun H1 s1 I1 _ fin => ?_))
    · obtain ⟨c, rfl, hc⟩ := o1
      cases (show v = Value.bool c from rv)
      refine wpAny_bind (wpAny_holding (wpAny_truthy_bool ?_))
      refine wpAny_bind (wpAny_letGo ?_)
      cases c with
      | true =>
        simp only [if_true]
        exact wpAny_pure ⟨plainId_quiet F.plain_all_loop _, ih i1 H1 Nx1 s1 gs1 hg1 gi1 hc go1⟩
      | false =>
        simp only [Bool.false_eq_true, if_false]
        exact wpAny_bind (wpAny_rule (wpAny_pure (hR false s1 H1 gi1.1 hc)))
    · exact wpAny_bind (wpAny_rule (wpAny_pure (hR true s1 H1 I1 fin)))
theorem any_loop {A : Around} {ga : Addr} {go : Obj} {g : Nat} {QB : Bool → Hp → Prop} {R : Result → Shared → Prop} (hh : A.handled = none) (hd : A.depth < recursionLimit) (hpn : (ga, go) ∈ Y.pn) (hgo : ∀ h : Heap, h.get? ga = some go → h.IsGen ga g)
    (hR : ∀ b s' H', Inv Y [] (nones Y.N.length) H' s' → QB b H' → R (.ok (.ret (.bool b))) s') :
    ∀ (n i : Nat) (H : Hp) (Nx : Unit → Hp → Prop) (s : Shared) (gs : GenState), s.gens[g]? = some gs → GI Y conU fpI tn () i H s → Nx () H →
      (∀ a' s'', GI Y conU fpI tn a' i H s'' → Nx a' H → gs.Goes (model Y.prog Y.w) A.in1.in1 (GRr Y conU fun _ H => QB false H) (GP Y conU fpI tn (outAny QB)) n (.send .none) s'') →
      codeAny (model Y.prog Y.w) A (.builtin "any.loop" ⟨[.ref ga], []⟩) R s := by
  intro n
  induction n with
  | zero =>
    intro i H Nx s gs hgs gi hN goes
    refine codeAny_builtin F.entry_any_loop ?_
    rw [Around.under_plainId F.plain_any_loop _]
    show wpAny _ A.in1 (pyNext (.ref ga) >>= _) _ _ s
    refine wpAny_bind (next_ge (A := A.in1) conU_ok hh hd hpn hgo hgs gi hN goes (fun i1 H1 y v Nx1 s1 gs1 rv gi1 o1 hg1 go1 => ?_) (fun H1 s1 I1 _ fin => ?_))
    · obtain ⟨c, rfl, hc⟩ := o1
      cases (show v = Value.bool c from rv)
      refine wpAny_bind (wpAny_holding (wpAny_truthy_bool ?_))
      refine wpAny_bind (wpAny_letGo ?_)
      cases c with
      | false => exact (go1 () s1 gi1 hc).elim
      | true =>
        simp only [if_true]
        exact wpAny_bind (wpAny_rule (wpAny_pure (hR true s1 H1 gi1.1 hc)))
    · exact wpAny_bind (wpAny_rule (wpAny_pure (hR false s1 H1 I1 fin)))
  | succ n ih =>
    intro i H Nx s gs hgs gi hN goes
    refine codeAny_builtin F.entry_any_loop ?_
    rw [Around.under_plainId F.plain_any_loop _]
    show wpAny _ A.in1 (pyNext (.ref ga) >>= _) _ _ s
    refine wpAny_bind (next_ge (A := A.in1) conU_ok hh hd hpn hgo hgs gi hN goes (fun i1 H1 y v Nx1 s1 gs1 rv gi1 o1 hg1 go1 => ?_) (fun H1 s1 I1 _ fin => ?_))
    · obtain ⟨c, rfl, hc⟩ := o1
      cases (show v = Value.bool c from rv)
      refine wpAny_bind (wpAny_holding (wpAny_truthy_bool ?_))
      refine wpAny_bind (wpAny_letGo ?_)
      cases c with
      | false =>
        simp only [Bool.false_eq_true, if_false]
        exact wpAny_pure ⟨plainId_quiet F.plain_any_loop _, ih i1 H1 Nx1 s1 gs1 hg1 gi1 hc go1⟩
      | true =>
        simp only [if_true]
        exact wpAny_bind (wpAny_rule (wpAny_pure (hR true s1 H1 gi1.1 hc)))
    · exact wpAny_bind (wpAny_rule (wpAny_pure (hR false s1 H1 I1 fin)))
end

/-! ### a generator expression is made -/
abbrev ce (X : Cx) (scope : Scope) (C : Addr) (code : Value) : Env := genEnv scope [] C code builtinsNs X.env
abbrev gx (X : Cx) (A : Around) (N : List Str) (s : Shared) (H : Hp) (cenv : Env) (fp : List Addr) (pn : List (Addr × Obj)) : Cx :=
  { X with A := A.deeper cenv, N := N, s_0 := s, H_0 := H, env := cenv, outer := X.stack, stack := cenv :: X.stack, ex := fp, fn := fun _ => false, calm := true, pn := pn, xe := fun _ _ => False }
structure GSc (scope : Scope) : Prop where
  kind : scope.kind = .function
  co : scope.isCoroutine = false
  own : ∀ y ∈ scope.names, y.2 ≠ .cell ∧ y.2 ≠ .free
  dot : scope.names.lookup (".0" : Str) = some NameKind.local
theorem cloFrom_nil {cells : List (Str × Addr)} : ∀ {names : List (Str × NameKind)} {acc : List (Str × Addr)}, (∀ y ∈ names, y.2 ≠ .free) → cloFrom cells names acc = acc
  | [], _, _ => rfl
  | (n, k) :: r, acc, h => by
    unfold cloFrom
    rw [if_neg (by simpa using h (n, k) List.mem_cons_self)]
    exact cloFrom_nil fun y hy => h y (List.mem_cons_of_mem _ hy)
theorem GSc.nocell {scope : Scope} (S : GSc scope) {x : Str} (h : scope.names.lookup x = some .cell ∨ scope.names.lookup x = some .free) : False := by
  rcases h with h | h
  · exact (S.own _ (PySem.mem_of_lookup h)).1 rfl
  · exact (S.own _ (PySem.mem_of_lookup h)).2 rfl
section
variable {X : Cx} {pins : List (Addr × Obj)} {σ : L2.St} {H : Hp} {s : Shared}
theorem ge_start {A : Around} {N : List Str} {scope : Scope} {code : Value} {fp : List Addr} {go : Obj} {G : Array GenState} {tk : Nat} {h5 : Heap} {m0 : Str → Option Value} (I : Inv X pins σ H s) (S : GSc scope) (hA : A.handled = none) (hf : A.frames = some X.stack)
    (hfp : ∀ b ∈ fp, FpOk X pins H b ∧ b < s.heap.objs.size) (hG : AllBare G) (hns : h5.Ns s.heap.objs.size m0) (hk : ∀ b o, s.heap.get? b = some o → h5.get? b = some o) (hgo : h5.get? (s.heap.objs.size + 1) = some go) (hgd : ∀ v, go.data ≠ .cell v) :
    Inv (gx X A N s H (ce X scope s.heap.objs.size code) fp [(s.heap.objs.size + 1, go)]) [] (nones N.length) H { s with gens := G, toks := tk, heap := h5 } := by
  have noc : ∀ x c, (ce X scope s.heap.objs.size code).cells.lookup x = some c → False := fun x c e => by simp [genEnv] at e
  have stkne : ∀ b, s.heap.objs.size ≤ b → b ∉ frs X.stack := fun b hb z => by
    rcases List.mem_cons.mp (I.stkSub b z) with e | e
    · exact absurd (Nat.lt_of_lt_of_le I.lt (by rw [← e]; exact hb)) (Nat.lt_irrefl _)
    · exact I.nofs hb e
  refine ⟨⟨I.ok.mod, S.kind, I.ok.glob, rfl, Nat.le_refl _, fun x y c h1 _ => (noc x c h1).elim, fun x hx => (S.nocell hx).elim, fun x c h _ => (by cases h), fun _ => hA, Around.frames_deeper hf, .inr ⟨rfl, rfl⟩, fun b hb => ⟨Nat.ne_of_lt (hfp b hb).2, fun x c e => (noc x c e).elim⟩,
    I.bs, Nat.le_trans I.ok.bsz I.sz, fun b o e hb => ?_, fun b hb z => ?_, I.stack, I.stkFree⟩, rfl, hG, Un.kept hk, ⟨m0, hns, fun i x v _ h2 _ => (nones_some h2).elim⟩, fun x c e => (noc x c e).elim, I.hok.fresh (Nat.le_refl _), fun x c e => (noc x c e).elim, fun p hp => ?_, I.hok.kept hk, List.length_replicate⟩
  · rcases (hfp b hb).1.2.2.2.1 with z | z
    · exact I.ok.noex b o e z
    · exact absurd (Nat.lt_of_lt_of_le (Heap.lt_size e) (Nat.le_trans I.ok.bsz z)) (Nat.lt_irrefl _)
  · rcases List.mem_cons.mp (I.stkSub b z) with e | e
    · exact (hfp b hb).1.2.1 e
    · exact (hfp b hb).1.2.2.1 e
  · have hp' : p ∈ [(s.heap.objs.size + 1, go)] := by simpa using hp
    rw [List.mem_singleton.mp hp']
    exact ⟨hgo, I.hok.fresh (Nat.le_succ _), Nat.succ_ne_self _, stkne _ (Nat.le_succ _), hgd⟩
/-- back in the def that asked -/
theorem ge_back {A : Around} {N : List Str} {cenv : Env} {fp : List Addr} {pn pins' : List (Addr × Obj)} {σ' : L2.St} {H' : Hp} {s' : Shared} (I : Inv X pins σ H s) (hfp : ∀ b ∈ fp, FpOk X pins H b ∧ b < s.heap.objs.size)
    (J : Inv (gx X A N s H cenv fp pn) pins' σ' H' s') : Inv X pins σ H' s' :=
  I.call' (ch := fp) J.os J.base J.hok J.bare fun b hb => ⟨(hfp b hb).1.2.2.2.1, (hfp b hb).1.2.1, (hfp b hb).1.2.2.2.2.1, (hfp b hb).1.2.2.2.2.2⟩
theorem room3 {k : Nat} {A : Around} (r : Room (k + 1) A) (env : Env) : Room k (A.in1.in1.deeper env) :=
  ⟨r.hd, by have := r.dp; show A.depth + 1 + 3 * k + 5 < _; omega, by have := r.un; show A.units + 1 + 1 + 3 + 16 * k + 200 < _; omega⟩

theorem gen_make {c P : Addr} {elt tg iter : Expr} {ifs : List Expr} {gpos : Pos} {scope : Scope} {wi : TI} {k : Nat} {Q' : Value → Shared → Prop} {R : It → Hp → Prop}
    (hr : Room k X.A) (TB : GxR.TabB X.base X.mg c P) (hcode : X.env.code = .ref c) (S : GSc scope) (hi : PI X tg iter wi) (hs : ∀ v, genFold iter X.env v = pure v) (I : Inv X pins σ H s) (h : wi σ H fun J H1 => GxR.TabG H1 P ∧ R J H1)
    (hQ : ∀ J H1 H2 s4 s5 code fp it tn go g, R J H1 → GxR.Tabbed P H1 H2 → Inv X pins σ H2 s4 → (∀ b ∈ fp, FpOk X pins H2 b ∧ b < s4.heap.objs.size) → Turn X.prog X.w X.K tg J fp it tn → tn 0 s5.heap →
      (∀ A N, A.handled = none → A.frames = some X.stack → Inv (gx X A N s4 H2 (ce X scope s4.heap.objs.size code) fp [(s4.heap.objs.size + 1, go)]) [] (nones N.length) H2 s5) →
      (∀ h : Heap, h.get? (s4.heap.objs.size + 1) = some go → h.IsGen (s4.heap.objs.size + 1) g) →
      s5.gens[g]? = some (.fresh (.compStart (.GeneratorExp elt [⟨tg, iter, ifs, 0⟩] scope gpos) 0 (.ref it) .none (ce X scope s4.heap.objs.size code))) → Q' (.ref (s4.heap.objs.size + 1)) s5) :
    wpAny (model X.prog X.w) X.A (eval (.GeneratorExp elt [⟨tg, iter, ifs, 0⟩] scope gpos) X.env) Q' X.xe s := by
  have hcl : closureFor scope X.env = pure [] := by
    rw [closure_ok fun y hy e => absurd e (S.own y hy).2, cloFrom_nil fun y hy => (S.own y hy).2]
  refine wpAny_GeneratorExp_make S.co hcl (fun y hy => (S.own y hy).1) S.dot S.kind (by have := hr.dp; omega) (thn (hi.run pins s σ H _ I h) fun xv s1 hx => thn hx fun itv s2 h2 => ?_) hs
  obtain ⟨it, fp, tn, J, H1, e, I2, T, st2, f2, ⟨ps, hP, ht⟩, q1⟩ := h2
  subst e
  have hPs : s2.heap.get? P = some { cls := .none, data := .fields ps } := I2.hok P _ hP
  have cd : PySem.W.CodeHd s2.heap c P := TB.code.keeps fun b u e => I2.bk b u e
  have nfp : ∀ b ∈ fp, b ≠ P := fun b hb z => by
    have := (f2 b hb).1
    rw [z, hP] at this
    cases this
  have szf : ∀ b ∈ fp, b < s2.heap.objs.size := fun b hb => by
    obtain ⟨o, e, _⟩ := T.obj _ _ st2 b hb
    exact Heap.lt_size e
  have cont : ∀ (code : Value) (h3 : Heap) (tk : Nat) (ps' : Array Value), Heap.ExtBut P s2.heap h3 → s2.heap.objs.size ≤ h3.objs.size → h3.get? P = some { cls := .none, data := .fields ps' } → (∃ more, ps' = ps ++ more) → TriplesOk ps'.toList →
      wpAny (model X.prog X.w) X.A (builtinsFor X.env.globals X.env.builtins) (fun bi s4 =>
        ∀ h', h'.Ns s4.heap.objs.size (fun y => if y = ".0" then some (.ref it) else none) → Heap.SameBut s4.heap.objs.size (s4.heap.push { cls := .type "frame", data := .dict #[] }) h' →
          Q' (.ref h'.objs.size) { s4 with
            gens := s4.gens.push (.fresh (.compStart (.GeneratorExp elt [⟨tg, iter, ifs, 0⟩] scope gpos) 0 (.ref it) .none (genEnv scope [] s4.heap.objs.size code bi X.env))),
            toks := s4.toks + 1 + 1 + 1,
            heap := h'.push { cls := .type "generator", data := .fields #[.int s4.gens.size 0, .str "<genexpr>" (s4.toks + 1), .str (X.env.qual ++ "<genexpr>") (s4.toks + 1 + 1)] } }) X.xe { s2 with heap := h3, toks := tk } := by
    intro code h3 tk ps' hx hsz hP3 hmore ht3
    obtain ⟨bm, ob, e1, e2, e3, e4, e5, e6, e7, e8⟩ := TB.bm
    obtain ⟨more, rfl⟩ := hmore
    have I3 : Inv X pins σ (upd H1 P (.tbl (ps ++ more))) { s2 with heap := h3, toks := tk } := GxR.inv_tab (more := more) (g' := s2.gens) (d' := s2.drawn) I2 hP (fun b u hb e => hx b u hb e) hP3 I2.bare
    have tab : GxR.Tabbed P H1 (upd H1 P (.tbl (ps ++ more))) := ⟨⟨_, upd_same, ht3⟩, fun b hb => upd_ne hb⟩
    have st3 : tn 0 h3 := T.keep _ _ _ st2 fun b hb o e => hx b o (nfp b hb) e
    have f3 : ∀ b ∈ fp, FpOk X pins (upd H1 P (.tbl (ps ++ more))) b ∧ b < h3.objs.size := fun b hb =>
      ⟨⟨by rw [upd_ne (nfp b hb)]; exact (f2 b hb).1, (f2 b hb).2⟩, Nat.lt_of_lt_of_le (szf b hb) hsz⟩
    refine wpAny_builtinsFor (m := X.mg) (by rw [I3.ok.glob]; exact I3.mod.glob.keeps I3.bk) e1 e2 (I3.bk _ _ e5) e6 e7 e8 ?_
    intro h' hns hsb
    have hsz' : h'.objs.size = h3.objs.size + 1 := by rw [hsb.1, Heap.size_push]
    have keep' : ∀ b o, h3.get? b = some o → h'.get? b = some o := fun b o e => hsb.extBut b o (Nat.ne_of_lt (Heap.lt_size e)) (Heap.get?_push_of_some _ e)
    have main : ∀ (go : Obj), go.cls = .type "generator" → (∃ nm qn, go.data = .fields #[.int s2.gens.size 0, nm, qn]) → go.slots = #[] → (∀ h : Heap, (h.push go).get? h.objs.size = some go) → ∀ t',
        Q' (.ref h'.objs.size) { s2 with heap := h'.push go, toks := t', gens := s2.gens.push (.fresh (.compStart (.GeneratorExp elt [⟨tg, iter, ifs, 0⟩] scope gpos) 0 (.ref it) .none (genEnv scope [] h3.objs.size code builtinsNs X.env))) } := by
      intro go gc ⟨nm, qn, gd⟩ gsl gp t'
      have hgp := gp h'
      rw [hsz'] at hgp ⊢
      have keep5 : ∀ b o, h3.get? b = some o → (h'.push go).get? b = some o := fun b o e => Heap.get?_push_of_some _ (keep' b o e)
      refine hQ J H1 (upd H1 P (.tbl (ps ++ more))) { s2 with heap := h3, toks := tk } _ code fp it tn go s2.gens.size q1 tab I3 f3 T (T.keep _ _ _ st3 fun b _ o e => keep5 b o e) (fun A N hA hf => ?_) (fun h e => ⟨go, nm, qn, e, gc, gd, gsl⟩) (Array.getElem?_push_size ..)
      exact ge_start (s := { s2 with heap := h3, toks := tk }) I3 S hA hf f3 (I2.bare.push rfl) (hns.push _) keep5 hgp (fun v z => by rw [gd] at z; cases z)
    exact main _ rfl ⟨_, _, rfl⟩ rfl (fun h => Heap.get?_push_size _ rfl) _
  refine ⟨I2.nolimit, ?_⟩
  cases hf : codeAmong gpos ps.toList with
  | none =>
    refine wpAny_genexprCodeX hcode (cd.code hPs ht) (cd.tab hPs) hf fun c' h' tk hx hge hlt hco' _ htab' _ => ?_
    obtain ⟨o1, vs, f1, tf, fl, tg', inF, tx, tt, op, _, _, _, _, _, _, _, _, _, htr, _⟩ := hco'
    exact cont _ h' tk _ hx (Nat.le_trans hge (Nat.le_of_lt hlt)) htab'.2 ⟨_, rfl⟩ htr
  | some cv =>
    refine wpAny_genexprCode_hit hcode (cd.code hPs ht) hf ?_
    exact cont cv s2.heap s2.toks ps (Heap.ExtBut.refl _ _) (Nat.le_refl _) hPs ⟨#[], by simp⟩ ht

/-! ### all and any of one -/
def tGen (P : Addr) (n0 : Nat) (wi : TI) (g : TG) (tt : TT) (te : TE) (Out : (Bool → Hp → Prop) → Unit → V → Hp → (Unit → Hp → Prop) → Prop) (fin : Bool) : TE := fun σ H Q => wi σ H fun J H1 => GxR.TabG H1 P ∧ ∀ H2, GxR.Tabbed P H1 H2 →
  ∃ W : Unit → Nat → Nat → Hp → Prop, (∃ m, W () 0 m H2) ∧ TurnOf J n0 g tt te (Out fun b H => Q (.bl b) H) (fun _ H => Q (.bl fin) H) W
theorem pe_allG {N : List Str} {c P : Addr} {elt tg iter : Expr} {ifs : List Expr} {p pos gpos : Pos} {scope : Scope} {wi : TI} {g : TG} {tt : TT} {te : TE} {k : Nat}
    (hr : Room (k + 1) X.A) (hgl : Gl X "all") (hm : X.mg "all" = none) (TB : GxR.TabB X.base X.mg c P) (hcode : X.env.code = .ref c) (S : GSc scope) (hi : PI X tg iter wi)
    (hg : ∀ (A : Around) (s : Shared) (H : Hp) (C : Addr) (code : Value) (fp : List Addr) (pn : List (Addr × Obj)), Room k (A.deeper (ce X scope C code)) → PG (gx X A N s H (ce X scope C code) fp pn) tg g)
    (ht : ∀ (A : Around) (s : Shared) (H : Hp) (C : Addr) (code : Value) (fp : List Addr) (pn : List (Addr × Obj)), Room k (A.deeper (ce X scope C code)) → PTs (gx X A N s H (ce X scope C code) fp pn) ifs tt)
    (he : ∀ (A : Around) (s : Shared) (H : Hp) (C : Addr) (code : Value) (fp : List Addr) (pn : List (Addr × Obj)), Room k (A.deeper (ce X scope C code)) → PE (gx X A N s H (ce X scope C code) fp pn) elt te)
    (hs : ∀ v, genFold iter X.env v = pure v := by intro _; rfl)
    (hb : bootBuiltins "all" = some (.builtin "all") := by decide +kernel)
    (hst : starEach [.GeneratorExp elt [⟨tg, iter, ifs, 0⟩] scope gpos] X.env = (false, eval (.GeneratorExp elt [⟨tg, iter, ifs, 0⟩] scope gpos) X.env) :: starEach [] X.env := by rfl) :
    PE X (.Call (.Name "all" p) [.GeneratorExp elt [⟨tg, iter, ifs, 0⟩] scope gpos] [] pos) (tGen P N.length wi g tt te outAll true) := by
  refine ⟨fun pins s σ H Q I h => ?_⟩
  refine wpAny_Call_Name_kw (ld_blt I hgl hm hb ?_)
  refine PyProof.Rows.callWith_builtin1 ?_ hst (by rfl)
  rw [hst]
  show wpAny _ _ (spliced ((false, eval (.GeneratorExp elt [⟨tg, iter, ifs, 0⟩] scope gpos) X.env) :: backTo pos (starEach [] X.env))) _ _ s
  refine Calls.spliced_cons (gen_make hr TB hcode S hi hs I h fun J H1 H2 s4 s5 code fp it tn go gn hR tab I4 f4 T st5 mk hgo hgs => ?_)
  refine Calls.spliced_nil ?_
  obtain ⟨W, ⟨m0, w0⟩, turn⟩ := hR H2 tab
  have rY := room3 hr (ce X scope s4.heap.objs.size code)
  have I5 := mk X.A.in1.in1 N hr.hd I.ok.frames
  generalize hpn : [(s4.heap.objs.size + 1, go)] = pn at I5
  have hpm : (s4.heap.objs.size + 1, go) ∈ pn := by rw [← hpn]; exact List.mem_singleton.mpr rfl
  have hpf : ∀ p ∈ pn, p.1 ∉ fp := fun p hp z => by
    rw [← hpn] at hp
    rw [List.mem_singleton.mp hp] at z
    exact absurd (f4 _ z).2 (Nat.not_lt.mpr (Nat.le_succ _))
  have gi0 : GI (gx X X.A.in1.in1 N s4 H2 (ce X scope s4.heap.objs.size code) fp pn) conU fp tn () 0 H2 s5 := ⟨I5, trivial, st5, fun b hb => (f4 b hb).1.1⟩
  have isg := hgo _ (I5.pin _ (List.mem_append_left _ hpm)).1
  refine call_function_tree F.kind_all F.plain_all F.entry_all (F.args_all1 _) ?_
  unfold Builtin.«all»
  refine wpAny_bind (m := oneArg "all" _) (wpAny_pure ?_)
  refine wpAny_bind (wpAny_pyIter_gen isg ?_)
  refine wpAny_pure ⟨plainId_quiet F.plain_all_loop _, ?_⟩
  refine all_loop (Y := gx X X.A.in1.in1 N s4 H2 (ce X scope s4.heap.objs.size code) fp pn) (A := X.A) (g := gn) (QB := fun b H => Q (.bl b) H) hr.hd hr.depth hpm hgo (fun b s' H' I' q => ?_) (m0 + 1) 0 H2 (fun a H => W a 0 m0 H) s5 _ hgs gi0 w0 (fun a' s'' gi' w' => ?_)
  · exact ⟨.bl b, H', ge_back I4 f4 I', rfl, q⟩
  · exact ⟨rfl, seg_start (Y := gx X X.A.in1.in1 N s4 H2 (ce X scope s4.heap.objs.size code) fp pn) conU_ok rfl T (hg _ _ _ _ _ _ _ rY) (ht _ _ _ _ _ _ _ rY) (he _ _ _ _ _ _ _ rY) rfl (fun b hb => hb) (fun b hb => nomatch hb) hpf rfl S.co turn m0 a' (m0 + 1) H2 s'' (Nat.lt_succ_self _) w' gi'⟩
theorem pe_anyG {N : List Str} {c P : Addr} {elt tg iter : Expr} {ifs : List Expr} {p pos gpos : Pos} {scope : Scope} {wi : TI} {g : TG} {tt : TT} {te : TE} {k : Nat}
    (hr : Room (k + 1) X.A) (hgl : Gl X "any") (hm : X.mg "any" = none) (TB : GxR.TabB X.base X.mg c P) (hcode : X.env.code = .ref c) (S : GSc scope) (hi : PI X tg iter wi)
    (hg : ∀ (A : Around) (s : Shared) (H : Hp) (C : Addr) (code : Value) (fp : List Addr) (pn : List (Addr × Obj)), Room k (A.deeper (ce X scope C code)) → PG (gx X A N s H (ce X scope C code) fp pn) tg g)
    (ht : ∀ (A : Around) (s : Shared) (H : Hp) (C : Addr) (code : Value) (fp : List Addr) (pn : List (Addr × Obj)), Room k (A.deeper (ce X scope C code)) → PTs (gx X A N s H (ce X scope C code) fp pn) ifs tt)
    (he : ∀ (A : Around) (s : Shared) (H : Hp) (C : Addr) (code : Value) (fp : List Addr) (pn : List (Addr × Obj)), Room k (A.deeper (ce X scope C code)) → PE (gx X A N s H (ce X scope C code) fp pn) elt te)
    (hs : ∀ v, genFold iter X.env v = pure v := by intro _; rfl)
    (hst : starEach [.GeneratorExp elt [⟨tg, iter, ifs, 0⟩] scope gpos] X.env = (false, eval (.GeneratorExp elt [⟨tg, iter, ifs, 0⟩] scope gpos) X.env) :: starEach [] X.env := by rfl) :
    PE X (.Call (.Name "any" p) [.GeneratorExp elt [⟨tg, iter, ifs, 0⟩] scope gpos] [] pos) (tGen P N.length wi g tt te outAny false) := by
  refine ⟨fun pins s σ H Q I h => ?_⟩
  refine wpAny_Call_Name_kw (ld_blt I hgl hm boot_any ?_)
  refine PyProof.Rows.callWith_builtin1 ?_ hst (by rfl)
  rw [hst]
  show wpAny _ _ (spliced ((false, eval (.GeneratorExp elt [⟨tg, iter, ifs, 0⟩] scope gpos) X.env) :: backTo pos (starEach [] X.env))) _ _ s
  refine Calls.spliced_cons (gen_make hr TB hcode S hi hs I h fun J H1 H2 s4 s5 code fp it tn go gn hR tab I4 f4 T st5 mk hgo hgs => ?_)
  refine Calls.spliced_nil ?_
  obtain ⟨W, ⟨m0, w0⟩, turn⟩ := hR H2 tab
  have rY := room3 hr (ce X scope s4.heap.objs.size code)
  have I5 := mk X.A.in1.in1 N hr.hd I.ok.frames
  generalize hpn : [(s4.heap.objs.size + 1, go)] = pn at I5
  have hpm : (s4.heap.objs.size + 1, go) ∈ pn := by rw [← hpn]; exact List.mem_singleton.mpr rfl
  have hpf : ∀ p ∈ pn, p.1 ∉ fp := fun p hp z => by
    rw [← hpn] at hp
    rw [List.mem_singleton.mp hp] at z
    exact absurd (f4 _ z).2 (Nat.not_lt.mpr (Nat.le_succ _))
  have gi0 : GI (gx X X.A.in1.in1 N s4 H2 (ce X scope s4.heap.objs.size code) fp pn) conU fp tn () 0 H2 s5 := ⟨I5, trivial, st5, fun b hb => (f4 b hb).1.1⟩
  have isg := hgo _ (I5.pin _ (List.mem_append_left _ hpm)).1
  refine call_function_tree F.kind_any F.plain_any F.entry_any (F.args_any1 _) ?_
  unfold Builtin.«any»
  refine wpAny_bind (m := oneArg "any" _) (wpAny_pure ?_)
  refine wpAny_bind (wpAny_pyIter_gen isg ?_)
  refine wpAny_pure ⟨plainId_quiet F.plain_any_loop _, ?_⟩
  refine any_loop (Y := gx X X.A.in1.in1 N s4 H2 (ce X scope s4.heap.objs.size code) fp pn) (A := X.A) (g := gn) (QB := fun b H => Q (.bl b) H) hr.hd hr.depth hpm hgo (fun b s' H' I' q => ?_) (m0 + 1) 0 H2 (fun a H => W a 0 m0 H) s5 _ hgs gi0 w0 (fun a' s'' gi' w' => ?_)
  · exact ⟨.bl b, H', ge_back I4 f4 I', rfl, q⟩
  · exact ⟨rfl, seg_start (Y := gx X X.A.in1.in1 N s4 H2 (ce X scope s4.heap.objs.size code) fp pn) conU_ok rfl T (hg _ _ _ _ _ _ _ rY) (ht _ _ _ _ _ _ _ rY) (he _ _ _ _ _ _ _ rY) rfl (fun b hb => hb) (fun b hb => nomatch hb) hpf rfl S.co turn m0 a' (m0 + 1) H2 s'' (Nat.lt_succ_self _) w' gi'⟩

/-! ### sum of one -/
def sumObj (a : Int) (t : Tok) (c : Nat) : Obj := { cls := .type "list", dict := none, data := .seq #[.int a t] c, slots := #[] }
def conS (S : Addr) : Con Int := ⟨[S], fun a h => ∃ t c, h.get? S = some (sumObj a t c)⟩
theorem conS_ok (S : Addr) : ConOk (conS S) :=
  ⟨(fun a h ⟨t, c, e⟩ b hb => by
      rw [List.mem_singleton.mp hb]
      exact ⟨_, e, fun v z => by cases z⟩),
   (fun a h h' ⟨t, c, e⟩ k => ⟨t, c, k S (List.mem_singleton.mpr rfl) _ e⟩),
   (fun a b h ⟨t, c, e⟩ ⟨t', c', e'⟩ => by
      rw [e] at e'
      have z : Data.seq #[Value.int a t] c = Data.seq #[Value.int b t'] c' := congrArg Obj.data (Option.some.inj e')
      injection z with z1 _
      have z2 : [Value.int a t] = [Value.int b t'] := congrArg Array.toList z1
      injection z2 with z3 _
      injection z3)⟩
def outSum : Int → V → Hp → (Int → Hp → Prop) → Prop := fun a y H Nx => ∃ v, y = .int v ∧ Nx (a + v) H
structure ApS (Y : Cx) (S : Addr) : Prop where
  young : Y.s_0.heap.objs.size ≤ S
  loc : S ≠ Y.env.locals
  cell : ∀ x c, Y.env.cells.lookup x = some c → c ≠ S
  pn : ∀ p ∈ Y.pn, p.1 ≠ S
theorem gi_upd {Y : Cx} {fpI : List Addr} {tn : Nat → Heap → Prop} {S : Addr} {a v : Int} {i : Nat} {H : Hp} {s : Shared} {tk : Nat} {h' : Heap} {t : Tok} {c : Nat} (hSf : S ∉ fpI) (ap : ApS Y S) (keepT : ∀ i h h', tn i h → (∀ b ∈ fpI, ∀ o, h.get? b = some o → h'.get? b = some o) → tn i h')
    (gi : GI Y (conS S) fpI tn a i H s) (hk : ∀ b o, b ≠ S → s.heap.get? b = some o → h'.get? b = some o) (hS : h'.get? S = some (sumObj v t c)) : GI Y (conS S) fpI tn v i H { s with heap := h', toks := tk } := by
  obtain ⟨I, ⟨t0, c0, e0⟩, st, hn⟩ := gi
  obtain ⟨_, p2, p3, p4, _⟩ := I.pin (S, sumObj a t0 c0) (List.mem_append_right _ (mem_pinsAt (List.mem_singleton.mpr rfl) e0))
  have I0 : Inv Y [] (nones Y.N.length) H s := I.pins_of fun p hp => by cases hp
  have I1 : Inv Y [] (nones Y.N.length) H { s with heap := h', toks := tk } := I0.turned (it := S) (fun b o hb e => hk b o hb e) p2 p3 (.inr ap.young) ap.cell fun p hp => (List.mem_append.mp hp).elim (fun z => ap.pn p z) fun z => by cases z
  refine ⟨I1.pins_of fun p hp => ?_, ⟨t, c, hS⟩, keepT _ _ _ st fun b hb o e => hk b o (fun z => hSf (z ▸ hb)) e, hn⟩
  obtain ⟨hb, e⟩ := of_pinsAt hp
  have eS : p.1 = S := List.mem_singleton.mp hb
  rw [eS] at e ⊢
  have e' : h'.get? S = some p.2 := e
  rw [hS] at e'
  refine ⟨e, p2, p3, p4, fun v z => ?_⟩
  rw [← Option.some.inj e'] at z
  cases z
theorem sum_loop {Y : Cx} {fpI : List Addr} {tn : Nat → Heap → Prop} {A : Around} {ga : Addr} {go : Obj} {g : Nat} {S : Addr} {QI : Int → Hp → Prop} {R : Result → Shared → Prop} (hSf : S ∉ fpI) (ap : ApS Y S) (keepT : ∀ i h h', tn i h → (∀ b ∈ fpI, ∀ o, h.get? b = some o → h'.get? b = some o) → tn i h')
    (hh : A.handled = none) (hd : A.depth < recursionLimit) (hpn : (ga, go) ∈ Y.pn) (hgo : ∀ h : Heap, h.get? ga = some go → h.IsGen ga g)
    (hR : ∀ a t' s' H', Inv Y [] (nones Y.N.length) H' s' → QI a H' → R (.ok (.ret (.int a t'))) s') :
    ∀ (n i : Nat) (H : Hp) (Nx : Int → Hp → Prop) (s : Shared) (gs : GenState) (a : Int) (t : Tok) (c : Nat) (st : Int), (st = 0 ∨ st = 2) → s.gens[g]? = some gs → GI Y (conS S) fpI tn a i H s → s.heap.get? S = some (sumObj a t c) → Nx a H →
      (∀ a' s'', GI Y (conS S) fpI tn a' i H s'' → Nx a' H → gs.Goes (model Y.prog Y.w) A.in1.in1 (GRr Y (conS S) QI) (GP Y (conS S) fpI tn outSum) n (.send .none) s'') →
      codeAny (model Y.prog Y.w) A (.builtin "sum.loop" ⟨[.ref ga, .ref S, rawInt st, rawInt 0], []⟩) R s := by
  -- what a turn comes to, the loop going on or not
  have turn : ∀ (n i : Nat) (H : Hp) (Nx : Int → Hp → Prop) (s : Shared) (gs : GenState) (a : Int) (t : Tok) (c : Nat) (st : Int), (st = 0 ∨ st = 2) → s.gens[g]? = some gs → GI Y (conS S) fpI tn a i H s → s.heap.get? S = some (sumObj a t c) → Nx a H →
      (∀ a' s'', GI Y (conS S) fpI tn a' i H s'' → Nx a' H → gs.Goes (model Y.prog Y.w) A.in1.in1 (GRr Y (conS S) QI) (GP Y (conS S) fpI tn outSum) n (.send .none) s'') →
      (∀ (i1 : Nat) (H1 : Hp) (Nx1 : Int → Hp → Prop) (s1 : Shared) (gs1 : GenState) (b : Int) (t1 : Tok) (c1 : Nat) (st1 : Int), (st1 = 0 ∨ st1 = 2) → s1.gens[g]? = some gs1 → GI Y (conS S) fpI tn b i1 H1 s1 → s1.heap.get? S = some (sumObj b t1 c1) → Nx1 b H1 →
        GoOn (model Y.prog Y.w) A.in1.in1 (GRr Y (conS S) QI) (GP Y (conS S) fpI tn outSum) (fun a' s'' => GI Y (conS S) fpI tn a' i1 H1 s'') (fun a' => Nx1 a' H1) gs1 n →
        codeAny (model Y.prog Y.w) A (.builtin "sum.loop" ⟨[.ref ga, .ref S, rawInt st1, rawInt 0], []⟩) R s1) →
      codeAny (model Y.prog Y.w) A (.builtin "sum.loop" ⟨[.ref ga, .ref S, rawInt st, rawInt 0], []⟩) R s := by
    intro n i H Nx s gs a t c st hst2 hgs gi hS hN goes again
    refine codeAny_builtin F.entry_sum_loop ?_
    rw [Around.under_plainId F.plain_sum_loop _]
    show wpAny _ A.in1 (seqItems? (.ref S) >>= _) _ _ s
    refine wpAny_bind (wpAny_seqItems hS rfl ?_)
    show wpAny _ A.in1 (tryCatch (pyNext (.ref ga)) _ >>= _) _ _ s
    refine wpAny_bind (wpAny_tryCatch (next_ge (A := A.in1) (conS_ok S) hh hd hpn hgo hgs gi hN goes (fun i1 H1 y v Nx1 s1 gs1 rv gi1 o1 hg1 go1 => ?_) (fun H1 s1 I1 _ fin => ?_)))
    · obtain ⟨v', rfl, hc⟩ := o1
      obtain ⟨t', rfl⟩ := (show ∃ t', v = Value.int v' t' from rv)
      obtain ⟨tS, cS, hS'⟩ := gi1.2.1
      rcases hst2 with rfl | rfl
      · show wpAny _ A.in1 (if (_ : Bool) = true then (mkInt (a + v') >>= _) else _) _ _ _
        split
        · refine wpAny_bind (wpAny_mkInt ?_)
          show wpAny _ A.in1 (updateSeq S (fun _ => #[.int (a + v') s1.toks]) >>= _) _ _ _
          refine wpAny_bind ?_
          refine wpAny_updateSeq hS' rfl (wpAny_pure ⟨plainId_quiet F.plain_sum_loop _, ?_⟩)
          refine again i1 H1 Nx1 _ gs1 (a + v') s1.toks _ 0 (.inl rfl) hg1 (gi_upd (t := s1.toks) (s := s1) hSf ap keepT gi1 (fun b o hb e => (Heap.get?_update_other _ _ (Ne.symm hb)).trans e) (Heap.get?_update_self _ hS' rfl)) (Heap.get?_update_self _ hS' rfl) hc go1
        · refine wpAny_bind (wpAny_rule ?_)
          refine wpAny_bind (wpAny_attempt (wpAny_holding (wpAny_add_int ?_)))
          show wpAny _ A.in1 (updateSeq S (fun _ => #[.int (a + v') s1.toks]) >>= _) _ _ _
          refine wpAny_bind (wpAny_updateSeq hS' rfl ?_)
          have hS₂ := Heap.get?_update_self (Obj.mapSeq fun _ => #[Value.int (a + v') s1.toks]) hS' rfl
          refine wpAny_bind (wpAny_letGo ?_)
          refine wpAny_bind (wpAny_updateSeq hS₂ rfl (wpAny_pure ⟨plainId_quiet F.plain_sum_loop _, ?_⟩))
          refine again i1 H1 Nx1 _ gs1 (a + v') s1.toks _ 2 (.inr rfl) hg1 (gi_upd (t := s1.toks) (s := s1) hSf ap keepT gi1 (fun b o hb e => (Heap.get?_update_other _ _ (Ne.symm hb)).trans ((Heap.get?_update_other _ _ (Ne.symm hb)).trans e)) (Heap.get?_update_self _ hS₂ rfl)) (Heap.get?_update_self _ hS₂ rfl) hc go1
      · show wpAny _ A.in1 ((holding [Value.int v' t'] (binaryOp .Add (.int a t) (.int v' t'))).attempt >>= _) _ _ _
        refine wpAny_bind (wpAny_attempt (wpAny_holding (wpAny_add_int ?_)))
        show wpAny _ A.in1 (updateSeq S (fun _ => #[.int (a + v') s1.toks]) >>= _) _ _ _
        refine wpAny_bind (wpAny_updateSeq hS' rfl ?_)
        have hS₂ := Heap.get?_update_self (Obj.mapSeq fun _ => #[Value.int (a + v') s1.toks]) hS' rfl
        refine wpAny_bind (wpAny_letGo ?_)
        refine wpAny_bind (wpAny_updateSeq hS₂ rfl (wpAny_pure ⟨plainId_quiet F.plain_sum_loop _, ?_⟩))
        refine again i1 H1 Nx1 _ gs1 (a + v') s1.toks _ 2 (.inr rfl) hg1 (gi_upd (t := s1.toks) (s := s1) hSf ap keepT gi1 (fun b o hb e => (Heap.get?_update_other _ _ (Ne.symm hb)).trans ((Heap.get?_update_other _ _ (Ne.symm hb)).trans e)) (Heap.get?_update_self _ hS₂ rfl)) (Heap.get?_update_self _ hS₂ rfl) hc go1
    · exact wpAny_pure (hR a t s1 H1 (I1.pins_of fun p hp => by cases hp) fin)
  intro n
  induction n with
  | zero => exact fun i H Nx s gs a t c st h1 h2 h3 h4 h5 h6 => turn 0 i H Nx s gs a t c st h1 h2 h3 h4 h5 h6 fun i1 H1 Nx1 s1 gs1 b t1 c1 st1 _ _ g1 _ g3 g4 => (g4 b s1 g1 g3).elim
  | succ n ih => exact fun i H Nx s gs a t c st h1 h2 h3 h4 h5 h6 => turn (n + 1) i H Nx s gs a t c st h1 h2 h3 h4 h5 h6 fun i1 H1 Nx1 s1 gs1 b t1 c1 st1 g0 g1 g2 g3 g4 g5 => ih i1 H1 Nx1 s1 gs1 b t1 c1 st1 g0 g1 g2 g3 g4 g5
def tSumG (P : Addr) (n0 : Nat) (wi : TI) (g : TG) (tt : TT) (te : TE) : TE := fun σ H Q => wi σ H fun J H1 => GxR.TabG H1 P ∧ ∀ H2, GxR.Tabbed P H1 H2 →
  ∃ W : Int → Nat → Nat → Hp → Prop, (∃ m, W 0 0 m H2) ∧ TurnOf J n0 g tt te outSum (fun a H => Q (.int a) H) W
theorem pe_sumG {N : List Str} {c P : Addr} {elt tg iter : Expr} {ifs : List Expr} {p pos gpos : Pos} {scope : Scope} {wi : TI} {g : TG} {tt : TT} {te : TE} {k : Nat}
    (hr : Room (k + 1) X.A) (hgl : Gl X "sum") (hm : X.mg "sum" = none) (TB : GxR.TabB X.base X.mg c P) (hcode : X.env.code = .ref c) (S : GSc scope) (hi : PI X tg iter wi)
    (hg : ∀ (A : Around) (s : Shared) (H : Hp) (C : Addr) (code : Value) (fp : List Addr) (pn : List (Addr × Obj)), Room k (A.deeper (ce X scope C code)) → PG (gx X A N s H (ce X scope C code) fp pn) tg g)
    (ht : ∀ (A : Around) (s : Shared) (H : Hp) (C : Addr) (code : Value) (fp : List Addr) (pn : List (Addr × Obj)), Room k (A.deeper (ce X scope C code)) → PTs (gx X A N s H (ce X scope C code) fp pn) ifs tt)
    (he : ∀ (A : Around) (s : Shared) (H : Hp) (C : Addr) (code : Value) (fp : List Addr) (pn : List (Addr × Obj)), Room k (A.deeper (ce X scope C code)) → PE (gx X A N s H (ce X scope C code) fp pn) elt te)
    (hs : ∀ v, genFold iter X.env v = pure v := by intro _; rfl)
    (hb : bootBuiltins "sum" = some (.builtin "sum") := by decide +kernel)
    (hst : starEach [.GeneratorExp elt [⟨tg, iter, ifs, 0⟩] scope gpos] X.env = (false, eval (.GeneratorExp elt [⟨tg, iter, ifs, 0⟩] scope gpos) X.env) :: starEach [] X.env := by rfl) :
    PE X (.Call (.Name "sum" p) [.GeneratorExp elt [⟨tg, iter, ifs, 0⟩] scope gpos] [] pos) (tSumG P N.length wi g tt te) := by
  refine ⟨fun pins s σ H Q I h => ?_⟩
  refine wpAny_Call_Name_kw (ld_blt I hgl hm hb ?_)
  refine PyProof.Rows.callWith_builtin1 ?_ hst (by rfl)
  rw [hst]
  show wpAny _ _ (spliced ((false, eval (.GeneratorExp elt [⟨tg, iter, ifs, 0⟩] scope gpos) X.env) :: backTo pos (starEach [] X.env))) _ _ s
  refine Calls.spliced_cons (gen_make hr TB hcode S hi hs I h fun J H1 H2 s4 s5 code fp it tn go gn hR tab I4 f4 T st5 mk hgo hgs => ?_)
  refine Calls.spliced_nil ?_
  obtain ⟨W, ⟨m0, w0⟩, turn⟩ := hR H2 tab
  have rY := room3 hr (ce X scope s4.heap.objs.size code)
  have I5 := mk X.A.in1.in1 N hr.hd I.ok.frames
  generalize hpn : [(s4.heap.objs.size + 1, go)] = pn at I5
  have hpm : (s4.heap.objs.size + 1, go) ∈ pn := by rw [← hpn]; exact List.mem_singleton.mpr rfl
  have hpf : ∀ p ∈ pn, p.1 ∉ fp := fun p hp z => by
    rw [← hpn] at hp
    rw [List.mem_singleton.mp hp] at z
    exact absurd (f4 _ z).2 (Nat.not_lt.mpr (Nat.le_succ _))
  have isg := hgo _ (I5.pin _ (List.mem_append_left _ hpm)).1
  have fpl : ∀ b ∈ fp, b < s5.heap.objs.size := fun b hb => Nat.lt_of_lt_of_le (f4 b hb).2 I5.sz
  refine call_function_tree F.kind_sum F.plain_sum F.entry_sum (F.args_sum1 _) ?_
  unfold Builtin.«sum»
  simp only [List.length_cons, List.length_nil]
  rw [if_neg (by decide)]
  refine wpAny_bind (wpAny_of_eq (show Builtin.Builtins.bindParams "sum" ["start"] 0 { } = pure [none] from rfl) ?_)
  refine wpAny_bind (wpAny_pyIter_gen isg ?_)
  refine wpAny_bind (wpAny_mkInt ?_)
  refine wpAny_bind (wpAny_pure ?_)
  simp only [List.forIn_cons, List.forIn_nil]
  refine wpAny_bind (wpAny_bind (wpAny_bind (wpAny_isInstance (T := "int") (b := false) (typeIs_int _ _ _) PySem.sub_int_str ?_)))
  simp only [Bool.false_eq_true, if_false]
  refine wpAny_pure (wpAny_bind (wpAny_bind (wpAny_isInstance (T := "int") (b := false) (typeIs_int _ _ _) PySem.sub_int_bytes ?_)))
  simp only [Bool.false_eq_true, if_false]
  refine wpAny_pure (wpAny_bind (wpAny_bind (wpAny_isInstance (T := "int") (b := false) (typeIs_int _ _ _) PySem.sub_int_bytearray ?_)))
  simp only [Bool.false_eq_true, if_false]
  refine wpAny_pure (wpAny_pure ?_)
  refine wpAny_bind (wpAny_newObj_type ?_)
  refine wpAny_pure ⟨plainId_quiet F.plain_sum_loop _, ?_⟩
  have hSf : s5.heap.objs.size ∉ fp := fun hm => Nat.lt_irrefl _ (fpl _ hm)
  have hget : (s5.heap.push (sumObj 0 s5.toks 0)).get? s5.heap.objs.size = some (sumObj 0 s5.toks 0) := Heap.get?_push_size _ rfl
  have I6 : Inv (gx X X.A.in1.in1 N s4 H2 (ce X scope s4.heap.objs.size code) fp pn) [] (nones N.length) H2 { s5 with heap := s5.heap.push (sumObj 0 s5.toks 0), toks := s5.toks + 1 } := I5.kept fun b o e => Heap.get?_push_of_some _ e
  have gi0 : GI (gx X X.A.in1.in1 N s4 H2 (ce X scope s4.heap.objs.size code) fp pn) (conS s5.heap.objs.size) fp tn 0 0 H2 { s5 with heap := s5.heap.push (sumObj 0 s5.toks 0), toks := s5.toks + 1 } := by
    refine ⟨I6.pins_of fun p hp => ?_, ⟨s5.toks, 0, hget⟩, T.keep _ _ _ st5 fun b _ o e => Heap.get?_push_of_some _ e, fun b hb => (f4 b hb).1.1⟩
    obtain ⟨hb, e⟩ := of_pinsAt hp
    have eS : p.1 = s5.heap.objs.size := List.mem_singleton.mp hb
    rw [eS] at e ⊢
    have e' : (s5.heap.push (sumObj 0 s5.toks 0)).get? s5.heap.objs.size = some p.2 := e
    rw [hget] at e'
    refine ⟨e, I5.hok.fresh (Nat.le_refl _), Nat.ne_of_gt I5.lt, I5.nofs (Nat.le_refl _), fun v z => ?_⟩
    rw [← Option.some.inj e'] at z
    cases z
  have ap : ApS (gx X X.A.in1.in1 N s4 H2 (ce X scope s4.heap.objs.size code) fp pn) s5.heap.objs.size := ⟨I5.sz, Nat.ne_of_gt I5.lt, fun x c e => by simp [genEnv] at e, fun p hp z => by
    have := Heap.lt_size (I5.pin p (List.mem_append_left _ hp)).1
    rw [z] at this
    exact Nat.lt_irrefl _ this⟩
  refine sum_loop (Y := gx X X.A.in1.in1 N s4 H2 (ce X scope s4.heap.objs.size code) fp pn) (A := X.A) (g := gn) (QI := fun a H => Q (.int a) H) hSf ap T.keep hr.hd hr.depth hpm hgo (fun a t' s' H' I' q => ?_) (m0 + 1) 0 H2 (fun a H => W a 0 m0 H) _ _ 0 s5.toks 0 0 (.inl rfl) hgs gi0 hget w0 (fun a' s'' gi' w' => ?_)
  · exact ⟨.int a, H', ge_back I4 f4 I', ⟨_, rfl⟩, q⟩
  · exact ⟨rfl, seg_start (Y := gx X X.A.in1.in1 N s4 H2 (ce X scope s4.heap.objs.size code) fp pn) (conS_ok _) rfl T (hg _ _ _ _ _ _ _ rY) (ht _ _ _ _ _ _ _ rY) (he _ _ _ _ _ _ _ rY) rfl (fun b hb => hb) (fun b hb => by rw [List.mem_singleton.mp hb]; exact hSf) hpf rfl S.co turn m0 a' (m0 + 1) H2 s'' (Nat.lt_succ_self _) w' gi'⟩
end
end GE
set_option Elab.async false
set_option linter.all false
set_option maxRecDepth 100000
set_option maxHeartbeats 1000000
namespace CL
open PySem PySem.Spec PyProof.Rows L2 GE
/-! ### what a value is worth, as data -/
mutual
inductive Rp (H : Hp) : V → PyData → Prop
  | non : Rp H .non .none
  | bl (b : Bool) : Rp H (.bl b) (.bool b)
  | int (i : Int) : Rp H (.int i) (.int i)
  | str (x : Str) : Rp H (.str x) (.str x)
  | lst {a : Addr} {xs : List V} {ds : List PyData} : H a = some (.lst xs) → RpAll H xs ds → Rp H (.ref a) (.list ds)
  | tup {a : Addr} {xs : List V} {ds : List PyData} : H a = some (.tup xs) → RpAll H xs ds → Rp H (.ref a) (.tuple ds)
  | dct {a : Addr} : H a = some (.dK []) → Rp H (.ref a) (.dict [])
inductive RpAll (H : Hp) : List V → List PyData → Prop
  | nil : RpAll H [] []
  | cons {v : V} {vs : List V} {d : PyData} {ds : List PyData} : Rp H v d → RpAll H vs ds → RpAll H (v :: vs) (d :: ds)
end
/-- all stays but tables, which may grow -/
def Ex (H H' : Hp) : Prop := ∀ b o, H b = some o → H' b = some o ∨ ∃ ps qs, o = .tbl ps ∧ H' b = some (.tbl qs)
theorem Ex.refl (H : Hp) : Ex H H := fun _ _ h => .inl h
theorem Ex.of {H H' : Hp} (s : Same H H') : Ex H H' := fun b o h => .inl (s b o h)
theorem Ex.trans {H H1 H2 : Hp} (a : Ex H H1) (b : Ex H1 H2) : Ex H H2 := fun c o h => by
  rcases a c o h with q | ⟨ps, qs, e, q⟩
  · exact b c o q
  · rcases b c _ q with r | ⟨ps', qs', _, r⟩
    · exact .inr ⟨ps, qs, e, r⟩
    · exact .inr ⟨ps, qs', e, r⟩
theorem Ex.keep {H H' : Hp} (e : Ex H H') {b : Addr} {o : HO} (h : H b = some o) (n : ∀ ps, o ≠ .tbl ps) : H' b = some o := by
  rcases e b o h with q | ⟨ps, _, z, _⟩
  · exact q
  · exact absurd z (n ps)
theorem Ex.lst {H H' : Hp} (e : Ex H H') {b : Addr} {xs : List V} (h : H b = some (.lst xs)) : H' b = some (.lst xs) := e.keep h fun _ => nofun
theorem Ex.tup {H H' : Hp} (e : Ex H H') {b : Addr} {xs : List V} (h : H b = some (.tup xs)) : H' b = some (.tup xs) := e.keep h fun _ => nofun
theorem Ex.free {H H' : Hp} (e : Ex H H') {l : Addr} (h : H' l = none) : H l = none := by
  cases q : H l with
  | none => rfl
  | some o =>
    rcases e l o q with r | ⟨_, _, _, r⟩
    · rw [h] at r; cases r
    · rw [h] at r; cases r
theorem Ex.new {H : Hp} {p : Addr} {o : HO} (h : H p = none) : Ex H (upd H p o) := fun b x e => .inl (by rw [upd_ne (ne_of_none e h)]; exact e)
theorem same_upd {H : Hp} {p : Addr} {o : HO} (h : H p = none) : Same H (upd H p o) := fun b x e => by
  rw [upd_ne (ne_of_none e h)]
  exact e
mutual
theorem Rp.ex {H H' : Hp} (e : Ex H H') : ∀ (d : PyData) (v : V), Rp H v d → Rp H' v d
  | .none, _, h => by cases h; exact .non
  | .bool b, _, h => by cases h; exact .bl b
  | .int i, _, h => by cases h; exact .int i
  | .str x, _, h => by cases h; exact .str x
  | .list ds, _, h => by
    cases h with
    | lst h1 h2 => exact .lst (e.lst h1) (RpAll.ex e ds _ h2)
  | .tuple ds, _, h => by
    cases h with
    | tup h1 h2 => exact .tup (e.tup h1) (RpAll.ex e ds _ h2)
  | .dict _, _, h => by
    cases h with
    | dct h1 => exact .dct (e.keep h1 fun _ => nofun)
theorem RpAll.ex {H H' : Hp} (e : Ex H H') : ∀ (ds : List PyData) (vs : List V), RpAll H vs ds → RpAll H' vs ds
  | [], _, h => by cases h; exact .nil
  | d :: ds, _, h => by
    cases h with
    | cons h1 h2 => exact .cons (Rp.ex e d _ h1) (RpAll.ex e ds _ h2)
end
theorem RpAll.length {H : Hp} : ∀ {vs : List V} {ds : List PyData}, RpAll H vs ds → vs.length = ds.length
  | _, _, .nil => rfl
  | _, _, .cons _ t => congrArg (· + 1) (RpAll.length t)
theorem RpAll.get {H : Hp} : ∀ {vs : List V} {ds : List PyData} {i : Nat} {v : V}, RpAll H vs ds → vs[i]? = some v → ∃ d, ds[i]? = some d ∧ Rp H v d
  | _, _, _, _, .nil, e => by simp at e
  | _, _, 0, _, .cons r _, e => by simp at e; subst e; exact ⟨_, rfl, r⟩
  | _, _, i + 1, _, .cons _ t, e => by
    obtain ⟨d, h1, h2⟩ := RpAll.get (i := i) t (by simpa using e)
    exact ⟨d, by simpa using h1, h2⟩
theorem RpAll.take {H : Hp} : ∀ {vs : List V} {ds : List PyData} (n : Nat), RpAll H vs ds → RpAll H (vs.take n) (ds.take n)
  | _, _, 0, _ => .nil
  | _, _, _ + 1, .nil => .nil
  | _, _, n + 1, .cons r t => .cons r (RpAll.take n t)
theorem RpAll.append {H : Hp} : ∀ {vs ws : List V} {ds es : List PyData}, RpAll H vs ds → RpAll H ws es → RpAll H (vs ++ ws) (ds ++ es)
  | _, _, _, _, .nil, s => s
  | _, _, _, _, .cons r t, s => .cons r (RpAll.append t s)
/-! ### plans, as the document tells -/
def tyName : PyData → String
  | .none => "NoneType" | .bool _ => "bool" | .int _ => "int" | .str _ => "str" | .list _ => "list" | .tuple _ => "tuple" | .dict _ => "dict"
def rowsD : PyData → Option (List PyData)
  | .list xs => some xs
  | .tuple xs => some xs
  | _ => none
def isRow (d : PyData) : Bool := (rowsD d).isSome
def isWhole : PyData → Bool
  | .int _ => true
  | _ => false
def isIntB : PyData → Bool
  | .int _ => true
  | .bool _ => true
  | _ => false
def isBoolB : PyData → Bool
  | .bool _ => true
  | _ => false
def isNone : PyData → Bool
  | .none => true
  | _ => false
abbrev GREAT : Int := 1000000000000000000000000000000
def isPatience : PyData → Bool
  | .none => true
  | .int i => decide (0 ≤ i) && decide (i ≤ GREAT)
  | _ => false
def isTurns (d : PyData) : Bool := match rowsD d with
  | some ds => decide (1 ≤ ds.length) && decide (ds.length ≤ 8) && ds.all isPatience
  | none => false
def isMany : PyData → Bool
  | .none => true
  | .int i => decide (0 ≤ i)
  | _ => false
def isPiece (d : PyData) : Bool := match rowsD d with
  | some [t, m] => isTurns t && isMany m
  | _ => false
def sndD (d : PyData) : PyData := match rowsD d with
  | some [_, m] => m
  | _ => .none
def worth : PyData → Int
  | .int i => i
  | _ => 0
def sumSnd (ds : List PyData) : Int := (ds.map fun d => worth (sndD d)).sum
def isPlanL (ds : List PyData) : Bool := decide (1 ≤ ds.length) && decide (ds.length ≤ 8) && ds.all isPiece && !((ds.take (ds.length - 1)).any fun d => isNone (sndD d)) && decide (sumSnd ds ≤ GREAT)
def isPlan (d : PyData) : Bool := match rowsD d with
  | some ds => isPlanL ds
  | none => false
theorem Rp.ty {K : PySem.W.Frag} {H : Hp} {v : V} {d : PyData} (h : Rp H v d) : TyX K H v (.type (tyName d)) := by
  cases h with
  | non => exact .base .non
  | bl b => exact .base (.bl b)
  | int i => exact .base (.int i)
  | str x => exact .base (.str x)
  | lst h _ => exact .base (.lst h)
  | tup h _ => exact .base (.tup h)
  | dct h => exact .base (.dK h)
theorem kit_int {K : PySem.W.Frag} (d : PyData) : PySem.W.kitOne K (.type (tyName d)) (.type "int") = some (isIntB d) := by cases d <;> (refine kit_ty ?_; dsimp only [tyName, isIntB]; decide +kernel)
theorem kit_bool {K : PySem.W.Frag} (d : PyData) : PySem.W.kitOne K (.type (tyName d)) (.type "bool") = some (isBoolB d) := by cases d <;> (refine kit_ty ?_; dsimp only [tyName, isBoolB]; decide +kernel)
theorem kit_list {K : PySem.W.Frag} (d : PyData) : PySem.W.kitOne K (.type (tyName d)) (.type "list") = some (match d with | .list _ => true | _ => false) := by cases d <;> (refine kit_ty ?_; dsimp only [tyName]; decide +kernel)
theorem kit_tuple {K : PySem.W.Frag} (d : PyData) : PySem.W.kitOne K (.type (tyName d)) (.type "tuple") = some (match d with | .tuple _ => true | _ => false) := by cases d <;> (refine kit_ty ?_; dsimp only [tyName]; decide +kernel)
theorem kit_rows {K : PySem.W.Frag} (d : PyData) : PySem.W.kitAny K (.type (tyName d)) [.type "list", .type "tuple"] = some (isRow d) := by
  refine kitAny_cons (kit_list d) (fun h => kitAny_cons (kit_tuple d) (fun h2 => ?_) fun h2 => ?_) fun h => ?_
  · cases d <;> first | exact kitAny_nil | (simp at h; done) | (simp at h2; done)
  · cases d <;> first | rfl | (simp at h; done) | (simp at h2; done)
  · cases d <;> first | rfl | (simp at h; done)
/-- a row's things -/
theorem Rp.rows {H : Hp} {v : V} {d : PyData} {ds : List PyData} (h : Rp H v d) (e : rowsD d = some ds) : ∃ a xs, v = .ref a ∧ RpAll H xs ds ∧ (H a = some (.lst xs) ∨ H a = some (.tup xs)) := by
  cases h with
  | lst h1 h2 => cases e; exact ⟨_, _, rfl, h2, .inl h1⟩
  | tup h1 h2 => cases e; exact ⟨_, _, rfl, h2, .inr h1⟩
  | _ => cases e
/-! ### for x in a list or a tuple -/
structure StSeq (H : Hp) (a : Addr) (xs : List V) : Prop where
  or : H a = some (.lst xs) ∨ H a = some (.tup xs)
theorem StSeq.ex {H H' : Hp} {a : Addr} {xs : List V} (s : StSeq H a xs) (e : Ex H H') : StSeq H' a xs := ⟨s.or.elim (fun h => .inl (e.lst h)) fun h => .inr (e.tup h)⟩
theorem StSeq.sq {K : PySem.W.Frag} {H : Hp} {a : Addr} {xs : List V} (s : StSeq H a xs) : SqL K H a xs ∨ SqT K H a xs := s.or.elim (fun h => .inl (SqL.of h)) fun h => .inr (SqT.of h)
/-- the thing that is walked stands -/
def StandsAs (K : PySem.W.Frag) (a : Addr) (xs : List V) (J : It) (H : Hp) : Prop := (J = Itl K a ∧ SqL K H a xs) ∨ (J = Itt K a ∧ SqT K H a xs)
section
variable {X : Cx} {tg : Expr}
def iSeq (K : PySem.W.Frag) (tl : TE) : TI := fun σ H R => tl σ H fun x H1 => ∃ a xs, x = .ref a ∧ StSeq H1 a xs ∧ ∀ J, (∀ H2, Ex H1 H2 → StandsAs K a xs J H2) → R J H1
theorem pi_seq {l : Expr} {tl : TE} (hl : PE X l tl) : PI X tg l (iSeq X.K tl) := by
  refine ⟨fun pins s σ H R I h => ?_⟩
  refine thn (hl.run pins s σ H _ I h) fun v s1 ⟨x, H1, I1, r1, q1⟩ => ?_
  obtain ⟨a, xs, e, st, q⟩ := q1
  subst e
  cases r1
  have new : ∀ b ∈ [s1.heap.objs.size], FpOk X pins H1 b := fun b hb => by
    rw [List.mem_singleton.mp hb]
    exact I1.fpOk (Nat.le_refl _) (I1.hok.fresh (Nat.le_refl _))
  rcases st.or with hq | hq
  · obtain ⟨its, rv, p, hz⟩ := I1.list (SqL.of hq)
    exact wpAny_pyIter_list p.isList ⟨s1.heap.objs.size, [s1.heap.objs.size], _, _, H1, rfl, I1.kept (t' := s1.toks) fun b o e => Heap.get?_push_of_some _ e, turn_list a _, ⟨_, Heap.get?_push_size _ rfl, rfl, rfl⟩, new, q _ fun H2 e => .inl ⟨rfl, SqL.of (e.lst hq)⟩⟩
  · obtain ⟨its, rv, p, hz⟩ := I1.tuple (SqT.of hq)
    exact wpAny_pyIter_tuple (show s1.heap.IsTuple a its.toArray from p) ⟨s1.heap.objs.size, [s1.heap.objs.size], _, _, H1, rfl, I1.kept (t' := s1.toks) fun b o e => Heap.get?_push_of_some _ e, turn_tuple a _, ⟨_, Heap.get?_push_size _ rfl, rfl, rfl⟩, new, q _ fun H2 e => .inr ⟨rfl, SqT.of (e.tup hq)⟩⟩
end
theorem StandsAs.go {K : PySem.W.Frag} {a : Addr} {xs : List V} {J : It} {H : Hp} {i : Nat} {x : V} (s : StandsAs K a xs J H) (h : xs[i]? = some x) : J.go i H := by
  rcases s with ⟨rfl, q⟩ | ⟨rfl, q⟩ <;> exact ⟨xs, x, q, h⟩
theorem StandsAs.stop {K : PySem.W.Frag} {a : Addr} {xs : List V} {J : It} {H : Hp} {i : Nat} (s : StandsAs K a xs J H) (h : xs.length ≤ i) : J.stop i H := by
  rcases s with ⟨rfl, q⟩ | ⟨rfl, q⟩ <;> exact ⟨xs, q, h⟩
theorem StandsAs.yld {K : PySem.W.Frag} {a : Addr} {xs : List V} {J : It} {H H' : Hp} {i : Nat} {x : V} (s : StandsAs K a xs J H) (h : J.yld i H x H') : H' = H ∧ xs[i]? = some x := by
  rcases s with ⟨rfl, q⟩ | ⟨rfl, q⟩ <;> exact ⟨h.1, h.2 xs q⟩
theorem turn_by {α : Type} {K : PySem.W.Frag} {ad : Addr} {xs : List V} {J : It} {n0 : Nat} {g : TG} {tt : TT} {te : TE} {Out : α → V → Hp → (α → Hp → Prop) → Prop} {Fin : α → Hp → Prop} (Pv : α → Nat → Hp → Prop)
    (stands : ∀ a i H, Pv a i H → StandsAs K ad xs J H)
    (step : ∀ a i x H, xs[i]? = some x → Pv a i H → g x (nones n0) H fun σ2 H2 => tt σ2 H2 fun b H3 => if b = true then te σ2 H3 fun y H4 => Out a y H4 (fun a' H' => Pv a' (i + 1) H') else Pv a (i + 1) H3)
    (done : ∀ a H, Pv a xs.length H → Fin a H) : TurnOf J n0 g tt te Out Fin (fun a i m H => m = xs.length - i ∧ i ≤ xs.length ∧ Pv a i H) := by
  rintro a i m H ⟨rfl, hi, p⟩
  have s := stands a i H p
  by_cases hlt : i < xs.length
  · refine .inr ⟨s.go (List.getElem?_eq_getElem hlt), fun a' H' => Pv a' (i + 1) H', fun a' H' p' => ⟨xs.length - (i + 1), by omega, rfl, hlt, p'⟩, fun x H' y => ?_⟩
    obtain ⟨rfl, hx⟩ := s.yld y
    exact step a i x _ hx p
  · have e : i = xs.length := by omega
    subst e
    exact .inl ⟨s.stop (Nat.le_refl _), done a H p⟩
end CL
set_option Elab.async false
set_option linter.all false
set_option maxRecDepth 100000
set_option maxHeartbeats 1000000
namespace CL
open PySem PySem.Spec PyProof.Rows L2 GE
def topS (i : Nat) : Stmt := PySem.Challenge.pw_comersline_k12_places_near.main.body.getD i (.Pass ⟨0, 0, 0, 0⟩)
abbrev sWhole : Stmt := topS 7
abbrev sRow : Stmt := topS 8
abbrev sPat : Stmt := topS 12
abbrev sTurns : Stmt := topS 13
abbrev sPiece : Stmt := topS 14
abbrev sPlan : Stmt := topS 15
theorem scWhole : FnScope ["thing"] ["thing"] (defScope sWhole) := ⟨rfl, rfl, rfl, by decide +kernel, rfl, by decide +kernel, by decide +kernel⟩
theorem scRow : FnScope ["thing"] ["thing"] (defScope sRow) := ⟨rfl, rfl, rfl, by decide +kernel, rfl, by decide +kernel, by decide +kernel⟩
theorem scPat : FnScope ["thing"] ["thing"] (defScope sPat) := ⟨rfl, rfl, rfl, by decide +kernel, rfl, by decide +kernel, by decide +kernel⟩
theorem scTurns : FnScope ["thing"] ["thing"] (defScope sTurns) := ⟨rfl, rfl, rfl, by decide +kernel, rfl, by decide +kernel, by decide +kernel⟩
theorem scPiece : FnScope ["thing"] ["thing"] (defScope sPiece) := ⟨rfl, rfl, rfl, by decide +kernel, rfl, by decide +kernel, by decide +kernel⟩
theorem scPlan : FnScope ["thing"] ["thing"] (defScope sPlan) := ⟨rfl, rfl, rfl, by decide +kernel, rfl, by decide +kernel, by decide +kernel⟩

/-- a def whose code object is known -/
structure FunC (K : PySem.W.Frag) (x qual : Str) (st : Stmt) (f : Addr) (fd : FuncData) (c : Addr) : Prop where
  ex : ∃ (oc : Value) (od : Option Addr) (kV doc pm : Value) (an : Option Addr) (ct : Value) (osl : Array (Option Value)),
    fd = PySem.W.fnOf x qual (defArgs st) (defBody st) (defScope st) .none kV doc pm an (.ref c) ct ∧ K.lookup f = some ⟨oc, od, .func fd, osl⟩ ∧ PySem.W.codeIn K (.ref c) qual = true
  kp : PySem.W.keepIn K (.ref f) = true
theorem FunC.ok {P : Program} {w : World} {K : PySem.W.Frag} {mg : Str → Option Value} {base : Heap} {x qual : Str} {st : Stmt} {f c : Addr} {fd : FuncData} {N ps : List Str} {k : Nat} {sp : Sp} (F : FunC K x qual st f fd c) (S : FnScope N ps (defScope st)) (len : ∀ vs H Q E, sp vs H Q E → vs.length = ps.length)
    (hbody : ∀ (A : Around) (outer : List Env) (s : Shared) (H : Hp) (vs : List V) (Q : VK) (E : XK), Room k (A.deeper (envOfC qual (defScope st) s.heap.objs.size f (.ref c))) → sp vs H Q E →
      ∃ t, PSs (cxOf CX0 P w K mg base N qual (defScope st) f (.ref c) A outer s H E).nox (defBody st) t ∧ t { nx := fun _ H' => Q .non H', rt := Q } (start N vs) H) : FnOk P w K mg base CX0 (k + 1) f fd ps sp := by
  obtain ⟨oc, od, kV, doc, pm, an, ct, osl, rfl, lk, hcd⟩ := F.ex
  refine fn_of lk hcd S len fun A outer s H vs Q E hr hsp => ?_
  obtain ⟨t, h, q⟩ := hbody A outer s H vs Q E hr hsp
  exact ⟨t, h.nox, q⟩
/-- a def that may be called by its name -/
structure Cal (P : Program) (w : World) (K : PySem.W.Frag) (mg : Str → Option Value) (base : Heap) (k : Nat) (x : Str) (ps : List Str) (sp : Sp) : Prop where
  ex : ∃ f fd, mg x = some (.ref f) ∧ PySem.W.keepIn K (.ref f) = true ∧ Binds K fd ps [] ∧ FnOk P w K mg base CX0 k f fd ps sp
theorem pe_cal {X : Cx} {k : Nat} {x : Str} {ps : List Str} {sp : Sp} {p pos : Pos} {e : Expr} {es : List Expr} {t : TA} (C : Cal X.prog X.w X.K X.mg X.base k x ps sp) (hr : Room k X.A) (hg : Gl X x) (ha : PA X (e :: es) t) (hdb : (x == ("__debug__" : Str)) = false := by decide)
    (he : starEach (e :: es) X.env = (false, eval e X.env) :: starEach es X.env := by rfl) (hpl : (backTo pos (starEach es X.env)).any (·.1) = false := by rfl) : PE X (.Call (.Name x p) (e :: es) [] pos) (tCall sp [] E0 t) := by
  obtain ⟨f, fd, h1, h2, h3, h4⟩ := C.ex
  exact pe_call h4 hr hg h1 h2 h3 .nil pass0 ha hdb he hpl
theorem Cal.mono {P : Program} {w : World} {K : PySem.W.Frag} {mg : Str → Option Value} {base : Heap} {j k : Nat} {x : Str} {ps : List Str} {sp : Sp} (C : Cal P w K mg base j x ps sp) (h : j ≤ k) : Cal P w K mg base k x ps sp := by
  obtain ⟨f, fd, h1, h2, h3, h4⟩ := C.ex
  exact ⟨f, fd, h1, h2, h3, h4.mono h⟩
/-- names that are still the built-in ones, and constants -/
structure Nm (mg : Str → Option Value) : Prop where
  isi : mg "isinstance" = none
  len : mg "len" = none
  all : mg "all" = none
  any : mg "any" = none
  sum : mg "sum" = none
  int : mg "int" = none
  bool : mg "bool" = none
  list : mg "list" = none
  tuple : mg "tuple" = none
  great : ∃ t, mg "GREATEST" = some (.int GREAT t)
  longest : ∃ t, mg "LONGEST" = some (.int 8 t)
/-- the tables of the two defs that hold generator expressions -/
def Tb (P1 P2 : Addr) (H : Hp) : Prop := GxR.TabG H P1 ∧ GxR.TabG H P2
theorem tabG_same {P : Addr} {H H' : Hp} (s : Same H H') (h : GxR.TabG H P) : GxR.TabG H' P := by
  obtain ⟨ps, e, t⟩ := h
  exact ⟨ps, s _ _ e, t⟩
theorem Tb.same {P1 P2 : Addr} {H H' : Hp} (s : Same H H') (h : Tb P1 P2 H) : Tb P1 P2 H' := ⟨tabG_same s h.1, tabG_same s h.2⟩
theorem ex_tabbed {P : Addr} {H H' : Hp} (g : GxR.TabG H P) (t : GxR.Tabbed P H H') : Ex H H' := fun b o e => by
  by_cases hb : b = P
  · subst hb
    obtain ⟨ps, h1, _⟩ := g
    obtain ⟨⟨qs, h2, _⟩, _⟩ := t
    rw [h1] at e
    cases e
    exact .inr ⟨ps, qs, rfl, h2⟩
  · exact .inl (by rw [t.2 b hb]; exact e)
theorem Tb.tab1 {P1 P2 : Addr} {H H' : Hp} (h : Tb P1 P2 H) (t : GxR.Tabbed P1 H H') : Tb P1 P2 H' := ⟨t.1, by
  by_cases hb : P2 = P1
  · rw [hb]; exact t.1
  · obtain ⟨ps, e, q⟩ := h.2
    exact ⟨ps, by rw [t.2 P2 hb]; exact e, q⟩⟩
theorem Tb.tab2 {P1 P2 : Addr} {H H' : Hp} (h : Tb P1 P2 H) (t : GxR.Tabbed P2 H H') : Tb P1 P2 H' := ⟨by
  by_cases hb : P1 = P2
  · rw [hb]; exact t.1
  · obtain ⟨ps, e, q⟩ := h.1
    exact ⟨ps, by rw [t.2 P1 hb]; exact e, q⟩, t.1⟩
def spOne (g : PyData → Bool) : Sp := fun vs H Q _ => ∃ v d, vs = [v] ∧ Rp H v d ∧ ∀ H', Same H H' → Q (.bl (g d)) H'
def spTab (P1 P2 : Addr) (g : PyData → Bool) : Sp := fun vs H Q _ => ∃ v d, vs = [v] ∧ Rp H v d ∧ Tb P1 P2 H ∧ ∀ H', Ex H H' → Tb P1 P2 H' → Q (.bl (g d)) H'
theorem spOne_len {g : PyData → Bool} : ∀ vs H Q E, spOne g vs H Q E → vs.length = 1 := fun vs H Q E ⟨v, d, e, _⟩ => by rw [e]; rfl
theorem spTab_len {P1 P2 : Addr} {g : PyData → Bool} : ∀ vs H Q E, spTab P1 P2 g vs H Q E → vs.length = 1 := fun vs H Q E ⟨v, d, e, _⟩ => by rw [e]; rfl
section
variable {P : Program} {w : World} {K : PySem.W.Frag} {mg : Str → Option Value} {base : Heap}
theorem ok_whole {f : Addr} {fd : FuncData} (F : Fun K "is_whole" "is_whole" sWhole f fd) (T : Nm mg) : FnOk P w K mg base CX0 1 f fd ["thing"] (spOne isWhole) := by
  refine F.ok scWhole spOne_len (fun cdv A outer s H vs Q E hr h => ?_)
  obtain ⟨v, d, rfl, hR, q⟩ := h
  refine ⟨_, pss_one (ps_ret (pe_and (pe_callB call_isi (by rfl) T.isi (by decide +kernel) (pa_cons (pv 0) (pa_cons (pe_bltn (v := .ty "int") (by rfl) T.int PyProof.Rows.boot_int rfl) pa_nil)))
    (pe_one (pe_not (pe_callB call_isi (by rfl) T.isi (by decide +kernel) (pa_cons (pv 0) (pa_cons (pe_bltn (v := .ty "bool") (by rfl) T.bool PyProof.Rows.boot_bool rfl) pa_nil))))))), ?_⟩
  refine ⟨v, rfl, v, .ty "int", _, _, isIntB d, rfl, .ty _, hR.ty, kit_int d, isIntB d, rfl, ite2 (fun e => ?_) (fun e => ?_)⟩
  · refine ⟨v, rfl, v, .ty "bool", _, _, isBoolB d, rfl, .ty _, hR.ty, kit_bool d, isBoolB d, rfl, ?_⟩
    have z : (!isBoolB d) = isWhole d := by cases d <;> first | rfl | (exact absurd e Bool.false_ne_true)
    rw [z]
    exact q H (Same.refl H)
  · have z : isWhole d = false := by cases d <;> first | rfl | (exact absurd rfl e)
    have q' := q H (Same.refl H)
    rw [z] at q'
    exact q'
theorem ok_row {f : Addr} {fd : FuncData} (F : Fun K "is_row" "is_row" sRow f fd) (T : Nm mg) : FnOk P w K mg base CX0 1 f fd ["thing"] (spOne isRow) := by
  refine F.ok scRow spOne_len (fun cdv A outer s H vs Q E hr h => ?_)
  obtain ⟨v, d, rfl, hR, q⟩ := h
  refine ⟨_, pss_one (ps_ret (pe_callB call_isiT (by rfl) T.isi (by decide +kernel) (pa_cons (pv 0) (pa_cons (pe_tup (pa_cons (pe_bltn (v := .ty "list") (by rfl) T.list PyProof.Rows.boot_list rfl) (pa_cons (pe_bltn (v := .ty "tuple") (by rfl) T.tuple PyProof.Rows.boot_tuple rfl) pa_nil))) pa_nil)))), ?_⟩
  refine ⟨v, rfl, by show 2 ≤ sizeLine; decide, fun p np => ⟨v, p, [.ty "list", .ty "tuple"], _, _, isRow d, rfl, upd_same, .cons (.ty _) (.cons (.ty _) .nil), (Rp.ex (Ex.new np) d v hR).ty, kit_rows d, q _ (same_upd np)⟩⟩
theorem ok_pat {f : Addr} {fd : FuncData} (F : Fun K "is_patience" "is_patience" sPat f fd) (T : Nm mg) (CW : Cal P w K mg base 1 "is_whole" ["thing"] (spOne isWhole)) : FnOk P w K mg base CX0 2 f fd ["thing"] (spOne isPatience) := by
  refine F.ok scPat spOne_len (fun cdv A outer s H vs Q E hr h => ?_)
  obtain ⟨v, d, rfl, hR, q⟩ := h
  obtain ⟨tg, hgr⟩ := T.great
  refine ⟨_, pss_one (ps_ret (pe_or (pe_cmp (pc_isN (pv 0)) rfl) (pe_one (pe_and (pe_cal CW hr (by rfl) (pa_cons (pv 0) pa_nil))
    (pe_one (pe_chain op_le op_le pe_int (pv 0) (pe_glob (v := .int GREAT) (by rfl) hgr ⟨_, rfl⟩))))))), ?_⟩
  refine ⟨v, rfl, decide (v = .non), rfl, ite2 (fun e => ?_) (fun e => ?_)⟩
  · have ev : v = .non := of_decide_eq_true e
    subst ev
    cases hR
    exact q H (Same.refl H)
  · have nv : v ≠ .non := fun z => e (decide_eq_true z)
    refine ⟨v, rfl, v, d, rfl, hR, fun H1 s1 => ⟨isWhole d, rfl, ite2 (fun e2 => ?_) (fun e2 => ?_)⟩⟩
    · cases hR with
      | int i =>
        refine ⟨.int i, rfl, 0, i, rfl, rfl, decide (0 ≤ i), rfl, ite2 (fun e3 => ?_) (fun e3 => ?_)⟩
        · refine ⟨i, GREAT, rfl, rfl, ?_⟩
          have q' := q H1 s1
          have z : isPatience (.int i) = decide (i ≤ GREAT) := by
            show (decide (0 ≤ i) && decide (i ≤ GREAT)) = _
            rw [e3, Bool.true_and]
          rw [z] at q'
          exact q'
        · have q' := q H1 s1
          have z : isPatience (.int i) = false := by
            show (decide (0 ≤ i) && decide (i ≤ GREAT)) = _
            rw [Bool.eq_false_iff.mpr e3, Bool.false_and]
          rw [z] at q'
          exact q'
      | _ => exact absurd e2 Bool.false_ne_true
    · have q' := q H1 s1
      have z : isPatience d = false := by
        cases hR with
        | non => exact absurd rfl nv
        | int i => exact absurd rfl e2
        | _ => rfl
      rw [z] at q'
      exact q'
end
end CL
set_option Elab.async false
set_option linter.all false
set_option maxRecDepth 100000
set_option maxHeartbeats 1000000
namespace CL
open PySem PySem.Spec PyProof.Rows L2 GE
theorem all_take {p : PyData → Bool} {ds : List PyData} {i : Nat} {d : PyData} (h : ds[i]? = some d) : (ds.take (i + 1)).all p = ((ds.take i).all p && p d) := by
  rw [List.take_add_one, h, List.all_append]
  simp
theorem any_take {p : PyData → Bool} {ds : List PyData} {i : Nat} {d : PyData} (h : ds[i]? = some d) : (ds.take (i + 1)).any p = ((ds.take i).any p || p d) := by
  rw [List.take_add_one, h, List.any_append]
  simp
theorem all_false {p : PyData → Bool} {ds : List PyData} {i : Nat} {d : PyData} (h : ds[i]? = some d) (e : p d = false) : ds.all p = false := by
  rw [List.all_eq_false]
  exact ⟨d, List.mem_of_getElem? h, by rw [e]; exact Bool.false_ne_true⟩
theorem any_true {p : PyData → Bool} {ds : List PyData} {i : Nat} {d : PyData} (h : ds[i]? = some d) (e : p d = true) : ds.any p = true := by
  rw [List.any_eq_true]
  exact ⟨d, List.mem_of_getElem? h, e⟩
theorem rix_of {K : PySem.W.Frag} {H : Hp} {a : Addr} {xs : List V} {i : Nat} {v : V} {Q : VK} (s : StSeq H a xs) (e : xs[i]? = some v) (q : Q v H) : rIx K (.ref a) (.int (i : Int)) H Q := by
  rcases s.or with h | h
  · exact .inl ⟨a, xs, (i : Int), v, rfl, rfl, SqL.of h, atI_nat e, q⟩
  · exact .inr (.inl ⟨a, xs, (i : Int), v, rfl, rfl, SqT.of h, atI_nat e, q⟩)
theorem name_yes {i : Nat} {x : V} {σ : L2.St} {H : Hp} {A B : L2.St → Hp → Prop} (h : A (σ.set i (some x)) H) : gName i x σ H (fun σ2 H2 => tYes σ2 H2 fun b H3 => if b = true then A σ2 H3 else B σ2 H3) := by
  show if true = true then A (σ.set i (some x)) H else B (σ.set i (some x)) H
  exact iteT h
theorem nd1 {x : Str} : [x].Nodup := by simp
section
variable {P : Program} {w : World} {K : PySem.W.Frag} {mg : Str → Option Value} {base : Heap}
theorem ok_turns {f c P1 P2 : Addr} {fd : FuncData} (F : FunC K "is_turns" "is_turns" sTurns f fd c) (T : Nm mg) (TB : GxR.TabB base mg c P1) (CR : Cal P w K mg base 1 "is_row" ["thing"] (spOne isRow)) (CP : Cal P w K mg base 2 "is_patience" ["thing"] (spOne isPatience)) :
    FnOk P w K mg base CX0 4 f fd ["thing"] (spTab P1 P2 isTurns) := by
  refine F.ok scTurns spTab_len (fun A outer s H vs Q E hr h => ?_)
  obtain ⟨v, d, rfl, hR, hT, q⟩ := h
  obtain ⟨tl, hlo⟩ := T.longest
  refine ⟨_, pss_one (ps_ret (pe_and (pe_cal (CR.mono (by decide)) hr (by rfl) (pa_cons (pv 0) pa_nil))
    (pe_and (pe_chain op_le op_le pe_int (pe_callB call_len_seq (by rfl) T.len PySem.boot_len (pa_cons (pv 0) pa_nil)) (pe_glob (v := .int 8) (by rfl) hlo ⟨_, rfl⟩))
      (pe_one (pe_allG (N := ["patience"]) hr (by rfl) T.all TB rfl (by exact ⟨rfl, rfl, by decide +kernel, rfl⟩) (pi_seq (pv 0))
        (fun A s H C code fp pn rY => pg_name (i := 0) nd1 rfl (.inl rfl) (.inr rfl)) (fun A s H C code fp pn rY => pts_nil)
        (fun A s H C code fp pn rY => pe_cal CP rY (by rfl) (pa_cons (pv 0) pa_nil))))))), ?_⟩
  refine ⟨v, rfl, v, d, rfl, hR, fun H1 s1 => ⟨isRow d, rfl, ite2 (fun e => ?_) (fun e => ?_)⟩⟩
  · obtain ⟨ds, hds⟩ : ∃ ds, rowsD d = some ds := Option.isSome_iff_exists.mp e
    obtain ⟨a, xs, rfl, hA, hso⟩ := (Rp.ex (Ex.of s1) d v hR).rows hds
    have hst : StSeq H1 a xs := ⟨hso⟩
    have hlen := hA.length
    have val : isTurns d = (decide (1 ≤ ds.length) && decide (ds.length ≤ 8) && ds.all isPatience) := by
      unfold isTurns
      rw [hds]
    have hT1 := hT.same s1
    have no : ∀ {H2 : Hp}, Ex H1 H2 → Tb P1 P2 H2 → isTurns d = false → Q (.bl false) H2 := fun {H2} e2 t2 z => by
      have q' := q H2 ((Ex.of s1).trans e2) t2
      rw [z] at q'
      exact q'
    refine ⟨.ref a, rfl, a, xs, rfl, hst.sq, 1, xs.length, rfl, rfl, decide ((1 : Int) ≤ xs.length), rfl, ite2 (fun e1 => ?_) (fun e1 => ?_)⟩
    · refine ⟨xs.length, 8, rfl, rfl, decide ((xs.length : Int) ≤ 8), rfl, ite2 (fun e2 => ?_) (fun e2 => ?_)⟩
      · have l1 : 1 ≤ ds.length := by have := of_decide_eq_true e1; omega
        have l2 : ds.length ≤ 8 := by have := of_decide_eq_true e2; omega
        refine ⟨.ref a, rfl, a, xs, rfl, hst, fun J hJ => ⟨hT1.1, fun H2 tb => ⟨_, ⟨xs.length, rfl, Nat.zero_le _, ex_tabbed hT1.1 tb, hT1.tab1 tb, rfl⟩, turn_by (xs := xs) (fun _ i H => Ex H1 H ∧ Tb P1 P2 H ∧ (ds.take i).all isPatience = true)
          (fun _ i H ⟨eH, _, _⟩ => hJ H eH) (fun _ i x H hx ⟨eH, tH, aH⟩ => ?_) (fun _ H ⟨eH, tH, aH⟩ => ?_)⟩⟩⟩
        · obtain ⟨dx, hdx, hRx⟩ := hA.get hx
          refine name_yes ?_
          refine ⟨x, rfl, x, dx, rfl, Rp.ex eH dx x hRx, fun H4 s4 => ⟨isPatience dx, rfl, ite2 (fun e4 => ?_) (fun e4 => ?_)⟩⟩
          · exact ⟨eH.trans (Ex.of s4), tH.same s4, by rw [all_take hdx, aH, e4]; rfl⟩
          · refine no (eH.trans (Ex.of s4)) (tH.same s4) ?_
            rw [val, all_false hdx (Bool.eq_false_iff.mpr e4), Bool.and_false]
        · have q' := q H ((Ex.of s1).trans eH) tH
          rw [hlen, List.take_length] at aH
          rw [val, aH, decide_eq_true l1, decide_eq_true l2] at q'
          exact q'
      · refine no (Ex.refl H1) hT1 ?_
        have l2 : ¬ ds.length ≤ 8 := fun z => e2 (decide_eq_true (by omega))
        rw [val, decide_eq_false l2, Bool.and_false, Bool.false_and]
    · refine ⟨false, rfl, iteF (no (Ex.refl H1) hT1 ?_)⟩
      have l1 : ¬ 1 ≤ ds.length := fun z => e1 (decide_eq_true (by omega))
      rw [val, decide_eq_false l1, Bool.false_and, Bool.false_and]
  · have z : isTurns d = false := by
      unfold isTurns
      cases hds : rowsD d with
      | none => rfl
      | some ds => exact absurd (by unfold isRow; rw [hds]; rfl) e
    have q' := q H1 (Ex.of s1) (hT.same s1)
    rw [z] at q'
    exact q'
theorem two_of {α : Type} {xs : List α} (h : xs.length = 2) : ∃ x y, xs = [x, y] := match xs, h with
  | [x, y], _ => ⟨x, y, rfl⟩
theorem isPiece_two {d t m : PyData} (h : rowsD d = some [t, m]) : isPiece d = (isTurns t && isMany m) := by
  unfold isPiece
  rw [h]
theorem isPiece_not {d : PyData} {ds : List PyData} (h : rowsD d = some ds) (n : ds.length ≠ 2) : isPiece d = false := by
  unfold isPiece
  rw [h]
  match ds, n with
  | [], _ => rfl
  | [_], _ => rfl
  | [_, _], n => exact absurd rfl n
  | _ :: _ :: _ :: _, _ => rfl
theorem ok_piece {f P1 P2 : Addr} {fd : FuncData} (F : Fun K "is_piece" "is_piece" sPiece f fd) (T : Nm mg) (CW : Cal P w K mg base 1 "is_whole" ["thing"] (spOne isWhole)) (CR : Cal P w K mg base 1 "is_row" ["thing"] (spOne isRow)) (CT : Cal P w K mg base 4 "is_turns" ["thing"] (spTab P1 P2 isTurns)) :
    FnOk P w K mg base CX0 5 f fd ["thing"] (spTab P1 P2 isPiece) := by
  refine F.ok scPiece spTab_len (fun cdv A outer s H vs Q E hr h => ?_)
  obtain ⟨v, d, rfl, hR, hT, q⟩ := h
  refine ⟨_, pss_cons (ps_if (PW.pt (pw_or (pt_not (pt_val (pe_cal (CR.mono (by decide)) hr (by rfl) (pa_cons (pv 0) pa_nil))))
      (pw_or (pt_cmpR op_ne (pe_callB call_len_seq (by rfl) T.len PySem.boot_len (pa_cons (pv 0) pa_nil)) pe_int (nomark _))
        (pw_or1 (pt_not (pt_val (pe_cal CT hr (by rfl) (pa_cons (pe_ix ix_seq (pv 0) pe_int (fun _ _ => rfl)) pa_nil)))))))) (pss_one (ps_ret pe_bl)) pss_nil)
    (pss_one (ps_ret (pe_or (pe_cmp (pc_isN (pe_ix ix_seq (pv 0) pe_int (fun _ _ => rfl))) rfl)
      (pe_one (pe_and (pe_cal (CW.mono (by decide)) hr (by rfl) (pa_cons (pe_ix ix_seq (pv 0) pe_int (fun _ _ => rfl)) pa_nil)) (pe_one (pe_cmpR op_ge (pe_ix ix_seq (pv 0) pe_int (fun _ _ => rfl)) pe_int (nomark _)))))))), ?_⟩
  refine ⟨v, rfl, v, d, rfl, hR, fun H1 s1 => ⟨isRow d, rfl, ?_⟩⟩
  have hT1 := hT.same s1
  have at_ : ∀ {H2 : Hp} {b : Bool}, Ex H1 H2 → Tb P1 P2 H2 → isPiece d = b → Q (.bl b) H2 := fun {H2 b} e2 t2 z => by
    have q' := q H2 ((Ex.of s1).trans e2) t2
    rw [z] at q'
    exact q'
  cases hds : rowsD d with
  | none =>
    have e0 : isRow d = false := by unfold isRow; rw [hds]; rfl
    rw [e0]
    exact iteT (iteT (at_ (Ex.refl H1) hT1 (by unfold isPiece; rw [hds])))
  | some ds =>
    have e0 : isRow d = true := by unfold isRow; rw [hds]; rfl
    rw [e0]
    obtain ⟨a, xs, rfl, hA, hso⟩ := (Rp.ex (Ex.of s1) d v hR).rows hds
    have hst : StSeq H1 a xs := ⟨hso⟩
    have hlen := hA.length
    refine iteF ⟨.ref a, rfl, a, xs, rfl, hst.sq, rfl, _, rfl, ?_⟩
    by_cases h2 : ds.length = 2
    · have e1 : decide (V.int (xs.length : Int) = V.int 2) = true := decide_eq_true (by rw [hlen, h2]; rfl)
      refine ite2 (fun z => absurd z (by rw [e1]; exact Bool.false_ne_true)) (fun _ => ?_)
      obtain ⟨t, m, rfl⟩ := two_of h2
      obtain ⟨vt, vm, rfl⟩ := two_of (hlen.trans h2)
      cases hA with
      | cons ht hA2 =>
        cases hA2 with
        | cons hm _ =>
          refine ⟨.ref a, rfl, rix_of (i := 0) hst rfl ⟨vt, t, rfl, ht, hT1, fun H2 e2 t2 => ⟨isTurns t, rfl, ?_⟩⟩⟩
          have val := isPiece_two hds
          cases ht2 : isTurns t with
          | false => exact iteT (at_ e2 t2 (by rw [val, ht2]; rfl))
          | true =>
            refine iteF ⟨.ref a, rfl, rix_of (i := 1) (hst.ex e2) rfl ⟨decide (vm = .non), rfl, ite2 (fun e3 => ?_) (fun e3 => ?_)⟩⟩
            · have ev : vm = .non := of_decide_eq_true e3
              subst ev
              cases hm
              exact at_ e2 t2 (by rw [val, ht2]; rfl)
            · have nv : vm ≠ .non := fun z => e3 (decide_eq_true z)
              refine ⟨.ref a, rfl, rix_of (i := 1) (hst.ex e2) rfl ⟨vm, m, rfl, Rp.ex e2 m vm hm, fun H3 s3 => ⟨isWhole m, rfl, ite2 (fun e4 => ?_) (fun e4 => ?_)⟩⟩⟩
              · cases hm with
                | int i =>
                  refine ⟨.ref a, rfl, rix_of (i := 1) ((hst.ex e2).ex (Ex.of s3)) rfl ⟨i, 0, rfl, rfl, at_ (e2.trans (Ex.of s3)) (t2.same s3) ?_⟩⟩
                  rw [val, ht2]
                  rfl
                | _ => exact absurd e4 Bool.false_ne_true
              · refine at_ (e2.trans (Ex.of s3)) (t2.same s3) ?_
                rw [val, ht2]
                cases hm with
                | non => exact absurd rfl nv
                | int i => exact absurd rfl e4
                | _ => rfl
    · have e1 : decide (V.int (xs.length : Int) = V.int 2) = false := decide_eq_false fun z => h2 (by have := V.int.inj z; omega)
      refine ite2 (fun _ => iteT (at_ (Ex.refl H1) hT1 (isPiece_not hds h2))) (fun z => absurd (by rw [e1]; rfl) z)
end
end CL
set_option Elab.async false
set_option linter.all false
set_option maxRecDepth 100000
set_option maxHeartbeats 2000000
namespace CL
open PySem PySem.Spec PyProof.Rows L2 GE
theorem piece_parts {d : PyData} (h : isPiece d = true) : ∃ t m, rowsD d = some [t, m] ∧ isTurns t = true ∧ isMany m = true := by
  unfold isPiece at h
  split at h
  · rename_i t m e
    rw [Bool.and_eq_true] at h
    exact ⟨t, m, e, h.1, h.2⟩
  · cases h
theorem sndD_two {d t m : PyData} (h : rowsD d = some [t, m]) : sndD d = m := by
  unfold sndD
  rw [h]
theorem rp_none {H : Hp} {v : V} {m : PyData} (h : Rp H v m) : decide (v = .non) = isNone m := by
  cases h <;> first | rfl | exact decide_eq_false nofun
theorem all_get {p : PyData → Bool} {ds : List PyData} {i : Nat} {d : PyData} (h : ds.all p = true) (e : ds[i]? = some d) : p d = true := List.all_eq_true.mp h d (List.mem_of_getElem? e)
theorem sum_step {ds : List PyData} {i : Nat} {d : PyData} (h : ds[i]? = some d) : sumSnd (ds.take (i + 1)) = sumSnd (ds.take i) + worth (sndD d) := by
  unfold sumSnd
  rw [List.take_add_one, h, List.map_append, List.sum_append]
  simp
theorem cut_last (xs : List V) : cutV xs none (some (-1)) = xs.take (xs.length - 1) := by
  unfold cutV
  have e0 : HT.sIx xs.length 0 none = 0 := rfl
  have e1 : HT.sIx xs.length xs.length (some (-1)) = xs.length - 1 := by
    show (if (-1 : Int) < 0 then ((-1 : Int) + (xs.length : Int)).toNat else min (-1 : Int).toNat xs.length) = _
    rw [if_pos (by decide)]
    omega
  rw [e0, e1, List.drop_zero, Nat.sub_zero]
theorem ix_gx {X : Cx} {A : Around} {N : List Str} {s : Shared} {H : Hp} {cenv : Env} {fp : List Addr} {pn : List (Addr × Obj)} : IxR (gx X A N s H cenv fp pn) (rIx X.K) := ix_seq
/-- the second of a piece that stands -/
theorem piece_at {H : Hp} {x : V} {d : PyData} (hp : isPiece d = true) (hR : Rp H x d) : ∃ b vt vm m, x = .ref b ∧ StSeq H b [vt, vm] ∧ Rp H vm m ∧ sndD d = m ∧ isMany m = true := by
  obtain ⟨t, m, e, _, hm⟩ := piece_parts hp
  obtain ⟨b, ys, rfl, hA, hso⟩ := hR.rows e
  obtain ⟨vt, vm, rfl⟩ := two_of hA.length
  cases hA with
  | cons h1 h2 =>
    cases h2 with
    | cons h3 _ => exact ⟨b, vt, vm, m, rfl, ⟨hso⟩, h3, sndD_two e, hm⟩
section
variable {P : Program} {w : World} {K : PySem.W.Frag} {mg : Str → Option Value} {base : Heap}
theorem ok_plan {f c P1 P2 : Addr} {fd : FuncData} (F : FunC K "is_plan" "is_plan" sPlan f fd c) (T : Nm mg) (TB : GxR.TabB base mg c P2) (CR : Cal P w K mg base 1 "is_row" ["thing"] (spOne isRow)) (CP : Cal P w K mg base 5 "is_piece" ["thing"] (spTab P1 P2 isPiece)) :
    FnOk P w K mg base CX0 7 f fd ["thing"] (spTab P1 P2 isPlan) := by
  refine F.ok scPlan spTab_len (fun A outer s H vs Q E hr h => ?_)
  obtain ⟨v, d, rfl, hR, hT, q⟩ := h
  obtain ⟨tl, hlo⟩ := T.longest
  obtain ⟨tg, hgr⟩ := T.great
  refine ⟨_, pss_cons (ps_if (PW.pt (pw_or (pt_not (pt_val (pe_cal (CR.mono (by decide)) hr (by rfl) (pa_cons (pv 0) pa_nil))))
      (pw_or1 (pt_not (pt_chain op_le op_le pe_int (pe_callB call_len_seq (by rfl) T.len PySem.boot_len (pa_cons (pv 0) pa_nil)) (pe_glob (v := .int 8) (by rfl) hlo ⟨_, rfl⟩)))))) (pss_one (ps_ret pe_bl)) pss_nil)
    (pss_cons (ps_if (pt_not (pt_val (pe_allG (N := ["piece"]) hr (by rfl) T.all TB rfl (by exact ⟨rfl, rfl, by decide +kernel, rfl⟩) (pi_seq (pv 0))
        (fun A s H C code fp pn rY => pg_name (i := 0) nd1 rfl (.inl rfl) (.inr rfl)) (fun A s H C code fp pn rY => pts_nil)
        (fun A s H C code fp pn rY => pe_cal CP rY (by rfl) (pa_cons (pv 0) pa_nil))))) (pss_one (ps_ret pe_bl)) pss_nil)
    (pss_cons (ps_if (pt_val (pe_anyG (N := ["piece"]) hr (by rfl) T.any TB rfl (by exact ⟨rfl, rfl, by decide +kernel, rfl⟩) (pi_seq (pe_slice (SlR.or sl_list sl_tup) (pv 0) po_none (po_some (pe_un un_neg pe_int))))
        (fun A s H C code fp pn rY => pg_name (i := 0) nd1 rfl (.inl rfl) (.inr rfl)) (fun A s H C code fp pn rY => pts_nil)
        (fun A s H C code fp pn rY => pe_cmp (pc_isN (pe_ix ix_gx (pv 0) pe_int (fun _ _ => rfl))) rfl))) (pss_one (ps_ret pe_bl)) pss_nil)
    (pss_one (ps_ret (pe_cmpR op_le (pe_sumG (N := ["piece"]) hr (by rfl) T.sum TB rfl (by exact ⟨rfl, rfl, by decide +kernel, rfl⟩) (pi_seq (pv 0))
        (fun A s H C code fp pn rY => pg_name (i := 0) nd1 rfl (.inl rfl) (.inr rfl)) (fun A s H C code fp pn rY => pts_one (pt_cmp (pc_notN (pe_ix ix_gx (pv 0) pe_int (fun _ _ => rfl)))))
        (fun A s H C code fp pn rY => pe_ix ix_gx (pv 0) pe_int (fun _ _ => rfl))) (pe_glob (v := .int GREAT) (by rfl) hgr ⟨_, rfl⟩) (nomark _)))))), ?_⟩
  refine ⟨v, rfl, v, d, rfl, hR, fun H1 s1 => ⟨isRow d, rfl, ?_⟩⟩
  have hT1 := hT.same s1
  have at_ : ∀ {H2 : Hp} {b : Bool}, Ex H1 H2 → Tb P1 P2 H2 → isPlan d = b → Q (.bl b) H2 := fun {H2 b} e2 t2 z => by
    have q' := q H2 ((Ex.of s1).trans e2) t2
    rw [z] at q'
    exact q'
  cases hds : rowsD d with
  | none =>
    have e0 : isRow d = false := by unfold isRow; rw [hds]; rfl
    rw [e0]
    exact iteT (iteT (at_ (Ex.refl H1) hT1 (by unfold isPlan; rw [hds])))
  | some ds =>
    have e0 : isRow d = true := by unfold isRow; rw [hds]; rfl
    rw [e0]
    obtain ⟨a, xs, rfl, hA, hso⟩ := (Rp.ex (Ex.of s1) d v hR).rows hds
    have hst : StSeq H1 a xs := ⟨hso⟩
    have hlen := hA.length
    have val : isPlan d = (decide (1 ≤ ds.length) && decide (ds.length ≤ 8) && ds.all isPiece && !((ds.take (ds.length - 1)).any fun d => isNone (sndD d)) && decide (sumSnd ds ≤ GREAT)) := by
      unfold isPlan
      rw [hds]
      rfl
    refine iteF ⟨.ref a, rfl, a, xs, rfl, hst.sq, 1, xs.length, rfl, rfl, decide ((1 : Int) ≤ xs.length), rfl, ite2 (fun e1 => ?_) (fun e1 => ?_)⟩
    · have l1 : 1 ≤ ds.length := by have := of_decide_eq_true e1; omega
      refine ⟨xs.length, 8, rfl, rfl, decide ((xs.length : Int) ≤ 8), rfl, ?_⟩
      by_cases l2 : ds.length ≤ 8
      · have e2 : decide ((xs.length : Int) ≤ 8) = true := decide_eq_true (by omega)
        rw [e2]
        refine iteF ?_
        -- all
        refine ⟨.ref a, rfl, a, xs, rfl, hst, fun J hJ => ⟨hT1.2, fun H2 tb => ⟨_, ⟨xs.length, rfl, Nat.zero_le _, ex_tabbed hT1.2 tb, hT1.tab2 tb, rfl⟩, turn_by (xs := xs) (fun _ i H => Ex H1 H ∧ Tb P1 P2 H ∧ (ds.take i).all isPiece = true)
          (fun _ i H ⟨eH, _, _⟩ => hJ H eH) (fun _ i x H hx ⟨eH, tH, aH⟩ => ?_) (fun _ H ⟨eH, tH, pH⟩ => ?_)⟩⟩⟩
        · obtain ⟨dx, hdx, hRx⟩ := hA.get hx
          refine name_yes ?_
          refine ⟨x, rfl, x, dx, rfl, Rp.ex eH dx x hRx, tH, fun H4 e4 t4 => ⟨isPiece dx, rfl, ite2 (fun e5 => ?_) (fun e5 => ?_)⟩⟩
          · exact ⟨eH.trans e4, t4, by rw [all_take hdx, aH, e5]; rfl⟩
          · refine ⟨false, rfl, iteT (at_ (eH.trans e4) t4 ?_)⟩
            rw [val, all_false hdx (Bool.eq_false_iff.mpr e5), Bool.and_false, Bool.false_and, Bool.false_and]
        · rw [hlen, List.take_length] at pH
          refine ⟨true, rfl, iteF ?_⟩
          have hA' : RpAll H1 (xs.take (xs.length - 1)) (ds.take (ds.length - 1)) := by
            have z := hA.take (xs.length - 1)
            rw [show ds.take (xs.length - 1) = ds.take (ds.length - 1) by rw [hlen]] at z
            exact z
          have hp' : (ds.take (ds.length - 1)).all isPiece = true := by
            rw [List.all_eq_true]
            intro y hy
            exact List.all_eq_true.mp pH y (List.mem_of_mem_take hy)
          have hl' : (xs.take (xs.length - 1)).length = (ds.take (ds.length - 1)).length := hA'.length
          -- the walk, wherever the cut stands
          have walk : ∀ (p : Addr) (H3 : Hp), StSeq H3 p (xs.take (xs.length - 1)) → Ex H1 H3 → Tb P1 P2 H3 → ∀ QB : Bool → Hp → Prop,
              (∀ H', Ex H1 H' → Tb P1 P2 H' → QB ((ds.take (ds.length - 1)).any fun d => isNone (sndD d)) H') →
              ∀ J, (∀ H2, Ex H3 H2 → StandsAs K p (xs.take (xs.length - 1)) J H2) → GxR.TabG H3 P2 ∧ ∀ H2, GxR.Tabbed P2 H3 H2 →
                ∃ W : Unit → Nat → Nat → Hp → Prop, (∃ m, W () 0 m H2) ∧ TurnOf J 1 (gName 0) tYes (tIsN (tOp (rIx K) (tVar 0) (tC (.int 1)))) (outAny QB) (fun _ H => QB false H) W := by
            intro p H3 st3 e3 t3 QB hQB J hJ
            refine ⟨t3.2, fun H2 tb => ⟨_, ⟨(xs.take (xs.length - 1)).length, rfl, Nat.zero_le _, ex_tabbed t3.2 tb, t3.tab2 tb, rfl⟩, turn_by (xs := xs.take (xs.length - 1)) (fun _ i H => Ex H3 H ∧ Tb P1 P2 H ∧ ((ds.take (ds.length - 1)).take i).any (fun d => isNone (sndD d)) = false)
              (fun _ i H ⟨eH, _, _⟩ => hJ H eH) (fun _ i x H hx ⟨eH, tH, aH⟩ => ?_) (fun _ H ⟨eH, tH, aH⟩ => ?_)⟩⟩
            · obtain ⟨dx, hdx, hRx⟩ := hA'.get hx
              obtain ⟨b, vt, vm, m, rfl, stb, hRm, hsn, _⟩ := piece_at (all_get hp' hdx) (Rp.ex (e3.trans eH) dx x hRx)
              refine name_yes ?_
              refine ⟨.ref b, rfl, rix_of (i := 1) stb rfl ⟨decide (vm = .non), rfl, ite2 (fun e5 => ?_) (fun e5 => ?_)⟩⟩
              · have z := hQB H (e3.trans eH) tH
                rw [any_true (p := fun d => isNone (sndD d)) hdx (by rw [hsn, ← rp_none hRm]; exact e5)] at z
                exact z
              · refine ⟨eH, tH, ?_⟩
                rw [any_take hdx, aH, hsn, ← rp_none hRm, Bool.eq_false_iff.mpr e5]
                rfl
            · rw [hl', List.take_length] at aH
              have z := hQB H (e3.trans eH) tH
              rw [aH] at z
              exact z
          -- the sum
          have sums : ∀ (H3 : Hp), Ex H1 H3 → Tb P1 P2 H3 → ∀ QI : Int → Hp → Prop, (∀ H', Ex H1 H' → Tb P1 P2 H' → QI (sumSnd ds) H') →
              ∀ J, (∀ H2, Ex H3 H2 → StandsAs K a xs J H2) → GxR.TabG H3 P2 ∧ ∀ H2, GxR.Tabbed P2 H3 H2 →
                ∃ W : Int → Nat → Nat → Hp → Prop, (∃ m, W 0 0 m H2) ∧ TurnOf J 1 (gName 0) (tB (tNotN (tOp (rIx K) (tVar 0) (tC (.int 1))))) (tOp (rIx K) (tVar 0) (tC (.int 1))) outSum (fun a H => QI a H) W := by
            intro H3 e3 t3 QI hQI J hJ
            refine ⟨t3.2, fun H2 tb => ⟨_, ⟨xs.length, rfl, Nat.zero_le _, ex_tabbed t3.2 tb, t3.tab2 tb, rfl⟩, turn_by (xs := xs) (fun z i H => Ex H3 H ∧ Tb P1 P2 H ∧ z = sumSnd (ds.take i))
              (fun _ i H ⟨eH, _, _⟩ => hJ H eH) (fun z i x H hx ⟨eH, tH, aH⟩ => ?_) (fun z H ⟨eH, tH, zH⟩ => ?_)⟩⟩
            · obtain ⟨dx, hdx, hRx⟩ := hA.get hx
              obtain ⟨b, vt, vm, m, rfl, stb, hRm, hsn, hmm⟩ := piece_at (all_get pH hdx) (Rp.ex (e3.trans eH) dx x hRx)
              refine ⟨.ref b, rfl, rix_of (i := 1) stb rfl ⟨!decide (vm = .non), rfl, ite2 (fun e5 => ?_) (fun e5 => ?_)⟩⟩
              · refine ⟨.ref b, rfl, rix_of (i := 1) stb rfl ?_⟩
                cases hRm with
                | int j => exact ⟨j, rfl, eH, tH, by rw [sum_step hdx, hsn, aH]; rfl⟩
                | non => exact absurd e5 (by decide)
                | _ => cases hmm
              · refine ⟨eH, tH, ?_⟩
                rw [sum_step hdx, hsn, aH]
                cases hRm with
                | non => exact (Int.add_zero _).symm
                | _ => exact absurd rfl e5
            · rw [hlen, List.take_length] at zH
              subst zH
              exact hQI H (e3.trans eH) tH
          have hst2 := hst.ex eH
          have fin : ∀ (H' : Hp), Ex H1 H' → Tb P1 P2 H' → ((ds.take (ds.length - 1)).any fun d => isNone (sndD d)) = false → isPlan d = decide (sumSnd ds ≤ GREAT) := fun H' _ _ z => by
            rw [val, decide_eq_true l1, decide_eq_true l2, pH, z]
            rfl
          have bad : ∀ (H' : Hp), Ex H1 H' → Tb P1 P2 H' → ((ds.take (ds.length - 1)).any fun d => isNone (sndD d)) = true → Q (.bl false) H' := fun H' e' t' z => at_ e' t' (by
            rw [val, z]
            simp)
          refine ⟨.ref a, rfl, 1, rfl, -1, rfl, ?_⟩
          rcases hst2.or with hq | hq
          · refine .inl ⟨a, xs, rfl, SqL.of hq, fun p np => ?_⟩
            have st3 : StSeq (upd H p (.lst (cutV xs none (some (-1))))) p (xs.take (xs.length - 1)) := ⟨.inl (by rw [upd_same, cut_last])⟩
            refine ⟨p, _, rfl, st3, walk p _ st3 (eH.trans (Ex.new np)) (tH.same (same_upd np)) _ fun H' e' t' => ?_⟩
            refine ⟨_, rfl, ite2 (fun e5 => bad H' e' t' e5) (fun e5 => ?_)⟩
            refine ⟨.ref a, rfl, a, xs, rfl, hst.ex e', sums H' e' t' _ fun H'' e'' t'' => ⟨sumSnd ds, GREAT, rfl, rfl, at_ e'' t'' (fin H'' e'' t'' (Bool.eq_false_iff.mpr e5))⟩⟩
          · refine .inr ⟨a, xs, rfl, SqT.of hq, ?_, fun p np => ?_⟩
            · intro z
              have z2 : HT.sIx xs.length xs.length (some (-1)) = xs.length - 1 := by
                show (if (-1 : Int) < 0 then ((-1 : Int) + (xs.length : Int)).toNat else min (-1 : Int).toNat xs.length) = _
                rw [if_pos (by decide)]
                omega
              have z3 := z.2
              rw [z2] at z3
              omega
            have st3 : StSeq (upd H p (.tup (cutV xs none (some (-1))))) p (xs.take (xs.length - 1)) := ⟨.inr (by rw [upd_same, cut_last])⟩
            refine ⟨p, _, rfl, st3, walk p _ st3 (eH.trans (Ex.new np)) (tH.same (same_upd np)) _ fun H' e' t' => ?_⟩
            refine ⟨_, rfl, ite2 (fun e5 => bad H' e' t' e5) (fun e5 => ?_)⟩
            refine ⟨.ref a, rfl, a, xs, rfl, hst.ex e', sums H' e' t' _ fun H'' e'' t'' => ⟨sumSnd ds, GREAT, rfl, rfl, at_ e'' t'' (fin H'' e'' t'' (Bool.eq_false_iff.mpr e5))⟩⟩
      · have e2 : decide ((xs.length : Int) ≤ 8) = false := decide_eq_false (by omega)
        rw [e2]
        refine iteT (at_ (Ex.refl H1) hT1 ?_)
        rw [val, decide_eq_false l2, Bool.and_false, Bool.false_and, Bool.false_and, Bool.false_and]
    · have l1 : ¬ 1 ≤ ds.length := fun z => e1 (decide_eq_true (by omega))
      refine ⟨false, rfl, iteT (at_ (Ex.refl H1) hT1 ?_)⟩
      rw [val, decide_eq_false l1, Bool.false_and, Bool.false_and, Bool.false_and, Bool.false_and]
end
end CL
set_option Elab.async false
set_option linter.all false
set_option maxRecDepth 100000
set_option maxHeartbeats 4000000
namespace CL
open PySem PySem.Spec PyProof.Rows L2 GE
theorem p18 : (10 : Int) ^ (18 : Int).toNat = 1000000000000000000 := by decide +kernel
theorem p30 : (10 : Int) ^ (30 : Int).toNat = GREAT := by decide +kernel
theorem same_ne {H H' : Hp} (s : Same H H') {p b : Addr} (np : H' p = none) (hb : H b ≠ none) : b ≠ p := fun z => by
  rw [z] at hb
  cases q : H p with
  | none => exact hb q
  | some o =>
    rw [s p o q] at np
    cases np
theorem ints_dp {K : PySem.W.Frag} {H : Hp} : ∀ gs : List Int, DpAll K H (gs.map V.int) (gs.map PyData.int)
  | [] => .nil
  | x :: gs => .cons (.int x) (ints_dp gs)
theorem ints_lay : ∀ gs : List Int, PyData.canLayAll0 (gs.map PyData.int) = true
  | [] => by simp [PyData.canLayAll0]
  | x :: gs => by
    have := ints_lay gs
    simp [PyData.canLayAll0, PyData.canLay0, this]
theorem ints_depth : ∀ gs : List Int, PyData.depthAll (gs.map PyData.int) = 0
  | [] => rfl
  | x :: gs => by
    have := ints_depth gs
    show max 0 (PyData.depthAll (gs.map PyData.int)) = 0
    rw [this]
    rfl
theorem ints_shaped (gs : List Int) : SeqAt.shaped (.list (gs.map PyData.int)) = true := by
  unfold SeqAt.shaped
  have h1 : PyData.canLay0 (.list (gs.map PyData.int)) = true := by
    have := ints_lay gs
    simp [PyData.canLay0, this]
  have h2 : PyData.depth (.list (gs.map PyData.int)) = 1 := by
    show PyData.depthAll (gs.map PyData.int) + 1 = 1
    rw [ints_depth]
  rw [h1, h2]
  rfl
theorem ints_take (gs : List Int) (k : Nat) : (gs.map V.int).take k = (gs.take k).map V.int := List.map_take.symm
theorem cut_to (xs : List V) (k : Nat) : cutV xs none (some (k : Int)) = xs.take k := by
  unfold cutV
  have e0 : HT.sIx xs.length 0 none = 0 := rfl
  have e1 : HT.sIx xs.length xs.length (some (k : Int)) = min k xs.length := HT.sIx_nat _ _ _
  rw [e0, e1, List.drop_zero, Nat.sub_zero]
  rcases Nat.le_total k xs.length with h | h
  · rw [Nat.min_eq_left h]
  · rw [Nat.min_eq_right h, List.take_of_length_le h, List.take_of_length_le (Nat.le_refl _)]
theorem cut_from (xs : List V) (k : Nat) : cutV xs (some (k : Int)) none = xs.drop k := by
  unfold cutV
  have e0 : HT.sIx xs.length 0 (some (k : Int)) = min k xs.length := HT.sIx_nat _ _ _
  have e1 : HT.sIx xs.length xs.length none = xs.length := rfl
  rw [e0, e1]
  rcases Nat.le_total k xs.length with h | h
  · rw [Nat.min_eq_left h]
    exact List.take_of_length_le (by rw [List.length_drop]; exact Nat.le_refl _)
  · rw [Nat.min_eq_right h, List.drop_of_length_le (Nat.le_refl _), List.drop_of_length_le h]
    simp
theorem small_add {a b : Nat} (ha : a ≤ 1000) (hb : b ≤ 1000) : a + b ≤ sizeLine := by
  have : 2000 ≤ sizeLine := by decide
  omega
theorem small_le {a : Nat} (ha : a ≤ 1000) : a ≤ sizeLine := by
  have : 1000 ≤ sizeLine := by decide
  omega
theorem yesT {σ : L2.St} {H : Hp} {A B : Hp → Prop} (h : A H) : tYes σ H (fun b H3 => if b = true then A H3 else B H3) := by
  show if true = true then A H else B H
  exact iteT h
open Classical in
noncomputable def Hw (W : Addr → Prop) (H : Hp) : Hp := fun b => if W b then none else H b
theorem Hw.at {W : Addr → Prop} {H : Hp} {b : Addr} (n : ¬ W b) : Hw W H b = H b := by
  unfold Hw
  rw [if_neg n]
theorem Hw.ne {W : Addr → Prop} {H : Hp} {b : Addr} {o : HO} (e : Hw W H b = some o) : ¬ W b := fun z => by
  unfold Hw at e
  rw [if_pos z] at e
  cases e
theorem Hw.sub (W : Addr → Prop) (H : Hp) : Same (Hw W H) H := fun b o e => by rw [Hw.at (Hw.ne e)] at e; exact e
theorem Hw.less {W W' : Addr → Prop} {H : Hp} (h : ∀ b, W b → W' b) : Same (Hw W' H) (Hw W H) := fun b o e => by
  rw [Hw.at fun z => Hw.ne e (h b z)]
  exact Hw.sub W' H b o e
theorem Hw.more {W W' : Addr → Prop} {H : Hp} (h : ∀ b, W' b → W b ∨ H b = none) : Same (Hw W H) (Hw W' H) := fun b o e => by
  have e1 := Hw.sub W H b o e
  rw [Hw.at fun z => (h b z).elim (Hw.ne e) fun q => by rw [q] at e1; cases e1]
  exact e1
theorem hw_upd {W : Addr → Prop} {a : Addr} {H : Hp} {o : HO} (h : W a) : Hw W (upd H a o) = Hw W H := by
  funext b
  by_cases hb : W b
  · unfold Hw
    rw [if_pos hb, if_pos hb]
  · rw [Hw.at hb, Hw.at hb, upd_ne fun z => hb (by rw [z]; exact h)]
theorem Same.hw {W : Addr → Prop} {H H' : Hp} (m : Same H H') : Same (Hw W H) (Hw W H') := fun b o e => by
  rw [Hw.at (Hw.ne e)]
  exact m b o (Hw.sub W H b o e)
theorem Rp.sm {H H' : Hp} (s : Same H H') {v : V} {d : PyData} (h : Rp H v d) : Rp H' v d := Rp.ex (Ex.of s) d v h
theorem RpAll.sm {H H' : Hp} (s : Same H H') {vs : List V} {ds : List PyData} (h : RpAll H vs ds) : RpAll H' vs ds := RpAll.ex (Ex.of s) ds vs h
theorem RpAll.snoc {H : Hp} : ∀ {vs : List V} {ds : List PyData} {v : V} {d : PyData}, RpAll H vs ds → Rp H v d → RpAll H (vs ++ [v]) (ds ++ [d])
  | _, _, _, _, .nil, h => .cons h .nil
  | _, _, _, _, .cons a b, h => .cons a (RpAll.snoc b h)
end CL
set_option Elab.async false
set_option linter.all false
set_option maxRecDepth 100000
set_option maxHeartbeats 4000000
namespace CL
open PySem PySem.Spec PyProof.Rows L2 GE
/-! ### a, b = a list or a tuple -/
def gSeq (K : PySem.W.Frag) (n : Nat) (t : TGs) : TG := fun v σ H Q => ∃ a xs, v = .ref a ∧ StSeq H a xs ∧ xs.length = n ∧ t xs σ H Q
theorem pg_seq {X : Cx} {pos : Pos} {es : List Expr} {k : Nat} {t : TGs} {n : Nat} (hc : X.calm = true) (h : PGs X es t) (hn : (assignEach es X.env).length = n := by rfl) (hst : (assignEach es X.env).findIdx? (·.1) = none := by rfl) :
    PG X (.Tuple es k pos) (gSeq X.K n t) := by
  refine ⟨fun pins s σ H v u Q I r hw => ?_⟩
  obtain ⟨a, xs, e, hs, hl, q⟩ := hw
  rcases hs.or with hq | hq
  · exact (pg_lst hc h hn hst).run pins s σ H v u Q I r ⟨a, xs, e, SqL.of hq, hl, q⟩
  · exact (pg_tup hc h hn hst).run pins s σ H v u Q I r ⟨a, xs, e, SqT.of hq, hl, q⟩
/-! ### for x in a list or a tuple -/
def iSeqW (K : PySem.W.Frag) (tl : TE) : TI := fun σ H R => tl σ H fun x H1 => ∃ a xs, x = .ref a ∧ StSeq H1 a xs ∧ ∀ J, (∀ H2, (∀ o, H1 a = some o → H2 a = some o) → StandsAs K a xs J H2) → R J H1
theorem pi_seqW {X : Cx} {tg l : Expr} {tl : TE} (hl : PE X l tl) : PI X tg l (iSeqW X.K tl) := by
  refine ⟨fun pins s σ H R I h => thn (hl.run pins s σ H _ I h) fun v s1 ⟨x, H1, I1, r1, a, xs, e, st, q⟩ => ?_⟩
  subst e
  cases r1
  have new : ∀ b ∈ [s1.heap.objs.size], FpOk X pins H1 b := fun b hb => by
    rw [List.mem_singleton.mp hb]
    exact I1.fpOk (Nat.le_refl _) (I1.hok.fresh (Nat.le_refl _))
  have kept := fun {o : Obj} => I1.kept (h' := s1.heap.push o) (t' := s1.toks) fun b o' e => Heap.get?_push_of_some _ e
  rcases st.or with hq | hq
  · obtain ⟨its, rv, p, hz⟩ := I1.list (SqL.of hq)
    exact wpAny_pyIter_list p.isList ⟨s1.heap.objs.size, [s1.heap.objs.size], _, _, H1, rfl, kept, turn_list a _, ⟨_, Heap.get?_push_size _ rfl, rfl, rfl⟩, new, q _ fun H2 e => .inl ⟨rfl, SqL.of (e _ hq)⟩⟩
  · obtain ⟨its, rv, p, hz⟩ := I1.tuple (SqT.of hq)
    exact wpAny_pyIter_tuple (show s1.heap.IsTuple a its.toArray from p) ⟨s1.heap.objs.size, [s1.heap.objs.size], _, _, H1, rfl, kept, turn_tuple a _, ⟨_, Heap.get?_push_size _ rfl, rfl, rfl⟩, new, q _ fun H2 e => .inr ⟨rfl, SqT.of (e _ hq)⟩⟩
theorem for_seq {K : PySem.W.Frag} {a : Addr} {xs : List V} {J : It} {g : TG} {tb : TS} {D : Ends} {σ : L2.St} {H : Hp} (Pv : Nat → L2.St → Hp → Prop) (h0 : Pv 0 σ H) (hl : ∀ i σ H, Pv i σ H → StandsAs K a xs J H)
    (hs : ∀ i x σ H, xs[i]? = some x → Pv i σ H → g x σ H fun σ2 H2 => tb { D with nx := Pv (i + 1), ct := Pv (i + 1), bk := D.nx } σ2 H2) (hd : ∀ σ H, Pv xs.length σ H → D.nx σ H) :
    ∃ W : Nat → Nat → L2.St → Hp → Prop, (∃ m, W 0 m σ H) ∧ ∀ i m σ H, W i m σ H →
      (J.stop i H ∧ D.nx σ H) ∨ (J.go i H ∧ ∃ N : L2.St → Hp → Prop, (∀ σ' H', N σ' H' → ∃ m', m' < m ∧ W (i + 1) m' σ' H') ∧ ∀ x H', J.yld i H x H' → g x σ H' fun σ2 H2 => tb { D with nx := N, ct := N, bk := D.nx } σ2 H2) := by
  refine ⟨fun i m σ H => m + i = xs.length ∧ Pv i σ H, ⟨xs.length, rfl, h0⟩, ?_⟩
  rintro i m σ H ⟨hm, p⟩
  have s := hl i σ H p
  cases m with
  | zero =>
    obtain rfl : i = xs.length := by omega
    exact .inl ⟨s.stop (Nat.le_refl _), hd σ H p⟩
  | succ m =>
    have lt : i < xs.length := by omega
    refine .inr ⟨s.go (List.getElem?_eq_getElem lt), Pv (i + 1), fun σ' H' p' => ⟨m, Nat.lt_succ_self m, by omega, p'⟩, fun x H' y => ?_⟩
    obtain ⟨rfl, hx⟩ := s.yld y
    exact hs i x σ _ hx p
/-! ### a class of refusals -/
structure ExcC (K : PySem.W.Frag) (mg : Str → Option Value) (x : Str) (C : Addr) : Prop where
  g : mg x = some (.ref C)
  x : PySem.W.excIn K C [.type "ValueError", .type "Exception", .type "BaseException", .type "object"] "ValueError.__new__" = true
  k : PySem.W.keepIn K (.ref C) = true
  b : PySem.W.subIn K (.ref C) (.type "BaseException") = some true
  t : PySem.W.typeIn K (.ref C) = some (.type "type")
/-! ### pieces_of -/
abbrev sPieces : Stmt := topS 17
abbrev nPieces : List Str := ["plan", "pieces", "first", "turns", "many", "past"]
theorem scPieces : FnScope nPieces ["plan"] (defScope sPieces) := ⟨rfl, rfl, rfl, by decide +kernel, rfl, by decide +kernel, by decide +kernel⟩
abbrev PieceT := Int × Option Int × List PyData
def optD : Option Int → PyData
  | some i => .int i
  | none => .none
def pieceD (x : PieceT) : PyData := .tuple [.int x.1, optD x.2.1, .tuple x.2.2]
def turnsD (d : PyData) : List PyData := match rowsD d with
  | some (t :: _) => (rowsD t).getD []
  | _ => []
def pastO (f : Int) : PyData → Option Int
  | .int m => some (f + m)
  | _ => none
def pcs : Int → List PyData → List PieceT
  | _, [] => []
  | f, d :: ds => (f, pastO f (sndD d), turnsD d) :: pcs (f + worth (sndD d)) ds
theorem pcs_snoc : ∀ (f : Int) (ds : List PyData) (d : PyData), pcs f (ds ++ [d]) = pcs f ds ++ [(f + sumSnd ds, pastO (f + sumSnd ds) (sndD d), turnsD d)]
  | f, [], d => by
    have e : f + sumSnd [] = f := Int.add_zero f
    rw [e]
    rfl
  | f, c :: ds, d => by
    have e : f + sumSnd (c :: ds) = f + worth (sndD c) + sumSnd ds := by
      show f + (worth (sndD c) + sumSnd ds) = _
      omega
    rw [e]
    show _ :: pcs _ (ds ++ [d]) = _ :: (pcs _ ds ++ _)
    rw [pcs_snoc]
def piecesOf (d : PyData) : List PieceT := pcs 0 ((rowsD d).getD [])
def spPieces (P1 P2 C : Addr) : Sp := fun vs H Q E => ∃ v d, vs = [v] ∧ Rp H v d ∧ Tb P1 P2 H ∧ (isPlan d = false → ∀ H', Ex H H' → Tb P1 P2 H' → E (.ref C) none H') ∧
  (isPlan d = true → ∀ p H', Ex H H' → Tb P1 P2 H' → H p = none → Rp H' (.ref p) (.list ((piecesOf d).map pieceD)) → Q (.ref p) H')
theorem piece_at2 {H : Hp} {x : V} {d : PyData} (hp : isPiece d = true) (hR : Rp H x d) : ∃ b vt vm t m, x = .ref b ∧ StSeq H b [vt, vm] ∧ Rp H vt t ∧ Rp H vm m ∧ rowsD d = some [t, m] ∧ isTurns t = true ∧ isMany m = true := by
  obtain ⟨t, m, e, ht, hm⟩ := piece_parts hp
  obtain ⟨b, xs, rfl, hA, ho⟩ := hR.rows e
  cases hA with
  | cons h1 h2 =>
    cases h2 with
    | cons h3 h4 =>
      cases h4
      exact ⟨b, _, _, t, m, rfl, ⟨ho⟩, h1, h3, e, ht, hm⟩
theorem pieces_put {D : Addr} {ys : List V} {H2 H3 : Hp} {vs : List V} (eD : H2 D = some (.lst vs)) (s3 : Same H2 H3) {p : Addr} (np : H3 p = none) : upd H3 p (.tup ys) D = some (.lst vs) ∧
    Same (Hw (fun b => b = D) H3) (Hw (fun b => b = D) (upd (upd H3 p (.tup ys)) D (.lst (vs ++ [.ref p])))) ∧ Hw (fun b => b = D) (upd (upd H3 p (.tup ys)) D (.lst (vs ++ [.ref p]))) p = some (.tup ys) := by
  have e3 := s3 D _ eD
  have npD : p ≠ D := fun z => by rw [z, e3] at np; cases np
  have e4 : upd H3 p (.tup ys) D = some (.lst vs) := by rw [upd_ne (Ne.symm npD)]; exact e3
  rw [hw_upd (W := fun b => b = D) (a := D) rfl]
  refine ⟨e4, Same.hw (same_upd np), ?_⟩
  rw [Hw.at (W := fun b => b = D) npD]
  exact upd_same
/-- a def that may raise, called by its name -/
structure CalX (P : Program) (w : World) (K : PySem.W.Frag) (mg : Str → Option Value) (base : Heap) (k : Nat) (x : Str) (ps : List Str) (sp : Sp) : Prop where
  ex : ∃ f fd, mg x = some (.ref f) ∧ PySem.W.keepIn K (.ref f) = true ∧ Binds K fd ps [] ∧ FnOk P w K mg base (L2.CX P w) k f fd ps sp
theorem pe_calX {X : Cx} {k : Nat} {x : Str} {ps : List Str} {sp : Sp} {E : XK} {p pos : Pos} {e : Expr} {es : List Expr} {t : TA} (C : CalX X.prog X.w X.K X.mg X.base k x ps sp) (hr : Room k X.A) (hg : Gl X x) (hx : Passes (L2.CX X.prog X.w) X E) (ha : PA X (e :: es) t)
    (hdb : (x == ("__debug__" : Str)) = false := by decide) (he : starEach (e :: es) X.env = (false, eval e X.env) :: starEach es X.env := by rfl) (hpl : (backTo pos (starEach es X.env)).any (·.1) = false := by rfl) : PE X (.Call (.Name x p) (e :: es) [] pos) (tCall sp [] E t) := by
  obtain ⟨f, fd, a1, a2, a3, a4⟩ := C.ex
  exact pe_call a4 hr hg a1 a2 a3 .nil hx ha hdb he hpl
theorem CalX.mono {P : Program} {w : World} {K : PySem.W.Frag} {mg : Str → Option Value} {base : Heap} {j k : Nat} {x : Str} {ps : List Str} {sp : Sp} (C : CalX P w K mg base j x ps sp) (h : j ≤ k) : CalX P w K mg base k x ps sp := by
  obtain ⟨f, fd, a1, a2, a3, a4⟩ := C.ex
  exact ⟨f, fd, a1, a2, a3, a4.mono h⟩
abbrev sCheck : Stmt := topS 16
theorem scCheck : FnScope ["thing"] ["thing"] (defScope sCheck) := ⟨rfl, rfl, rfl, by decide +kernel, rfl, by decide +kernel, by decide +kernel⟩
def spCheck (P1 P2 C : Addr) : Sp := fun vs H Q E => ∃ v d, vs = [v] ∧ Rp H v d ∧ Tb P1 P2 H ∧ (isPlan d = false → ∀ H', Ex H H' → Tb P1 P2 H' → E (.ref C) none H') ∧ (isPlan d = true → ∀ H', Ex H H' → Tb P1 P2 H' → Q .non H')
section
variable {P : Program} {w : World} {K : PySem.W.Frag} {mg : Str → Option Value} {base : Heap}
theorem ok_check {f P1 P2 C : Addr} {fd : FuncData} (F : Fun K "check_plan" "check_plan" sCheck f fd) (XP : ExcC K mg "NoPlan" C) (CP : Cal P w K mg base 7 "is_plan" ["thing"] (spTab P1 P2 isPlan)) :
    FnOk P w K mg base (L2.CX P w) 8 f fd ["thing"] (spCheck P1 P2 C) := by
  refine F.okX scCheck (fun vs H Q E ⟨v, d, e, _⟩ => by rw [e]; rfl) (fun cdv A outer s H vs Q E hr h => ?_)
  obtain ⟨v, d, rfl, hR, hT, qE, q⟩ := h
  refine ⟨_, (pss_one (ps_if (pt_not (pt_val (pe_cal CP hr (by rfl) (pa_cons (pv 0) pa_nil)))) (pss_one (ps_raise rfl (takes_of rfl rfl rfl rfl) (pmk_own PySem.F.excBase_ValueError XP.x XP.g XP.k (raises_own XP.b XP.t) rfl))) pss_nil)), ?_⟩
  refine ⟨v, rfl, v, d, rfl, hR, hT, fun H1 e1 tb1 => ⟨isPlan d, rfl, ?_⟩⟩
  cases hp : isPlan d with
  | false => exact iteT (qE hp H1 e1 tb1)
  | true => exact iteF (q hp H1 e1 tb1)
theorem ok_pieces {f P1 P2 C : Addr} {fd : FuncData} (F : Fun K "pieces_of" "pieces_of" sPieces f fd) (T : Nm mg) (CK : CalX P w K mg base 8 "check_plan" ["thing"] (spCheck P1 P2 C)) :
    FnOk P w K mg base (L2.CX P w) 9 f fd ["plan"] (spPieces P1 P2 C) := by
  refine F.okX scPieces (fun vs H Q E ⟨v, d, e, _⟩ => by rw [e]; rfl) (fun cdv A outer s H vs Q E hr h => ?_)
  obtain ⟨v, d, rfl, hR, hT, qE, q⟩ := h
  have nd := scPieces.nd
  refine ⟨_, (pss_cons (ps_expr (pe_calX CK hr (by rfl) (passes_call (takes_of rfl rfl rfl rfl) fun _ _ _ _ h => h) (pa_cons (pv 0) pa_nil))) (PSs.nox (pss_cons (ps_set (i := 1) nd rfl (.inl rfl) (pe_lst pa_nil))
    (pss_cons (ps_set (i := 2) nd rfl (.inl rfl) pe_int)
    (pss_cons (ps_for PassesOwn.never rfl (pi_seqW (pv 0)) (pg_seq rfl (pgs_cons (pg_name (i := 3) nd rfl (.inl rfl)) (pgs_cons (pg_name (i := 4) nd rfl (.inl rfl)) pgs_nil))) (pss_cons (ps_set (i := 5) nd rfl (.inl rfl) (pe_ifExp (pt_cmp (pc_isN (pv 4))) pe_non (pe_op op_add (pv 2) (pv 4))))
    (pss_cons (ps_expr (pe_bm PySem.F.plainAttrs_list PySem.F.slot_list_append PySem.F.type_list_append mt_append (pv 1) (pa_cons (pe_tup (pa_cons (pv 2) (pa_cons (pv 5) (pa_cons (pe_callTy call_tuple_of (by rfl) T.tuple PyProof.Rows.boot_tuple (pa_cons (pv 3) pa_nil)) pa_nil)))) pa_nil)))
    (pss_one (ps_set (i := 2) nd rfl (.inl rfl) (pv 5))))))
    (pss_one (ps_ret (pv 1)))))))), ?_⟩
  refine ⟨v, rfl, v, d, rfl, hR, hT, qE, fun hp H1 e1 tb1 => ?_⟩
  · skip
    have hR1 := Rp.ex e1 d v hR
    obtain ⟨ds, hds⟩ : ∃ ds, rowsD d = some ds := by
      cases z : rowsD d with
      | none => unfold isPlan at hp; rw [z] at hp; cases hp
      | some ds => exact ⟨ds, rfl⟩
    have val : isPlan d = isPlanL ds := by unfold isPlan; rw [hds]
    have hp' := hp
    rw [val] at hp'
    unfold isPlanL at hp'
    simp only [Bool.and_eq_true, decide_eq_true_eq, Bool.not_eq_true'] at hp'
    obtain ⟨⟨⟨⟨l1, l8⟩, hpc⟩, hno⟩, hsum⟩ := hp'
    obtain ⟨a, xs, rfl, hA, hso⟩ := hR1.rows hds
    have hst : StSeq H1 a xs := ⟨hso⟩
    have hlen := hA.length
    refine ⟨Nat.zero_le _, fun D hD => ?_⟩
    have eD0 : (upd H1 D (.lst [])) D = some (.lst []) := upd_same
    have s0 : Same H1 (Hw (fun b => b = D) (upd H1 D (.lst []))) := fun b o e => by
      rw [Hw.at fun z => by rw [z, hD] at e; cases e]
      exact same_upd hD b o e
    generalize hH0 : upd H1 D (.lst []) = H0 at eD0 s0
    have ex0 : ∀ {H2 : Hp}, Same H1 (Hw (fun b => b = D) H2) → Ex H1 H2 := fun {H2} s => Ex.of fun b o e => Hw.sub _ _ _ _ (s b o e)
    have naD : a ≠ D := fun z => by
      rcases hso with z2 | z2 <;> (rw [z, hD] at z2; cases z2)
    have stay : ∀ {H2 : Hp} {o : HO}, Same H1 (Hw (fun b => b = D) H2) → H0 a = some o → H2 a = some o := fun {H2 o} s ho => by
      rw [← hH0, upd_ne naD] at ho
      exact Hw.sub _ _ _ _ (s _ _ ho)
    show tSeq _ _ _ [some (.ref a), some (.ref D), none, none, none, none] H0
    refine ⟨.ref a, rfl, a, xs, rfl, hst.ex (ex0 s0), fun J hJ => for_seq (K := K) (a := a) (xs := xs) (fun i σ H2 => ∃ fv y3 y4 y5 vs, σ = [some (.ref a), some (.ref D), some fv, y3, y4, y5] ∧ (i < ds.length → fv = .int (sumSnd (ds.take i))) ∧ Same H1 (Hw (fun b => b = D) H2) ∧
        H2 D = some (.lst vs) ∧ vs.length = i ∧ RpAll (Hw (fun b => b = D) H2) vs ((pcs 0 (ds.take i)).map pieceD))
      ⟨.int 0, none, none, none, [], rfl, fun _ => rfl, s0, eD0, rfl, .nil⟩ (fun i σ H2 ⟨_, _, _, _, _, _, _, e, _⟩ => hJ H2 fun o ho => stay e ho) (fun i x σ H2 hx ⟨fv, y3, y4, y5, vs, es, hfv, s2, eD, lv, hv⟩ => ?_) (fun σ H2 ⟨fv, y3, y4, y5, vs, es, _, s2, eD, lv, hv⟩ => ?_)⟩
    · subst es
      obtain ⟨dx, hdx, hRx⟩ := hA.get hx
      have li : i < ds.length := by
        obtain ⟨z, _⟩ := List.getElem?_eq_some_iff.mp hdx
        exact z
      obtain rfl := hfv li
      obtain ⟨b, vt, vm, t, m, rfl, hsb, hvt, hvm, hrx, htu, hma⟩ := piece_at2 (all_get hpc hdx) (Rp.sm s2 hRx)
      have hsnd : sndD dx = m := sndD_two hrx
      obtain ⟨ts, hts⟩ : ∃ ts, rowsD t = some ts := by
        cases z : rowsD t with
        | none => unfold isTurns at htu; rw [z] at htu; cases htu
        | some ts => exact ⟨ts, rfl⟩
      have htd : turnsD dx = ts := by unfold turnsD; rw [hrx]; show (rowsD t).getD [] = ts; rw [hts]; rfl
      obtain ⟨t0, zs, rfl, hzs, hto⟩ := hvt.rows hts
      refine ⟨b, [.ref t0, vm], rfl, hsb.ex (Ex.of (Hw.sub _ _)), rfl, .ref t0, [vm], rfl, vm, [], rfl, rfl, ?_⟩
      have hS := sum_step hdx
      have epc : (pcs 0 (ds.take (i + 1))).map pieceD = (pcs 0 (ds.take i)).map pieceD ++ [pieceD (sumSnd (ds.take i), pastO (sumSnd (ds.take i)) m, ts)] := by
        rw [List.take_add_one, hdx]
        show (pcs 0 (ds.take i ++ [dx])).map pieceD = _
        rw [pcs_snoc, List.map_append, Int.zero_add, hsnd, htd]
        rfl
      generalize hSS : sumSnd (ds.take i) = S at hS epc ⊢
      obtain ⟨pv, hp1, hp2, hc⟩ : ∃ pv, (∀ H3, Rp H3 pv (optD (pastO S m))) ∧ (i + 1 < ds.length → pv = .int (sumSnd (ds.take (i + 1)))) ∧ ((vm = .non ∧ pv = .non) ∨ ∃ k, vm = .int k ∧ pv = .int (S + k)) := by
        rw [hsnd] at hS
        cases hvm with
        | non =>
          refine ⟨.non, fun _ => .non, fun lt => ?_, .inl ⟨rfl, rfl⟩⟩
          have z := List.any_eq_false.mp hno dx (List.mem_of_getElem? (i := i) (by rw [List.getElem?_take_of_lt (by omega : i < ds.length - 1)]; exact hdx))
          rw [hsnd] at z
          exact absurd rfl z
        | int k => exact ⟨.int (S + k), fun _ => .int _, fun _ => by rw [hS]; rfl, .inr ⟨k, rfl, rfl⟩⟩
        | _ => cases hma
      have fin : ∀ (l : Addr) (H3 : Hp), Same H2 H3 → Hw (fun b => b = D) H3 l = some (.tup zs) → ∀ p, H3 p = none → upd H3 p (.tup [.int S, pv, .ref l]) D = some (.lst vs) ∧ Same H1 (Hw (fun b => b = D) (upd (upd H3 p (.tup [.int S, pv, .ref l])) D (.lst (vs ++ [.ref p])))) ∧
          RpAll (Hw (fun b => b = D) (upd (upd H3 p (.tup [.int S, pv, .ref l])) D (.lst (vs ++ [.ref p])))) (vs ++ [.ref p]) ((pcs 0 (ds.take (i + 1))).map pieceD) := fun l H3 s3 el p np => by
        obtain ⟨e4, s5, eb⟩ := pieces_put (ys := [.int S, pv, .ref l]) eD s3 np
        have s25 := Same.trans (Same.hw (W := fun b => b = D) s3) s5
        refine ⟨e4, Same.trans s2 s25, ?_⟩
        rw [epc]
        exact (RpAll.sm s25 hv).snoc (.tup eb (.cons (.int S) (.cons (hp1 _) (.cons (.tup (s5 _ _ el) (RpAll.sm s25 hzs)) .nil))))
      have l3 : ∀ l : Addr, [V.int S, pv, .ref l].length ≤ sizeLine := fun l => small_le (by show 3 ≤ 1000; decide)
      have lvs : vs.length < sizeLine := small1000 (by omega)
      have lv1 : ∀ p : Addr, (vs ++ [V.ref p]).length = i + 1 := fun p => by rw [List.length_append, lv]; rfl
      have nlD : ∀ {l : Addr}, H2 l = none → Hw (fun b => b = D) (upd H2 l (.tup zs)) l = some (.tup zs) := fun {l} nl => by
        rw [Hw.at (W := fun b => b = D) fun z => by rw [z, eD] at nl; cases nl]
        exact upd_same
      rcases hc with ⟨rfl, rfl⟩ | ⟨k, rfl, rfl⟩
      · refine ⟨.non, rfl, _, rfl, iteT ⟨.ref D, rfl, .inl ⟨rfl, _, SqL.of eD⟩, .int S, rfl, .non, rfl, .ref t0, rfl, t0, zs, rfl, ?_⟩⟩
        rcases hto with ht | ht
        · refine .inl ⟨SqL.of (Hw.sub _ _ _ _ ht), fun l nl => ⟨l3 l, fun p np => ?_⟩⟩
          obtain ⟨e4, a1, a2⟩ := fin l _ (same_upd nl) (nlD nl) p np
          exact ⟨D, vs, .ref p, rfl, rfl, e4, lvs, .non, rfl, .non, _, _, _, _, rfl, hp2, a1, upd_same, lv1 p, a2⟩
        · refine .inr ⟨SqT.of (Hw.sub _ _ _ _ ht), l3 t0, fun p np => ?_⟩
          obtain ⟨e4, a1, a2⟩ := fin t0 H2 (Same.refl H2) ht p np
          exact ⟨D, vs, .ref p, rfl, rfl, e4, lvs, .non, rfl, .non, _, _, _, _, rfl, hp2, a1, upd_same, lv1 p, a2⟩
      · refine ⟨.int k, rfl, _, rfl, iteF ⟨.int S, rfl, .int k, rfl, S, k, rfl, rfl, .ref D, rfl, .inl ⟨rfl, _, SqL.of eD⟩, .int S, rfl, .int (S + k), rfl, .ref t0, rfl, t0, zs, rfl, ?_⟩⟩
        rcases hto with ht | ht
        · refine .inl ⟨SqL.of (Hw.sub _ _ _ _ ht), fun l nl => ⟨l3 l, fun p np => ?_⟩⟩
          obtain ⟨e4, a1, a2⟩ := fin l _ (same_upd nl) (nlD nl) p np
          exact ⟨D, vs, .ref p, rfl, rfl, e4, lvs, .int (S + k), rfl, .int (S + k), _, _, _, _, rfl, hp2, a1, upd_same, lv1 p, a2⟩
        · refine .inr ⟨SqT.of (Hw.sub _ _ _ _ ht), l3 t0, fun p np => ?_⟩
          obtain ⟨e4, a1, a2⟩ := fin t0 H2 (Same.refl H2) ht p np
          exact ⟨D, vs, .ref p, rfl, rfl, e4, lvs, .int (S + k), rfl, .int (S + k), _, _, _, _, rfl, hp2, a1, upd_same, lv1 p, a2⟩
    · subst es
      rw [hlen, List.take_length] at hv
      have hpo : piecesOf d = pcs 0 ds := by unfold piecesOf; rw [hds]; rfl
      exact ⟨.ref D, rfl, q hp D H2 (e1.trans (ex0 s2)) (tb1.same fun b o e => Hw.sub _ _ _ _ (s2 b o e)) (e1.free hD) (by rw [hpo]; exact .lst eD (RpAll.sm (Hw.sub _ _) hv))⟩
end
end CL
set_option Elab.async false
set_option linter.all false
set_option maxRecDepth 100000
set_option maxHeartbeats 4000000
namespace CL
open PySem PySem.Spec PyProof.Rows L2 GE
abbrev sMany : Stmt := topS 18
theorem scMany : FnScope ["pieces"] ["pieces"] (defScope sMany) := ⟨rfl, rfl, rfl, by decide +kernel, rfl, by decide +kernel, by decide +kernel⟩
abbrev sPieceNo : Stmt := topS 19
theorem scPieceNo : FnScope ["pieces", "person", "at"] ["pieces", "person"] (defScope sPieceNo) := ⟨rfl, rfl, rfl, by decide +kernel, rfl, by decide +kernel, by decide +kernel⟩
/-- the pieces stand as a list at a -/
structure PcsAt (H : Hp) (a : Addr) (ps : List PieceT) : Prop where
  ex : ∃ xs, H a = some (.lst xs) ∧ RpAll H xs (ps.map pieceD)
theorem PcsAt.of {H : Hp} {v : V} {ps : List PieceT} (h : Rp H v (.list (ps.map pieceD))) : ∃ a, v = .ref a ∧ PcsAt H a ps := by
  cases h with
  | lst h1 h2 => exact ⟨_, rfl, _, h1, h2⟩
def optV : Option Int → V
  | some i => .int i
  | none => .non
/-- a piece that stands -/
theorem pc_at {H : Hp} {a : Addr} {ps : List PieceT} {i : Nat} {pc : PieceT} (h : PcsAt H a ps) (e : ps[i]? = some pc) : ∃ xs b t zs, StSeq H a xs ∧ xs.length = ps.length ∧ xs[i]? = some (.ref b) ∧ H b = some (.tup [.int pc.1, optV pc.2.1, .ref t]) ∧ H t = some (.tup zs) ∧ RpAll H zs pc.2.2 := by
  obtain ⟨xs, h1, h2⟩ := h.ex
  have hl : xs.length = ps.length := by rw [h2.length, List.length_map]
  have hi : i < xs.length := by
    obtain ⟨z, _⟩ := List.getElem?_eq_some_iff.mp e
    omega
  obtain ⟨d, hd, hr⟩ := h2.get (List.getElem?_eq_getElem hi)
  obtain rfl : d = pieceD pc := by
    rw [List.getElem?_map, e] at hd
    exact (Option.some.inj hd).symm
  obtain ⟨f, po, ts⟩ := pc
  generalize hv : xs[i] = v at hr
  cases hr with
  | tup hb hys =>
    cases hys with
    | cons k1 k2 =>
      cases k2 with
      | cons k3 k4 =>
        cases k4 with
        | cons k5 k6 =>
          cases k6
          cases k1
          cases k5 with
          | tup ht hz =>
            have z : ∀ v, Rp H v (optD po) → v = optV po := fun v h => by cases po <;> cases h <;> rfl
            rw [z _ k3] at hb
            exact ⟨xs, _, _, _, ⟨.inl h1⟩, hl, by rw [List.getElem?_eq_getElem hi, hv], hb, ht, hz⟩
def spMany : Sp := fun vs H Q _ => ∃ a ps pc, vs = [.ref a] ∧ PcsAt H a (ps ++ [pc]) ∧ Q (optV pc.2.1) H
section
variable {P : Program} {w : World} {K : PySem.W.Frag} {mg : Str → Option Value} {base : Heap}
theorem ok_many {f : Addr} {fd : FuncData} (F : Fun K "many_in" "many_in" sMany f fd) : FnOk P w K mg base CX0 1 f fd ["pieces"] spMany := by
  refine F.ok scMany (fun vs H Q E ⟨a, ps, pc, e, _⟩ => by rw [e]; rfl) (fun cdv A outer s H vs Q E hr h => ?_)
  obtain ⟨a, ps, pc, rfl, hp, q⟩ := h
  refine ⟨_, pss_one (ps_ret (pe_ix ix_seq (pe_ix ix_seq (pv 0) (pe_un un_neg pe_int) (fun _ _ => rfl)) pe_int (fun _ _ => rfl))), ?_⟩
  obtain ⟨xs, b, t, zs, st, hl, hx, hb, _⟩ := pc_at (i := ps.length) (pc := pc) hp (by simp)
  obtain ⟨ys, z, rfl⟩ : ∃ ys z, xs = ys ++ [z] := ⟨xs.dropLast, xs.getLast (by intro z; rw [z] at hl; simp at hl), (List.dropLast_concat_getLast _).symm⟩
  have ey : ys.length = ps.length := by simpa using hl
  obtain rfl : z = .ref b := by
    rw [← ey] at hx
    simpa using hx
  have e1 : atI (ys ++ [V.ref b]) (-1) = some (.ref b) := atI_last _ _
  refine ⟨.ref a, rfl, 1, rfl, ?_⟩
  have fin : rIx K (.ref b) (.int 1) H Q := rix_of (i := 1) ⟨.inr hb⟩ rfl q
  rcases st.or with h | h
  · exact .inl ⟨a, _, -1, .ref b, rfl, rfl, SqL.of h, e1, fin⟩
  · exact .inr (.inl ⟨a, _, -1, .ref b, rfl, rfl, SqT.of h, e1, fin⟩)
/-- whether one of that number comes by the piece, or by one ahead of it -/
def comes (n : Int) (x : PieceT) : Bool := match x.2.1 with
  | none => true
  | some m => decide (n < m)
def spPieceNo : Sp := fun vs H Q _ => ∃ a n ps pc, vs = [.ref a, .int n] ∧ PcsAt H a ps ∧ ps.find? (comes n) = some pc ∧ ∀ i : Nat, ps[i]? = some pc → Q (.int (i : Int)) H
theorem ok_pieceNo {f : Addr} {fd : FuncData} (F : Fun K "piece_number" "piece_number" sPieceNo f fd) : FnOk P w K mg base CX0 1 f fd ["pieces", "person"] spPieceNo := by
  refine F.ok scPieceNo (fun vs H Q E ⟨a, n, ps, pc, e, _⟩ => by rw [e]; rfl) (fun cdv A outer s H vs Q E hr h => ?_)
  obtain ⟨a, n, ps, pc, rfl, hp, hf, q⟩ := h
  have nd := scPieceNo.nd
  refine ⟨_, (pss_cons (ps_set (i := 2) nd rfl (.inl rfl) pe_int) (pss_cons (ps_while PassesOwn.never (PW.pt (pw_and (pt_cmp (pc_notN (pe_ix ix_seq (pe_ix ix_seq (pv 0) (pv 2) (fun _ _ => rfl)) pe_int (fun _ _ => rfl)))) (pw_and1 (pt_cmpR op_le (pe_ix ix_seq (pe_ix ix_seq (pv 0) (pv 2) (fun _ _ => rfl)) pe_int (fun _ _ => rfl)) (pv 1) (nomark _))))) (pss_one (ps_aug (i := 2) nd rfl (.inl rfl) pe_int ip_add)))
    (pss_one (ps_ret (pv 2))))), ?_⟩
  refine ⟨fun m σ H' => ∃ i : Nat, m + i = ps.length ∧ σ = [some (.ref a), some (.int n), some (.int (i : Int))] ∧ H' = H ∧ (ps.drop i).find? (comes n) = some pc, ⟨ps.length, 0, rfl, rfl, rfl, hf⟩, fun m σ H' hW => ?_⟩
  obtain ⟨i, hm, rfl, rfl, hfi⟩ := hW
  have li : i < ps.length := by
    by_cases z : i < ps.length
    · exact z
    · rw [List.drop_eq_nil_of_le (by omega)] at hfi
      cases hfi
  obtain ⟨x, hx⟩ : ∃ x, ps[i]? = some x := ⟨_, List.getElem?_eq_getElem li⟩
  have ed : ps.drop i = x :: ps.drop (i + 1) := by
    rw [List.drop_eq_getElem_cons li]
    rw [List.getElem?_eq_getElem li] at hx
    rw [Option.some.inj hx]
  obtain ⟨xs, b, t, zs, st, hl, hxi, hb, ht, hz⟩ := pc_at hp hx
  have go : ∀ {R : VK}, R (optV x.2.1) H' → rIx K (.ref a) (.int (i : Int)) H' fun y H1 => rIx K y (.int 1) H1 R := fun {R} h => rix_of st hxi (rix_of (i := 1) ⟨.inr hb⟩ rfl h)
  rw [ed, List.find?_cons] at hfi
  refine ⟨.ref a, rfl, .int (i : Int), rfl, go ?_⟩
  cases hpo : x.2.1 with
  | none =>
    have hc : comes n x = true := by unfold comes; rw [hpo]
    rw [hc] at hfi
    obtain rfl : x = pc := Option.some.inj hfi
    exact ⟨_, rfl, iteF ⟨.int (i : Int), rfl, q i hx⟩⟩
  | some k =>
    refine ⟨_, rfl, iteT ⟨.ref a, rfl, .int (i : Int), rfl, go ?_⟩⟩
    rw [hpo]
    refine ⟨.int n, rfl, k, n, rfl, rfl, decide (k ≤ n), rfl, ?_⟩
    have hc : comes n x = decide (n < k) := by unfold comes; rw [hpo]
    rw [hc] at hfi
    refine ite2 (fun e => ?_) (fun e => ?_)
    · have e1 : decide (n < k) = false := decide_eq_false (by have := of_decide_eq_true e; omega)
      rw [e1] at hfi
      refine ⟨fun σ' H'' => σ' = [some (.ref a), some (.int n), some (.int ((i : Int) + 1))] ∧ H'' = H', fun σ' H'' z => ⟨m - 1, by omega, i + 1, by omega, z.1, z.2, hfi⟩, ?_⟩
      exact ⟨.int (i : Int), rfl, i, 1, rfl, rfl, rfl, rfl⟩
    · have e1 : decide (n < k) = true := decide_eq_true (by
        have : ¬ k ≤ n := fun z => e (decide_eq_true z)
        omega)
      rw [e1] at hfi
      obtain rfl : x = pc := Option.some.inj hfi
      exact ⟨.int (i : Int), rfl, q i hx⟩
/-- the number of its piece, its place in the round -/
def spTurnAt : Sp := fun vs H Q _ => ∃ a n ps pc, vs = [.ref a, .int n] ∧ PcsAt H a ps ∧ ps.find? (comes n) = some pc ∧ 0 < pc.2.2.length ∧ ∀ (i : Nat) p H', ps[i]? = some pc → Same H H' → H' p = some (.tup [.int (i : Int), .int ((n - pc.1) % (pc.2.2.length : Int))]) → Q (.ref p) H'
def spPatAt : Sp := fun vs H Q _ => ∃ a n ps pc d, vs = [.ref a, .int n] ∧ PcsAt H a ps ∧ ps.find? (comes n) = some pc ∧ 0 < pc.2.2.length ∧ pc.2.2[((n - pc.1) % (pc.2.2.length : Int)).toNat]? = some d ∧ ∀ v H', Same H H' → Rp H' v d → Q v H'
end
end CL
set_option Elab.async false
set_option linter.all false
set_option maxRecDepth 100000
set_option maxHeartbeats 4000000
namespace CL
open PySem PySem.Spec PyProof.Rows L2 GE
abbrev sCkM : Stmt := topS 20
theorem scCkM : FnScope ["pieces", "moment", "many"] ["pieces", "moment"] (defScope sCkM) := ⟨rfl, rfl, rfl, by decide +kernel, rfl, by decide +kernel, by decide +kernel⟩
/-- whether anything is the number of one that comes before past, or ever -/
def under : Option Int → Int → Bool
  | none, _ => true
  | some m, n => decide (n < m)
def personOk (past : Option Int) : PyData → Bool
  | .int n => decide (0 ≤ n) && under past n
  | _ => false
theorem personOk_int (past : Option Int) (n : Int) : personOk past (.int n) = (decide (0 ≤ n) && under past n) := rfl
def spCkP (C : Addr) : Sp := fun vs H Q E => ∃ a v ps pc d, vs = [.ref a, v] ∧ PcsAt H a (ps ++ [pc]) ∧ Rp H v d ∧ (personOk pc.2.1 d = false → ∀ H', Same H H' → E (.ref C) none H') ∧ (personOk pc.2.1 d = true → ∀ H', Same H H' → Q .non H')
/-- whether anything is a moment by which no more come than come -/
def upto : Option Int → Int → Bool
  | none, _ => true
  | some m, n => decide (n ≤ m)
def momentOk (past : Option Int) : PyData → Bool
  | .int n => decide (0 ≤ n) && decide (n ≤ GREAT) && upto past n
  | _ => false
theorem momentOk_int (past : Option Int) (n : Int) : momentOk past (.int n) = (decide (0 ≤ n) && decide (n ≤ GREAT) && upto past n) := rfl
def spCkM (C : Addr) : Sp := fun vs H Q E => ∃ a v ps pc d, vs = [.ref a, v] ∧ PcsAt H a (ps ++ [pc]) ∧ Rp H v d ∧ (momentOk pc.2.1 d = false → ∀ H', Same H H' → E (.ref C) none H') ∧ (momentOk pc.2.1 d = true → ∀ H', Same H H' → Q .non H')
section
variable {P : Program} {w : World} {K : PySem.W.Frag} {mg : Str → Option Value} {base : Heap}
theorem ok_ckm {f C : Addr} {fd : FuncData} (F : Fun K "check_moment" "check_moment" sCkM f fd) (T : Nm mg) (XN : ExcC K mg "NoMoment" C) (CM : Cal P w K mg base 1 "many_in" ["pieces"] spMany) (CW : Cal P w K mg base 1 "is_whole" ["thing"] (spOne isWhole)) :
    FnOk P w K mg base (L2.CX P w) 2 f fd ["pieces", "moment"] (spCkM C) := by
  refine F.okX scCkM (fun vs H Q E ⟨a, v, ps, pc, d, e, _⟩ => by rw [e]; rfl) (fun cdv A outer s H vs Q E hr h => ?_)
  obtain ⟨a, v, ps, pc, d, rfl, hp, hR, qE, q⟩ := h
  obtain ⟨tg, hgr⟩ := T.great
  have nd := scCkM.nd
  refine ⟨_, (pss_cons (ps_set (i := 2) nd rfl (.inl rfl) (pe_cal CM hr (by rfl) (pa_cons (pv 0) pa_nil)))
    (pss_one (ps_if (PW.pt (pw_or (pt_not (pt_val (pe_cal CW hr (by rfl) (pa_cons (pv 1) pa_nil)))) (pw_or (pt_not (pt_chain op_le op_le pe_int (pv 1) (pe_glob (v := .int GREAT) (by rfl) hgr ⟨_, rfl⟩))) (pw_or1 (PW.pt (pw_and (pt_cmp (pc_notN (pv 2))) (pw_and1 (pt_cmpR op_gt (pv 1) (pv 2) (nomark _))))))))) (pss_one (ps_raise rfl (takes_of rfl rfl rfl rfl) (pmk_own PySem.F.excBase_ValueError XN.x XN.g XN.k (raises_own XN.b XN.t) rfl))) pss_nil))), ?_⟩
  refine ⟨.ref a, rfl, a, ps, pc, rfl, hp, v, rfl, v, d, rfl, hR, fun H1 s1 => ⟨isWhole d, rfl, ?_⟩⟩
  cases hR with
  | int n =>
    refine iteF ⟨.int n, rfl, 0, n, rfl, rfl, decide (0 ≤ n), rfl, ite2 (fun e1 => ?_) (fun e1 => ?_)⟩
    · refine ⟨n, GREAT, rfl, rfl, decide (n ≤ GREAT), rfl, ?_⟩
      cases e2 : decide (n ≤ GREAT) with
      | true =>
        refine iteF ?_
        cases hpo : pc.2.1 with
        | none =>
          refine ⟨_, rfl, _, rfl, iteF (iteF ?_)⟩
          exact q (by rw [hpo, momentOk_int, e1, e2]; rfl) H1 s1
        | some m =>
          refine ⟨_, rfl, _, rfl, iteT ⟨.int n, rfl, .int m, rfl, n, m, rfl, rfl, decide (m < n), rfl, ?_⟩⟩
          refine ite2 (fun e3 => ?_) (fun e3 => ?_)
          · exact qE (by rw [hpo, momentOk_int, e1, e2]; exact decide_eq_false (by have := of_decide_eq_true e3; omega)) H1 s1
          · exact q (by rw [hpo, momentOk_int, e1, e2]; exact decide_eq_true (by have : ¬ m < n := fun z => e3 (decide_eq_true z); omega)) H1 s1
      | false => exact iteT (iteT (qE (by rw [momentOk_int, e1, e2]; rfl) H1 s1))
    · exact ⟨false, rfl, iteT (iteT (qE (by rw [momentOk_int, Bool.eq_false_iff.mpr e1]; rfl) H1 s1))⟩
  | _ => exact iteT (iteT (qE rfl H1 s1))
/-- the patience of a person, as the pieces have it -/
def patD (ps : List PieceT) (n : Int) : Option PyData := (ps.find? (comes n)).bind fun pc => pc.2.2[((n - pc.1) % (pc.2.2.length : Int)).toNat]?
/-- each that comes has its piece, with a patience -/
def HasP (ps : List PieceT) (n : Int) (e : PyData) : Prop := ∃ pp, ps.find? (comes n) = some pp ∧ 0 < pp.2.2.length ∧ pp.2.2[((n - pp.1) % (pp.2.2.length : Int)).toNat]? = some e
def spPatOf (P1 P2 C C2 : Addr) : Sp := fun vs H Q E => ∃ v u d c, vs = [v, u] ∧ Rp H v d ∧ Rp H u c ∧ Tb P1 P2 H ∧ (isPlan d = false → ∀ H', Ex H H' → Tb P1 P2 H' → E (.ref C) none H') ∧
  (isPlan d = true → ∃ ps pc, piecesOf d = ps ++ [pc] ∧ (personOk pc.2.1 c = false → ∀ H', Ex H H' → Tb P1 P2 H' → E (.ref C2) none H') ∧
    (personOk pc.2.1 c = true → ∃ n e, c = .int n ∧ HasP (piecesOf d) n e ∧ ∀ x H', Ex H H' → Tb P1 P2 H' → Rp H' x e → Q x H'))
end
end CL
set_option Elab.async false
set_option linter.all false
set_option pp.maxSteps 400
set_option maxRecDepth 100000
set_option maxHeartbeats 4000000
namespace CL
open PySem PySem.Spec PyProof.Rows L2 GE
abbrev sWid : Stmt := topS 25
theorem scWid : FnScope ["turns", "start", "bound", "widths", "patience", "opens"] ["turns", "start", "bound"] (defScope sWid) := ⟨rfl, rfl, rfl, by decide +kernel, rfl, by decide +kernel, by decide +kernel⟩
abbrev sEnd : Stmt := topS 24
abbrev nEnd : List Str := ["piece", "start", "bound", "stop", "first", "past", "turns", "end", "fits", "patience", "last"]
theorem scEnd : FnScope nEnd ["piece", "start", "bound", "stop"] (defScope sEnd) := ⟨rfl, rfl, rfl, by decide +kernel, rfl, by decide +kernel, by decide +kernel⟩
theorem sz5000 : 5000 ≤ sizeLine := by decide
/-- how many a window holds that one of that patience opens at x, 0 where it opens none -/
def wd (b : Option Int) (x : Int) : PyData → Int
  | .int p => match b with
    | none => p + 1
    | some m => if x + p ≤ m then p + 1 else 0
  | _ => 0
theorem pat_cases {t : PyData} (h : isPatience t = true) : t = .none ∨ ∃ p : Int, t = .int p ∧ 0 ≤ p ∧ p ≤ GREAT := by
  cases t with
  | none => exact .inl rfl
  | int i =>
    have h' : (decide (0 ≤ i) && decide (i ≤ GREAT)) = true := h
    simp only [Bool.and_eq_true, decide_eq_true_eq] at h'
    exact .inr ⟨i, rfl, h'.1, h'.2⟩
  | _ => cases h
theorem wd_nn {b : Option Int} {x : Int} {t : PyData} (h : isPatience t = true) : 0 ≤ wd b x t := by
  rcases pat_cases h with rfl | ⟨p, rfl, h0, _⟩
  · exact Int.le_refl 0
  · cases b with
    | none => show 0 ≤ p + 1; omega
    | some m =>
      show 0 ≤ if x + p ≤ m then p + 1 else 0
      split <;> omega
/-- a round of patiences that stands -/
structure TurnsAt (H : Hp) (t : Addr) (ts : List PyData) : Prop where
  ex : ∃ zs, H t = some (.tup zs) ∧ RpAll H zs ts
  pat : ∀ x ∈ ts, isPatience x = true
  lo : 1 ≤ ts.length
  hi : ts.length ≤ 8
theorem TurnsAt.same {H H' : Hp} {t : Addr} {ts : List PyData} (h : TurnsAt H t ts) (s : Same H H') : TurnsAt H' t ts := by
  obtain ⟨⟨zs, h1, h2⟩, h3, h4, h5⟩ := h
  exact ⟨⟨zs, s _ _ h1, RpAll.sm s h2⟩, h3, h4, h5⟩
theorem pat_val {H : Hp} {v : V} {t : PyData} (h : Rp H v t) (g : isPatience t = true) : (t = .none ∧ v = .non) ∨ ∃ p : Int, t = .int p ∧ v = .int p ∧ 0 ≤ p ∧ p ≤ GREAT := by
  rcases pat_cases g with rfl | ⟨p, rfl, h0, h1⟩
  · cases h; exact .inl ⟨rfl, rfl⟩
  · cases h; exact .inr ⟨p, rfl, rfl, h0, h1⟩
def spWid : Sp := fun vs H Q _ => ∃ t ts, ∃ start : Int, ∃ b : Option Int, vs = [.ref t, .int start, optV b] ∧ TurnsAt H t ts ∧ ∀ q H', Same H H' → H q = none → H' q = some (.lst ((ts.map (wd b start)).map V.int)) → Q (.ref q) H'
/-- the last number by which the same turns open windows -/
structure EndOk (past : Option Int) (ts : List PyData) (start : Int) (b : Option Int) (stop e : Int) : Prop where
  lo : start ≤ e
  hi : e ≤ stop
  pst : ∀ m, past = some m → e < m
  fit : ∀ m, b = some m → ∀ p : Int, PyData.int p ∈ ts → start ≤ m - p → e ≤ m - p
  from_ : e = stop ∨ past = some (e + 1) ∨ ∃ m p, b = some m ∧ PyData.int p ∈ ts ∧ e = m - p
def spEnd : Sp := fun vs H Q _ => ∃ a t ts, ∃ f start stop : Int, ∃ b past : Option Int, vs = [.ref a, .int start, optV b, .int stop] ∧ H a = some (.tup [.int f, optV past, .ref t]) ∧ TurnsAt H t ts ∧ start ≤ stop ∧ (∀ m, past = some m → start < m) ∧ ∀ e H', Same H H' → EndOk past ts start b stop e → Q (.int e) H'
section
variable {P : Program} {w : World} {K : PySem.W.Frag} {mg : Str → Option Value} {base : Heap}
theorem ok_wid {f : Addr} {fd : FuncData} (F : Fun K "window_widths" "window_widths" sWid f fd) : FnOk P w K mg base CX0 1 f fd ["turns", "start", "bound"] spWid := by
  refine F.ok scWid (fun vs H Q E ⟨t, ts, st0, b, e, _⟩ => by rw [e]; rfl) (fun cdv A outer s H vs Q E hr h => ?_)
  obtain ⟨t, ts, start, b, rfl, hT, q⟩ := h
  have nd := scWid.nd
  have sz := sz5000
  refine ⟨_, (pss_cons (ps_set (i := 3) nd rfl (.inl rfl) (pe_lst pa_nil))
    (pss_cons (ps_for PassesOwn.never rfl (pi_tup (pv 0)) (pg_name (i := 4) nd rfl (.inl rfl))
    (pss_cons (ps_set (i := 5) nd rfl (.inl rfl) (pe_and (pe_cmp (pc_notN (pv 4)) rfl) (pe_one (pe_or (pe_cmp (pc_isN (pv 2)) rfl) (pe_one (pe_cmpR op_le (pe_op op_add (pv 1) (pv 4)) (pv 2) (nomark _)))))))
    (pss_one (ps_expr (pe_bm PySem.F.plainAttrs_list PySem.F.slot_list_append PySem.F.type_list_append mt_append (pv 3) (pa_cons (pe_ifExp (pt_val (pv 5)) (pe_op op_add (pv 4) pe_int) pe_int) pa_nil))))))
    (pss_one (ps_ret (pv 3))))), ?_⟩
  obtain ⟨⟨zs, ht, hz⟩, hpat, lo, hi⟩ := hT
  refine ⟨Nat.zero_le _, fun D nD => ?_⟩
  have s0 := same_upd (o := .lst []) nD
  have e0 : (upd H D (.lst [])) D = some (.lst (([] : List Int).map V.int)) := upd_same
  generalize upd H D (.lst []) = H0 at s0 e0
  refine ⟨.ref t, rfl, t, rfl, ⟨zs, SqT.of (s0 _ _ ht)⟩, for_tup (xs := zs) (fun i σ H2 => ∃ y4 y5, σ = [some (.ref t), some (.int start), some (optV b), some (.ref D), y4, y5] ∧ Same H H2 ∧ H2 D = some (.lst (((ts.take i).map (wd b start)).map V.int)))
    ⟨none, none, rfl, s0, e0⟩ (fun i σ H2 _ ⟨_, _, _, s, _⟩ => SqT.of (s _ _ ht)) (fun i x σ H2 hx ⟨y4, y5, eσ, s2, eD⟩ => ?_) (fun σ H2 ⟨y4, y5, eσ, s2, eD⟩ => ?_)⟩
  · subst eσ
    obtain ⟨d, hd, hR⟩ := hz.get hx
    have ld : i < ts.length := (List.getElem?_eq_some_iff.mp hd).1
    have hlen : (((ts.take i).map (wd b start)).map V.int).length < sizeLine := by
      rw [List.length_map, List.length_map, List.length_take]
      omega
    have fin : ∀ {y5 : V}, ∃ y4 y5', ([some (.ref t), some (.int start), some (optV b), some (.ref D), some x, some y5] : L2.St) = [some (.ref t), some (.int start), some (optV b), some (.ref D), y4, y5'] ∧ Same H (upd H2 D (.lst (((ts.take i).map (wd b start)).map V.int ++ [.int (wd b start d)]))) ∧
        (upd H2 D (.lst (((ts.take i).map (wd b start)).map V.int ++ [.int (wd b start d)]))) D = some (.lst (((ts.take (i + 1)).map (wd b start)).map V.int)) := fun {y5} => by
      refine ⟨_, _, rfl, fun c o hc => ?_, ?_⟩
      · rw [upd_ne (fun z => by rw [z, nD] at hc; cases hc)]
        exact s2 _ _ hc
      · rw [upd_same, List.take_add_one, hd, List.map_append, List.map_append]
        rfl
    rcases pat_val hR (hpat d (List.mem_of_getElem? hd)) with ⟨rfl, rfl⟩ | ⟨p, rfl, rfl, h0, h1⟩
    · refine ⟨.non, rfl, false, rfl, iteF ?_⟩
      exact ⟨.ref D, rfl, .inl ⟨rfl, _, SqL.of eD⟩, .bl false, rfl, false, rfl, iteF ⟨D, _, .int 0, rfl, rfl, eD, hlen, fin⟩⟩
    · refine ⟨.int p, rfl, true, rfl, iteT ?_⟩
      cases b with
      | none =>
        refine ⟨.non, rfl, true, rfl, iteT ?_⟩
        exact ⟨.ref D, rfl, .inl ⟨rfl, _, SqL.of eD⟩, .bl true, rfl, true, rfl, iteT ⟨.int p, rfl, p, 1, rfl, rfl, D, _, .int (p + 1), rfl, rfl, eD, hlen, fin⟩⟩
      | some m =>
        refine ⟨.int m, rfl, false, rfl, iteF ?_⟩
        refine ⟨.int start, rfl, .int p, rfl, start, p, rfl, rfl, .int m, rfl, start + p, m, rfl, rfl, ?_⟩
        refine ⟨.ref D, rfl, .inl ⟨rfl, _, SqL.of eD⟩, .bl (decide (start + p ≤ m)), rfl, _, rfl, ?_⟩
        by_cases c : start + p ≤ m
        · have e : wd (some m) start (.int p) = p + 1 := if_pos c
          rw [e] at fin
          rw [decide_eq_true c]
          exact iteT ⟨.int p, rfl, p, 1, rfl, rfl, D, _, .int (p + 1), rfl, rfl, eD, hlen, fin⟩
        · have e : wd (some m) start (.int p) = 0 := if_neg c
          rw [e] at fin
          rw [decide_eq_false c]
          exact iteF ⟨D, _, .int 0, rfl, rfl, eD, hlen, fin⟩
  · subst eσ
    have lz : zs.length = ts.length := hz.length
    rw [lz, List.take_length] at eD
    exact ⟨.ref D, rfl, q D H2 s2 nD eD⟩
def fitsOf (m : Int) (ts : List PyData) : List Int := ts.filterMap fun
  | .int p => some (m - p)
  | _ => none
theorem mem_fits {m x : Int} {ts : List PyData} : x ∈ fitsOf m ts ↔ ∃ p : Int, PyData.int p ∈ ts ∧ x = m - p := by
  unfold fitsOf
  rw [List.mem_filterMap]
  constructor
  · rintro ⟨d, hd, h⟩
    cases d <;> first | (cases h; exact ⟨_, hd, rfl⟩) | cases h
  · rintro ⟨p, hp, rfl⟩
    exact ⟨.int p, hp, rfl⟩
theorem ok_end {f : Addr} {fd : FuncData} (F : Fun K "stretch_end" "stretch_end" sEnd f fd) (hmin : mg "min" = none) : FnOk P w K mg base CX0 1 f fd ["piece", "start", "bound", "stop"] spEnd := by
  refine F.ok scEnd (fun vs H Q E ⟨a, t, ts, f, st0, stop, b, past, e, _⟩ => by rw [e]; rfl) (fun cdv A outer s H vs Q E hr h => ?_)
  obtain ⟨a, t, ts, ff, start, stop, b, past, rfl, ha, hT, hss, hsp, q⟩ := h
  have nd := scEnd.nd
  have sz := sz5000
  refine ⟨_, (pss_cons (ps_asg (pv 0) (pg_tup rfl (pgs_cons (pg_name (i := 4) nd rfl (.inl rfl)) (pgs_cons (pg_name (i := 5) nd rfl (.inl rfl)) (pgs_cons (pg_name (i := 6) nd rfl (.inl rfl)) pgs_nil)))))
    (pss_cons (ps_set (i := 7) nd rfl (.inl rfl) (pe_ifExp (pt_cmp (pc_isN (pv 5))) (pv 3) (pe_callB (call_min2 rfl) (by rfl) hmin (by decide +kernel) (pa_cons (pv 3) (pa_cons (pe_op op_sub (pv 5) pe_int) pa_nil)))))
    (pss_cons (ps_if (pt_cmp (pc_isN (pv 2))) (pss_one (ps_ret (pv 7))) pss_nil)
    (pss_cons (ps_setLc (i := 8) (own := [("patience", 9)]) (g := gName 9) rfl nd rfl rfl (sw_true rfl rfl rfl (by decide +kernel)) (pi_tup (pv 6)) (blkOk_by (N := nEnd) (sc := defScope sEnd) (by decide +kernel))
        (fun _ _ _ _ _ => pg_name (i := 9) nd rfl (.inl rfl) (.inr rfl)) (fun _ _ _ _ _ => pts_one (pt_cmp (pc_notN (pv 9)))) (fun _ _ _ _ _ => (pe_op op_sub (pv 2) (pv 9))))
    (pss_one (ps_ret (pe_callB (cr_min rfl) (by rfl) hmin (by decide +kernel) (pa_cons (pe_op op_cat (pe_lst (pa_cons (pv 7) pa_nil)) (pe_lc (own := [("last", 10)]) (g := gName 10) rfl nd (pi_list (pv 8)) (blkOk_by (N := nEnd) (sc := defScope sEnd) (by decide +kernel))
        (fun _ _ _ _ _ => pg_name (i := 10) nd rfl (.inl rfl) (.inr rfl)) (fun _ _ _ _ _ => pts_one (pt_cmpR op_ge (pv 10) (pv 1) (nomark _))) (fun _ _ _ _ _ => (pv 10)))) pa_nil)))))))), ?_⟩
  obtain ⟨⟨zs, ht, hz⟩, hpat, lo, hi⟩ := hT
  refine ⟨.ref a, rfl, a, _, rfl, SqT.of ha, rfl, .int ff, _, rfl, optV past, _, rfl, .ref t, _, rfl, rfl, ?_⟩
  obtain ⟨e1, h1, h2, h3, h4, hev⟩ : ∃ e1 : Int, start ≤ e1 ∧ e1 ≤ stop ∧ (∀ m, past = some m → e1 < m) ∧ (e1 = stop ∨ past = some (e1 + 1)) ∧ ∀ {σ : L2.St} {R : VK}, σ[5]? = some (some (optV past)) → σ[3]? = some (some (.int stop)) → R (.int e1) H →
      (tIf (tB (tIsN (tVar 5))) (tVar 3) (tCB (fun xs H Q => ∃ i j, xs = [.int i, .int j] ∧ Q (.int (if j < i then j else i)) H) (tCons (tVar 3) (tCons (tOp (rI0 fun i j => .int (i - j)) (tVar 5) (tC (.int 1))) tNil)))) σ H R := by
    cases past with
    | none => exact ⟨stop, hss, Int.le_refl _, fun m e => (by cases e), .inl rfl, fun {σ R} h5 h3 h => ⟨.non, h5, _, rfl, iteT ⟨.int stop, h3, h⟩⟩⟩
    | some m =>
      have hm := hsp m rfl
      by_cases c : m - 1 < stop
      · exact ⟨m - 1, by omega, by omega, fun m' e => (by cases e; omega), .inr (by rw [show m - 1 + 1 = m by omega]), fun {σ R} h5 h3 h => ⟨.int m, h5, _, rfl, iteF ⟨.int stop, h3, .int m, h5, m, 1, rfl, rfl, stop, m - 1, rfl, by rw [if_pos c]; exact h⟩⟩⟩
      · exact ⟨stop, hss, Int.le_refl _, fun m' e => (by cases e; omega), .inl rfl, fun {σ R} h5 h3 h => ⟨.int m, h5, _, rfl, iteF ⟨.int stop, h3, .int m, h5, m, 1, rfl, rfl, stop, m - 1, rfl, by rw [if_neg c]; exact h⟩⟩⟩
  refine hev rfl rfl ?_
  cases b with
  | none =>
    refine ⟨.non, rfl, _, rfl, iteT ⟨.int e1, rfl, q e1 H (Same.refl H) ⟨h1, h2, h3, fun m e => (by cases e), ?_⟩⟩⟩
    rcases h4 with h4 | h4
    · exact .inl h4
    · exact .inr (.inl h4)
  | some m =>
    refine ⟨.int m, rfl, _, rfl, iteF ?_⟩
    refine ⟨.ref t, rfl, t, rfl, ⟨zs, SqT.of ht⟩, fun D nD => ?_⟩
    refine lc_tup (xs := zs) (fun i H5 => H5 = upd H D (.lst ((fitsOf m (ts.take i)).map V.int))) rfl (fun i H5 _ e => by rw [e]; exact SqT.of (same_upd nD _ _ ht)) (fun i x H5 hx e => ?_) (fun H5 e => ?_)
    · subst e
      obtain ⟨d, hd, hR⟩ := hz.get hx
      have hl : ((fitsOf m (ts.take i)).map V.int).length < sizeLine := by
        rw [List.length_map]
        have h1 := List.length_filterMap_le (fun | PyData.int p => some (m - p) | _ => none) (ts.take i)
        have h2 : (ts.take i).length ≤ 8 := by rw [List.length_take]; omega
        have h3 : (fitsOf m (ts.take i)).length ≤ (ts.take i).length := h1
        omega
      rcases pat_val hR (hpat d (List.mem_of_getElem? hd)) with ⟨rfl, rfl⟩ | ⟨p, rfl, rfl, _, _⟩
      · refine ⟨rfl, .non, rfl, _, rfl, iteF ?_⟩
        rw [List.take_add_one, hd]
        unfold fitsOf
        rw [List.filterMap_append]
        show _ = upd H D (.lst ((_ ++ []).map V.int))
        rw [List.append_nil]
      · refine ⟨rfl, .int p, rfl, _, rfl, iteT ⟨.int m, rfl, .int p, rfl, m, p, rfl, rfl, _, upd_same, hl, ?_⟩⟩
        rw [upd_upd, List.take_add_one, hd]
        unfold fitsOf
        rw [List.filterMap_append, List.map_append]
        rfl
    · have lz : zs.length = ts.length := hz.length
      rw [lz, List.take_length] at e
      subst e
      have sD := same_upd (o := .lst ((fitsOf m ts).map V.int)) nD
      have eD : (upd H D (.lst ((fitsOf m ts).map V.int))) D = some (.lst ((fitsOf m ts).map V.int)) := upd_same
      generalize upd H D (.lst ((fitsOf m ts).map V.int)) = H2 at sD eD
      have hfl : (fitsOf m ts).length ≤ 8 := by
        have h1 := List.length_filterMap_le (fun | PyData.int p => some (m - p) | _ => none) ts
        have h3 : (fitsOf m ts).length ≤ ts.length := h1
        omega
      refine ⟨.int e1, rfl, small_le (by show 1 ≤ 1000; decide), fun L nL => ?_⟩
      have sL := same_upd (o := .lst [.int e1]) nL
      have eL : (upd H2 L (.lst [.int e1])) L = some (.lst [.int e1]) := upd_same
      generalize upd H2 L (.lst [.int e1]) = H3 at sL eL
      have eD3 := sL _ _ eD
      refine ⟨.ref D, rfl, D, rfl, ⟨_, SqL.of eD3⟩, fun D2 nD2 => ?_⟩
      refine lc_list (xs := (fitsOf m ts).map V.int) (fun i H5 => H5 = upd H3 D2 (.lst ((((fitsOf m ts).take i).filter fun x => decide (start ≤ x)).map V.int))) rfl (fun i H5 _ e => by rw [e]; exact SqL.of (same_upd nD2 _ _ eD3)) (fun i x H5 hx e => ?_) (fun H5 e => ?_)
      · subst e
        obtain ⟨y, hy, rfl⟩ : ∃ y, (fitsOf m ts)[i]? = some y ∧ x = .int y := by
          rw [List.getElem?_map] at hx
          cases z : (fitsOf m ts)[i]? with
          | none => rw [z] at hx; cases hx
          | some y => rw [z] at hx; cases hx; exact ⟨y, rfl, rfl⟩
        have hl : ((((fitsOf m ts).take i).filter fun x => decide (start ≤ x)).map V.int).length < sizeLine := by
          rw [List.length_map]
          have h1 := List.length_filter_le (fun x => decide (start ≤ x)) ((fitsOf m ts).take i)
          rw [List.length_take] at h1
          omega
        refine ⟨rfl, .int y, rfl, .int start, rfl, y, start, rfl, rfl, _, rfl, ?_⟩
        rw [List.take_add_one, hy, List.filter_append]
        by_cases c : start ≤ y
        · rw [decide_eq_true c]
          refine iteT ⟨.int y, rfl, _, upd_same, hl, ?_⟩
          rw [upd_upd]
          show _ = upd H3 D2 (.lst (((_ : List Int) ++ List.filter (fun x => decide (start ≤ x)) [y]).map V.int))
          rw [List.filter_cons, if_pos (by simpa using c), List.map_append]
          rfl
        · rw [decide_eq_false c]
          refine iteF ?_
          show _ = upd H3 D2 (.lst (((_ : List Int) ++ List.filter (fun x => decide (start ≤ x)) [y]).map V.int))
          rw [List.filter_cons, if_neg (by simpa using c)]
          show _ = upd H3 D2 (.lst (((_ : List Int) ++ []).map V.int))
          rw [List.append_nil]
      · have e' : H5 = upd H3 D2 (.lst (((fitsOf m ts).filter fun x => decide (start ≤ x)).map V.int)) := by rw [e, List.length_map, List.take_length]
        clear e
        subst e'
        have s4 := same_upd (o := .lst (((fitsOf m ts).filter fun x => decide (start ≤ x)).map V.int)) nD2
        have e4 : (upd H3 D2 (.lst (((fitsOf m ts).filter fun x => decide (start ≤ x)).map V.int))) D2 = some (.lst (((fitsOf m ts).filter fun x => decide (start ≤ x)).map V.int)) := upd_same
        generalize upd H3 D2 (.lst (((fitsOf m ts).filter fun x => decide (start ≤ x)).map V.int)) = H4 at s4 e4
        have hfl2 := List.length_filter_le (fun x => decide (start ≤ x)) (fitsOf m ts)
        refine ⟨L, D2, _, _, rfl, rfl, s4 _ _ eL, e4, by rw [List.length_map]; show 1 + _ ≤ sizeLine; omega, fun M nM => ?_⟩
        have s5 := same_upd (o := .lst ([.int e1] ++ ((fitsOf m ts).filter fun x => decide (start ≤ x)).map V.int)) nM
        have e5 : (upd H4 M (.lst ([.int e1] ++ ((fitsOf m ts).filter fun x => decide (start ≤ x)).map V.int))) M = some (.lst ((e1 :: (fitsOf m ts).filter fun x => decide (start ≤ x)).map V.int)) := upd_same
        generalize upd H4 M (.lst ([.int e1] ++ ((fitsOf m ts).filter fun x => decide (start ≤ x)).map V.int)) = H6 at s5 e5
        refine ⟨M, e1 :: (fitsOf m ts).filter (fun x => decide (start ≤ x)), rfl, SqL.of e5, Nat.succ_pos _, fun e hm hle => ?_⟩
        have hle1 : e ≤ e1 := hle e1 List.mem_cons_self
        refine q e H6 (((sD.trans sL).trans s4).trans s5) ⟨?_, by omega, fun m' e' => by have := h3 m' e'; omega, fun m' e' p hp hs => ?_, ?_⟩
        · rcases List.mem_cons.mp hm with rfl | hm
          · exact h1
          · simpa using (List.mem_filter.mp hm).2
        · cases e'
          exact hle (m - p) (List.mem_cons_of_mem _ (List.mem_filter.mpr ⟨mem_fits.mpr ⟨p, hp, rfl⟩, by simpa using hs⟩))
        · rcases List.mem_cons.mp hm with rfl | hm
          · rcases h4 with h4 | h4
            · exact .inl h4
            · exact .inr (.inl h4)
          · obtain ⟨p, hp, e'⟩ := mem_fits.mp (List.mem_filter.mp hm).1
            exact .inr (.inr ⟨m, p, rfl, hp, e'⟩)
end
end CL
set_option Elab.async false
set_option linter.all false
set_option pp.maxSteps 400
set_option maxRecDepth 100000
set_option maxHeartbeats 4000000
namespace CL
open PySem PySem.Spec PyProof.Rows L2 GE
abbrev sSteps : Stmt := topS 26
abbrev nSteps : List Str := ["piece", "start", "bound", "end", "first", "past", "turns", "widths", "steps", "met", "ahead", "turn"]
theorem scSteps : FnScope nSteps ["piece", "start", "bound", "end"] (defScope sSteps) := ⟨rfl, rfl, rfl, by decide +kernel, rfl, by decide +kernel, by decide +kernel⟩
theorem hu1 {k : Nat} {A : Around} (hr : Room k A) : A.units + 1 < cLine := by have := hr.un; omega
/-- whom a step meets, how many its window holds -/
abbrev StepT := Int × Int
def Pth (W : Int → Int → Prop) : Int → List StepT → Int → Prop
  | a, [], c => a = c
  | a, s :: ss, c => s.1 = a ∧ W s.1 s.2 ∧ Pth W (a + max s.2 1) ss c
theorem Pth.snoc {W : Int → Int → Prop} : ∀ {S : List StepT} {a x w : Int}, Pth W a S x → W x w → Pth W a (S ++ [(x, w)]) (x + max w 1)
  | [], a, x, w, h, hw => by
    obtain rfl : a = x := h
    exact ⟨rfl, hw, rfl⟩
  | s :: S, a, x, w, h, hw => ⟨h.1, h.2.1, Pth.snoc h.2.2 hw⟩
theorem Pth.split {W : Int → Int → Prop} : ∀ {S T : List StepT} {a c : Int}, Pth W a (S ++ T) c → ∃ m, Pth W a S m ∧ Pth W m T c
  | [], T, a, c, h => ⟨a, rfl, h⟩
  | s :: S, T, a, c, h => by
    obtain ⟨m, h1, h2⟩ := Pth.split h.2.2
    exact ⟨m, ⟨h.1, h.2.1, h1⟩, h2⟩
theorem Pth.le {W : Int → Int → Prop} : ∀ {S : List StepT} {a c : Int}, Pth W a S c → a + S.length ≤ c ∧ ∀ s ∈ S, a ≤ s.1 ∧ s.1 + max s.2 1 ≤ c ∧ W s.1 s.2
  | [], a, c, h => by
    obtain rfl : a = c := h
    exact ⟨by simp, fun s hs => nomatch hs⟩
  | s :: S, a, c, h => by
    obtain ⟨h1, h2⟩ := Pth.le h.2.2
    refine ⟨by rw [List.length_cons]; omega, fun x hx => ?_⟩
    rcases List.mem_cons.mp hx with rfl | hx
    · have := h.1
      exact ⟨by omega, by omega, h.2.1⟩
    · obtain ⟨a1, a2, a3⟩ := h2 x hx
      exact ⟨by omega, a2, a3⟩
/-- the place in the round -/
def tnI (f : Int) (L : Nat) (x : Int) : Int := (x - f) % (L : Int)
/-- on a stretch -/
def Wst (f : Int) (ts : List PyData) (b : Option Int) (start e : Int) (x w : Int) : Prop := x ≤ e ∧ ∃ t, ts[(tnI f ts.length x).toNat]? = some t ∧ w = wd b start t
structure Stp (f : Int) (ts : List PyData) (b : Option Int) (start e : Int) (once again : List StepT) (c : Int) : Prop where
  path : Pth (Wst f ts b start e) start (once ++ again) c
  ne : once ++ again ≠ []
  len : (once ++ again).length ≤ 8
  nil : again = [] → e < c
  rep : ∀ s T, again = s :: T → c ≤ e ∧ tnI f ts.length c = tnI f ts.length s.1
/-- steps that stand, as tuples -/
structure StAt (H : Hp) (vs : List V) (S : List StepT) : Prop where
  len : vs.length = S.length
  at_ : ∀ (i : Nat) (s : StepT), S[i]? = some s → ∃ b, vs[i]? = some (.ref b) ∧ H b = some (.tup [.int s.1, .int s.2])
/-- tuples stay -/
def KT (H H' : Hp) : Prop := ∀ b xs, H b = some (.tup xs) → H' b = some (.tup xs)
theorem KT.of {H H' : Hp} (s : Same H H') : KT H H' := fun b xs h => s b _ h
theorem KT.trans {H H1 H2 : Hp} (a : KT H H1) (b : KT H1 H2) : KT H H2 := fun c xs h => b c xs (a c xs h)
theorem KT.upd {H : Hp} {p : Addr} {o : HO} (n : ∀ xs, H p ≠ some (.tup xs)) : KT H (upd H p o) := fun b xs h => by
  rw [upd_ne (fun z => n xs (by rw [← z]; exact h))]
  exact h
theorem StAt.kt {H H' : Hp} {vs : List V} {S : List StepT} (h : StAt H vs S) (k : KT H H') : StAt H' vs S := ⟨h.len, fun i s hs => by
  obtain ⟨b, h1, h2⟩ := h.at_ i s hs
  exact ⟨b, h1, k _ _ h2⟩⟩
theorem StAt.snoc {H : Hp} {vs : List V} {S : List StepT} {b : Addr} {s : StepT} (h : StAt H vs S) (hb : H b = some (.tup [.int s.1, .int s.2])) : StAt H (vs ++ [.ref b]) (S ++ [s]) := ⟨by rw [List.length_append, List.length_append, h.len]; rfl, fun i x hx => by
  by_cases c : i < S.length
  · rw [List.getElem?_append_left c] at hx
    obtain ⟨b, h1, h2⟩ := h.at_ i x hx
    exact ⟨b, by rw [List.getElem?_append_left (by rw [h.len]; exact c)]; exact h1, h2⟩
  · have hi : i = S.length := by
      obtain ⟨l, _⟩ := List.getElem?_eq_some_iff.mp hx
      rw [List.length_append, List.length_singleton] at l
      omega
    subst hi
    rw [List.getElem?_concat_length] at hx
    cases hx
    exact ⟨b, by rw [← h.len]; exact List.getElem?_concat_length, hb⟩⟩
theorem StAt.take {H : Hp} {vs : List V} {S : List StepT} (k : Nat) (h : StAt H vs S) : StAt H (vs.take k) (S.take k) := ⟨by rw [List.length_take, List.length_take, h.len], fun i s hs => by
  rw [List.getElem?_take] at hs
  split at hs
  · obtain ⟨b, h1, h2⟩ := h.at_ i s hs
    exact ⟨b, by rw [List.getElem?_take, if_pos ‹_›]; exact h1, h2⟩
  · cases hs⟩
theorem StAt.drop {H : Hp} {vs : List V} {S : List StepT} (k : Nat) (h : StAt H vs S) : StAt H (vs.drop k) (S.drop k) := ⟨by rw [List.length_drop, List.length_drop, h.len], fun i s hs => by
  rw [List.getElem?_drop] at hs
  obtain ⟨b, h1, h2⟩ := h.at_ (k + i) s hs
  exact ⟨b, by rw [List.getElem?_drop]; exact h1, h2⟩⟩
theorem pig : ∀ (n : Nat) (l : List Int), l.Nodup → (∀ x ∈ l, 0 ≤ x ∧ x < (n : Int)) → l.length ≤ n
  | 0, [], _, _ => Nat.le_refl 0
  | 0, x :: l, _, h => by have := h x List.mem_cons_self; omega
  | n + 1, l, nd, h => by
    by_cases c : (n : Int) ∈ l
    · have e := List.length_erase_of_mem c
      have ih := pig n (l.erase (n : Int)) (nd.erase _) fun x hx => by
        have h1 := (nd.mem_erase_iff).mp hx
        have := h x h1.2
        have := h1.1
        omega
      omega
    · have ih := pig n l nd fun x hx => by
        have := h x hx
        have : x ≠ (n : Int) := fun z => c (by rw [← z]; exact hx)
        omega
      omega
def spSteps : Sp := fun vs H Q _ => ∃ a t ts, ∃ f start e : Int, ∃ b past : Option Int, vs = [.ref a, .int start, optV b, .int e] ∧ H a = some (.tup [.int f, optV past, .ref t]) ∧ TurnsAt H t ts ∧ start ≤ e ∧
  ∀ pr A B va vb once again c H', Same H H' → H A = none → H B = none → H' pr = some (.tup [.ref A, .ref B]) → H' A = some (.lst va) → H' B = some (.lst vb) → StAt H' va once → StAt H' vb again → Stp f ts b start e once again c → Q (.ref pr) H'
section
variable {P : Program} {w : World} {K : PySem.W.Frag} {mg : Str → Option Value} {base : Heap}
theorem ok_steps {f : Addr} {fd : FuncData} (F : Fun K "stretch_steps" "stretch_steps" sSteps f fd) (T : Nm mg) (hmax : mg "max" = none) (CW : Cal P w K mg base 1 "window_widths" ["turns", "start", "bound"] spWid) : FnOk P w K mg base CX0 2 f fd ["piece", "start", "bound", "end"] spSteps := by
  refine F.ok scSteps (fun vs H Q E ⟨a, t, ts, f, st0, e0, b, past, e, _⟩ => by rw [e]; rfl) (fun cdv A outer s H vs Q E hr h => ?_)
  obtain ⟨a, t, ts, ff, start, e, b, past, rfl, ha, hT, hse, q⟩ := h
  have nd := scSteps.nd
  have sz := sz5000
  have hu := hu1 hr
  refine ⟨_, (pss_cons (ps_asg (pv 0) (pg_tup rfl (pgs_cons (pg_name (i := 4) nd rfl (.inl rfl)) (pgs_cons (pg_name (i := 5) nd rfl (.inl rfl)) (pgs_cons (pg_name (i := 6) nd rfl (.inl rfl)) pgs_nil)))))
    (pss_cons (ps_set (i := 7) nd rfl (.inl rfl) (pe_cal (CW.mono (by decide)) hr (by rfl) (pa_cons (pv 6) (pa_cons (pv 1) (pa_cons (pv 2) pa_nil)))))
    (pss_cons (ps_set (i := 8) nd rfl (.inl rfl) (pe_lst pa_nil))
    (pss_cons (ps_set (i := 9) nd rfl (.inl rfl) pe_dnewK)
    (pss_cons (ps_set (i := 10) nd rfl (.inl rfl) (pv 1))
    (pss_cons (ps_while PassesOwn.never (pt_cmpR op_le (pv 10) (pv 3) (nomark _))
    (pss_cons (ps_set (i := 11) nd rfl (.inl rfl) (pe_op op_mod (pe_op op_sub (pv 10) (pv 4)) (pe_callB call_len_seq (by rfl) T.len PySem.boot_len (pa_cons (pv 6) pa_nil))))
    (pss_cons (ps_if (pt_cmp (pc_din hu (pv 11) (pv 9))) (pss_one (ps_ret (pe_tup (pa_cons (pe_slice sl_list (pv 8) po_none (po_some (pe_dget hu (pv 9) (pv 11) (fun _ _ => rfl)))) (pa_cons (pe_slice sl_list (pv 8) (po_some (pe_dget hu (pv 9) (pv 11) (fun _ _ => rfl))) po_none) pa_nil))))) pss_nil)
    (pss_cons (ps_dput hu (pv 9) (pv 11) (pe_callB call_len_seq (by rfl) T.len PySem.boot_len (pa_cons (pv 8) pa_nil)) rfl)
    (pss_cons (ps_expr (pe_bm PySem.F.plainAttrs_list PySem.F.slot_list_append PySem.F.type_list_append mt_append (pv 8) (pa_cons (pe_tup (pa_cons (pv 10) (pa_cons (pe_ix ix_list (pv 7) (pv 11) (fun _ _ => rfl)) pa_nil))) pa_nil)))
    (pss_one (ps_aug (i := 10) nd rfl (.inl rfl) (pe_callB (call_max2 rfl) (by rfl) hmax (by decide +kernel) (pa_cons (pe_ix ix_list (pv 7) (pv 11) (fun _ _ => rfl)) (pa_cons pe_int pa_nil))) ip_add)))))))
    (pss_one (ps_ret (pe_tup (pa_cons (pv 8) (pa_cons (pe_lst pa_nil) pa_nil))))))))))), ?_⟩
  refine ⟨.ref a, rfl, a, _, rfl, SqT.of ha, rfl, .int ff, _, rfl, optV past, _, rfl, .ref t, _, rfl, rfl, ?_⟩
  refine ⟨.ref t, rfl, .int start, rfl, optV b, rfl, t, ts, start, b, rfl, hT, fun wq H1 s1 n1 ew => ?_⟩
  refine ⟨Nat.zero_le _, fun Ls nL => ?_⟩
  have s2 := same_upd (o := .lst []) nL
  have eL : (upd H1 Ls (.lst [])) Ls = some (.lst []) := upd_same
  generalize upd H1 Ls (.lst []) = H2 at s2 eL
  intro M nM
  have s3 := same_upd (o := .dK []) nM
  have eM : (upd H2 M (.dK [])) M = some (.dK []) := upd_same
  generalize upd H2 M (.dK []) = H3 at s3 eM
  have nLH : H Ls = none := s1.free nL
  have nMH : H M = none := (s1.trans s2).free nM
  have nLM : Ls ≠ M := fun z => by rw [z] at eL; rw [eL] at nM; cases nM
  have nwL : wq ≠ Ls := fun z => by rw [z, nL] at ew; cases ew
  have nwM : wq ≠ M := fun z => by
    have := s2 _ _ ew
    rw [z, nM] at this
    cases this
  have lo := hT.lo
  have hi := hT.hi
  refine ⟨.int start, rfl, ?_⟩
  refine ⟨fun k σ H4 => ∃ vs S, ∃ kvs : List (Key × V), ∃ x : Int, ∃ y11, σ = [some (.ref a), some (.int start), some (optV b), some (.int e), some (.int ff), some (optV past), some (.ref t), some (.ref wq), some (.ref Ls), some (.ref M), some (.int x), y11] ∧ Same H H4 ∧ H4 wq = some (.lst ((ts.map (wd b start)).map V.int)) ∧
      H4 Ls = some (.lst vs) ∧ H4 M = some (.dK kvs) ∧ StAt H4 vs S ∧ Pth (Wst ff ts b start e) start S x ∧ (S.map fun s => tnI ff ts.length s.1).Nodup ∧ kvs.length ≤ S.length ∧ (∀ (i : Nat) (s : StepT), S[i]? = some s → valV kvs (Sum.inl (tnI ff ts.length s.1)) = some (.int (i : Int))) ∧
      (∀ n : Int, (∀ s ∈ S, tnI ff ts.length s.1 ≠ n) → valV kvs (Sum.inl n) = none) ∧ (S = [] → x = start) ∧ k = (e + 1 - x).toNat, ⟨_, [], [], [], start, none, rfl, (s1.trans s2).trans s3, s3 _ _ (s2 _ _ ew), s3 _ _ eL, eM, ⟨rfl, fun i s h => by cases i <;> cases h⟩, rfl, List.nodup_nil, Nat.le_refl 0, fun i s h => (by cases i <;> cases h), fun n _ => rfl, fun _ => rfl, rfl⟩, fun k σ H4 ⟨vs, S, kvs, x, y11, eσ, s4, ew4, eL4, eM4, hSt, hP, hnd, hkl, hm1, hm2, hS0, hk⟩ => ?_⟩
  subst eσ
  have hS8 : S.length ≤ 8 := by
    have h1 := pig ts.length (S.map fun s => tnI ff ts.length s.1) hnd fun y hy => by
      obtain ⟨s, _, rfl⟩ := List.mem_map.mp hy
      exact ⟨Int.emod_nonneg _ (by omega), Int.emod_lt_of_pos _ (by omega)⟩
    rw [List.length_map] at h1
    omega
  refine ⟨.int x, rfl, .int e, rfl, x, e, rfl, rfl, _, rfl, ?_⟩
  by_cases c : x ≤ e
  · rw [decide_eq_true c]
    refine iteT ⟨fun σ' H' => ∃ m', m' < k ∧ ∃ vs S, ∃ kvs : List (Key × V), ∃ x : Int, ∃ y11, σ' = [some (.ref a), some (.int start), some (optV b), some (.int e), some (.int ff), some (optV past), some (.ref t), some (.ref wq), some (.ref Ls), some (.ref M), some (.int x), y11] ∧ Same H H' ∧ H' wq = some (.lst ((ts.map (wd b start)).map V.int)) ∧
      H' Ls = some (.lst vs) ∧ H' M = some (.dK kvs) ∧ StAt H' vs S ∧ Pth (Wst ff ts b start e) start S x ∧ (S.map fun s => tnI ff ts.length s.1).Nodup ∧ kvs.length ≤ S.length ∧ (∀ (i : Nat) (s : StepT), S[i]? = some s → valV kvs (Sum.inl (tnI ff ts.length s.1)) = some (.int (i : Int))) ∧
      (∀ n : Int, (∀ s ∈ S, tnI ff ts.length s.1 ≠ n) → valV kvs (Sum.inl n) = none) ∧ (S = [] → x = start) ∧ m' = (e + 1 - x).toNat, fun σ' H' ⟨m', h1, h2⟩ => ⟨m', h1, h2⟩, ?_⟩
    obtain ⟨zs, ht, hz⟩ := hT.ex
    have lz : zs.length = ts.length := hz.length
    refine ⟨.int x, rfl, .int ff, rfl, x, ff, rfl, rfl, .ref t, rfl, t, zs, rfl, .inr (SqT.of (s4 _ _ ht)), x - ff, (zs.length : Int), rfl, rfl, by show (0 : Int) < (zs.length : Int); omega, ?_⟩
    dsimp only
    have etn : (x - ff) % (zs.length : Int) = tnI ff ts.length x := by rw [lz]; rfl
    rw [etn]
    have tn0 : 0 ≤ tnI ff ts.length x := Int.emod_nonneg _ (by omega)
    have tn1 : tnI ff ts.length x < (ts.length : Int) := Int.emod_lt_of_pos _ (by omega)
    refine ⟨.int (tnI ff ts.length x), rfl, .ref M, rfl, M, _, rfl, DGet.k (k := Sum.inl (tnI ff ts.length x)) eM4, _, rfl, ?_⟩
    cases hv : valV kvs (Sum.inl (tnI ff ts.length x)) with
    | some v =>
      -- it comes again
      obtain ⟨s, hs, hst⟩ : ∃ s ∈ S, tnI ff ts.length s.1 = tnI ff ts.length x := by
        by_cases h : ∃ s ∈ S, tnI ff ts.length s.1 = tnI ff ts.length x
        · exact h
        · rw [hm2 _ fun s hs z => h ⟨s, hs, z⟩] at hv
          cases hv
      obtain ⟨i, hi'⟩ := List.getElem?_of_mem hs
      have hvi := hm1 i s hi'
      rw [hst, hv] at hvi
      cases hvi
      have li : i < S.length := (List.getElem?_eq_some_iff.mp hi').1
      refine iteT ?_
      refine ⟨.ref Ls, rfl, .ref M, rfl, .int (tnI ff ts.length x), rfl, M, .int (i : Int), rfl, by rw [← hv]; exact DGet.k (k := Sum.inl (tnI ff ts.length x)) eM4, (i : Int), rfl, Ls, vs, rfl, SqL.of eL4, fun A1 nA => ?_⟩
      rw [cut_to]
      have s5 := same_upd (o := .lst (vs.take i)) nA
      have eA : (upd H4 A1 (.lst (vs.take i))) A1 = some (.lst (vs.take i)) := upd_same
      generalize upd H4 A1 (.lst (vs.take i)) = H5 at s5 eA
      refine ⟨.ref Ls, rfl, .ref M, rfl, .int (tnI ff ts.length x), rfl, M, .int (i : Int), rfl, by rw [← hv]; exact DGet.k (k := Sum.inl (tnI ff ts.length x)) (s5 _ _ eM4), (i : Int), rfl, Ls, vs, rfl, SqL.of (s5 _ _ eL4), fun B1 nB => ?_⟩
      rw [cut_from]
      have s6 := same_upd (o := .lst (vs.drop i)) nB
      have eB : (upd H5 B1 (.lst (vs.drop i))) B1 = some (.lst (vs.drop i)) := upd_same
      generalize upd H5 B1 (.lst (vs.drop i)) = H6 at s6 eB
      refine ⟨small_le (by show 2 ≤ 1000; decide), fun pr npr => ?_⟩
      have s7 := same_upd (o := .tup [.ref A1, .ref B1]) npr
      have s47 := (s5.trans s6).trans s7
      refine q pr A1 B1 (vs.take i) (vs.drop i) (S.take i) (S.drop i) x _ (s4.trans s47) (s4.free nA) ((s4.trans s5).free nB) upd_same (s7 _ _ (s6 _ _ eA)) (s7 _ _ eB) ((hSt.take i).kt (KT.of s47)) ((hSt.drop i).kt (KT.of s47)) ⟨?_, ?_, ?_, fun z => ?_, fun s' T' z => ?_⟩
      · rw [List.take_append_drop]; exact hP
      · rw [List.take_append_drop]
        intro z
        rw [z] at li
        exact absurd li (Nat.not_lt_zero _)
      · rw [List.take_append_drop]; exact hS8
      · have := congrArg List.length z
        rw [List.length_drop] at this
        simp at this
        omega
      · refine ⟨c, ?_⟩
        have h0 : (S.drop i)[0]? = some s' := by rw [z]; rfl
        rw [List.getElem?_drop, Nat.add_zero, hi'] at h0
        cases h0
        exact hst.symm
    | none =>
      refine iteF ?_
      obtain ⟨d, hd⟩ : ∃ d, ts[(tnI ff ts.length x).toNat]? = some d := ⟨_, List.getElem?_eq_getElem (by omega)⟩
      have hnew : ∀ s ∈ S, tnI ff ts.length s.1 ≠ tnI ff ts.length x := fun s hs z => by
        obtain ⟨i, hi'⟩ := List.getElem?_of_mem hs
        have := hm1 i s hi'
        rw [z, hv] at this
        cases this
      have hl := hSt.len
      -- met[turn] = len(steps)
      refine ⟨.ref Ls, rfl, Ls, vs, rfl, .inl (SqL.of eL4), .ref M, rfl, .int (tnI ff ts.length x), rfl, M, _, rfl, DPut.k (k := Sum.inl (tnI ff ts.length x)) eM4 (by omega), ?_⟩
      have eM5 : (upd H4 M (.dK (putK kvs (Sum.inl (tnI ff ts.length x)) (.int (vs.length : Int))))) M = some (.dK (putK kvs (Sum.inl (tnI ff ts.length x)) (.int (vs.length : Int)))) := upd_same
      have k45 : KT H4 (upd H4 M (.dK (putK kvs (Sum.inl (tnI ff ts.length x)) (.int (vs.length : Int))))) := KT.upd fun xs z => by rw [eM4] at z; cases z
      have s5 : Same H (upd H4 M (.dK (putK kvs (Sum.inl (tnI ff ts.length x)) (.int (vs.length : Int))))) := fun p o hp => by
        rw [upd_ne (fun z => by rw [z, nMH] at hp; cases hp)]
        exact s4 _ _ hp
      have eL5 : (upd H4 M (.dK (putK kvs (Sum.inl (tnI ff ts.length x)) (.int (vs.length : Int))))) Ls = some (.lst vs) := by rw [upd_ne nLM]; exact eL4
      have ew5 : (upd H4 M (.dK (putK kvs (Sum.inl (tnI ff ts.length x)) (.int (vs.length : Int))))) wq = some (.lst ((ts.map (wd b start)).map V.int)) := by rw [upd_ne nwM]; exact ew4
      generalize upd H4 M (.dK (putK kvs (Sum.inl (tnI ff ts.length x)) (.int (vs.length : Int)))) = H5 at eM5 k45 s5 eL5 ew5
      have hw : atI ((ts.map (wd b start)).map V.int) (tnI ff ts.length x) = some (.int (wd b start d)) := by
        have := atI_nat (xs := (ts.map (wd b start)).map V.int) (j := (tnI ff ts.length x).toNat) (v := .int (wd b start d)) (by rw [List.getElem?_map, List.getElem?_map, hd]; rfl)
        rw [Int.toNat_of_nonneg tn0] at this
        exact this
      refine ⟨.ref Ls, rfl, .inl ⟨rfl, _, SqL.of eL5⟩, .int x, rfl, .ref wq, rfl, .int (tnI ff ts.length x), rfl, wq, _, tnI ff ts.length x, .int (wd b start d), rfl, rfl, SqL.of ew5, hw, small_le (by show 2 ≤ 1000; decide), fun u nu => ?_⟩
      have s6 := same_upd (o := .tup [.int x, .int (wd b start d)]) nu
      have eu : (upd H5 u (.tup [.int x, .int (wd b start d)])) u = some (.tup [.int x, .int (wd b start d)]) := upd_same
      generalize upd H5 u (.tup [.int x, .int (wd b start d)]) = H6 at s6 eu
      have eL6 := s6 _ _ eL5
      refine ⟨Ls, _, _, rfl, rfl, eL6, by omega, ?_⟩
      have k67 : KT H6 (upd H6 Ls (.lst (vs ++ [.ref u]))) := KT.upd fun xs z => by rw [eL6] at z; cases z
      have ew7 : (upd H6 Ls (.lst (vs ++ [.ref u]))) wq = some (.lst ((ts.map (wd b start)).map V.int)) := by rw [upd_ne nwL]; exact s6 _ _ ew5
      have eM7 : (upd H6 Ls (.lst (vs ++ [.ref u]))) M = some (.dK (putK kvs (Sum.inl (tnI ff ts.length x)) (.int (vs.length : Int)))) := by rw [upd_ne (Ne.symm nLM)]; exact s6 _ _ eM5
      have s7 : Same H (upd H6 Ls (.lst (vs ++ [.ref u]))) := fun p o hp => by
        rw [upd_ne (fun z => by rw [z, nLH] at hp; cases hp)]
        exact s6 _ _ (s5 _ _ hp)
      refine ⟨.int x, rfl, .ref wq, rfl, .int (tnI ff ts.length x), rfl, wq, _, tnI ff ts.length x, .int (wd b start d), rfl, rfl, SqL.of ew7, hw, wd b start d, 1, rfl, x, _, rfl, rfl, ?_⟩
      have hmx : (if (1 : Int) > wd b start d then 1 else wd b start d) = max (wd b start d) 1 := by split <;> omega
      have hst7 := (hSt.kt ((k45.trans (KT.of s6)).trans k67)).snoc (b := u) (s := (x, wd b start d)) (k67 _ _ eu)
      refine ⟨(e + 1 - (x + max (wd b start d) 1)).toNat, by omega, vs ++ [.ref u], S ++ [(x, wd b start d)], _, x + max (wd b start d) 1, some (.int (tnI ff ts.length x)), by rw [hmx]; rfl, s7, ew7, upd_same, eM7, hst7, hP.snoc ⟨c, d, hd, rfl⟩, ?_, ?_, fun i s hs => ?_, fun n hn => ?_, fun z => by simp at z, rfl⟩
      · rw [List.map_append, List.nodup_append]
        refine ⟨hnd, List.pairwise_singleton _ _, fun y hy z hz => ?_⟩
        obtain ⟨s, hs, rfl⟩ := List.mem_map.mp hy
        have : z = tnI ff ts.length x := List.mem_singleton.mp hz
        rw [this]
        exact hnew s hs
      · rw [List.length_append, List.length_singleton]
        have : (putK kvs (Sum.inl (tnI ff ts.length x)) (V.int (vs.length : Int))).length ≤ kvs.length + 1 := by
          unfold putK
          split
          · rw [List.length_map]; exact Nat.le_succ _
          · rw [List.length_append]; exact Nat.le_refl _
        omega
      · rw [valV_put]
        by_cases c2 : i < S.length
        · rw [List.getElem?_append_left c2] at hs
          rw [if_neg (fun z => hnew s (List.mem_of_getElem? hs) (Sum.inl.inj z))]
          exact hm1 i s hs
        · have hi2 : i = S.length := by
            obtain ⟨l, _⟩ := List.getElem?_eq_some_iff.mp hs
            rw [List.length_append, List.length_singleton] at l
            omega
          subst hi2
          rw [List.getElem?_concat_length] at hs
          cases hs
          rw [if_pos rfl, hl]
      · rw [valV_put, if_neg (fun z => hn (x, wd b start d) (List.mem_append_right _ (List.mem_singleton.mpr rfl)) (Sum.inl.inj z).symm)]
        exact hm2 n fun s hs => hn s (List.mem_append_left _ hs)
  · rw [decide_eq_false c]
    refine iteF ?_
    refine ⟨.ref Ls, rfl, Nat.zero_le _, fun B1 nB => ?_⟩
    have s5 := same_upd (o := .lst []) nB
    have eB : (upd H4 B1 (.lst [])) B1 = some (.lst []) := upd_same
    generalize upd H4 B1 (.lst []) = H5 at s5 eB
    refine ⟨small_le (by show 2 ≤ 1000; decide), fun pr npr => ?_⟩
    have s6 := same_upd (o := .tup [.ref Ls, .ref B1]) npr
    have s46 := s5.trans s6
    refine q pr Ls B1 vs [] S [] x _ (s4.trans s46) nLH (s4.free nB) upd_same (s46 _ _ eL4) (s6 _ _ eB) (hSt.kt (KT.of s46)) ⟨rfl, fun i s h => by cases i <;> cases h⟩ ⟨?_, ?_, ?_, fun _ => by omega, fun s' T' z => by cases z⟩
    · rw [List.append_nil]; exact hP
    · rw [List.append_nil]
      intro z
      have := hS0 z
      omega
    · rw [List.append_nil]; exact hS8
end
end CL
set_option Elab.async false
set_option linter.all false
set_option pp.maxSteps 400
set_option maxRecDepth 100000
set_option maxHeartbeats 4000000
namespace CL
open PySem PySem.Spec PyProof.Rows L2 GE
abbrev sInit : Stmt := inClass (topS 22) 0
abbrev nInit : List Str := ["self", "steps", "room", "person", "width"]
theorem scInit : FnScope nInit ["self", "steps", "room"] (defScope sInit) := ⟨rfl, rfl, rfl, by decide +kernel, rfl, by decide +kernel, by decide +kernel⟩
abbrev sRuns : Stmt := topS 23
abbrev nRuns : List Str := ["pieces", "start", "bound", "stop", "runs", "ahead", "piece", "end", "once", "again"]
theorem scRuns : FnScope nRuns ["pieces", "start", "bound", "stop"] (defScope sRuns) := ⟨rfl, rfl, rfl, by decide +kernel, rfl, by decide +kernel, by decide +kernel⟩
/-! ### how far the steps go -/
def lenR (S : List StepT) : Int := (S.map fun s => max s.2 1).sum
def spareR (S : List StepT) : Nat := (S.filter fun s => decide (s.2 = 0)).length
theorem lenR_cons (s : StepT) (S : List StepT) : lenR (s :: S) = max s.2 1 + lenR S := rfl
theorem lenR_pos : ∀ S : List StepT, (S.length : Int) ≤ lenR S
  | [] => Int.le_refl 0
  | s :: S => by
    have := lenR_pos S
    rw [lenR_cons, List.length_cons]
    omega
theorem lenR_sum : ∀ S : List StepT, (∀ s ∈ S, 0 ≤ s.2) → (spareR S : Int) + (S.map (·.2)).sum = lenR S
  | [], _ => rfl
  | s :: S, h => by
    have ih := lenR_sum S fun x hx => h x (List.mem_cons_of_mem _ hx)
    have h0 := h s List.mem_cons_self
    rw [lenR_cons, List.map_cons, List.sum_cons]
    by_cases c : s.2 = 0
    · have e : spareR (s :: S) = spareR S + 1 := by unfold spareR; rw [List.filter_cons, if_pos (by simpa using c)]; rfl
      rw [e]
      omega
    · have e : spareR (s :: S) = spareR S := by unfold spareR; rw [List.filter_cons, if_neg (by simpa using c)]
      rw [e]
      omega
theorem lenR_le {m : Int} : ∀ S : List StepT, (∀ s ∈ S, s.2 ≤ m) → 1 ≤ m → lenR S ≤ S.length * m
  | [], _, _ => by simp [lenR]
  | s :: S, h, hm => by
    have ih := lenR_le S (fun x hx => h x (List.mem_cons_of_mem _ hx)) hm
    have h0 := h s List.mem_cons_self
    have e : ((s :: S).length : Int) * m = m + S.length * m := by
      rw [List.length_cons, Int.natCast_add, Int.add_mul]
      omega
    rw [lenR_cons, e]
    omega
theorem Pth.end_ {W : Int → Int → Prop} : ∀ {S : List StepT} {a c : Int}, Pth W a S c → c = a + lenR S
  | [], a, c, h => by
    obtain rfl : a = c := h
    exact (Int.add_zero a).symm
  | s :: S, a, c, h => by
    have := Pth.end_ h.2.2
    rw [lenR_cons]
    omega
def shift (d : Int) (S : List StepT) : List StepT := S.map fun s => (s.1 + d, s.2)
theorem Pth.shift {W W' : Int → Int → Prop} {d : Int} : ∀ {S : List StepT} {a c : Int}, Pth W a S c → (∀ s ∈ S, W s.1 s.2 → W' (s.1 + d) s.2) → Pth W' (a + d) (shift d S) (c + d)
  | [], a, c, h, _ => by
    obtain rfl : a = c := h
    exact rfl
  | s :: S, a, c, h, hw => by
    have ih := Pth.shift h.2.2 fun x hx => hw x (List.mem_cons_of_mem _ hx)
    refine ⟨by show s.1 + d = a + d; rw [h.1], hw s List.mem_cons_self h.2.1, ?_⟩
    rw [show a + d + max s.2 1 = a + max s.2 1 + d by omega]
    exact ih
theorem Pth.imp {W W' : Int → Int → Prop} : ∀ {S : List StepT} {a c : Int}, Pth W a S c → (∀ s ∈ S, W s.1 s.2 → W' s.1 s.2) → Pth W' a S c
  | [], a, c, h, _ => h
  | s :: S, a, c, h, hw => ⟨h.1, hw s List.mem_cons_self h.2.1, Pth.imp h.2.2 fun x hx => hw x (List.mem_cons_of_mem _ hx)⟩
/-! ### runs -/
structure RunT where
  steps : List StepT
  times : Nat
/-- the window of the one who comes at x -/
def WP (ps : List PieceT) (b : Option Int) (x w : Int) : Prop := ∃ pc t, ps.find? (comes x) = some pc ∧ pc.2.2[(tnI pc.1 pc.2.2.length x).toNat]? = some t ∧ w = wd b x t
def WS (ps : List PieceT) (b : Option Int) (stop x w : Int) : Prop := x ≤ stop ∧ WP ps b x w
structure RunOk (ps : List PieceT) (b : Option Int) (stop a : Int) (r : RunT) : Prop where
  ne : r.steps ≠ []
  times : 1 ≤ r.times
  len : r.steps.length ≤ 8
  path : ∀ k : Nat, k < r.times → Pth (WS ps b stop) (a + k * lenR r.steps) (shift (k * lenR r.steps) r.steps) (a + (k * lenR r.steps + lenR r.steps))
  rep : ∀ (y : Int) pc t, a ≤ y → y + lenR r.steps < a + r.times * lenR r.steps → ps.find? (comes y) = some pc → pc.2.2[(tnI pc.1 pc.2.2.length y).toNat]? = some t → ps.find? (comes (y + lenR r.steps)) = some pc ∧ pc.2.2[(tnI pc.1 pc.2.2.length (y + lenR r.steps)).toNat]? = some t
def Lvl (ps : List PieceT) (b : Option Int) (stop : Int) : Int → List RunT → Int → Prop
  | a, [], c => a = c
  | a, r :: rs, c => RunOk ps b stop a r ∧ Lvl ps b stop (a + r.times * lenR r.steps) rs c
theorem Lvl.snoc {ps : List PieceT} {b : Option Int} {stop : Int} : ∀ {rs : List RunT} {a x : Int} {r : RunT}, Lvl ps b stop a rs x → RunOk ps b stop x r → Lvl ps b stop a (rs ++ [r]) (x + r.times * lenR r.steps)
  | [], a, x, r, h, hr => by
    obtain rfl : a = x := h
    exact ⟨hr, rfl⟩
  | s :: rs, a, x, r, h, hr => ⟨h.1, Lvl.snoc h.2 hr⟩
theorem comes_on {ps : List PieceT} {pc : PieceT} {x y : Int} (h : ps.find? (comes x) = some pc) (hxy : x ≤ y) (hp : ∀ m, pc.2.1 = some m → y < m) : ps.find? (comes y) = some pc := by
  rw [List.find?_eq_some_iff_append] at h ⊢
  obtain ⟨h1, as, bs, e, h2⟩ := h
  refine ⟨?_, as, bs, e, fun z hz => ?_⟩
  · unfold comes
    cases e2 : pc.2.1 with
    | none => rfl
    | some m => exact decide_eq_true (hp m e2)
  · have := h2 z hz
    unfold comes at this ⊢
    cases e2 : z.2.1 with
    | none => rw [e2] at this; cases this
    | some m =>
      rw [e2] at this
      have h3 : ¬ x < m := by simpa using this
      show (!decide (y < m)) = true
      rw [decide_eq_false (by omega)]
      rfl
theorem wd_on {past : Option Int} {ts : List PyData} {start x e stop : Int} {b : Option Int} (E : EndOk past ts start b stop e) {t : PyData} (ht : t ∈ ts) (h1 : start ≤ x) (h2 : x ≤ e) : wd b start t = wd b x t := by
  cases t with
  | int p =>
    cases b with
    | none => rfl
    | some m =>
      show (if start + p ≤ m then p + 1 else 0) = if x + p ≤ m then p + 1 else 0
      by_cases c : start + p ≤ m
      · have := E.fit m rfl p ht (by omega)
        rw [if_pos c, if_pos (by omega)]
      · rw [if_neg c, if_neg (by omega)]
  | _ => cases b <;> rfl
theorem wst_on {ps : List PieceT} {pc : PieceT} {start x e stop w : Int} {b : Option Int} (hf : ps.find? (comes start) = some pc) (E : EndOk pc.2.1 pc.2.2 start b stop e) (h1 : start ≤ x) (hw : Wst pc.1 pc.2.2 b start e x w) {d : Int} (h0 : 0 ≤ d) (h2 : x + d ≤ e) (hd : d % (pc.2.2.length : Int) = 0) : WS ps b stop (x + d) w := by
  obtain ⟨_, t, ht, rfl⟩ := hw
  have hi := E.hi
  refine ⟨by omega, pc, t, comes_on hf (by omega) fun m e2 => by have := E.pst m e2; omega, ?_, wd_on E (List.mem_of_getElem? ht) (by omega) h2⟩
  have e3 : tnI pc.1 pc.2.2.length (x + d) = tnI pc.1 pc.2.2.length x := by
    unfold tnI
    rw [show x + d - pc.1 = x - pc.1 + d by omega, Int.add_emod, hd, Int.add_zero, Int.emod_emod_of_dvd _ (Int.dvd_refl _)]
  rw [e3]
  exact ht
/-! ### how many runs there may be -/
def lgp (z : Int) : Nat := if z ≤ 0 then 0 else z.toNat.log2 + 1
theorem lgp_mono {a b : Int} (h : a ≤ b) : lgp a ≤ lgp b := by
  unfold lgp
  by_cases ha : a ≤ 0
  · rw [if_pos ha]; exact Nat.zero_le _
  · rw [if_neg ha, if_neg (by omega)]
    have h1 : 2 ^ a.toNat.log2 ≤ a.toNat := Nat.log2_self_le (by omega)
    have h2 : a.toNat.log2 ≤ b.toNat.log2 := (Nat.le_log2 (by omega)).mpr (Nat.le_trans h1 (by omega))
    omega
theorem lgp_half {a b : Int} (h : 2 * a < b) (hb : 0 < b) : lgp a < lgp b := by
  unfold lgp
  rw [if_neg (by omega : ¬ b ≤ 0)]
  by_cases ha : a ≤ 0
  · rw [if_pos ha]; omega
  · rw [if_neg ha]
    have h1 : 2 ^ a.toNat.log2 ≤ a.toNat := Nat.log2_self_le (by omega)
    have h2 : a.toNat.log2 + 1 ≤ b.toNat.log2 := (Nat.le_log2 (by omega)).mpr (by rw [Nat.pow_succ]; omega)
    omega
theorem lgp_le {z : Int} (h : z < 2 ^ 140) : lgp z ≤ 140 := by
  unfold lgp
  split
  · exact Nat.zero_le _
  · have : z.toNat.log2 < 140 := (Nat.log2_lt (by omega)).mpr (by omega)
    omega
def phi (B : List Int) (x : Int) : Nat := (B.map fun b => lgp (b + 1 - x)).sum
theorem phi_cons (b : Int) (B : List Int) (x : Int) : phi (b :: B) x = lgp (b + 1 - x) + phi B x := rfl
theorem phi_mono : ∀ (B : List Int) {x y : Int}, x ≤ y → phi B y ≤ phi B x
  | [], _, _, _ => Nat.le_refl 0
  | b :: B, x, y, h => by
    have h1 := phi_mono B h
    have h2 := lgp_mono (show b + 1 - y ≤ b + 1 - x by omega)
    rw [phi_cons, phi_cons]
    omega
theorem phi_less : ∀ (B : List Int) {e x y : Int}, e ∈ B → x ≤ y → lgp (e + 1 - y) < lgp (e + 1 - x) → phi B y < phi B x
  | b :: B, e, x, y, he, h, hl => by
    rw [phi_cons, phi_cons]
    rcases List.mem_cons.mp he with rfl | he
    · have := phi_mono B h
      omega
    · have h1 := phi_less B he h hl
      have h2 := lgp_mono (show b + 1 - y ≤ b + 1 - x by omega)
      omega
theorem phi_le : ∀ (B : List Int) {x : Int}, (∀ b ∈ B, b + 1 - x < 2 ^ 140) → phi B x ≤ 140 * B.length
  | [], _, _ => Nat.le_refl 0
  | b :: B, x, h => by
    have h1 := phi_le B fun y hy => h y (List.mem_cons_of_mem _ hy)
    have h2 := lgp_le (h b List.mem_cons_self)
    rw [phi_cons, List.length_cons]
    omega
/-- all numbers at which a stretch may end -/
def breaks (ps : List PieceT) (b : Option Int) (stop : Int) : List Int := stop :: ((ps.filterMap fun pc => pc.2.1.map fun m => m - 1) ++ match b with
  | some m => ps.flatMap fun pc => fitsOf m pc.2.2
  | none => [])
theorem mem_breaks {ps : List PieceT} {pc : PieceT} {start e stop : Int} {b : Option Int} (hm : pc ∈ ps) (E : EndOk pc.2.1 pc.2.2 start b stop e) : e ∈ breaks ps b stop := by
  unfold breaks
  rcases E.from_ with h | h | ⟨m, p, rfl, hp, rfl⟩
  · rw [h]; exact List.mem_cons_self
  · refine List.mem_cons_of_mem _ (List.mem_append_left _ (List.mem_filterMap.mpr ⟨pc, hm, ?_⟩))
    rw [h]
    show some (e + 1 - 1) = some e
    rw [Int.add_sub_cancel]
  · exact List.mem_cons_of_mem _ (List.mem_append_right _ (List.mem_flatMap.mpr ⟨pc, hm, mem_fits.mpr ⟨p, hp, rfl⟩⟩))
theorem fits_len (m : Int) (ts : List PyData) : (fitsOf m ts).length ≤ ts.length := List.length_filterMap_le _ ts
theorem breaks_len {ps : List PieceT} {b : Option Int} {stop : Int} (h8 : ps.length ≤ 8) (ht : ∀ pc ∈ ps, pc.2.2.length ≤ 8) : (breaks ps b stop).length ≤ 73 := by
  have h1 := List.length_filterMap_le (fun pc : PieceT => pc.2.1.map fun m => m - 1) ps
  have h2 : ∀ (m : Int) (ps : List PieceT), (∀ pc ∈ ps, pc.2.2.length ≤ 8) → (ps.flatMap fun pc => fitsOf m pc.2.2).length ≤ 8 * ps.length := fun m ps => by
    induction ps with
    | nil => intro _; exact Nat.le_refl 0
    | cons pc ps ih =>
      intro h
      have i1 := ih fun x hx => h x (List.mem_cons_of_mem _ hx)
      have i2 := fits_len m pc.2.2
      have i3 := h pc List.mem_cons_self
      rw [List.flatMap_cons, List.length_append, List.length_cons]
      omega
  unfold breaks
  rw [List.length_cons, List.length_append]
  cases b with
  | none => show _ + 0 + 1 ≤ 73; omega
  | some m =>
    have := h2 m ps ht
    show _ + (ps.flatMap fun pc => fitsOf m pc.2.2).length + 1 ≤ 73
    omega
/-- what the class of runs is -/
structure RunC (K : PySem.W.Frag) (mg : Str → Option Value) (C fI : Addr) : Prop where
  cl : Cls K C
  nSt : NoAttr K C "steps"
  nSp : NoAttr K C "spare"
  nLe : NoAttr K C "length"
  nTi : NoAttr K C "times"
  g : mg "Run" = some (.ref C)
  make : Mk K C fI
/-- what a run holds -/
def rf (p : Addr) (S : List StepT) (t : Int) : List (Str × V) := putF "times" (.int t) (putF "length" (.int (lenR S)) (putF "spare" (.int (spareR S : Nat)) (putF "steps" (.ref p) [])))
theorem putF_len (f : Str) (v : V) : ∀ fs : List (Str × V), (putF f v fs).length ≤ fs.length + 1
  | [] => Nat.le_refl _
  | (g, x) :: r => by
    have ih := putF_len f v r
    unfold putF
    split
    · exact Nat.le_succ _
    · rw [List.length_cons, List.length_cons]
      omega
theorem pl1 (f : Str) (v : V) : (putF f v []).length < 1000 := Nat.lt_of_le_of_lt (putF_len f v []) (by show 0 + 1 < 1000; decide)
theorem pl2 (f g : Str) (v y : V) : (putF f v (putF g y [])).length < 1000 := by
  have := putF_len f v (putF g y [])
  have := putF_len g y []
  simp at *
  omega
theorem pl3 (f g h : Str) (v y z : V) : (putF f v (putF g y (putF h z []))).length < 1000 := by
  have := putF_len f v (putF g y (putF h z []))
  have := putF_len g y (putF h z [])
  have := putF_len h z []
  simp at *
  omega
theorem rf_times (p : Addr) (S : List StepT) (t : Int) : (rf p S t).lookup ("times" : Str) = some (.int t) := by
  unfold rf
  rw [lookup_putF, if_pos rfl]
theorem rf_length (p : Addr) (S : List StepT) (t : Int) : (rf p S t).lookup ("length" : Str) = some (.int (lenR S)) := by
  unfold rf
  rw [lookup_putF, if_neg (by decide +kernel), lookup_putF, if_pos rfl]
theorem rf_spare (p : Addr) (S : List StepT) (t : Int) : (rf p S t).lookup ("spare" : Str) = some (.int (spareR S : Nat)) := by
  unfold rf
  rw [lookup_putF, if_neg (by decide +kernel), lookup_putF, if_neg (by decide +kernel), lookup_putF, if_pos rfl]
theorem rf_steps (p : Addr) (S : List StepT) (t : Int) : (rf p S t).lookup ("steps" : Str) = some (.ref p) := by
  unfold rf
  rw [lookup_putF, if_neg (by decide +kernel), lookup_putF, if_neg (by decide +kernel), lookup_putF, if_neg (by decide +kernel), lookup_putF, if_pos rfl]
def timesOf (S : List StepT) (room : Int) : Int := max 1 (room / lenR S)
def spInit (C : Addr) : Sp := fun vs H Q _ => ∃ x p dx vs' S, ∃ room : Int, vs = [.ref x, .ref p, .int room] ∧ H x = some (.ins C dx []) ∧ H p = some (.lst vs') ∧ StAt H vs' S ∧ S ≠ [] ∧ S.length ≤ 8 ∧ (∀ s ∈ S, 0 ≤ s.2 ∧ s.2 ≤ GREAT + 1) ∧ ∀ H' dx, (∀ c o, H c = some o → c ≠ x → H' c = some o) → H' x = some (.ins C dx (rf p S (timesOf S room))) → Q .non H'
section
variable {P : Program} {w : World} {K : PySem.W.Frag} {mg : Str → Option Value} {base : Heap}
theorem ok_init {f C : Addr} {fd : FuncData} (F : Fun K "__init__" "Run.__init__" sInit f fd) (T : Nm mg) (hmax : mg "max" = none) {fI : Addr} (TC : RunC K mg C fI) : FnOk P w K mg base CX0 1 f fd ["self", "steps", "room"] (spInit C) := by
  refine F.ok scInit (fun vs H Q E ⟨x, p, dx, vs', S, room, e, _⟩ => by rw [e]; rfl) (fun cdv A outer s H vs Q E hr h => ?_)
  obtain ⟨x, p, dx, vs', S, room, rfl, hx, hp, hSt, hne, h8, hw, q⟩ := h
  have nd := scInit.nd
  have sz := sz5000
  refine ⟨_, (pss_cons (ps_fld (pv 0) (pv 1) rfl)
    (pss_cons (ps_fld (pv 0) (pe_callB call_len_seq (by rfl) T.len PySem.boot_len (pa_cons (pe_lc (own := [("person", 3), ("width", 4)]) (g := gTup K 2 (gCons (gName 3) (gCons (gName 4) gNil)))  rfl nd (pi_list (pv 1)) (blkOk_by (N := nInit) (sc := defScope sInit) (by decide +kernel))
        (fun _ _ _ _ _ => pg_tup rfl (pgs_cons (pg_name (i := 3) nd rfl (.inl rfl) (.inr rfl)) (pgs_cons (pg_name (i := 4) nd rfl (.inl rfl) (.inr rfl)) pgs_nil))) (fun _ _ _ _ _ => pts_one (pt_cmpR op_eq (pv 4) pe_int (nomark _))) (fun _ _ _ _ _ => (pv 4))) pa_nil)) rfl)
    (pss_cons (ps_fld (pv 0) (pe_op op_add (pe_fld (pv 0) rfl) (pe_callB (cr_sum rfl) (by rfl) T.sum (by decide +kernel) (pa_cons (pe_lc (own := [("person", 3), ("width", 4)]) (g := gTup K 2 (gCons (gName 3) (gCons (gName 4) gNil))) (tt := tYes) rfl nd (pi_list (pv 1)) (blkOk_by (N := nInit) (sc := defScope sInit) (by decide +kernel))
        (fun _ _ _ _ _ => pg_tup rfl (pgs_cons (pg_name (i := 3) nd rfl (.inl rfl) (.inr rfl)) (pgs_cons (pg_name (i := 4) nd rfl (.inl rfl) (.inr rfl)) pgs_nil))) (fun _ _ _ _ _ => pts_nil) (fun _ _ _ _ _ => (pv 4))) pa_nil))) rfl)
    (pss_one (ps_fld (pv 0) (pe_callB (call_max2 rfl) (by rfl) hmax (by decide +kernel) (pa_cons pe_int (pa_cons (pe_op op_fdivW (pv 2) (pe_fld (pv 0) rfl)) pa_nil))) rfl))))), ?_⟩
  have npx : p ≠ x := fun z => by rw [z, hx] at hp; cases hp
  have lv := hSt.len
  -- self.steps = steps
  refine ⟨.ref p, rfl, .ref x, rfl, x, C, dx, [], rfl, hx, TC.cl, TC.nSt, by decide, ?_⟩
  have k1 : ∀ c o, H c = some o → c ≠ x → (upd H x (.ins C dx (putF "steps" (.ref p) []))) c = some o := fun c o h n => by rw [upd_ne n]; exact h
  have e1 : (upd H x (.ins C dx (putF "steps" (.ref p) []))) x = some (.ins C dx (putF "steps" (.ref p) [])) := upd_same
  generalize upd H x (.ins C dx (putF "steps" (.ref p) [])) = H1 at k1 e1
  have tupx : ∀ {c : Addr} {xs : List V}, H c = some (.tup xs) → c ≠ x := fun {c xs} h z => by rw [z, hx] at h; cases h
  have st1 : StAt H1 vs' S := hSt.kt fun c xs h => k1 c _ h (tupx h)
  have hp1 := k1 p _ hp npx
  -- the spare ones
  have comp : ∀ {H1 : Hp} {Qd : Hp → Prop} {D : Addr} {σ : L2.St}, H1 D = none → H1 p = some (.lst vs') → StAt H1 vs' S → True := fun _ _ _ => trivial
  refine ⟨.ref p, rfl, p, rfl, ⟨vs', SqL.of hp1⟩, fun D nD => ?_⟩
  refine lc_list (xs := vs') (fun i H5 => H5 = upd H1 D (.lst ((((S.take i).filter fun s => decide (s.2 = 0)).map (·.2)).map V.int))) rfl (fun i H5 _ e => by rw [e]; exact SqL.of (same_upd nD _ _ hp1)) (fun i v H5 hv e => ?_) (fun H5 e => ?_)
  · subst e
    have li : i < S.length := by rw [← lv]; exact (List.getElem?_eq_some_iff.mp hv).1
    obtain ⟨⟨a, w'⟩, hs⟩ : ∃ s, S[i]? = some s := ⟨_, List.getElem?_eq_getElem li⟩
    obtain ⟨b, hb1, hb2⟩ := st1.at_ i _ hs
    rw [hb1] at hv
    cases hv
    have hl : ((((S.take i).filter fun s => decide (s.2 = 0)).map (·.2)).map V.int).length < sizeLine := by
      rw [List.length_map, List.length_map]
      have h1 := List.length_filter_le (fun s : StepT => decide (s.2 = 0)) (S.take i)
      rw [List.length_take] at h1
      omega
    refine ⟨b, [.int a, .int w'], rfl, SqT.of (same_upd nD _ _ hb2), rfl, .int a, [.int w'], rfl, .int w', [], rfl, rfl, rfl, .int w', rfl, rfl, _, rfl, ?_⟩
    rw [List.take_add_one, hs, List.filter_append]
    by_cases c : w' = 0
    · rw [decide_eq_true (by rw [c])]
      refine iteT ⟨.int w', rfl, _, upd_same, hl, ?_⟩
      rw [upd_upd]
      show _ = upd H1 D (.lst ((((_ : List StepT) ++ List.filter (fun s : StepT => decide (s.2 = 0)) [(a, w')]).map (fun s : StepT => s.2)).map V.int))
      rw [List.filter_cons, if_pos (by simpa using c), List.map_append, List.map_append]
      rfl
    · rw [decide_eq_false (fun z => c (V.int.inj z))]
      refine iteF ?_
      show _ = upd H1 D (.lst ((((_ : List StepT) ++ List.filter (fun s : StepT => decide (s.2 = 0)) [(a, w')]).map (fun s : StepT => s.2)).map V.int))
      rw [List.filter_cons, if_neg (by simpa using c)]
      show _ = upd H1 D (.lst ((((_ : List StepT) ++ []).map (fun s : StepT => s.2)).map V.int))
      rw [List.append_nil]
  · have e' : H5 = upd H1 D (.lst (((S.filter fun s => decide (s.2 = 0)).map (·.2)).map V.int)) := by rw [e, lv, List.take_length]
    clear e
    subst e'
    have s2 := same_upd (o := .lst (((S.filter fun s => decide (s.2 = 0)).map (·.2)).map V.int)) nD
    have eD : (upd H1 D (.lst (((S.filter fun s => decide (s.2 = 0)).map (·.2)).map V.int))) D = some (.lst (((S.filter fun s => decide (s.2 = 0)).map (·.2)).map V.int)) := upd_same
    generalize upd H1 D (.lst (((S.filter fun s => decide (s.2 = 0)).map (·.2)).map V.int)) = H2 at s2 eD
    refine ⟨D, _, rfl, .inl (SqL.of eD), .ref x, rfl, x, C, dx, _, rfl, s2 _ _ e1, TC.cl, TC.nSp, pl1 _ _, ?_⟩
    have esp : ((((S.filter fun s => decide (s.2 = 0)).map (·.2)).map V.int).length : Int) = ((spareR S : Nat) : Int) := by
      rw [List.length_map, List.length_map]
      rfl
    rw [esp]
    have k3 : ∀ c o, H c = some o → c ≠ x → (upd H2 x (.ins C dx (putF "spare" (.int (spareR S : Nat)) (putF "steps" (.ref p) [])))) c = some o := fun c o h n => by rw [upd_ne n]; exact s2 _ _ (k1 c o h n)
    have e3 : (upd H2 x (.ins C dx (putF "spare" (.int (spareR S : Nat)) (putF "steps" (.ref p) [])))) x = some (.ins C dx (putF "spare" (.int (spareR S : Nat)) (putF "steps" (.ref p) []))) := upd_same
    generalize upd H2 x (.ins C dx (putF "spare" (.int (spareR S : Nat)) (putF "steps" (.ref p) []))) = H3 at k3 e3
    have hp3 := k3 p _ hp npx
    have st3 : StAt H3 vs' S := hSt.kt fun c xs h => k3 c _ h (tupx h)
    -- self.length
    refine ⟨.ref x, rfl, x, C, dx, _, .int ((spareR S : Nat) : Int), rfl, e3, TC.cl, TC.nSp, by rw [lookup_putF, if_pos rfl], ?_⟩
    refine ⟨.ref p, rfl, p, rfl, ⟨vs', SqL.of hp3⟩, fun D2 nD2 => ?_⟩
    refine lc_list (xs := vs') (fun i H5 => H5 = upd H3 D2 (.lst (((S.take i).map (·.2)).map V.int))) rfl (fun i H5 _ e => by rw [e]; exact SqL.of (same_upd nD2 _ _ hp3)) (fun i v H5 hv e => ?_) (fun H5 e => ?_)
    · subst e
      have li : i < S.length := by rw [← lv]; exact (List.getElem?_eq_some_iff.mp hv).1
      obtain ⟨⟨a, w'⟩, hs⟩ : ∃ s, S[i]? = some s := ⟨_, List.getElem?_eq_getElem li⟩
      obtain ⟨b, hb1, hb2⟩ := st3.at_ i _ hs
      rw [hb1] at hv
      cases hv
      refine ⟨b, [.int a, .int w'], rfl, SqT.of (same_upd nD2 _ _ hb2), rfl, .int a, [.int w'], rfl, .int w', [], rfl, rfl, rfl, yesT ⟨.int w', rfl, _, upd_same, by rw [List.length_map, List.length_map, List.length_take]; omega, ?_⟩⟩
      rw [upd_upd, List.take_add_one, hs, List.map_append, List.map_append]
      rfl
    · have e' : H5 = upd H3 D2 (.lst ((S.map (·.2)).map V.int)) := by rw [e, lv, List.take_length]
      clear e
      subst e'
      have s4 := same_upd (o := .lst ((S.map (·.2)).map V.int)) nD2
      have eD2 : (upd H3 D2 (.lst ((S.map (·.2)).map V.int))) D2 = some (.lst ((S.map (·.2)).map V.int)) := upd_same
      generalize upd H3 D2 (.lst ((S.map (·.2)).map V.int)) = H4 at s4 eD2
      refine ⟨D2, S.map (·.2), rfl, SqL.of eD2, ((spareR S : Nat) : Int), _, rfl, rfl, .ref x, rfl, x, C, dx, _, rfl, s4 _ _ e3, TC.cl, TC.nLe, pl2 _ _ _ _, ?_⟩
      have elen : ((spareR S : Nat) : Int) + (S.map (·.2)).sum = lenR S := lenR_sum S fun s hs => (hw s hs).1
      dsimp only
      rw [elen]
      have k5 : ∀ c o, H c = some o → c ≠ x → (upd H4 x (.ins C dx (putF "length" (.int (lenR S)) (putF "spare" (.int (spareR S : Nat)) (putF "steps" (.ref p) []))))) c = some o := fun c o h n => by rw [upd_ne n]; exact s4 _ _ (k3 c o h n)
      have e5 : (upd H4 x (.ins C dx (putF "length" (.int (lenR S)) (putF "spare" (.int (spareR S : Nat)) (putF "steps" (.ref p) []))))) x = some (.ins C dx (putF "length" (.int (lenR S)) (putF "spare" (.int (spareR S : Nat)) (putF "steps" (.ref p) [])))) := upd_same
      generalize upd H4 x (.ins C dx (putF "length" (.int (lenR S)) (putF "spare" (.int (spareR S : Nat)) (putF "steps" (.ref p) [])))) = H6 at k5 e5
      have hl1 : 1 ≤ lenR S := by
        have := lenR_pos S
        have : S.length ≠ 0 := fun z => hne (List.length_eq_zero_iff.mp z)
        omega
      have hl2 : lenR S < 2 ^ 140 := by
        have h1 := lenR_le (m := 1000000000000000000000000000001) S (fun s hs => (hw s hs).2) (by decide)
        have h2 : (S.length : Int) * 1000000000000000000000000000001 ≤ 8 * 1000000000000000000000000000001 := Int.mul_le_mul_of_nonneg_right (by omega) (by decide)
        omega
      refine ⟨.int room, rfl, .ref x, rfl, x, C, dx, _, .int (lenR S), rfl, e5, TC.cl, TC.nLe, by rw [lookup_putF, if_pos rfl], room, lenR S, rfl, rfl, wide_div (b := 140) (by omega) (by omega) (by decide) (by decide), 1, room / lenR S, rfl, .ref x, rfl, x, C, dx, _, rfl, e5, TC.cl, TC.nTi, pl3 _ _ _ _ _ _, ?_⟩
      have et : (if room / lenR S > 1 then room / lenR S else 1) = timesOf S room := by unfold timesOf; split <;> omega
      rw [et]
      exact q _ dx (fun c o h n => by rw [upd_ne n]; exact k5 c o h n) upd_same
end
end CL
set_option Elab.async false
set_option linter.all false
set_option pp.maxSteps 400
set_option maxRecDepth 100000
set_option maxHeartbeats 4000000
namespace CL
open PySem PySem.Spec PyProof.Rows L2 GE
theorem Int.dvd_sub_of_emod_eq' {a b n : Int} (h : a % n = b % n) : n ∣ a - b := Int.dvd_of_emod_eq_zero (by rw [Int.sub_emod, h, Int.sub_self, Int.zero_emod])
def RunAt (C D : Addr) (H : Hp) (v : V) (r : RunT) : Prop := ∃ x dx p vs, v = .ref x ∧ p ≠ D ∧ H x = some (.ins C dx (rf p r.steps (r.times : Int))) ∧ H p = some (.lst vs) ∧ StAt H vs r.steps
structure RunsAt (C D : Addr) (H : Hp) (vs : List V) (rs : List RunT) : Prop where
  len : vs.length = rs.length
  at_ : ∀ (i : Nat) (r : RunT), rs[i]? = some r → ∃ v, vs[i]? = some v ∧ RunAt C D H v r
theorem RunAt.kd {C D : Addr} {H H' : Hp} {v : V} {r : RunT} {ws : List V} (h : RunAt C D H v r) (hD : H D = some (.lst ws)) (k : ∀ b o, b ≠ D → H b = some o → H' b = some o) : RunAt C D H' v r := by
  obtain ⟨x, dx, p, vs, e, n, h1, h2, h3⟩ := h
  exact ⟨x, dx, p, vs, e, n, k _ _ (fun z => by rw [z, hD] at h1; cases h1) h1, k _ _ n h2, h3.kt fun b xs hb => k _ _ (fun z => by rw [z, hD] at hb; cases hb) hb⟩
theorem RunsAt.kd {C D : Addr} {H H' : Hp} {vs : List V} {rs : List RunT} {ws : List V} (h : RunsAt C D H vs rs) (hD : H D = some (.lst ws)) (k : ∀ b o, b ≠ D → H b = some o → H' b = some o) : RunsAt C D H' vs rs := ⟨h.len, fun i r hr => by
  obtain ⟨v, h1, h2⟩ := h.at_ i r hr
  exact ⟨v, h1, h2.kd hD k⟩⟩
theorem RunsAt.same {C D : Addr} {H H' : Hp} {vs : List V} {rs : List RunT} {ws : List V} (h : RunsAt C D H vs rs) (hD : H D = some (.lst ws)) (s : Same H H') : RunsAt C D H' vs rs := h.kd hD fun b o _ e => s b o e
theorem RunsAt.add {C D : Addr} {H H' : Hp} {vs : List V} {rs : List RunT} {v : V} {r : RunT} (h : RunsAt C D H vs rs) (s : Same H H') (hD' : H' D = some (.lst vs)) (hr : RunAt C D H' v r) : RunsAt C D (upd H' D (.lst (vs ++ [v]))) (vs ++ [v]) (rs ++ [r]) := by
  have k : ∀ b o, b ≠ D → H' b = some o → (upd H' D (.lst (vs ++ [v]))) b = some o := fun b o n e => by rw [upd_ne n]; exact e
  refine ⟨by rw [List.length_append, List.length_append, h.len]; rfl, fun i x hx => ?_⟩
  by_cases c : i < rs.length
  · rw [List.getElem?_append_left c] at hx
    obtain ⟨w, h1, x1, dx, p, ws, e, n, h2, h3, h4⟩ := h.at_ i x hx
    refine ⟨w, by rw [List.getElem?_append_left (by rw [h.len]; exact c)]; exact h1, RunAt.kd (ws := vs) ⟨x1, dx, p, ws, e, n, s _ _ h2, s _ _ h3, h4.kt (KT.of s)⟩ hD' k⟩
  · have hi : i = rs.length := by
      obtain ⟨l, _⟩ := List.getElem?_eq_some_iff.mp hx
      rw [List.length_append, List.length_singleton] at l
      omega
    subst hi
    rw [List.getElem?_concat_length] at hx
    cases hx
    exact ⟨v, by rw [← h.len]; exact List.getElem?_concat_length, hr.kd hD' k⟩
theorem runOk_of {ps : List PieceT} {pc : PieceT} {x a c e stop : Int} {b : Option Int} {S : List StepT} {T : Nat} (hf : ps.find? (comes x) = some pc) (E : EndOk pc.2.1 pc.2.2 x b stop e) (hxa : x ≤ a) (hP : Pth (Wst pc.1 pc.2.2 b x e) a S c) (hne : S ≠ []) (h8 : S.length ≤ 8) (hT : 1 ≤ T)
    (hd : T = 1 ∨ lenR S % (pc.2.2.length : Int) = 0) (hrp : T = 1 ∨ a + T * lenR S ≤ e + 1) (hle : ∀ s ∈ S, s.1 + ((T : Int) - 1) * lenR S ≤ e) : RunOk ps b stop a ⟨S, T⟩ := by
  have hl : 0 ≤ lenR S := by have := lenR_pos S; omega
  refine ⟨hne, hT, h8, fun k hk => ?_, fun y pc' t h1 h2 h3 h4 => ?_⟩
  rotate_left
  · have h2 : y + lenR S < a + T * lenR S := h2
    rcases Nat.lt_or_ge 1 T with c | c
    · have hd' : lenR S % (pc.2.2.length : Int) = 0 := by
        rcases hd with z | z
        · omega
        · exact z
      have he : a + T * lenR S ≤ e + 1 := by
        rcases hrp with z | z
        · omega
        · exact z
      have f1 := comes_on hf (show x ≤ y by omega) fun m e2 => by have := E.pst m e2; omega
      have f2 := comes_on hf (show x ≤ y + lenR S by omega) fun m e2 => by have := E.pst m e2; omega
      rw [f1] at h3
      cases h3
      refine ⟨f2, ?_⟩
      have e3 : tnI pc.1 pc.2.2.length (y + lenR S) = tnI pc.1 pc.2.2.length y := by
        unfold tnI
        rw [show y + lenR S - pc.1 = y - pc.1 + lenR S by omega, Int.add_emod, hd', Int.add_zero, Int.emod_emod_of_dvd _ (Int.dvd_refl _)]
      show pc.2.2[(tnI pc.1 pc.2.2.length (y + lenR S)).toNat]? = some t
      rw [e3]
      exact h4
    · have : T = 1 := by omega
      rw [this, show (((1 : Nat) : Int)) * lenR S = lenR S from Int.one_mul _] at h2
      omega
  have hk' : k < T := hk
  have h0 : 0 ≤ (k : Int) * lenR S := Int.mul_nonneg (by omega) hl
  have hk1 : (k : Int) * lenR S ≤ ((T : Int) - 1) * lenR S := Int.mul_le_mul_of_nonneg_right (by omega) hl
  have hz : (k : Int) * lenR S % (pc.2.2.length : Int) = 0 := by
    rcases hd with h | h
    · have : k = 0 := by omega
      rw [this, show ((0 : Nat) : Int) * lenR S = 0 from Int.zero_mul _, Int.zero_emod]
    · rw [Int.mul_emod, h, Int.mul_zero, Int.zero_emod]
  have hend := hP.end_
  show Pth (WS ps b stop) (a + k * lenR S) (shift (k * lenR S) S) (a + (k * lenR S + lenR S))
  rw [show a + ((k : Int) * lenR S + lenR S) = c + k * lenR S by omega]
  refine hP.shift fun s hs hw => ?_
  have h1 := (hP.le.2 s hs).1
  have h2 := hle s hs
  exact wst_on hf E (by omega) hw h0 (by omega) hz
structure PsOk (ps : List PieceT) : Prop where
  len : ps.length ≤ 8
  turns : ∀ pc ∈ ps, 1 ≤ pc.2.2.length ∧ pc.2.2.length ≤ 8 ∧ ∀ t ∈ pc.2.2, isPatience t = true
def spRuns (C : Addr) : Sp := fun vs H Q _ => ∃ a ps, ∃ start stop : Int, ∃ b : Option Int, vs = [.ref a, .int start, optV b, .int stop] ∧ PcsAt H a ps ∧ PsOk ps ∧ 0 ≤ start ∧ (∀ x, start ≤ x → x ≤ stop → ∃ pc, ps.find? (comes x) = some pc) ∧ (∀ y ∈ breaks ps b stop, y < 2 ^ 139) ∧
  ∀ D ws rs c H', Same H H' → H D = none → H' D = some (.lst ws) → RunsAt C D H' ws rs → Lvl ps b stop start rs c → stop < c → rs.length ≤ 20440 → (rs = [] → stop < start) → Q (.ref D) H'
section
variable {P : Program} {w : World} {K : PySem.W.Frag} {mg : Str → Option Value} {base : Heap}
theorem ok_runs {f C fI : Addr} {fd fdI : FuncData} (F : Fun K "runs_on" "runs_on" sRuns f fd) (TC : RunC K mg C fI) (FI : FnOk P w K mg base CX0 1 fI fdI ["self", "steps", "room"] (spInit C)) (bI : Binds K fdI ["self", "steps", "room"] [])
    (CP : Cal P w K mg base 1 "piece_number" ["pieces", "person"] spPieceNo) (CE : Cal P w K mg base 1 "stretch_end" ["piece", "start", "bound", "stop"] spEnd) (CT : Cal P w K mg base 2 "stretch_steps" ["piece", "start", "bound", "end"] spSteps) : FnOk P w K mg base CX0 3 f fd ["pieces", "start", "bound", "stop"] (spRuns C) := by
  refine F.ok scRuns (fun vs H Q E ⟨a, ps, st0, stop, b, e, _⟩ => by rw [e]; rfl) (fun cdv A0 outer s H vs Q E hr h => ?_)
  obtain ⟨a, ps, start, stop, b, rfl, hp, hps, h0, hfind, hB, q⟩ := h
  have nd := scRuns.nd
  have sz : 30000 ≤ sizeLine := by decide
  refine ⟨_, (pss_cons (ps_set (i := 4) nd rfl (.inl rfl) (pe_lst pa_nil))
    (pss_cons (ps_set (i := 5) nd rfl (.inl rfl) (pv 1))
    (pss_cons (ps_while PassesOwn.never (pt_cmpR op_le (pv 5) (pv 3) (nomark _))
    (pss_cons (ps_set (i := 6) nd rfl (.inl rfl) (pe_ix ix_seq (pv 0) (pe_cal (CP.mono (by decide)) hr (by rfl) (pa_cons (pv 0) (pa_cons (pv 5) pa_nil))) (fun _ _ => rfl)))
    (pss_cons (ps_set (i := 7) nd rfl (.inl rfl) (pe_cal (CE.mono (by decide)) hr (by rfl) (pa_cons (pv 6) (pa_cons (pv 5) (pa_cons (pv 2) (pa_cons (pv 3) pa_nil))))))
    (pss_cons (ps_asg (pe_cal (CT.mono (by decide)) hr (by rfl) (pa_cons (pv 6) (pa_cons (pv 5) (pa_cons (pv 2) (pa_cons (pv 7) pa_nil))))) (pg_tup rfl (pgs_cons (pg_name (i := 8) nd rfl (.inl rfl)) (pgs_cons (pg_name (i := 9) nd rfl (.inl rfl)) pgs_nil))))
    (pss_cons (ps_if (pt_truth (pv 8) (by intro _; rfl)) (pss_cons (ps_expr (pe_bm PySem.F.plainAttrs_list PySem.F.slot_list_append PySem.F.type_list_append mt_append (pv 4) (pa_cons (pe_make TC.make FI hr (by rfl) TC.g bI .nil pass0 (pa_cons (pv 8) (pa_cons pe_int pa_nil))) pa_nil)))
    (pss_one (ps_aug (i := 5) nd rfl (.inl rfl) (pe_fld (pe_ix ix_list (pv 4) (pe_un un_neg pe_int) (fun _ _ => rfl)) rfl) ip_add))) pss_nil)
    (pss_one (ps_if (pt_truth (pv 9) (by intro _; rfl)) (pss_cons (ps_expr (pe_bm PySem.F.plainAttrs_list PySem.F.slot_list_append PySem.F.type_list_append mt_append (pv 4) (pa_cons (pe_make TC.make FI hr (by rfl) TC.g bI .nil pass0 (pa_cons (pv 9) (pa_cons (pe_op op_sub (pe_op op_add (pv 7) pe_int) (pv 5)) pa_nil))) pa_nil)))
    (pss_one (ps_aug (i := 5) nd rfl (.inl rfl) (pe_op op_mulW (pe_fld (pe_ix ix_list (pv 4) (pe_un un_neg pe_int) (fun _ _ => rfl)) rfl) (pe_fld (pe_ix ix_list (pv 4) (pe_un un_neg pe_int) (fun _ _ => rfl)) rfl)) ip_add))) pss_nil)))))))
    (pss_one (ps_ret (pv 4)))))), ?_⟩
  have hblen := breaks_len (b := b) (stop := stop) hps.len fun pc hpc => (hps.turns pc hpc).2.1
  have hphi0 : phi (breaks ps b stop) start ≤ 10220 := by
    have := phi_le (breaks ps b stop) (x := start) fun y hy => by have := hB y hy; omega
    omega
  refine ⟨Nat.zero_le _, fun D nDH => ?_⟩
  have s1 := same_upd (o := .lst []) nDH
  have e1D : (upd H D (.lst [])) D = some (.lst []) := upd_same
  generalize upd H D (.lst []) = H1 at s1 e1D
  refine ⟨.int start, rfl, ?_⟩
  refine ⟨fun k σ H4 => ∃ ws rs, ∃ x : Int, ∃ y6 y7 y8 y9, σ = [some (.ref a), some (.int start), some (optV b), some (.int stop), some (.ref D), some (.int x), y6, y7, y8, y9] ∧ Same H H4 ∧ H4 D = some (.lst ws) ∧ RunsAt C D H4 ws rs ∧ Lvl ps b stop start rs x ∧ start ≤ x ∧
      rs.length + 2 * phi (breaks ps b stop) x ≤ 2 * phi (breaks ps b stop) start ∧ (rs = [] → x = start) ∧ k = (stop + 1 - x).toNat, ⟨_, [], [], start, none, none, none, none, rfl, s1, e1D, ⟨rfl, fun i r h => by cases i <;> cases h⟩, rfl, Int.le_refl _, by show 0 + _ ≤ _; omega, fun _ => rfl, rfl⟩, fun k σ H4 ⟨ws, rs, x, y6, y7, y8, y9, eσ, s4, e4D, ra, lv, hsx, hlen, hr0, hk⟩ => ?_⟩
  subst eσ
  refine ⟨.int x, rfl, .int stop, rfl, x, stop, rfl, rfl, _, rfl, ?_⟩
  by_cases cx : x ≤ stop
  · rw [decide_eq_true cx]
    refine iteT ⟨fun σ' H' => ∃ m', m' < k ∧ ∃ ws rs, ∃ x : Int, ∃ y6 y7 y8 y9, σ' = [some (.ref a), some (.int start), some (optV b), some (.int stop), some (.ref D), some (.int x), y6, y7, y8, y9] ∧ Same H H' ∧ H' D = some (.lst ws) ∧ RunsAt C D H' ws rs ∧ Lvl ps b stop start rs x ∧ start ≤ x ∧
      rs.length + 2 * phi (breaks ps b stop) x ≤ 2 * phi (breaks ps b stop) start ∧ (rs = [] → x = start) ∧ m' = (stop + 1 - x).toNat, fun σ' H' ⟨m', h1, h2⟩ => ⟨m', h1, h2⟩, ?_⟩
    obtain ⟨pc, hfd⟩ := hfind x hsx cx
    have hmem := List.mem_of_find?_eq_some hfd
    obtain ⟨tl, th, tp⟩ := hps.turns pc hmem
    have hp4 : PcsAt H4 a ps := by
      obtain ⟨xs, h1, h2⟩ := hp.ex
      exact ⟨xs, s4 _ _ h1, RpAll.sm s4 h2⟩
    refine ⟨.ref a, rfl, .ref a, rfl, .int x, rfl, a, x, ps, pc, rfl, hp4, hfd, fun i hi => ?_⟩
    obtain ⟨xs, b0, t, zs, st, _, hxi, hb0, ht, hz⟩ := pc_at hp4 hi
    refine rix_of st hxi ?_
    have hT : TurnsAt H4 t pc.2.2 := ⟨⟨zs, ht, hz⟩, tp, tl, th⟩
    have hpast : ∀ m, pc.2.1 = some m → x < m := fun m e => by
      have := (List.find?_eq_some_iff_append.mp hfd).1
      unfold comes at this
      rw [e] at this
      exact of_decide_eq_true this
    refine ⟨.ref b0, rfl, .int x, rfl, optV b, rfl, .int stop, rfl, b0, t, pc.2.2, pc.1, x, stop, b, pc.2.1, rfl, hb0, hT, cx, hpast, fun e H5 s5 hE => ?_⟩
    refine ⟨.ref b0, rfl, .int x, rfl, optV b, rfl, .int e, rfl, b0, t, pc.2.2, pc.1, x, e, b, pc.2.1, rfl, s5 _ _ hb0, hT.same s5, hE.lo, fun pr A B va vb once again c H6 s6 nA nB epr eA eB stA stB hStp => ?_⟩
    refine ⟨pr, _, rfl, SqT.of epr, rfl, .ref A, _, rfl, .ref B, _, rfl, rfl, ?_⟩
    have s46 := s5.trans s6
    have s06 := s4.trans s46
    have e6D := s46 _ _ e4D
    have ra6 := ra.same e4D s46
    have nAD : A ≠ D := fun z => by rw [z, s5 _ _ e4D] at nA; cases nA
    have nBD : B ≠ D := fun z => by rw [z, s5 _ _ e4D] at nB; cases nB
    have hbr := mem_breaks hmem hE
    have hlo := hE.lo
    have hhi := hE.hi
    have hwid : ∀ s ∈ once ++ again, 0 ≤ s.2 ∧ s.2 ≤ GREAT + 1 := fun s hs => by
      obtain ⟨_, t', ht', hw'⟩ := (hStp.path.le.2 s hs).2.2
      have hpt := tp t' (List.mem_of_getElem? ht')
      rw [hw']
      refine ⟨wd_nn hpt, ?_⟩
      rcases pat_cases hpt with rfl | ⟨p, rfl, h1, h2⟩
      · show (0 : Int) ≤ GREAT + 1; decide
      · cases b with
        | none => show p + 1 ≤ GREAT + 1; omega
        | some m =>
          show (if x + p ≤ m then p + 1 else 0) ≤ GREAT + 1
          have : (0 : Int) ≤ GREAT := by decide
          split <;> omega
    by_cases hon : once = []
    · have hva : va = [] := List.length_eq_zero_iff.mp (by rw [stA.len, hon]; rfl)
      refine ⟨.ref A, rfl, false, .inl ⟨va, SqL.of eA, by rw [hva]; rfl⟩, iteF ?_⟩
      have hlen6 : rs.length + 2 * phi (breaks ps b stop) x ≤ 2 * phi (breaks ps b stop) start := hlen
      have hm6 : rs = [] → x = x := fun _ => rfl
      have k66 : ∀ c o, c ≠ D → H6 c = some o → H6 c = some o := fun _ _ _ h => h
      by_cases hag : again = []
      · exact absurd (by rw [hon, hag]; rfl) hStp.ne
      · -- some of them again and again
        have hvb : vb.isEmpty = false := by
          cases vb with
          | nil => exact absurd (List.length_eq_zero_iff.mp (by rw [← stB.len]; rfl)) hag
          | cons _ _ => rfl
        obtain ⟨s0, T0, eag⟩ : ∃ s0 T0, again = s0 :: T0 := by
          cases again with
          | nil => exact absurd rfl hag
          | cons s0 T0 => exact ⟨s0, T0, rfl⟩
        obtain ⟨hce, htn⟩ := hStp.rep s0 T0 eag
        obtain ⟨m2, hp1, hp2⟩ := hStp.path.split
        have hm2 : m2 = x := by
          have e := hp1.end_
          first | exact e | (rw [e, hon]; exact Int.add_zero x)
        rw [hm2] at hp1 hp2
        have hc2 := hp2.end_
        have hs0 : s0.1 = x := by
          rw [eag] at hp2
          exact hp2.1
        have hl1 : 1 ≤ lenR again := by
          have := lenR_pos again
          have : again.length ≠ 0 := fun z => hag (List.length_eq_zero_iff.mp z)
          omega
        have hdiv : lenR again % (pc.2.2.length : Int) = 0 := by
          have h1 : (c - pc.1) % (pc.2.2.length : Int) = (s0.1 - pc.1) % (pc.2.2.length : Int) := htn
          have h2 : lenR again = (c - pc.1) - (s0.1 - pc.1) := by omega
          rw [h2]
          exact Int.emod_eq_zero_of_dvd (Int.dvd_sub_of_emod_eq' h1)
        have hroom : lenR again < e + 1 - x := by omega
        generalize hrm : e + 1 - x = room at hroom
        have hT1 : 1 ≤ room / lenR again := Int.le_ediv_of_mul_le (by omega) (by omega)
        have hT2 : room / lenR again * lenR again ≤ room := Int.ediv_mul_le _ (by omega)
        have hT3 : room - room / lenR again * lenR again < lenR again := by
          have h1 := Int.emod_lt_of_pos room (show 0 < lenR again by omega)
          have h2 := Int.emod_add_mul_ediv room (lenR again)
          have h3 : lenR again * (room / lenR again) = room / lenR again * lenR again := Int.mul_comm _ _
          omega
        have hTt : timesOf again room = room / lenR again := by unfold timesOf; omega
        obtain ⟨tn, htn2⟩ : ∃ tn : Nat, room / lenR again = (tn : Int) := ⟨(room / lenR again).toNat, by omega⟩
        rw [htn2] at hT1 hT2 hT3
        have hTl : lenR again ≤ (tn : Int) * lenR again := by
          have := Int.mul_le_mul_of_nonneg_right hT1 (show 0 ≤ lenR again by omega)
          rw [Int.one_mul] at this
          exact this
        have hok : RunOk ps b stop (x) ⟨again, tn⟩ := runOk_of hfd hE (show x ≤ x by omega) hp2 hag (by have := hStp.len; rw [List.length_append] at this; omega) (by omega) (.inr hdiv) (.inr (by omega)) fun s hs => by
          have h1 := (hp2.le.2 s hs).2.1
          have h2 : ((tn : Int) - 1) * lenR again = (tn : Int) * lenR again - lenR again := by rw [Int.sub_mul, Int.one_mul]
          rw [h2]
          omega
        have hwb : ∀ s ∈ again, 0 ≤ s.2 ∧ s.2 ≤ GREAT + 1 := fun s hs => hwid s (List.mem_append_right _ hs)
        refine ⟨.ref B, rfl, true, .inl ⟨vb, SqL.of (k66 _ _ nBD eB), by rw [hvb]; rfl⟩, iteT ?_⟩
        refine ⟨.ref D, rfl, .inl ⟨rfl, _, SqL.of e6D⟩, .ref B, rfl, .int e, rfl, e, 1, rfl, rfl, .int (x), rfl, e + 1, x, rfl, rfl, fun x2 dx2 nx2 ndx2 nex2 => ?_⟩
        dsimp only
        rw [hrm]
        have nDx : D ≠ x2 := fun z => by rw [← z, e6D] at nx2; cases nx2
        have nDd : D ≠ dx2 := fun z => by rw [← z, e6D] at ndx2; cases ndx2
        have nBx : B ≠ x2 := fun z => by rw [← z, k66 _ _ nBD eB] at nx2; cases nx2
        have sx : Same H6 (upd (upd H6 dx2 (.own x2)) x2 (.ins C dx2 [])) := fun p o hp => by
          rw [upd_ne (fun z => by rw [z, nx2] at hp; cases hp), upd_ne (fun z => by rw [z, ndx2] at hp; cases hp)]
          exact hp
        refine ⟨x2, B, dx2, vb, again, room, rfl, upd_same, sx _ _ (k66 _ _ nBD eB), (stB.kt fun p o hp => k66 _ _ (fun z => by rw [z, e6D] at hp; cases hp) hp).kt (KT.of sx), hag, by have := hStp.len; rw [List.length_append] at this; omega, hwb, fun H10 dx3 k10 e10 => ⟨rfl, ?_⟩⟩
        rw [hTt, htn2] at e10
        have s10 : Same H6 H10 := fun p o hp => k10 p o (sx _ _ hp) (fun z => by rw [z, nx2] at hp; cases hp)
        have eD10 := s10 _ _ e6D
        refine ⟨D, _, .ref x2, rfl, rfl, eD10, by rw [ra6 |>.len]; have := hlen6; omega, ?_⟩
        have ra11 : RunsAt C D (upd H10 D (.lst (ws ++ [.ref x2]))) (ws ++ [.ref x2]) (rs ++ [⟨again, tn⟩]) := (ra6).add s10 eD10 ⟨x2, dx3, B, vb, rfl, nBD, e10, s10 _ _ (k66 _ _ nBD eB), (stB.kt fun p o hp => k66 _ _ (fun z => by rw [z, e6D] at hp; cases hp) hp).kt (KT.of s10)⟩
        have s11 : Same H (upd H10 D (.lst (ws ++ [.ref x2]))) := fun p o hp => by
          rw [upd_ne (fun z => by rw [z, nDH] at hp; cases hp)]
          exact s10 _ _ (s06 _ _ hp)
        have e11x : (upd H10 D (.lst (ws ++ [.ref x2]))) x2 = some (.ins C dx3 (rf B again (tn : Int))) := by rw [upd_ne (Ne.symm nDx)]; exact e10
        have e11D : (upd H10 D (.lst (ws ++ [.ref x2]))) D = some (.lst (ws ++ [.ref x2])) := upd_same
        generalize upd H10 D (.lst (ws ++ [.ref x2])) = H11 at ra11 s11 e11x e11D
        have hw2 := lenR_le (m := 1000000000000000000000000000001) again (fun s hs => (hwb s hs).2) (by decide)
        have hw3 : (again.length : Int) * 1000000000000000000000000000001 ≤ 8 * 1000000000000000000000000000001 := Int.mul_le_mul_of_nonneg_right (by have := hStp.len; rw [List.length_append] at this; omega) (by decide)
        have htr : (tn : Int) ≤ room := by
          have := Int.mul_le_mul_of_nonneg_left hl1 (show (0 : Int) ≤ (tn : Int) by omega)
          rw [Int.mul_one] at this
          omega
        have hbe := hB _ hbr
        refine ⟨.int (x), rfl, .ref D, rfl, 1, rfl, D, _, -1, .ref x2, rfl, rfl, SqL.of e11D, atI_last _ _, x2, C, dx3, _, .int (tn : Int), rfl, e11x, TC.cl, TC.nTi, rf_times _ _ _, .ref D, rfl, 1, rfl, D, _, -1, .ref x2, rfl, rfl, SqL.of e11D, atI_last _ _, x2, C, dx3, _, .int (lenR again), rfl, e11x, TC.cl, TC.nLe, rf_length _ _ _, (tn : Int), lenR again, rfl, rfl, wide_mul (a := 140) (b := 140) (by omega) (by omega) (by decide) (by decide) (by decide), x, (tn : Int) * lenR again, rfl, rfl, ?_⟩
        refine ⟨(stop + 1 - (x + (tn : Int) * lenR again)).toNat, by omega, _, _, x + (tn : Int) * lenR again, _, _, _, _, rfl, s11, e11D, ra11, Lvl.snoc lv hok, by omega, ?_, fun z => by simp at z, rfl⟩
        have hphi := phi_less (breaks ps b stop) hbr (show x ≤ x + (tn : Int) * lenR again by omega) (lgp_half (by omega) (by omega))
        have := hlen6
        rw [List.length_append, List.length_singleton]
        omega
    · have hva : va.isEmpty = false := by
        cases va with
        | nil => exact absurd (List.length_eq_zero_iff.mp (by rw [← stA.len]; rfl)) hon
        | cons _ _ => rfl
      obtain ⟨m0, hq1, _⟩ := hStp.path.split
      have ho1 : 1 ≤ lenR once := by
        have := lenR_pos once
        have : once.length ≠ 0 := fun z => hon (List.length_eq_zero_iff.mp z)
        omega
      have hwa : ∀ s ∈ once, 0 ≤ s.2 ∧ s.2 ≤ GREAT + 1 := fun s hs => hwid s (List.mem_append_left _ hs)
      have hto : timesOf once 0 = 1 := by unfold timesOf; rw [Int.zero_ediv]; rfl
      have hok1 : RunOk ps b stop x ⟨once, 1⟩ := runOk_of hfd hE (Int.le_refl _) hq1 hon (by have := hStp.len; rw [List.length_append] at this; omega) (Nat.le_refl 1) (.inl rfl) (.inl rfl) fun s hs => by
        have h1 := (hq1.le.2 s hs).2.2.1
        rw [show (((1 : Nat) : Int) - 1) * lenR once = 0 from Int.zero_mul _]
        omega
      refine ⟨.ref A, rfl, true, .inl ⟨va, SqL.of eA, by rw [hva]; rfl⟩, iteT ?_⟩
      refine ⟨.ref D, rfl, .inl ⟨rfl, _, SqL.of e6D⟩, .ref A, rfl, fun x1 dx1 nx1 ndx1 nex1 => ?_⟩
      have nDx1 : D ≠ x1 := fun z => by rw [← z, e6D] at nx1; cases nx1
      have sx1 : Same H6 (upd (upd H6 dx1 (.own x1)) x1 (.ins C dx1 [])) := fun p o hp => by
        rw [upd_ne (fun z => by rw [z, nx1] at hp; cases hp), upd_ne (fun z => by rw [z, ndx1] at hp; cases hp)]
        exact hp
      refine ⟨x1, A, dx1, va, once, 0, rfl, upd_same, sx1 _ _ eA, stA.kt (KT.of sx1), hon, by have := hStp.len; rw [List.length_append] at this; omega, hwa, fun H8 dx3 k8 e8 => ⟨rfl, ?_⟩⟩
      rw [hto] at e8
      have s8 : Same H6 H8 := fun p o hp => k8 p o (sx1 _ _ hp) (fun z => by rw [z, nx1] at hp; cases hp)
      have e8D := s8 _ _ e6D
      refine ⟨D, _, .ref x1, rfl, rfl, e8D, by rw [ra6.len]; omega, ?_⟩
      have ra9 : RunsAt C D (upd H8 D (.lst (ws ++ [.ref x1]))) (ws ++ [.ref x1]) (rs ++ [⟨once, 1⟩]) := ra6.add s8 e8D ⟨x1, dx3, A, va, rfl, nAD, e8, s8 _ _ eA, stA.kt (KT.of s8)⟩
      have s9 : Same H (upd H8 D (.lst (ws ++ [.ref x1]))) := fun p o hp => by
        rw [upd_ne (fun z => by rw [z, nDH] at hp; cases hp)]
        exact s8 _ _ (s06 _ _ hp)
      have k69 : ∀ c o, c ≠ D → H6 c = some o → (upd H8 D (.lst (ws ++ [.ref x1]))) c = some o := fun c o n h => by rw [upd_ne n]; exact s8 _ _ h
      have e9x : (upd H8 D (.lst (ws ++ [.ref x1]))) x1 = some (.ins C dx3 (rf A once 1)) := by rw [upd_ne (Ne.symm nDx1)]; exact e8
      have e9D : (upd H8 D (.lst (ws ++ [.ref x1]))) D = some (.lst (ws ++ [.ref x1])) := upd_same
      generalize upd H8 D (.lst (ws ++ [.ref x1])) = H9 at ra9 s9 k69 e9x e9D
      refine ⟨.int x, rfl, .ref D, rfl, 1, rfl, D, _, -1, .ref x1, rfl, rfl, SqL.of e9D, atI_last _ _, x1, C, dx3, _, .int (lenR once), rfl, e9x, TC.cl, TC.nLe, rf_length _ _ _, x, lenR once, rfl, rfl, ?_⟩
      have lv9 : Lvl ps b stop start (rs ++ [⟨once, 1⟩]) (x + lenR once) := by
        have := lv.snoc hok1
        rw [show (((⟨once, 1⟩ : RunT).times : Nat) : Int) * lenR (⟨once, 1⟩ : RunT).steps = lenR once from Int.one_mul _] at this
        exact this
      have hlen9 : (rs ++ [(⟨once, 1⟩ : RunT)]).length + 2 * phi (breaks ps b stop) x ≤ 2 * phi (breaks ps b stop) start + 1 := by rw [List.length_append, List.length_singleton]; omega
      have hm9 : rs ++ [(⟨once, 1⟩ : RunT)] = [] → x + lenR once = x := fun z => by simp at z
      by_cases hag : again = []
      · -- none of them again
        have hvb : vb = [] := List.length_eq_zero_iff.mp (by rw [stB.len, hag]; rfl)
        refine ⟨.ref B, rfl, false, .inl ⟨vb, SqL.of (k69 _ _ nBD eB), by rw [hvb]; rfl⟩, iteF ?_⟩
        have hc := hStp.nil hag
        have hcm : c = (x + lenR once) := by
          have e1 := hStp.path.end_
          rw [hag, List.append_nil] at e1
          exact e1
        refine ⟨(stop + 1 - (x + lenR once)).toNat, by omega, (ws ++ [.ref x1]), (rs ++ [⟨once, 1⟩]), (x + lenR once), _, _, _, _, rfl, s9, e9D, ra9, lv9, by omega, ?_, fun z => ?_, rfl⟩
        · have hphi := phi_less (breaks ps b stop) hbr (show x ≤ (x + lenR once) by omega) (by
            unfold lgp
            rw [if_pos (by omega), if_neg (by omega)]
            omega)
          have := hlen9
          omega
        · exact absurd (show c = x by rw [hcm]; exact hm9 z) (by omega)
      · -- some of them again and again
        have hvb : vb.isEmpty = false := by
          cases vb with
          | nil => exact absurd (List.length_eq_zero_iff.mp (by rw [← stB.len]; rfl)) hag
          | cons _ _ => rfl
        obtain ⟨s0, T0, eag⟩ : ∃ s0 T0, again = s0 :: T0 := by
          cases again with
          | nil => exact absurd rfl hag
          | cons s0 T0 => exact ⟨s0, T0, rfl⟩
        obtain ⟨hce, htn⟩ := hStp.rep s0 T0 eag
        obtain ⟨m2, hp1, hp2⟩ := hStp.path.split
        have hm2 : m2 = (x + lenR once) := by
          have e := hp1.end_
          first | exact e | (rw [e, hon]; exact Int.add_zero x)
        rw [hm2] at hp1 hp2
        have hc2 := hp2.end_
        have hs0 : s0.1 = (x + lenR once) := by
          rw [eag] at hp2
          exact hp2.1
        have hl1 : 1 ≤ lenR again := by
          have := lenR_pos again
          have : again.length ≠ 0 := fun z => hag (List.length_eq_zero_iff.mp z)
          omega
        have hdiv : lenR again % (pc.2.2.length : Int) = 0 := by
          have h1 : (c - pc.1) % (pc.2.2.length : Int) = (s0.1 - pc.1) % (pc.2.2.length : Int) := htn
          have h2 : lenR again = (c - pc.1) - (s0.1 - pc.1) := by omega
          rw [h2]
          exact Int.emod_eq_zero_of_dvd (Int.dvd_sub_of_emod_eq' h1)
        have hroom : lenR again < e + 1 - (x + lenR once) := by omega
        generalize hrm : e + 1 - (x + lenR once) = room at hroom
        have hT1 : 1 ≤ room / lenR again := Int.le_ediv_of_mul_le (by omega) (by omega)
        have hT2 : room / lenR again * lenR again ≤ room := Int.ediv_mul_le _ (by omega)
        have hT3 : room - room / lenR again * lenR again < lenR again := by
          have h1 := Int.emod_lt_of_pos room (show 0 < lenR again by omega)
          have h2 := Int.emod_add_mul_ediv room (lenR again)
          have h3 : lenR again * (room / lenR again) = room / lenR again * lenR again := Int.mul_comm _ _
          omega
        have hTt : timesOf again room = room / lenR again := by unfold timesOf; omega
        obtain ⟨tn, htn2⟩ : ∃ tn : Nat, room / lenR again = (tn : Int) := ⟨(room / lenR again).toNat, by omega⟩
        rw [htn2] at hT1 hT2 hT3
        have hTl : lenR again ≤ (tn : Int) * lenR again := by
          have := Int.mul_le_mul_of_nonneg_right hT1 (show 0 ≤ lenR again by omega)
          rw [Int.one_mul] at this
          exact this
        have hok : RunOk ps b stop ((x + lenR once)) ⟨again, tn⟩ := runOk_of hfd hE (show x ≤ (x + lenR once) by omega) hp2 hag (by have := hStp.len; rw [List.length_append] at this; omega) (by omega) (.inr hdiv) (.inr (by omega)) fun s hs => by
          have h1 := (hp2.le.2 s hs).2.1
          have h2 : ((tn : Int) - 1) * lenR again = (tn : Int) * lenR again - lenR again := by rw [Int.sub_mul, Int.one_mul]
          rw [h2]
          omega
        have hwb : ∀ s ∈ again, 0 ≤ s.2 ∧ s.2 ≤ GREAT + 1 := fun s hs => hwid s (List.mem_append_right _ hs)
        refine ⟨.ref B, rfl, true, .inl ⟨vb, SqL.of (k69 _ _ nBD eB), by rw [hvb]; rfl⟩, iteT ?_⟩
        refine ⟨.ref D, rfl, .inl ⟨rfl, _, SqL.of e9D⟩, .ref B, rfl, .int e, rfl, e, 1, rfl, rfl, .int ((x + lenR once)), rfl, e + 1, (x + lenR once), rfl, rfl, fun x2 dx2 nx2 ndx2 nex2 => ?_⟩
        dsimp only
        rw [hrm]
        have nDx : D ≠ x2 := fun z => by rw [← z, e9D] at nx2; cases nx2
        have nDd : D ≠ dx2 := fun z => by rw [← z, e9D] at ndx2; cases ndx2
        have nBx : B ≠ x2 := fun z => by rw [← z, k69 _ _ nBD eB] at nx2; cases nx2
        have sx : Same H9 (upd (upd H9 dx2 (.own x2)) x2 (.ins C dx2 [])) := fun p o hp => by
          rw [upd_ne (fun z => by rw [z, nx2] at hp; cases hp), upd_ne (fun z => by rw [z, ndx2] at hp; cases hp)]
          exact hp
        refine ⟨x2, B, dx2, vb, again, room, rfl, upd_same, sx _ _ (k69 _ _ nBD eB), (stB.kt fun p o hp => k69 _ _ (fun z => by rw [z, e6D] at hp; cases hp) hp).kt (KT.of sx), hag, by have := hStp.len; rw [List.length_append] at this; omega, hwb, fun H10 dx3 k10 e10 => ⟨rfl, ?_⟩⟩
        rw [hTt, htn2] at e10
        have s10 : Same H9 H10 := fun p o hp => k10 p o (sx _ _ hp) (fun z => by rw [z, nx2] at hp; cases hp)
        have eD10 := s10 _ _ e9D
        refine ⟨D, _, .ref x2, rfl, rfl, eD10, by rw [ra9 |>.len]; have := hlen9; omega, ?_⟩
        have ra11 : RunsAt C D (upd H10 D (.lst ((ws ++ [.ref x1]) ++ [.ref x2]))) ((ws ++ [.ref x1]) ++ [.ref x2]) ((rs ++ [⟨once, 1⟩]) ++ [⟨again, tn⟩]) := (ra9).add s10 eD10 ⟨x2, dx3, B, vb, rfl, nBD, e10, s10 _ _ (k69 _ _ nBD eB), (stB.kt fun p o hp => k69 _ _ (fun z => by rw [z, e6D] at hp; cases hp) hp).kt (KT.of s10)⟩
        have s11 : Same H (upd H10 D (.lst ((ws ++ [.ref x1]) ++ [.ref x2]))) := fun p o hp => by
          rw [upd_ne (fun z => by rw [z, nDH] at hp; cases hp)]
          exact s10 _ _ (s9 _ _ hp)
        have e11x : (upd H10 D (.lst ((ws ++ [.ref x1]) ++ [.ref x2]))) x2 = some (.ins C dx3 (rf B again (tn : Int))) := by rw [upd_ne (Ne.symm nDx)]; exact e10
        have e11D : (upd H10 D (.lst ((ws ++ [.ref x1]) ++ [.ref x2]))) D = some (.lst ((ws ++ [.ref x1]) ++ [.ref x2])) := upd_same
        generalize upd H10 D (.lst ((ws ++ [.ref x1]) ++ [.ref x2])) = H11 at ra11 s11 e11x e11D
        have hw2 := lenR_le (m := 1000000000000000000000000000001) again (fun s hs => (hwb s hs).2) (by decide)
        have hw3 : (again.length : Int) * 1000000000000000000000000000001 ≤ 8 * 1000000000000000000000000000001 := Int.mul_le_mul_of_nonneg_right (by have := hStp.len; rw [List.length_append] at this; omega) (by decide)
        have htr : (tn : Int) ≤ room := by
          have := Int.mul_le_mul_of_nonneg_left hl1 (show (0 : Int) ≤ (tn : Int) by omega)
          rw [Int.mul_one] at this
          omega
        have hbe := hB _ hbr
        refine ⟨.int ((x + lenR once)), rfl, .ref D, rfl, 1, rfl, D, _, -1, .ref x2, rfl, rfl, SqL.of e11D, atI_last _ _, x2, C, dx3, _, .int (tn : Int), rfl, e11x, TC.cl, TC.nTi, rf_times _ _ _, .ref D, rfl, 1, rfl, D, _, -1, .ref x2, rfl, rfl, SqL.of e11D, atI_last _ _, x2, C, dx3, _, .int (lenR again), rfl, e11x, TC.cl, TC.nLe, rf_length _ _ _, (tn : Int), lenR again, rfl, rfl, wide_mul (a := 140) (b := 140) (by omega) (by omega) (by decide) (by decide) (by decide), (x + lenR once), (tn : Int) * lenR again, rfl, rfl, ?_⟩
        refine ⟨(stop + 1 - ((x + lenR once) + (tn : Int) * lenR again)).toNat, by omega, _, _, (x + lenR once) + (tn : Int) * lenR again, _, _, _, _, rfl, s11, e11D, ra11, Lvl.snoc lv9 hok, by omega, ?_, fun z => by simp at z, rfl⟩
        have hphi := phi_less (breaks ps b stop) hbr (show x ≤ (x + lenR once) + (tn : Int) * lenR again by omega) (lgp_half (by omega) (by omega))
        have := hlen9
        rw [List.length_append, List.length_singleton]
        omega
  · rw [decide_eq_false cx]
    exact iteF ⟨.ref D, rfl, q D ws rs x H4 s4 nDH e4D ra lv (by omega) (by omega) fun z => by have := hr0 z; omega⟩
end
end CL
set_option Elab.async false
set_option linter.all false
set_option pp.maxSteps 400
set_option maxRecDepth 100000
set_option maxHeartbeats 4000000
namespace CL
open PySem PySem.Spec PyProof.Rows L2 GE
/-! ### walks along one level, and the last of a person -/
/-- met on the level that begins at s -/
inductive Rch (ps : List PieceT) (b : Option Int) : Int → Int → Prop
  | here (x : Int) : Rch ps b x x
  | on {s x w : Int} : WP ps b s w → Rch ps b (s + max w 1) x → Rch ps b s x
/-- met there, and left over -/
inductive SpR (ps : List PieceT) (b : Option Int) : Int → Int → Prop
  | here {x : Int} : WP ps b x 0 → SpR ps b x x
  | on {s x w : Int} : WP ps b s w → s + max w 1 ≤ x → SpR ps b (s + max w 1) x → SpR ps b s x
/-- the last one that goes past x, where s is on the level of that bound -/
inductive Las (ps : List PieceT) : Option Int → Int → Int → Option Int → Prop
  | spare {b : Option Int} {x : Int} : WP ps b x 0 → Las ps b x x b
  | own {b : Option Int} {x w : Int} : WP ps b x w → 0 < w → Las ps b x x (some (x + w - 1))
  | inn {b l : Option Int} {s x w : Int} : WP ps b s w → s < x → x < s + w → Las ps (some (s + w - 1)) (s + 1) x l → Las ps b s x l
  | skip {b l : Option Int} {s x w : Int} : WP ps b s w → s + max w 1 ≤ x → Las ps b (s + max w 1) x l → Las ps b s x l
/-- the patience of one that comes -/
def Pt (ps : List PieceT) (x : Int) (t : PyData) : Prop := ∃ pc, ps.find? (comes x) = some pc ∧ pc.2.2[(tnI pc.1 pc.2.2.length x).toNat]? = some t
theorem pt_uniq {ps : List PieceT} {x : Int} {t t' : PyData} (h : Pt ps x t) (h' : Pt ps x t') : t = t' := by
  obtain ⟨pc, h1, h2⟩ := h
  obtain ⟨pc', h3, h4⟩ := h'
  rw [h1] at h3
  cases h3
  rw [h2] at h4
  exact Option.some.inj h4
theorem wp_pt {ps : List PieceT} {b : Option Int} {x w : Int} (h : WP ps b x w) : ∃ t, Pt ps x t ∧ w = wd b x t := by
  obtain ⟨pc, t, h1, h2, h3⟩ := h
  exact ⟨t, ⟨pc, h1, h2⟩, h3⟩
theorem pt_wp {ps : List PieceT} (b : Option Int) {x : Int} {t : PyData} (h : Pt ps x t) : WP ps b x (wd b x t) := by
  obtain ⟨pc, h1, h2⟩ := h
  exact ⟨pc, t, h1, h2, rfl⟩
theorem wp_uniq {ps : List PieceT} {b : Option Int} {x w w' : Int} (h : WP ps b x w) (h' : WP ps b x w') : w = w' := by
  obtain ⟨t, h1, rfl⟩ := wp_pt h
  obtain ⟨t', h2, rfl⟩ := wp_pt h'
  rw [pt_uniq h1 h2]
theorem rch_le {ps : List PieceT} {b : Option Int} {s x : Int} (h : Rch ps b s x) : s ≤ x := by
  induction h with
  | here => omega
  | on _ _ ih => omega
theorem rch_trans {ps : List PieceT} {b : Option Int} {s x y : Int} (h : Rch ps b s x) (h' : Rch ps b x y) : Rch ps b s y := by
  induction h with
  | here => exact h'
  | on h1 _ ih => exact .on h1 (ih h')
theorem spr_le {ps : List PieceT} {b : Option Int} {s x : Int} (h : SpR ps b s x) : s ≤ x := by
  induction h with
  | here => omega
  | on _ _ _ ih => omega
theorem spr_wp {ps : List PieceT} {b : Option Int} {s x : Int} (h : SpR ps b s x) : WP ps b x 0 := by
  induction h with
  | here h => exact h
  | on _ _ _ ih => exact ih
theorem spr_of {ps : List PieceT} {b : Option Int} {s y x : Int} (h : Rch ps b s y) (h' : SpR ps b y x) : SpR ps b s x := by
  induction h with
  | here => exact h'
  | on h1 _ ih => exact .on h1 (spr_le (ih h')) (ih h')
theorem las_ge {ps : List PieceT} {b l : Option Int} {s x : Int} (h : Las ps b s x l) : s ≤ x := by
  induction h with
  | spare => omega
  | own => omega
  | inn => omega
  | skip => omega
theorem las_of {ps : List PieceT} {b l : Option Int} {s y x : Int} (h : Rch ps b s y) (h' : Las ps b y x l) : Las ps b s x l := by
  induction h with
  | here => exact h'
  | on h1 _ ih => exact .skip h1 (las_ge (ih h')) (ih h')
theorem spr_las {ps : List PieceT} {b : Option Int} {s x : Int} (h : SpR ps b s x) : Las ps b s x b := by
  induction h with
  | here h => exact .spare h
  | on h1 h2 _ ih => exact .skip h1 h2 ih
/-! ### steps and runs -/
theorem pth_rch {ps : List PieceT} {b : Option Int} {stop : Int} : ∀ {S : List StepT} {a c : Int}, Pth (WS ps b stop) a S c → Rch ps b a c
  | [], a, c, h => by
    obtain rfl : a = c := h
    exact .here _
  | s :: S, a, c, h => by
    have e : s.1 = a := h.1
    exact .on (e ▸ h.2.1.2) (pth_rch h.2.2)
theorem pth_zero {ps : List PieceT} {b : Option Int} {stop : Int} : ∀ {S : List StepT} {a c : Int}, Pth (WS ps b stop) a S c → (∀ s ∈ S, s.2 = 0) → ∀ x, a ≤ x → x < c → SpR ps b a x
  | [], a, c, h, _, x, h1, h2 => by
    obtain rfl : a = c := h
    omega
  | s :: S, a, c, h, hz, x, h1, h2 => by
    have e : s.1 = a := h.1
    have e0 := hz s List.mem_cons_self
    have hw : WP ps b a 0 := by
      have := h.2.1.2
      rw [e, e0] at this
      exact this
    rcases Int.lt_or_eq_of_le h1 with c1 | c1
    · have h3 := h.2.2
      rw [e0] at h3
      exact .on hw (by omega) (pth_zero h3 (fun y hy => hz y (List.mem_cons_of_mem _ hy)) x (by omega) h2)
    · rw [← c1]
      exact .here hw
theorem shift_zero {d : Int} {S : List StepT} (h : ∀ s ∈ S, s.2 = 0) : ∀ s ∈ shift d S, s.2 = 0 := fun s hs => by
  obtain ⟨t, h1, rfl⟩ := List.mem_map.mp hs
  exact h t h1
theorem run_rch {ps : List PieceT} {b : Option Int} {stop a : Int} {r : RunT} (h : RunOk ps b stop a r) : ∀ k : Nat, k ≤ r.times → Rch ps b a (a + k * lenR r.steps)
  | 0, _ => by
    rw [show a + ((0 : Nat) : Int) * lenR r.steps = a by rw [show ((0 : Nat) : Int) = 0 from rfl, Int.zero_mul, Int.add_zero]]
    exact .here _
  | k + 1, hk => by
    have h1 := run_rch h k (by omega)
    have h2 := pth_rch (h.path k (by omega))
    have e : a + ((k + 1 : Nat) : Int) * lenR r.steps = a + ((k : Int) * lenR r.steps + lenR r.steps) := by
      rw [Int.natCast_add, Int.add_mul, show ((1 : Nat) : Int) = 1 from rfl, Int.one_mul]
    rw [e]
    exact rch_trans h1 h2
theorem run_zero {ps : List PieceT} {b : Option Int} {stop a : Int} {r : RunT} (h : RunOk ps b stop a r) (hz : ∀ s ∈ r.steps, s.2 = 0) : ∀ k : Nat, k ≤ r.times → ∀ x, a ≤ x → x < a + k * lenR r.steps → SpR ps b a x
  | 0, _, x, h1, h2 => by
    rw [show ((0 : Nat) : Int) = 0 from rfl, Int.zero_mul] at h2
    omega
  | k + 1, hk, x, h1, h2 => by
    have e : a + ((k + 1 : Nat) : Int) * lenR r.steps = a + ((k : Int) * lenR r.steps + lenR r.steps) := by
      rw [Int.natCast_add, Int.add_mul, show ((1 : Nat) : Int) = 1 from rfl, Int.one_mul]
    rw [e] at h2
    by_cases c : x < a + k * lenR r.steps
    · exact run_zero h hz k (by omega) x h1 c
    · exact spr_of (run_rch h k (by omega)) (pth_zero (h.path k (by omega)) (shift_zero hz) x (by omega) h2)
theorem lvl_rch {ps : List PieceT} {b : Option Int} {stop : Int} : ∀ {rs : List RunT} {a c : Int}, Lvl ps b stop a rs c → Rch ps b a c
  | [], a, c, h => by
    obtain rfl : a = c := h
    exact .here _
  | r :: rs, a, c, h => rch_trans (run_rch h.1 r.times (Nat.le_refl _)) (lvl_rch h.2)
theorem lvl_zero {ps : List PieceT} {b : Option Int} {stop : Int} : ∀ {rs : List RunT} {a c : Int}, Lvl ps b stop a rs c → (∀ r ∈ rs, ∀ s ∈ r.steps, s.2 = 0) → ∀ x, a ≤ x → x < c → SpR ps b a x
  | [], a, c, h, _, x, h1, h2 => by
    obtain rfl : a = c := h
    omega
  | r :: rs, a, c, h, hz, x, h1, h2 => by
    by_cases c : x < a + r.times * lenR r.steps
    · exact run_zero h.1 (hz r List.mem_cons_self) r.times (Nat.le_refl _) x h1 c
    · exact spr_of (run_rch h.1 r.times (Nat.le_refl _)) (lvl_zero h.2 (fun y hy => hz y (List.mem_cons_of_mem _ hy)) x (by omega) h2)
theorem lvl_split {ps : List PieceT} {b : Option Int} {stop : Int} : ∀ {rs ts : List RunT} {a c : Int}, Lvl ps b stop a (rs ++ ts) c → ∃ m, Lvl ps b stop a rs m ∧ Lvl ps b stop m ts c
  | [], ts, a, c, h => ⟨a, rfl, h⟩
  | r :: rs, ts, a, c, h => by
    obtain ⟨m, h1, h2⟩ := lvl_split h.2
    exact ⟨m, ⟨h.1, h1⟩, h2⟩
/-- the last opener of a level, with those left over behind its window -/
theorem lvl_opener {ps : List PieceT} {b : Option Int} {stop a c : Int} {rs ts : List RunT} {r : RunT} {S1 S2 : List StepT} {s : StepT} (h : Lvl ps b stop a (rs ++ r :: ts) c) (eS : r.steps = S1 ++ s :: S2) (h0 : 0 < s.2) (hz : ∀ x ∈ S2, x.2 = 0) (hzz : ∀ r ∈ ts, ∀ s ∈ r.steps, s.2 = 0) :
    Rch ps b a (s.1 + ((r.times : Int) - 1) * lenR r.steps) ∧ WS ps b stop (s.1 + ((r.times : Int) - 1) * lenR r.steps) s.2 ∧ (∀ x, s.1 + ((r.times : Int) - 1) * lenR r.steps + s.2 ≤ x → x < c → SpR ps b a x) ∧ s.1 + ((r.times : Int) - 1) * lenR r.steps + s.2 ≤ c := by
  obtain ⟨m, h1, h2, h3⟩ := lvl_split h
  have ht := h2.times
  have hk := h2.path (r.times - 1) (by omega)
  have e1 : ((r.times - 1 : Nat) : Int) = (r.times : Int) - 1 := by omega
  have hr := run_rch h2 (r.times - 1) (by omega)
  rw [e1] at hk hr
  have e5 : ((r.times : Int) - 1) * lenR r.steps + lenR r.steps = (r.times : Int) * lenR r.steps := by rw [Int.sub_mul, Int.one_mul]; omega
  rw [e5] at hk
  generalize hd : ((r.times : Int) - 1) * lenR r.steps = d at hk hr ⊢
  have es : shift d r.steps = shift d S1 ++ (s.1 + d, s.2) :: shift d S2 := by rw [eS]; unfold shift; rw [List.map_append]; rfl
  rw [es] at hk
  obtain ⟨m2, k1, k2, k3, k4⟩ := hk.split
  have k2' : s.1 + d = m2 := k2
  have k3' : WS ps b stop (s.1 + d) s.2 := k3
  have k4' : Pth (WS ps b stop) (m2 + max s.2 1) (shift d S2) (m + r.times * lenR r.steps) := k4
  have r1 : Rch ps b a (s.1 + d) := by
    rw [k2']
    exact rch_trans (lvl_rch h1) (rch_trans hr (pth_rch k1))
  have r2 : Rch ps b a (m2 + max s.2 1) := rch_trans r1 (.on k3'.2 (by rw [k2']; exact .here _))
  have r3 : Rch ps b a (m + r.times * lenR r.steps) := rch_trans r2 (pth_rch k4')
  have l1 := rch_le (pth_rch k4')
  have l2 := rch_le (lvl_rch h3)
  refine ⟨r1, k3', fun x hx hc => ?_, by omega⟩
  by_cases cx : x < m + r.times * lenR r.steps
  · exact spr_of r2 (pth_zero k4' (shift_zero hz) x (by omega) cx)
  · exact spr_of r3 (lvl_zero h3 hzz x (by omega) hc)
/-- the last step of a level is met there -/
theorem lvl_lastR {ps : List PieceT} {b : Option Int} {stop a c : Int} {rs : List RunT} {r : RunT} {S1 : List StepT} {s : StepT} (h : Lvl ps b stop a (rs ++ [r]) c) (eS : r.steps = S1 ++ [s]) : Rch ps b a (s.1 + ((r.times : Int) - 1) * lenR r.steps) := by
  obtain ⟨m, h1, h2, h3⟩ := lvl_split h
  have ht := h2.times
  have hk := h2.path (r.times - 1) (by omega)
  have e1 : ((r.times - 1 : Nat) : Int) = (r.times : Int) - 1 := by omega
  have hr := run_rch h2 (r.times - 1) (by omega)
  rw [e1] at hk hr
  generalize ((r.times : Int) - 1) * lenR r.steps = d at hk hr ⊢
  have es : shift d r.steps = shift d S1 ++ [(s.1 + d, s.2)] := by rw [eS]; unfold shift; rw [List.map_append]; rfl
  rw [es] at hk
  obtain ⟨m2, k1, k2, k3⟩ := hk.split
  have k2' : s.1 + d = m2 := k2
  rw [k2']
  exact rch_trans (lvl_rch h1) (rch_trans hr (pth_rch k1))
end CL
set_option Elab.async false
set_option linter.all false
set_option pp.maxSteps 400
set_option maxRecDepth 100000
set_option maxHeartbeats 4000000
namespace CL
open PySem PySem.Spec PyProof.Rows L2 GE
/-! ### the windows around a person -/
/-- the last of the innermost window around, or the bound -/
def lastB (b : Option Int) (S : List StepT) : Option Int := match S.getLast? with
  | none => b
  | some s => some s.2
theorem lastB_add (b : Option Int) (S : List StepT) (s : StepT) : lastB b (S ++ [s]) = some s.2 := by unfold lastB; rw [List.getLast?_concat]
/-- the windows around x, the outermost first, where s is on the level of that bound -/
inductive Road (ps : List PieceT) : Option Int → Int → Int → List StepT → Prop
  | spare {b : Option Int} {x : Int} : WP ps b x 0 → Road ps b x x []
  | own {b : Option Int} {x w : Int} : WP ps b x w → 0 < w → Road ps b x x [(x, x + w - 1)]
  | inn {b : Option Int} {s x w : Int} {S : List StepT} : WP ps b s w → s < x → x < s + w → Road ps (some (s + w - 1)) (s + 1) x S → Road ps b s x ((s, s + w - 1) :: S)
  | skip {b : Option Int} {s x w : Int} {S : List StepT} : WP ps b s w → s + max w 1 ≤ x → Road ps b (s + max w 1) x S → Road ps b s x S
theorem road_ge {ps : List PieceT} {b : Option Int} {s x : Int} {S : List StepT} (h : Road ps b s x S) : s ≤ x := by
  induction h with
  | spare => omega
  | own => omega
  | inn => omega
  | skip => omega
theorem road_of {ps : List PieceT} {b : Option Int} {s y x : Int} {S : List StepT} (h : Rch ps b s y) (h' : Road ps b y x S) : Road ps b s x S := by
  induction h with
  | here => exact h'
  | on h1 _ ih => exact .skip h1 (road_ge (ih h')) (ih h')
theorem road_uniq {ps : List PieceT} {b : Option Int} {s x : Int} {S : List StepT} (h : Road ps b s x S) : ∀ {S' : List StepT}, Road ps b s x S' → S = S' := by
  induction h with
  | spare h =>
    intro S' h'
    cases h' with
    | spare => rfl
    | own h2 h3 => have := wp_uniq h h2; omega
    | inn h2 h3 => omega
    | skip h2 h3 => omega
  | own h h0 =>
    intro S' h'
    cases h' with
    | spare h2 => have := wp_uniq h h2; omega
    | own h2 h3 => rw [wp_uniq h h2]
    | inn h2 h3 => omega
    | skip h2 h3 => omega
  | inn h h0 h1 _ ih =>
    intro S' h'
    cases h' with
    | spare h2 => omega
    | own h2 h3 => omega
    | inn h2 h3 h4 h5 => have e := wp_uniq h h2; subst e; rw [ih h5]
    | skip h2 h3 => have := wp_uniq h h2; omega
  | skip h h0 _ ih =>
    intro S' h'
    cases h' with
    | spare h2 => omega
    | own h2 h3 => omega
    | inn h2 h3 h4 => have := wp_uniq h h2; omega
    | skip h2 h3 h4 => have e := wp_uniq h h2; subst e; exact ih h4
theorem lastB_cons (b : Option Int) (s : StepT) (S : List StepT) : lastB b (s :: S) = lastB (some s.2) S := by
  unfold lastB
  cases S with
  | nil => rfl
  | cons t S => rw [List.getLast?_cons_cons]; cases h : (t :: S).getLast? with
    | none => simp at h
    | some z => rfl
theorem las_road {ps : List PieceT} {b : Option Int} {s x : Int} {S : List StepT} (h : Road ps b s x S) : Las ps b s x (lastB b S) := by
  induction h with
  | spare h => exact .spare h
  | own h h0 => exact .own h h0
  | inn h h0 h1 _ ih => rw [lastB_cons]; exact .inn h h0 h1 ih
  | skip h h0 _ ih => exact .skip h h0 ih
theorem road_in {ps : List PieceT} {b : Option Int} {s x : Int} {S : List StepT} (h : Road ps b s x S) : ∀ z ∈ S, s ≤ z.1 ∧ z.1 ≤ x := by
  induction h with
  | spare h => intro z hz; cases hz
  | own h h0 => intro z hz; rw [List.mem_singleton.mp hz]; exact ⟨Int.le_refl _, Int.le_refl _⟩
  | inn h h0 h1 _ ih =>
    intro z hz
    rcases List.mem_cons.mp hz with rfl | hz
    · exact ⟨Int.le_refl _, by show _ ≤ _; omega⟩
    · have := ih z hz; omega
  | skip h h0 _ ih =>
    intro z hz
    have := ih z hz
    omega
end CL
set_option Elab.async false
set_option linter.all false
set_option pp.maxSteps 400
set_option maxRecDepth 100000
set_option maxHeartbeats 4000000
namespace CL
open PySem PySem.Spec PyProof.Rows L2 GE
theorem turns_ok {d : PyData} (h : isPiece d = true) : 1 ≤ (turnsD d).length ∧ ∀ x ∈ turnsD d, isPatience x = true := by
  obtain ⟨t, m, e, ht, _⟩ := piece_parts h
  unfold turnsD
  rw [e]
  show 1 ≤ ((rowsD t).getD []).length ∧ ∀ x ∈ (rowsD t).getD [], isPatience x = true
  unfold isTurns at ht
  cases z : rowsD t with
  | none => rw [z] at ht; cases ht
  | some ts =>
    rw [z] at ht
    simp only [Bool.and_eq_true, decide_eq_true_eq, List.all_eq_true] at ht
    exact ⟨ht.1.1, ht.2⟩
theorem find_pcs (n : Int) : ∀ (ds : List PyData) (f : Int), ds.all isPiece = true → (ds.take (ds.length - 1)).any (fun d => isNone (sndD d)) = false → ∀ ps pc, pcs f ds = ps ++ [pc] → under pc.2.1 n = true → ∃ pp, (pcs f ds).find? (comes n) = some pp ∧ ∃ d ∈ ds, pp.2.2 = turnsD d
  | [], f, _, _, ps, pc, e, _ => by
    have := congrArg List.length e
    simp [pcs] at this
  | d :: ds, f, ha, hn, ps, pc, e, hu => by
    have hd : isPiece d = true := by
      simp only [List.all_cons, Bool.and_eq_true] at ha
      exact ha.1
    have hds : ds.all isPiece = true := by
      simp only [List.all_cons, Bool.and_eq_true] at ha
      exact ha.2
    have ec : pcs f (d :: ds) = (f, pastO f (sndD d), turnsD d) :: pcs (f + worth (sndD d)) ds := rfl
    rw [ec, List.find?_cons]
    cases hc : comes n (f, pastO f (sndD d), turnsD d) with
    | true => exact ⟨_, rfl, d, List.mem_cons_self, rfl⟩
    | false =>
      cases ds with
      | nil =>
        have e2 : [(f, pastO f (sndD d), turnsD d)] = ps ++ [pc] := e
        have e3 : pc = (f, pastO f (sndD d), turnsD d) := by
          cases ps with
          | nil => exact (List.cons.inj e2).1.symm
          | cons x xs =>
            have := congrArg List.length e2
            simp at this
        rw [e3] at hu
        exfalso
        unfold comes at hc
        cases hp : pastO f (sndD d) with
        | none => simp [hp] at hc
        | some m =>
          simp only [hp] at hc
          rw [hp] at hu
          have h1 : decide (n < m) = true := hu
          rw [h1] at hc
          cases hc
      | cons d2 ds2 =>
        obtain ⟨ps', e4⟩ : ∃ ps', pcs (f + worth (sndD d)) (d2 :: ds2) = ps' ++ [pc] := by
          cases ps with
          | nil =>
            have := congrArg List.length e
            simp [pcs] at this
          | cons x xs => exact ⟨xs, (List.cons.inj e).2⟩
        have hn2 : ((d2 :: ds2).take ((d2 :: ds2).length - 1)).any (fun d => isNone (sndD d)) = false := by
          have : (d :: d2 :: ds2).take ((d :: d2 :: ds2).length - 1) = d :: (d2 :: ds2).take ((d2 :: ds2).length - 1) := rfl
          rw [this, List.any_cons, Bool.or_eq_false_iff] at hn
          exact hn.2
        obtain ⟨pp, h1, d', h2, h3⟩ := find_pcs n (d2 :: ds2) _ hds hn2 ps' pc e4 hu
        exact ⟨pp, h1, d', List.mem_cons_of_mem _ h2, h3⟩
theorem plan_parts {d : PyData} (h : isPlan d = true) : ∃ ds, rowsD d = some ds ∧ piecesOf d = pcs 0 ds ∧ 1 ≤ ds.length ∧ ds.length ≤ 8 ∧ ds.all isPiece = true ∧ (ds.take (ds.length - 1)).any (fun d => isNone (sndD d)) = false ∧ sumSnd ds ≤ GREAT := by
  cases z : rowsD d with
  | none => unfold isPlan at h; rw [z] at h; cases h
  | some ds =>
    have e : isPlan d = isPlanL ds := by unfold isPlan; rw [z]
    rw [e] at h
    unfold isPlanL at h
    simp only [Bool.and_eq_true, decide_eq_true_eq, Bool.not_eq_true'] at h
    obtain ⟨⟨⟨⟨l1, l8⟩, hpc⟩, hno⟩, hsum⟩ := h
    exact ⟨ds, rfl, by unfold piecesOf; rw [z]; rfl, l1, l8, hpc, hno, hsum⟩
theorem pcs_len : ∀ (f : Int) (ds : List PyData), (pcs f ds).length = ds.length
  | _, [] => rfl
  | f, d :: ds => congrArg (· + 1) (pcs_len _ ds)
theorem plan_last {d : PyData} (h : isPlan d = true) : ∃ ps pc, piecesOf d = ps ++ [pc] := by
  obtain ⟨ds, _, e, l1, _⟩ := plan_parts h
  have hl : (piecesOf d).length = ds.length := by rw [e, pcs_len]
  have ne : piecesOf d ≠ [] := fun z => by rw [z] at hl; simp at hl; omega
  exact ⟨_, _, (List.dropLast_concat_getLast ne).symm⟩
abbrev sLstStep : Stmt := topS 27
theorem scLstStep : FnScope ["runs", "run", "person", "width"] ["runs"] (defScope sLstStep) := ⟨rfl, rfl, rfl, by decide +kernel, rfl, by decide +kernel, by decide +kernel⟩
abbrev sSpareOn : Stmt := topS 28
theorem scSpareOn : FnScope ["runs", "run"] ["runs"] (defScope sSpareOn) := ⟨rfl, rfl, rfl, by decide +kernel, rfl, by decide +kernel, by decide +kernel⟩
theorem fld_blk {X : Cx} {s : Shared} {H : Hp} {scope : Scope} {cenv : Env} {fp : List Addr} {e : Expr} {f : Str} {pos : Pos} {ta : TE} (he : PE (X.blk s H scope cenv fp) e ta) (hb : attributeBase e f (X.blk s H scope cenv fp).env (eval e (X.blk s H scope cenv fp).env) = eval e (X.blk s H scope cenv fp).env) : PE (X.blk s H scope cenv fp) (.Attribute e f pos) (tFld X.K ta f) := pe_fld he hb
/-! ### each run of a level -/
theorem lvl_le {ps : List PieceT} {b : Option Int} {stop : Int} : ∀ {rs : List RunT} {a c : Int}, Lvl ps b stop a rs c → a ≤ c ∧ ∀ r ∈ rs, ∃ a', a ≤ a' ∧ RunOk ps b stop a' r
  | [], a, c, h => by
    obtain rfl : a = c := h
    exact ⟨Int.le_refl _, fun r hr => nomatch hr⟩
  | r :: rs, a, c, h => by
    obtain ⟨h1, h2⟩ := lvl_le h.2
    have hl := lenR_pos r.steps
    have h0 : 0 ≤ (r.times : Int) * lenR r.steps := Int.mul_nonneg (by omega) (by omega)
    refine ⟨by omega, fun x hx => ?_⟩
    rcases List.mem_cons.mp hx with rfl | hx
    · exact ⟨a, Int.le_refl _, h.1⟩
    · obtain ⟨a', h3, h4⟩ := h2 x hx
      exact ⟨a', by omega, h4⟩
theorem lvl_last {ps : List PieceT} {b : Option Int} {stop : Int} : ∀ {rs : List RunT} {r : RunT} {a c : Int}, Lvl ps b stop a (rs ++ [r]) c → ∃ a', a ≤ a' ∧ RunOk ps b stop a' r ∧ c = a' + r.times * lenR r.steps
  | [], r, a, c, h => ⟨a, Int.le_refl _, h.1, (show a + r.times * lenR r.steps = c from h.2).symm⟩
  | s :: rs, r, a, c, h => by
    obtain ⟨a', h1, h2, h3⟩ := lvl_last h.2
    have hl := lenR_pos s.steps
    have h0 : 0 ≤ (s.times : Int) * lenR s.steps := Int.mul_nonneg (by omega) (by omega)
    exact ⟨a', by omega, h2, h3⟩
theorem shift_len (d : Int) (S : List StepT) : (shift d S).length = S.length := List.length_map ..
theorem wp_le {ps : List PieceT} {b : Option Int} {x w : Int} (hp : PsOk ps) (h : WP ps b x w) : 0 ≤ w ∧ w ≤ GREAT + 1 ∧ (w ≠ 0 → ∃ pc p, pc ∈ ps ∧ PyData.int p ∈ pc.2.2 ∧ w = p + 1 ∧ 0 ≤ p ∧ p ≤ GREAT ∧ ∀ m, b = some m → x + p ≤ m) := by
  obtain ⟨pc, t, hf, ht, rfl⟩ := h
  have hm := List.mem_of_find?_eq_some hf
  have htm := List.mem_of_getElem? ht
  have hpt := (hp.turns pc hm).2.2 t htm
  refine ⟨wd_nn hpt, ?_⟩
  rcases pat_cases hpt with rfl | ⟨p, rfl, h1, h2⟩
  · exact ⟨by show (0 : Int) ≤ GREAT + 1; decide, fun z => absurd rfl z⟩
  · cases b with
    | none => exact ⟨by show p + 1 ≤ GREAT + 1; omega, fun _ => ⟨pc, p, hm, htm, rfl, h1, h2, fun m e => by cases e⟩⟩
    | some m =>
      by_cases c : x + p ≤ m
      · have e : wd (some m) x (.int p) = p + 1 := if_pos c
        rw [e]
        exact ⟨by omega, fun _ => ⟨pc, p, hm, htm, rfl, h1, h2, fun m' e => by cases e; exact c⟩⟩
      · have e : wd (some m) x (.int p) = 0 := if_neg c
        rw [e]
        exact ⟨by show (0 : Int) ≤ GREAT + 1; decide, fun z => absurd rfl z⟩
/-- how far a run may go -/
theorem runOk_le {ps : List PieceT} {b : Option Int} {stop a : Int} {r : RunT} (hp : PsOk ps) (h : RunOk ps b stop a r) (h0 : 0 ≤ a) (hs : stop < 2 ^ 139) : 1 ≤ lenR r.steps ∧ lenR r.steps < 2 ^ 140 ∧ ((r.times : Int) - 1) * lenR r.steps ≤ stop - a ∧ (r.times : Int) < 2 ^ 140 := by
  have hne : r.steps.length ≠ 0 := fun z => h.ne (List.length_eq_zero_iff.mp z)
  have hl := lenR_pos r.steps
  have ht := h.times
  have hP0 := h.path 0 (by omega)
  have hw : ∀ s ∈ r.steps, s.2 ≤ GREAT + 1 := fun s hs' => by
    have := (hP0.le.2 (s.1 + (0 : Nat) * lenR r.steps, s.2) (List.mem_map.mpr ⟨s, hs', rfl⟩)).2.2.2
    exact (wp_le hp this).2.1
  have hl2 := lenR_le (m := 1000000000000000000000000000001) r.steps hw (by decide)
  have hl3 : (r.steps.length : Int) * 1000000000000000000000000000001 ≤ 8 * 1000000000000000000000000000001 := Int.mul_le_mul_of_nonneg_right (by have := h.len; omega) (by decide)
  obtain ⟨s0, S0, e0⟩ : ∃ s0 S0, r.steps = s0 :: S0 := by
    cases e : r.steps with
    | nil => exact absurd e h.ne
    | cons s0 S0 => exact ⟨s0, S0, rfl⟩
  have hk := h.path (r.times - 1) (by omega)
  have h1 : a + ((r.times - 1 : Nat) : Int) * lenR r.steps ≤ stop := by
    rw [e0] at hk
    have h2 := hk.1
    have h3 := hk.2.1.1
    rw [e0]
    have h4 : s0.1 + ((r.times - 1 : Nat) : Int) * lenR (s0 :: S0) = a + ((r.times - 1 : Nat) : Int) * lenR (s0 :: S0) := h2
    have h5 : s0.1 + ((r.times - 1 : Nat) : Int) * lenR (s0 :: S0) ≤ stop := h3
    omega
  have e1 : ((r.times - 1 : Nat) : Int) = (r.times : Int) - 1 := by omega
  rw [e1] at h1
  refine ⟨by omega, by omega, by omega, ?_⟩
  have h2 : ((r.times : Int) - 1) * 1 ≤ ((r.times : Int) - 1) * lenR r.steps := Int.mul_le_mul_of_nonneg_left (by omega) (by omega)
  omega
def spBnd : Sp := fun vs H Q _ => ∃ a ps pc, vs = [.ref a] ∧ PcsAt H a (ps ++ [pc]) ∧ Q (optV (pc.2.1.map (· - 1))) H
def spLast (C : Addr) : Sp := fun vs H Q _ => ∃ D ws ps b, ∃ start stop c : Int, ∃ rs, vs = [.ref D] ∧ H D = some (.lst ws) ∧ RunsAt C D H ws rs ∧ rs ≠ [] ∧ Lvl ps b stop start rs c ∧ PsOk ps ∧ 0 ≤ start ∧ stop < 2 ^ 139 ∧
  ∀ x w p H', Same H H' → H' p = some (.tup [.int x, .int w]) → Rch ps b start x → start ≤ x → WS ps b stop x w → x + max w 1 = c → Q (.ref p) H'
def spWins : Sp := fun vs H Q _ => ∃ a ps pc, ∃ person : Int, vs = [.ref a, .int person] ∧ PcsAt H a (ps ++ [pc]) ∧ PsOk (ps ++ [pc]) ∧ 0 ≤ person ∧ person < 2 ^ 138 ∧ (∀ x, 0 ≤ x → x ≤ person → ∃ pc', (ps ++ [pc]).find? (comes x) = some pc') ∧ (∀ q ∈ ps ++ [pc], ∀ m, q.2.1 = some m → m ≤ 2 ^ 138) ∧
  ∀ D ws S H', Same H H' → H' D = some (.lst ws) → StAt H' ws S → Road (ps ++ [pc]) (pc.2.1.map (· - 1)) 0 person S → S.length ≤ 64 → Q (.ref D) H'
def spSpareOn (C : Addr) : Sp := fun vs H Q _ => ∃ D ws ps b, ∃ start stop c : Int, ∃ rs, vs = [.ref D] ∧ H D = some (.lst ws) ∧ RunsAt C D H ws rs ∧ rs.length ≤ 20440 ∧ Lvl ps b stop start rs c ∧ PsOk ps ∧ 0 ≤ start ∧ stop < 2 ^ 139 ∧ ∀ H', Same H H' → Q (.int (rs.map fun r => (r.times : Int) * (spareR r.steps : Nat)).sum) H'
section
variable {P : Program} {w : World} {K : PySem.W.Frag} {mg : Str → Option Value} {base : Heap}
theorem ok_last {f C fI : Addr} {fd : FuncData} (F : Fun K "last_step" "last_step" sLstStep f fd) (TC : RunC K mg C fI) : FnOk P w K mg base CX0 1 f fd ["runs"] (spLast C) := by
  refine F.ok scLstStep (fun vs H Q E ⟨D, ws, ps, b, st0, stop, c, rs, e, _⟩ => by rw [e]; rfl) (fun cdv A0 outer s H vs Q E hr h => ?_)
  obtain ⟨D, ws, ps, b, start, stop, c, rs, rfl, hD, hra, hne, hlv, hps, h0, hst, q⟩ := h
  have nd := scLstStep.nd
  refine ⟨_, (pss_cons (ps_set (i := 1) nd rfl (.inl rfl) (pe_ix ix_list (pv 0) (pe_un un_neg pe_int) (fun _ _ => rfl)))
    (pss_cons (ps_asg (pe_ix ix_list (pe_fld (pv 1) rfl) (pe_un un_neg pe_int) (fun _ _ => rfl)) (pg_tup rfl (pgs_cons (pg_name (i := 2) nd rfl (.inl rfl)) (pgs_cons (pg_name (i := 3) nd rfl (.inl rfl)) pgs_nil))))
    (pss_one (ps_ret (pe_tup (pa_cons (pe_op op_add (pv 2) (pe_op op_mulW (pe_op op_sub (pe_fld (pv 1) rfl) pe_int) (pe_fld (pv 1) rfl))) (pa_cons (pv 3) pa_nil))))))), ?_⟩
  obtain ⟨rs', r, rfl⟩ : ∃ rs' r, rs = rs' ++ [r] := ⟨rs.dropLast, rs.getLast hne, (List.dropLast_concat_getLast hne).symm⟩
  obtain ⟨a', ha', hok, hc⟩ := lvl_last hlv
  obtain ⟨b1, b2, b3, b4⟩ := runOk_le hps hok (by omega) hst
  obtain ⟨v, hv, x, dx, p, vs', rfl, npD, hx, hp, hS⟩ := hra.at_ rs'.length r (by simp)
  have hl := hra.len
  obtain ⟨ws', v', rfl⟩ : ∃ ws' v', ws = ws' ++ [v'] := by
    have : ws ≠ [] := fun z => by rw [z] at hl; simp at hl
    exact ⟨ws.dropLast, ws.getLast this, (List.dropLast_concat_getLast this).symm⟩
  have hl' : ws'.length = rs'.length := by simpa using hl
  obtain rfl : v' = .ref x := by
    rw [← hl', List.getElem?_concat_length] at hv
    exact Option.some.inj hv
  obtain ⟨S', s, eS⟩ : ∃ S' s, r.steps = S' ++ [s] := ⟨r.steps.dropLast, r.steps.getLast hok.ne, (List.dropLast_concat_getLast hok.ne).symm⟩
  obtain ⟨bb, hbb, htb⟩ := hS.at_ S'.length s (by rw [eS]; simp)
  obtain ⟨vs2, v2, rfl⟩ : ∃ ws' v', vs' = ws' ++ [v'] := by
    have : vs' ≠ [] := fun z => by rw [z] at hbb; simp at hbb
    exact ⟨vs'.dropLast, vs'.getLast this, (List.dropLast_concat_getLast this).symm⟩
  have hl2 : vs2.length = S'.length := by
    have := hS.len
    rw [eS] at this
    simpa using this
  obtain rfl : v2 = .ref bb := by
    rw [← hl2, List.getElem?_concat_length] at hbb
    exact Option.some.inj hbb
  refine ⟨.ref D, rfl, 1, rfl, D, _, -1, .ref x, rfl, rfl, SqL.of hD, atI_last _ _, ?_⟩
  refine ⟨.ref x, rfl, x, C, dx, _, .ref p, rfl, hx, TC.cl, TC.nSt, rf_steps _ _ _, 1, rfl, p, _, -1, .ref bb, rfl, rfl, SqL.of hp, atI_last _ _, bb, _, rfl, SqT.of htb, rfl, .int s.1, _, rfl, .int s.2, _, rfl, rfl, ?_⟩
  refine ⟨.int s.1, rfl, .ref x, rfl, x, C, dx, _, .int (r.times : Int), rfl, hx, TC.cl, TC.nTi, rf_times _ _ _, (r.times : Int), 1, rfl, rfl, .ref x, rfl, x, C, dx, _, .int (lenR r.steps), rfl, hx, TC.cl, TC.nLe, rf_length _ _ _, (r.times : Int) - 1, lenR r.steps, rfl, rfl, wide_mul (a := 140) (b := 140) (by have := hok.times; omega) (by omega) (by decide) (by decide) (by decide), s.1, ((r.times : Int) - 1) * lenR r.steps, rfl, rfl, .int s.2, rfl, small_le (by show 2 ≤ 1000; decide), fun pr npr => ?_⟩
  have hk := hok.path (r.times - 1) (by have := hok.times; omega)
  have e1 : ((r.times - 1 : Nat) : Int) = (r.times : Int) - 1 := by have := hok.times; omega
  rw [e1] at hk
  have hm := hk.le.2 (s.1 + ((r.times : Int) - 1) * lenR r.steps, s.2) (List.mem_map.mpr ⟨s, by rw [eS]; exact List.mem_append_right _ (List.mem_singleton.mpr rfl), rfl⟩)
  have h00 : 0 ≤ ((r.times : Int) - 1) * lenR r.steps := Int.mul_nonneg (by have := hok.times; omega) (by omega)
  refine q _ _ pr _ (same_upd npr) upd_same (lvl_lastR hlv eS) (by have := hm.1; omega) hm.2.2 ?_
  -- where the last step leads
  have hsp : Pth (WS ps b stop) (a' + ((r.times : Int) - 1) * lenR r.steps) (shift (((r.times : Int) - 1) * lenR r.steps) S' ++ [(s.1 + ((r.times : Int) - 1) * lenR r.steps, s.2)]) (a' + (((r.times : Int) - 1) * lenR r.steps + lenR r.steps)) := by
    have : shift (((r.times : Int) - 1) * lenR r.steps) r.steps = shift (((r.times : Int) - 1) * lenR r.steps) S' ++ [(s.1 + ((r.times : Int) - 1) * lenR r.steps, s.2)] := by
      conv => lhs; rw [show shift (((r.times : Int) - 1) * lenR r.steps) r.steps = shift (((r.times : Int) - 1) * lenR r.steps) (S' ++ [s]) by rw [← eS]]
      unfold shift
      rw [List.map_append]
      rfl
    rw [← this]
    exact hk
  obtain ⟨m, _, h2⟩ := hsp.split
  have h3 : m + max s.2 1 = a' + (((r.times : Int) - 1) * lenR r.steps + lenR r.steps) := h2.2.2
  have h4 : s.1 + ((r.times : Int) - 1) * lenR r.steps = m := h2.1
  have h5 : (r.times : Int) * lenR r.steps = ((r.times : Int) - 1) * lenR r.steps + lenR r.steps := by rw [Int.sub_mul, Int.one_mul]; omega
  omega
theorem ok_spareOn {f C fI : Addr} {fd : FuncData} (F : Fun K "spare_on" "spare_on" sSpareOn f fd) (T : Nm mg) (TC : RunC K mg C fI) : FnOk P w K mg base CX0 1 f fd ["runs"] (spSpareOn C) := by
  refine F.ok scSpareOn (fun vs H Q E ⟨D, ws, ps, b, st0, stop, c, rs, e, _⟩ => by rw [e]; rfl) (fun cdv A0 outer s H vs Q E hr h => ?_)
  obtain ⟨D, ws, ps, b, start, stop, c, rs, rfl, hD, hra, hlen, hlv, hps, h0, hst, q⟩ := h
  have nd := scSpareOn.nd
  have sz : 30000 ≤ sizeLine := by decide
  refine ⟨_, (pss_one (ps_ret (pe_callB (cr_sum rfl) (by rfl) T.sum (by decide +kernel) (pa_cons (pe_lc (own := [("run", 1)]) (g := gName 1) (tt := tYes) rfl nd (pi_list (pv 0)) (blkOk_by (N := ["runs", "run"]) (sc := defScope sSpareOn) (by decide +kernel))
        (fun _ _ _ _ _ => pg_name (i := 1) nd rfl (.inl rfl) (.inr rfl)) (fun _ _ _ _ _ => pts_nil) (fun _ _ _ _ _ => (pe_op op_mulW (fld_blk (pv 1) (by rfl)) (fld_blk (pv 1) (by rfl))))) pa_nil)))), ?_⟩
  have hl := hra.len
  refine ⟨.ref D, rfl, D, rfl, ⟨ws, SqL.of hD⟩, fun D2 nD2 => ?_⟩
  refine lc_list (xs := ws) (fun i H5 => H5 = upd H D2 (.lst (((rs.take i).map fun r => (r.times : Int) * (spareR r.steps : Nat)).map V.int))) rfl (fun i H5 _ e => by rw [e]; exact SqL.of (same_upd nD2 _ _ hD)) (fun i v H5 hv e => ?_) (fun H5 e => ?_)
  · subst e
    have li : i < rs.length := by rw [← hl]; exact (List.getElem?_eq_some_iff.mp hv).1
    obtain ⟨r, hr'⟩ : ∃ r, rs[i]? = some r := ⟨_, List.getElem?_eq_getElem li⟩
    obtain ⟨v', hv', x, dx, p, vs', rfl, npD, hx, hp, hS⟩ := hra.at_ i r hr'
    rw [hv'] at hv
    cases hv
    obtain ⟨a', ha', hok⟩ := (lvl_le hlv).2 r (List.mem_of_getElem? hr')
    obtain ⟨b1, b2, b3, b4⟩ := runOk_le hps hok (by omega) hst
    have hsl : spareR r.steps ≤ r.steps.length := List.length_filter_le _ _
    have h8 := hok.len
    have hx' := same_upd (o := .lst (((rs.take i).map fun r => (r.times : Int) * (spareR r.steps : Nat)).map V.int)) nD2 _ _ hx
    refine ⟨rfl, yesT ⟨.ref x, rfl, x, C, dx, _, .int (r.times : Int), rfl, hx', TC.cl, TC.nTi, rf_times _ _ _, .ref x, rfl, x, C, dx, _, .int ((spareR r.steps : Nat) : Int), rfl, hx', TC.cl, TC.nSp, rf_spare _ _ _, (r.times : Int), ((spareR r.steps : Nat) : Int), rfl, rfl, wide_mul (a := 140) (b := 140) (by omega) (by omega) (by decide) (by decide) (by decide), _, upd_same, by rw [List.length_map, List.length_map, List.length_take]; omega, ?_⟩⟩
    rw [upd_upd, List.take_add_one, hr', List.map_append, List.map_append]
    rfl
  · have e' : H5 = upd H D2 (.lst ((rs.map fun r => (r.times : Int) * (spareR r.steps : Nat)).map V.int)) := by rw [e, hl, List.take_length]
    clear e
    subst e'
    exact ⟨D2, _, rfl, SqL.of upd_same, q _ (same_upd nD2)⟩
end
end CL
set_option Elab.async false
set_option linter.all false
set_option pp.maxSteps 400
set_option maxRecDepth 100000
set_option maxHeartbeats 4000000
namespace CL
open PySem PySem.Spec PyProof.Rows L2 GE
theorem wd_pos {b : Option Int} {x : Int} {t : PyData} (h : 0 < wd b x t) : ∃ p, t = .int p ∧ wd b x t = p + 1 ∧ ∀ m, b = some m → x + p ≤ m := by
  cases t with
  | int p =>
    cases b with
    | none => exact ⟨p, rfl, rfl, fun m e => by cases e⟩
    | some m =>
      by_cases c : x + p ≤ m
      · have e : wd (some m) x (.int p) = p + 1 := if_pos c
        exact ⟨p, rfl, e, fun m' e' => by cases e'; exact c⟩
      · have e : wd (some m) x (.int p) = 0 := if_neg c
        rw [e] at h
        omega
  | _ => cases b <;> exact absurd h (Int.lt_irrefl 0)
theorem pt_ok {ps : List PieceT} (hp : PsOk ps) {x : Int} {t : PyData} (h : Pt ps x t) : isPatience t = true := by
  obtain ⟨pc, h1, h2⟩ := h
  exact (hp.turns pc (List.mem_of_find?_eq_some h1)).2.2 t (List.mem_of_getElem? h2)
theorem wp_pos {ps : List PieceT} {b : Option Int} {x w : Int} (h : WP ps b x w) (h0 : 0 < w) : ∃ p, Pt ps x (.int p) ∧ w = p + 1 ∧ ∀ m, b = some m → x + p ≤ m := by
  obtain ⟨t, h1, rfl⟩ := wp_pt h
  obtain ⟨p, rfl, h2, h3⟩ := wd_pos h0
  exact ⟨p, h1, h2, h3⟩
theorem wp_zero {ps : List PieceT} (hp : PsOk ps) {b : Option Int} {x : Int} {t : PyData} (h : WP ps b x 0) (ht : Pt ps x t) : t = .none ∨ ∃ p m : Int, t = .int p ∧ b = some m ∧ m < x + p := by
  obtain ⟨t', h1, h2⟩ := wp_pt h
  obtain rfl := pt_uniq ht h1
  rcases pat_cases (pt_ok hp ht) with rfl | ⟨p, rfl, h3, h4⟩
  · exact .inl rfl
  · cases b with
    | none => exact absurd (show (0 : Int) = p + 1 from h2) (by omega)
    | some m =>
      refine .inr ⟨p, m, rfl, rfl, ?_⟩
      by_cases c : x + p ≤ m
      · have e : wd (some m) x (.int p) = p + 1 := if_pos c
        omega
      · omega
theorem cut_in {ps : List PieceT} {b : Option Int} {x w c : Int} (h : WP ps b x w) (h0 : 0 < w) (hc : x + w - 1 ≤ c) : WP ps (some c) x w := by
  obtain ⟨p, h1, h2, _⟩ := wp_pos h h0
  have := pt_wp (some c) h1
  rw [show wd (some c) x (.int p) = p + 1 from if_pos (by omega), ← h2] at this
  exact this
theorem cut_zero {ps : List PieceT} (hp : PsOk ps) {b : Option Int} {x c : Int} (h : WP ps b x 0) (hb : ∀ m, b = some m → c < m) : WP ps (some c) x 0 := by
  obtain ⟨t, h1, h2⟩ := wp_pt h
  have := pt_wp (some c) h1
  have e : wd (some c) x t = 0 := by
    rcases wp_zero hp h h1 with rfl | ⟨p, m, rfl, hm, hlt⟩
    · rfl
    · have := hb m hm
      exact if_neg (by omega)
  rw [e] at this
  exact this
theorem cut_out {ps : List PieceT} {b : Option Int} {x w c : Int} (h : WP ps b x w) (h0 : 0 < w) (hc : c < x + w - 1) : WP ps (some c) x 0 := by
  obtain ⟨p, h1, h2, _⟩ := wp_pos h h0
  have := pt_wp (some c) h1
  rw [show wd (some c) x (.int p) = 0 from if_neg (by omega)] at this
  exact this
theorem wp_nn {ps : List PieceT} (hp : PsOk ps) {b : Option Int} {x w : Int} (h : WP ps b x w) : 0 ≤ w := (wp_le hp h).1
/-- between the person and the bound -/
theorem las_le {ps : List PieceT} {b l : Option Int} {s x : Int} (h : Las ps b s x l) : (∀ m, b = some m → x ≤ m) → (∀ k, l = some k → x ≤ k ∧ ∀ m, b = some m → k ≤ m) ∧ (l = none → b = none) := by
  induction h with
  | spare h => exact fun hb => ⟨fun k e => ⟨hb k e, fun m e' => (by rw [e] at e'; cases e'; omega)⟩, fun e => e⟩
  | own h h0 =>
    obtain ⟨p, _, h2, h3⟩ := wp_pos h h0
    exact fun hb => ⟨fun k e => by cases e; exact ⟨by omega, fun m e => (by have := h3 m e; omega)⟩, fun e => absurd e (by simp)⟩
  | inn h h1 h2 _ ih =>
    obtain ⟨p, _, h3, h4⟩ := wp_pos h (by omega)
    obtain ⟨i1, i2⟩ := ih fun m e => by cases e; omega
    refine fun hb => ⟨fun k e => ?_, fun e => absurd (i2 e) (by simp)⟩
    obtain ⟨j1, j2⟩ := i1 k e
    exact ⟨j1, fun m e => by have := h4 m e; have := j2 _ rfl; omega⟩
  | skip h h1 _ ih => exact ih
/-- no farther than the patience -/
theorem las_pat {ps : List PieceT} (hp : PsOk ps) {b l : Option Int} {s x : Int} {t : PyData} (h : Las ps b s x l) : Pt ps x t → (l = none → t = .none) ∧ ∀ k p : Int, l = some k → t = .int p → k ≤ x + p := by
  induction h with
  | spare h =>
    intro ht
    refine ⟨fun e => ?_, fun k p e e2 => ?_⟩
    · rcases wp_zero hp h ht with h1 | ⟨p, m, h1, h2, h3⟩
      · exact h1
      · rw [e] at h2; cases h2
    · rcases wp_zero hp h ht with h1 | ⟨p', m, h1, h2, h3⟩
      · rw [h1] at e2; cases e2
      · rw [e] at h2; cases h2; rw [h1] at e2; cases e2; omega
  | own h h0 =>
    intro ht
    refine ⟨fun e => absurd e (by simp), fun k p e e2 => ?_⟩
    obtain ⟨p', h1, h2, h3⟩ := wp_pos h h0
    have := pt_uniq ht h1
    rw [e2] at this
    cases this
    cases e
    omega
  | inn h h1 h2 _ ih => exact ih
  | skip h h1 _ ih => exact ih
theorem las_uniq {ps : List PieceT} {b l : Option Int} {s x : Int} (h : Las ps b s x l) : ∀ l', Las ps b s x l' → l = l' := by
  induction h with
  | spare h =>
    intro l' h'
    cases h' with
    | spare _ => rfl
    | own k k0 => have := wp_uniq h k; omega
    | inn k k1 => omega
    | skip k k1 => omega
  | own h h0 =>
    intro l' h'
    cases h' with
    | spare k => have := wp_uniq h k; omega
    | own k k0 => rw [wp_uniq h k]
    | inn k k1 => omega
    | skip k k1 => omega
  | inn h h1 h2 _ ih =>
    intro l' h'
    cases h' with
    | spare k => omega
    | own k k0 => omega
    | inn k k1 k2 k3 => have e := wp_uniq h k; subst e; exact ih _ k3
    | skip k k1 => have e := wp_uniq h k; subst e; omega
  | skip h h1 _ ih =>
    intro l' h'
    cases h' with
    | spare k => omega
    | own k k0 => omega
    | inn k k1 k2 => have e := wp_uniq h k; subst e; omega
    | skip k k1 k2 => have e := wp_uniq h k; subst e; exact ih _ k2
/-- whoever comes up to a last has a last no farther -/
theorem las_nest {ps : List PieceT} {b l : Option Int} {s x : Int} (h : Las ps b s x l) : ∀ (k y : Int) (t : Option Int), l = some k → x < y → y ≤ k → (∀ m, b = some m → x ≤ m) → Las ps b s y t → ∃ j, t = some j ∧ j ≤ k := by
  induction h with
  | spare h =>
    intro k y t e hy hk hb h'
    obtain ⟨i1, i2⟩ := las_le h' fun m e' => by rw [e] at e'; cases e'; omega
    cases t with
    | none => rw [i2 rfl] at e; cases e
    | some j => exact ⟨j, rfl, (i1 j rfl).2 k e⟩
  | own h h0 =>
    intro k y t e hy hk hb h'
    cases e
    cases h' with
    | spare k => omega
    | own k k0 => omega
    | inn k k1 k2 k3 =>
      have e := wp_uniq h k
      subst e
      obtain ⟨i1, i2⟩ := las_le k3 fun m e' => by cases e'; omega
      cases t with
      | none => cases i2 rfl
      | some j => exact ⟨j, rfl, (i1 j rfl).2 _ rfl⟩
    | skip k k1 => have e := wp_uniq h k; subst e; omega
  | inn h h1 h2 h3 ih =>
    intro k y t e hy hk hb h'
    have l1 := ((las_le h3 fun m e' => by cases e'; omega).1 k e).2 _ rfl
    cases h' with
    | spare k => omega
    | own k k0 => omega
    | inn k' k1 k2 k3 => have e' := wp_uniq h k'; subst e'; exact ih k y t e hy hk (fun m e' => by cases e'; omega) k3
    | skip k' k1 => have e' := wp_uniq h k'; subst e'; omega
  | skip h h1 _ ih =>
    intro k y t e hy hk hb h'
    cases h' with
    | spare k => omega
    | own k k0 => omega
    | inn k' k1 k2 => have e' := wp_uniq h k'; subst e'; omega
    | skip k' k1 k2 => have e' := wp_uniq h k'; subst e'; exact ih k y t e hy hk hb k2
/-- a bound before the other one: who is left over there has a last beyond it, whoever isn't has the same last -/
theorem las_cut {ps : List PieceT} (hp : PsOk ps) {b l : Option Int} {s x c : Int} (h : Las ps b s x l) : x ≤ c → (∀ m, b = some m → c < m) →
    (SpR ps (some c) s x ∧ ∀ k, l = some k → c < k) ∨ (¬ SpR ps (some c) s x ∧ ∃ k, l = some k ∧ k ≤ c ∧ Las ps (some c) s x (some k)) := by
  induction h with
  | spare h => exact fun hx hb => .inl ⟨.here (cut_zero hp h hb), hb⟩
  | @own b x w h h0 =>
    intro hx hb
    by_cases cx : x + w - 1 ≤ c
    · have h1 := cut_in h h0 cx
      exact .inr ⟨fun z => by have := wp_uniq (spr_wp z) h1; omega, _, rfl, cx, .own h1 h0⟩
    · exact .inl ⟨.here (cut_out h h0 (by omega)), fun k e => by cases e; omega⟩
  | @inn b l s x w h h1 h2 h3 ih =>
    intro hx hb
    by_cases cx : s + w - 1 ≤ c
    · have k1 := cut_in h (by omega) cx
      obtain ⟨i1, i2⟩ := las_le h3 fun m e' => by cases e'; omega
      refine .inr ⟨fun z => ?_, ?_⟩
      · cases z with
        | here z => omega
        | on z z1 => have e := wp_uniq k1 z; subst e; omega
      · cases l with
        | none => cases i2 rfl
        | some j => exact ⟨j, rfl, by have := (i1 j rfl).2 _ rfl; omega, .inn k1 h1 h2 h3⟩
    · have k1 := cut_out h (by omega) (show c < s + w - 1 by omega)
      have e1 : s + max (0 : Int) 1 = s + 1 := by omega
      rcases ih hx (fun m e => by cases e; omega) with ⟨i1, i2⟩ | ⟨i1, k, i2, i3, i4⟩
      · exact .inl ⟨.on k1 (by omega) (by rw [e1]; exact i1), i2⟩
      · refine .inr ⟨fun z => ?_, k, i2, i3, .skip k1 (by omega) (by rw [e1]; exact i4)⟩
        cases z with
        | here z => omega
        | on z z1 z2 => have e := wp_uniq k1 z; subst e; rw [e1] at z2; exact i1 z2
  | @skip b l s x w h h1 h3 ih =>
    intro hx hb
    have k1 : WP ps (some c) s w := by
      have := wp_nn hp h
      by_cases cw : w = 0
      · subst cw; exact cut_zero hp h hb
      · exact cut_in h (by omega) (by omega)
    rcases ih hx hb with ⟨i1, i2⟩ | ⟨i1, k, i2, i3, i4⟩
    · exact .inl ⟨.on k1 h1 i1, i2⟩
    · refine .inr ⟨fun z => ?_, k, i2, i3, .skip k1 h1 i4⟩
      cases z with
      | here z => omega
      | on z z1 z2 => have e := wp_uniq k1 z; subst e; exact i1 z2
/-- ahead of one that is met, and not left over: the last is ahead of it too -/
theorem las_before {ps : List PieceT} {b : Option Int} {s y : Int} (h : Rch ps b s y) : ∀ (x : Int) (l : Option Int), x < y → Las ps b s x l → ¬ SpR ps b s x → ∃ k, l = some k ∧ k < y := by
  induction h with
  | here => intro x l hx h'; have := las_ge h'; omega
  | on h1 h2 ih =>
    intro x l hx h' hn
    have hy := rch_le h2
    cases h' with
    | spare k => exact absurd (.here k) hn
    | own k k0 => have e := wp_uniq h1 k; subst e; exact ⟨_, rfl, by omega⟩
    | inn k k1 k2 k3 =>
      have e := wp_uniq h1 k
      subst e
      obtain ⟨i1, i2⟩ := las_le k3 fun m e' => by cases e'; omega
      cases l with
      | none => cases i2 rfl
      | some j => exact ⟨j, rfl, by have := (i1 j rfl).2 _ rfl; omega⟩
    | skip k k1 k2 => have e := wp_uniq h1 k; subst e; exact ih x l hx k2 fun z => hn (.on h1 k1 z)
/-! ### how many are left over -/
theorem pth_hi {ps : List PieceT} {bd : Int} (hp : PsOk ps) : ∀ {S : List StepT} {a c : Int}, Pth (WS ps (some bd) bd) a S c → a ≤ bd + 1 → c ≤ bd + 1
  | [], a, c, h, h1 => by
    obtain rfl : a = c := h
    exact h1
  | s :: S, a, c, h, h1 => by
    have e : s.1 = a := h.1
    refine pth_hi hp h.2.2 ?_
    have h2 := h.2.1.1
    by_cases c0 : 0 < s.2
    · obtain ⟨p, _, h3, h4⟩ := wp_pos h.2.1.2 c0
      have := h4 bd rfl
      omega
    · have := wp_nn hp h.2.1.2
      omega
theorem run_hi {ps : List PieceT} {bd a : Int} {r : RunT} (hp : PsOk ps) (h : RunOk ps (some bd) bd a r) (ha : a ≤ bd + 1) : a + (r.times : Int) * lenR r.steps ≤ bd + 1 := by
  have : ∀ k : Nat, k ≤ r.times → a + (k : Int) * lenR r.steps ≤ bd + 1 := fun k => by
    induction k with
    | zero => intro _; rw [show ((0 : Nat) : Int) = 0 from rfl, Int.zero_mul]; omega
    | succ k ih =>
      intro hk
      have := pth_hi hp (h.path k (by omega)) (ih (by omega))
      have e : ((k + 1 : Nat) : Int) * lenR r.steps = (k : Int) * lenR r.steps + lenR r.steps := by
        rw [Int.natCast_add, Int.add_mul, show ((1 : Nat) : Int) = 1 from rfl, Int.one_mul]
      rw [e]
      exact this
  exact this r.times (Nat.le_refl _)
theorem lvl_hi {ps : List PieceT} {bd : Int} (hp : PsOk ps) : ∀ {rs : List RunT} {a c : Int}, Lvl ps (some bd) bd a rs c → a ≤ bd + 1 → c ≤ bd + 1
  | [], a, c, h, h1 => by
    obtain rfl : a = c := h
    exact h1
  | r :: rs, a, c, h, h1 => lvl_hi hp h.2 (run_hi hp h.1 h1)
theorem run_wid {ps : List PieceT} {b : Option Int} {stop a : Int} {r : RunT} (hp : PsOk ps) (h : RunOk ps b stop a r) : ∀ s ∈ r.steps, 0 ≤ s.2 := fun s hs => by
  have hk := h.path 0 (by have := h.times; omega)
  have := (hk.le.2 (s.1 + ((0 : Nat) : Int) * lenR r.steps, s.2) (List.mem_map.mpr ⟨s, hs, rfl⟩)).2.2.2
  exact wp_nn hp this
def spT (rs : List RunT) : Int := (rs.map fun r => (r.times : Int) * (spareR r.steps : Nat)).sum
theorem sum_zero : ∀ {S : List StepT}, (∀ s ∈ S, s.2 = 0) → (S.map (·.2)).sum = 0
  | [], _ => rfl
  | s :: S, h => by
    rw [List.map_cons, List.sum_cons, sum_zero fun x hx => h x (List.mem_cons_of_mem _ hx), h s List.mem_cons_self]
    rfl
theorem sum_nn : ∀ {S : List StepT}, (∀ s ∈ S, 0 ≤ s.2) → 0 ≤ (S.map (·.2)).sum
  | [], _ => Int.le_refl 0
  | s :: S, h => by
    have h1 := sum_nn fun x hx => h x (List.mem_cons_of_mem _ hx)
    have h2 := h s List.mem_cons_self
    rw [List.map_cons, List.sum_cons]
    omega
theorem sum_pos : ∀ {S : List StepT} {s : StepT}, (∀ s ∈ S, 0 ≤ s.2) → s ∈ S → 0 < s.2 → 0 < (S.map (·.2)).sum
  | t :: S, s, h, hs, h0 => by
    have h2 := h t List.mem_cons_self
    rw [List.map_cons, List.sum_cons]
    rcases List.mem_cons.mp hs with rfl | hs
    · have h1 := sum_nn fun x hx => h x (List.mem_cons_of_mem _ hx)
      omega
    · have := sum_pos (fun x hx => h x (List.mem_cons_of_mem _ hx)) hs h0
      omega
theorem spT_cons (r : RunT) (rs : List RunT) : spT (r :: rs) = (r.times : Int) * (spareR r.steps : Nat) + spT rs := by unfold spT; rw [List.map_cons, List.sum_cons]
theorem spT_le {ps : List PieceT} {b : Option Int} {stop : Int} (hp : PsOk ps) : ∀ {rs : List RunT} {a c : Int}, Lvl ps b stop a rs c → spT rs ≤ c - a ∧ ((∀ r ∈ rs, ∀ s ∈ r.steps, s.2 = 0) → spT rs = c - a) ∧ ∀ r ∈ rs, ∀ s ∈ r.steps, 0 < s.2 → spT rs < c - a
  | [], a, c, h => by
    obtain rfl : a = c := h
    exact ⟨by show (0 : Int) ≤ a - a; omega, fun _ => by show (0 : Int) = a - a; omega, fun r hr => nomatch hr⟩
  | r :: rs, a, c, h => by
    obtain ⟨i1, i2, i3⟩ := spT_le hp h.2
    have hw := run_wid hp h.1
    have hs := lenR_sum r.steps hw
    have ht := h.1.times
    have s0 := sum_nn hw
    have e : (r.times : Int) * lenR r.steps = (r.times : Int) * (spareR r.steps : Nat) + (r.times : Int) * (r.steps.map (·.2)).sum := by rw [← hs, Int.mul_add]
    have m0 : 0 ≤ (r.times : Int) * (r.steps.map (·.2)).sum := Int.mul_nonneg (by omega) s0
    rw [spT_cons]
    refine ⟨by omega, fun hz => ?_, fun q hq s hs0 h0 => ?_⟩
    · have z := sum_zero (hz r List.mem_cons_self)
      have := i2 fun q hq => hz q (List.mem_cons_of_mem _ hq)
      rw [z, Int.mul_zero] at e
      omega
    · rcases List.mem_cons.mp hq with rfl | hq
      · have p := sum_pos hw hs0 h0
        have : 0 < (q.times : Int) * (q.steps.map (·.2)).sum := Int.mul_pos (by omega) p
        omega
      · have := i3 q hq s hs0 h0
        omega
end CL
set_option Elab.async false
set_option linter.all false
set_option pp.maxSteps 400
set_option maxRecDepth 100000
set_option maxHeartbeats 4000000
namespace CL
open PySem PySem.Spec PyProof.Rows L2 GE
abbrev nLo : List Str := ["runs", "run", "openers", "person", "width"]
/-! ### how many windows may lie within one another -/
def below (q : Int) : PyData → Bool
  | .int p => decide (p < q)
  | _ => false
def cnt (V : List PyData) (q : Int) : Nat := (V.filter (below q)).length
theorem cnt_mono : ∀ (V : List PyData) {p q : Int}, p ≤ q → cnt V p ≤ cnt V q
  | [], _, _, _ => Nat.le_refl 0
  | t :: V, p, q, h => by
    have ih := cnt_mono V h
    unfold cnt at ih ⊢
    rw [List.filter_cons, List.filter_cons]
    by_cases c : below p t = true
    · have c2 : below q t = true := by
        cases t with
        | int x => exact decide_eq_true (by have : x < p := of_decide_eq_true c; omega)
        | _ => cases c
      rw [if_pos c, if_pos c2, List.length_cons, List.length_cons]
      omega
    · rw [if_neg c]
      split
      · rw [List.length_cons]; omega
      · exact ih
theorem cnt_less : ∀ (V : List PyData) {p q : Int}, PyData.int p ∈ V → p < q → cnt V p < cnt V q
  | t :: V, p, q, hm, h => by
    have mono := cnt_mono V (show p ≤ q by omega)
    unfold cnt at mono ⊢
    rw [List.filter_cons, List.filter_cons]
    rcases List.mem_cons.mp hm with e | hm
    · subst e
      rw [if_neg (by show ¬ decide (p < p) = true; simp), if_pos (show below q (PyData.int p) = true from decide_eq_true h), List.length_cons]
      omega
    · have ih := cnt_less V hm h
      unfold cnt at ih
      by_cases c : below p t = true
      · have c2 : below q t = true := by
          cases t with
          | int x => exact decide_eq_true (by have : x < p := of_decide_eq_true c; omega)
          | _ => cases c
        rw [if_pos c, if_pos c2, List.length_cons, List.length_cons]
        omega
      · rw [if_neg c]
        split
        · rw [List.length_cons]; omega
        · exact ih
theorem breaks_lt {ps : List PieceT} {b : Option Int} {stop : Int} (hp : PsOk ps) (hm : ∀ q ∈ ps, ∀ m, q.2.1 = some m → m ≤ 2 ^ 138) (hs : stop < 2 ^ 139) (hb : ∀ m, b = some m → m < 2 ^ 139) : ∀ y ∈ breaks ps b stop, y < 2 ^ 139 := fun y hy => by
  unfold breaks at hy
  rcases List.mem_cons.mp hy with rfl | hy
  · exact hs
  · rcases List.mem_append.mp hy with hy | hy
    · obtain ⟨pc, h1, h2⟩ := List.mem_filterMap.mp hy
      cases e : pc.2.1 with
      | none => rw [e] at h2; cases h2
      | some m =>
        rw [e] at h2
        have e2 : m - 1 = y := Option.some.inj h2
        have := hm pc h1 m e
        omega
    · cases b with
      | none => cases hy
      | some m =>
        obtain ⟨pc, h1, h2⟩ := List.mem_flatMap.mp hy
        obtain ⟨p, h3, rfl⟩ := mem_fits.mp h2
        have h4 := (hp.turns pc h1).2.2 _ h3
        have h5 : (decide (0 ≤ p) && decide (p ≤ GREAT)) = true := h4
        simp only [Bool.and_eq_true, decide_eq_true_eq] at h5
        have := hb m rfl
        omega
theorem meas_lt {person st x : Int} {k : Nat} (hk : k = (person + 1 - st).toNat) (h1 : st ≤ x) (h2 : st ≤ person) : (person + 1 - (x + 1)).toNat < k := by omega
theorem nn_of {st x : Int} (h0 : 0 ≤ st) (h1 : st ≤ x) : 0 ≤ x + 1 := by omega
theorem in_of {x w p : Int} (h : w = p + 1) : x + w - 1 - (x + 1) < p := by omega
theorem road_next {ps : List PieceT} {b0 bd : Option Int} {st person x w : Int} {S : List StepT} (hw : WP ps bd x w) (hx : x ≤ person) (h0 : 0 < w) (hc : person < x + max w 1) (hR : Rch ps bd st x) (hL : ∀ R, Road ps bd st person R → Road ps b0 0 person (S ++ R)) :
    (x + 1 ≤ person ∧ ∀ R, Road ps (some (x + w - 1)) (x + 1) person R → Road ps b0 0 person ((S ++ [(x, x + w - 1)]) ++ R)) ∨ (person < x + 1 ∧ Road ps b0 0 person (S ++ [(x, x + w - 1)])) := by
  by_cases c : x + 1 ≤ person
  · exact .inl ⟨c, fun R h => by rw [List.append_assoc]; exact hL _ (road_of hR (.inn hw (by omega) (by omega) h))⟩
  · obtain rfl : x = person := by omega
    exact .inr ⟨by omega, hL _ (road_of hR (.own hw h0))⟩
def spLastOp (C : Addr) : Sp := fun vs H Q _ => ∃ D ws ps b, ∃ start stop c : Int, ∃ rs, vs = [.ref D] ∧ H D = some (.lst ws) ∧ RunsAt C D H ws rs ∧ Lvl ps b stop start rs c ∧ PsOk ps ∧ 0 ≤ start ∧ stop < 2 ^ 139 ∧
  ∀ v H', Same H H' → ((v = .non ∧ ∀ r ∈ rs, ∀ s ∈ r.steps, s.2 = 0) ∨ ∃ rs1 r ts S1 s S2, rs = rs1 ++ r :: ts ∧ r.steps = S1 ++ s :: S2 ∧ 0 < s.2 ∧ (∀ x ∈ S2, x.2 = 0) ∧ (∀ q ∈ ts, ∀ x ∈ q.steps, x.2 = 0) ∧ v = .int (s.1 + ((r.times : Int) - 1) * lenR r.steps)) → Q v H'
theorem last_filter : ∀ (S : List StepT), (∀ s ∈ S, 0 ≤ s.2) → ((S.filter fun s => decide (0 < s.2)) = [] ∧ ∀ s ∈ S, s.2 = 0) ∨ ∃ S1 s S2 T, S = S1 ++ s :: S2 ∧ 0 < s.2 ∧ (∀ x ∈ S2, x.2 = 0) ∧ (S.filter fun s => decide (0 < s.2)) = T ++ [s]
  | [], _ => .inl ⟨rfl, fun s h => nomatch h⟩
  | t :: S, h => by
    have h0 := h t List.mem_cons_self
    rcases last_filter S fun x hx => h x (List.mem_cons_of_mem _ hx) with ⟨e, hz⟩ | ⟨S1, s, S2, T, e1, e2, e3, e4⟩
    · by_cases c : 0 < t.2
      · exact .inr ⟨[], t, S, [], rfl, c, hz, by rw [List.filter_cons, if_pos (by simpa using c), e]; rfl⟩
      · refine .inl ⟨by rw [List.filter_cons, if_neg (by simpa using c)]; exact e, fun x hx => ?_⟩
        rcases List.mem_cons.mp hx with rfl | hx
        · omega
        · exact hz x hx
    · by_cases c : 0 < t.2
      · exact .inr ⟨t :: S1, s, S2, t :: T, by rw [e1]; rfl, e2, e3, by rw [List.filter_cons, if_pos (by simpa using c), e4]; rfl⟩
      · exact .inr ⟨t :: S1, s, S2, T, by rw [e1]; rfl, e2, e3, by rw [List.filter_cons, if_neg (by simpa using c)]; exact e4⟩
section
variable {P : Program} {w : World} {K : PySem.W.Frag} {mg : Str → Option Value} {base : Heap}
end
end CL
set_option Elab.async false
set_option linter.all false
set_option pp.maxSteps 400
set_option maxRecDepth 100000
set_option maxHeartbeats 4000000
namespace CL
open PySem PySem.Spec PyProof.Rows L2 GE
/-! ### a plan's pieces -/
theorem turns_hi {d : PyData} (h : isPiece d = true) : (turnsD d).length ≤ 8 := by
  unfold isPiece at h
  unfold turnsD
  cases e : rowsD d with
  | none => exact Nat.zero_le _
  | some xs =>
    rw [e] at h
    match xs, h with
    | [t, m], h =>
      simp only [Bool.and_eq_true] at h
      have h1 := h.1
      unfold isTurns at h1
      cases e2 : rowsD t with
      | none => rw [e2] at h1; cases h1
      | some ts =>
        rw [e2] at h1
        simp only [Bool.and_eq_true, decide_eq_true_eq] at h1
        show ((rowsD t).getD []).length ≤ 8
        rw [e2]
        exact h1.1.2
theorem worth_snd {d : PyData} (h : isPiece d = true) : 0 ≤ worth (sndD d) := by
  unfold isPiece at h
  unfold sndD
  cases e : rowsD d with
  | none => exact Int.le_refl 0
  | some xs =>
    rw [e] at h
    match xs, h with
    | [t, m], h =>
      simp only [Bool.and_eq_true] at h
      show 0 ≤ worth m
      cases m with
      | int i => exact of_decide_eq_true h.2
      | _ => exact Int.le_refl 0
theorem pcs_past : ∀ (f : Int) (ds : List PyData), ds.all isPiece = true → ∀ q ∈ pcs f ds, ∀ m, q.2.1 = some m → m ≤ f + sumSnd ds
  | _, [], _, q, hq, _, _ => nomatch hq
  | f, d :: ds, h, q, hq, m, e => by
    rw [List.all_cons, Bool.and_eq_true] at h
    have h0 := worth_snd h.1
    have es : sumSnd (d :: ds) = worth (sndD d) + sumSnd ds := rfl
    have hs : 0 ≤ sumSnd ds := by
      have z : ∀ ds : List PyData, ds.all isPiece = true → 0 ≤ sumSnd ds := fun ds => by
        induction ds with
        | nil => intro _; exact Int.le_refl 0
        | cons d ds ih =>
          intro h
          rw [List.all_cons, Bool.and_eq_true] at h
          have := ih h.2
          have := worth_snd h.1
          show 0 ≤ worth (sndD d) + sumSnd ds
          omega
      exact z ds h.2
    have hq' : q ∈ (f, pastO f (sndD d), turnsD d) :: pcs (f + worth (sndD d)) ds := hq
    rcases List.mem_cons.mp hq' with rfl | hq'
    · have e2 : pastO f (sndD d) = some m := e
      cases e3 : sndD d with
      | int i =>
        rw [e3] at e2 h0
        have e4 : f + i = m := Option.some.inj e2
        rw [es, e3]
        show m ≤ f + (i + sumSnd ds)
        omega
      | _ => rw [e3] at e2; cases e2
    · have := pcs_past (f + worth (sndD d)) ds h.2 q hq' m e
      rw [es]
      omega
structure PlOk (ps : List PieceT) (pc : PieceT) : Prop where
  ok : PsOk (ps ++ [pc])
  find : ∀ x : Int, under pc.2.1 x = true → ∃ pc', (ps ++ [pc]).find? (comes x) = some pc'
  past : ∀ q ∈ ps ++ [pc], ∀ m, q.2.1 = some m → m ≤ 2 ^ 138
theorem plOk {d : PyData} (h : isPlan d = true) {ps : List PieceT} {pc : PieceT} (e : piecesOf d = ps ++ [pc]) : PlOk ps pc := by
  obtain ⟨ds, _, e2, l1, l8, hpc, hno, hsum⟩ := plan_parts h
  rw [e2] at e
  have hall := List.all_eq_true.mp hpc
  have k1 : PsOk (pcs 0 ds) := ⟨by rw [pcs_len]; exact l8, fun q hq => by
    have z : ∀ (f : Int) (ds : List PyData), (∀ d ∈ ds, isPiece d = true) → ∀ q ∈ pcs f ds, ∃ d, isPiece d = true ∧ q.2.2 = turnsD d := fun f ds => by
      induction ds generalizing f with
      | nil => intro _ q hq; cases hq
      | cons d ds ih =>
        intro h q hq
        have hq' : q ∈ (f, pastO f (sndD d), turnsD d) :: pcs (f + worth (sndD d)) ds := hq
        rcases List.mem_cons.mp hq' with rfl | hq'
        · exact ⟨d, h d List.mem_cons_self, rfl⟩
        · exact ih _ (fun y hy => h y (List.mem_cons_of_mem _ hy)) q hq'
    obtain ⟨d', h1, h2⟩ := z 0 ds hall q hq
    obtain ⟨t1, t2⟩ := turns_ok h1
    rw [h2]
    exact ⟨t1, turns_hi h1, t2⟩⟩
  have k2 : ∀ x : Int, under pc.2.1 x = true → ∃ pc', (pcs 0 ds).find? (comes x) = some pc' := fun x hx => by
    obtain ⟨pp, h1, _⟩ := find_pcs x ds 0 hpc hno ps pc e hx
    exact ⟨pp, h1⟩
  have k3 : ∀ q ∈ pcs 0 ds, ∀ m, q.2.1 = some m → m ≤ 2 ^ 138 := fun q hq m em => by
    have := pcs_past 0 ds hpc q hq m em
    have h3 : sumSnd ds ≤ 1000000000000000000000000000000 := hsum
    omega
  rw [e] at k1 k2 k3
  exact ⟨k1, k2, k3⟩
theorem under_le {o : Option Int} {x y : Int} (h : under o y = true) (hxy : x ≤ y) : under o x = true := by
  cases o with
  | none => rfl
  | some m =>
    have : y < m := of_decide_eq_true h
    exact decide_eq_true (by omega)
def spLastIn : Sp := fun vs H Q _ => ∃ a ps pc, ∃ person : Int, vs = [.ref a, .int person] ∧ PcsAt H a (ps ++ [pc]) ∧ PlOk ps pc ∧ 0 ≤ person ∧ person < 2 ^ 138 ∧ under pc.2.1 person = true ∧ ∀ l H', Same H H' → Las (ps ++ [pc]) (pc.2.1.map (· - 1)) 0 person l → Q (optV l) H'
/-- a number that is not too far -/
def Near (c : PyData) : Prop := ∀ n : Int, c = .int n → n < 2 ^ 138
def spLastOf (P1 P2 C C2 : Addr) : Sp := fun vs H Q E => ∃ v u d c, vs = [v, u] ∧ Rp H v d ∧ Rp H u c ∧ Near c ∧ Tb P1 P2 H ∧ (isPlan d = false → ∀ H', Ex H H' → Tb P1 P2 H' → E (.ref C) none H') ∧
  (isPlan d = true → ∃ ps pc, piecesOf d = ps ++ [pc] ∧ (personOk pc.2.1 c = false → ∀ H', Ex H H' → Tb P1 P2 H' → E (.ref C2) none H') ∧ (personOk pc.2.1 c = true → ∀ n l H', c = .int n → Las (ps ++ [pc]) (pc.2.1.map (· - 1)) 0 n l → Ex H H' → Tb P1 P2 H' → Q (optV l) H'))
section
variable {P : Program} {w : World} {K : PySem.W.Frag} {mg : Str → Option Value} {base : Heap}
end
end CL
set_option Elab.async false
set_option linter.all false
set_option pp.maxSteps 400
set_option maxRecDepth 100000
set_option maxHeartbeats 4000000
namespace CL
open PySem PySem.Spec PyProof.Rows L2 GE
theorem PcsAt.sm {H H' : Hp} {a : Addr} {ps : List PieceT} (h : PcsAt H a ps) (s : Same H H') : PcsAt H' a ps := by
  obtain ⟨xs, h1, h2⟩ := h.ex
  exact ⟨xs, s _ _ h1, RpAll.sm s h2⟩
theorem person_int {o : Option Int} {c : PyData} (z : personOk o c = true) : ∃ n : Int, c = .int n ∧ 0 ≤ n ∧ under o n = true := by
  cases c with
  | int n =>
    rw [personOk_int, Bool.and_eq_true, decide_eq_true_eq] at z
    exact ⟨n, rfl, z.1, z.2⟩
  | _ => cases z
theorem moment_int {o : Option Int} {c : PyData} (z : momentOk o c = true) : ∃ n : Int, c = .int n ∧ 0 ≤ n ∧ n ≤ GREAT ∧ upto o n = true := by
  cases c with
  | int n =>
    rw [momentOk_int] at z
    simp only [Bool.and_eq_true, decide_eq_true_eq] at z
    exact ⟨n, rfl, z.1.1, z.1.2, z.2⟩
  | _ => cases z
/-- how many went past by then, by the last -/
def pastV (l : Option Int) (n m : Int) : Int := match l with
  | none => m - 1 - n
  | some k => (if m - 1 < k then m - 1 else k) - n
def spWent (P1 P2 C C2 C3 : Addr) : Sp := fun vs H Q E => ∃ v u y d c c', vs = [v, u, y] ∧ Rp H v d ∧ Rp H u c ∧ Rp H y c' ∧ Near c ∧ Tb P1 P2 H ∧ (isPlan d = false → ∀ H', Ex H H' → Tb P1 P2 H' → E (.ref C) none H') ∧
  (isPlan d = true → ∃ ps pc, piecesOf d = ps ++ [pc] ∧ (personOk pc.2.1 c = false → ∀ H', Ex H H' → Tb P1 P2 H' → E (.ref C2) none H') ∧ (personOk pc.2.1 c = true → (momentOk pc.2.1 c' = false → ∀ H', Ex H H' → Tb P1 P2 H' → E (.ref C3) none H') ∧
    (momentOk pc.2.1 c' = true → ∀ n m : Int, c = .int n → c' = .int m → (m ≤ n → ∀ H', Ex H H' → Tb P1 P2 H' → E (.ref C3) none H') ∧ (n < m → ∀ l H', Las (ps ++ [pc]) (pc.2.1.map (· - 1)) 0 n l → Ex H H' → Tb P1 P2 H' → Q (.int (pastV l n m)) H'))))
/-- who stands ahead, by the last of the older one -/
def whoV (l : Option Int) (older newer : Int) : Int := match l with
  | none => newer
  | some k => if k ≥ newer then newer else older
def spWho (P1 P2 C C2 C4 : Addr) : Sp := fun vs H Q E => ∃ v u y d c c', vs = [v, u, y] ∧ Rp H v d ∧ Rp H u c ∧ Rp H y c' ∧ Near c ∧ Near c' ∧ Tb P1 P2 H ∧ (isPlan d = false → ∀ H', Ex H H' → Tb P1 P2 H' → E (.ref C) none H') ∧
  (isPlan d = true → ∃ ps pc, piecesOf d = ps ++ [pc] ∧ (personOk pc.2.1 c = false → ∀ H', Ex H H' → Tb P1 P2 H' → E (.ref C2) none H') ∧ (personOk pc.2.1 c = true → (personOk pc.2.1 c' = false → ∀ H', Ex H H' → Tb P1 P2 H' → E (.ref C2) none H') ∧
    (personOk pc.2.1 c' = true → ∀ n m : Int, c = .int n → c' = .int m → (n = m → ∀ H', Ex H H' → Tb P1 P2 H' → E (.ref C4) none H') ∧ (n ≠ m → ∀ l H', Las (ps ++ [pc]) (pc.2.1.map (· - 1)) 0 (if m < n then m else n) l → Ex H H' → Tb P1 P2 H' → Q (.int (whoV l (if m < n then m else n) (if m > n then m else n))) H'))))
def spRunsTo (P1 P2 C C3 CR : Addr) : Sp := fun vs H Q E => ∃ v u d c, vs = [v, u] ∧ Rp H v d ∧ Rp H u c ∧ Tb P1 P2 H ∧ (isPlan d = false → ∀ H', Ex H H' → Tb P1 P2 H' → E (.ref C) none H') ∧
  (isPlan d = true → ∃ ps pc, piecesOf d = ps ++ [pc] ∧ (momentOk pc.2.1 c = false → ∀ H', Ex H H' → Tb P1 P2 H' → E (.ref C3) none H') ∧
    (momentOk pc.2.1 c = true → ∀ m : Int, c = .int m → ∀ D ws rs cc H', Ex H H' → Tb P1 P2 H' → H' D = some (.lst ws) → RunsAt CR D H' ws rs → rs.length ≤ 20440 → Lvl (ps ++ [pc]) (some (m - 1)) (m - 1) 0 rs cc → m - 1 < cc → Q (.ref D) H'))
/-- how many are left over on a level from s to before e -/
inductive Cnt (ps : List PieceT) (b : Option Int) : Int → Int → Int → Prop
  | here (x : Int) : Cnt ps b x x 0
  | on {s e w n : Int} : WP ps b s w → Cnt ps b (s + max w 1) e n → Cnt ps b s e ((if w = 0 then 1 else 0) + n)
theorem cnt_le {ps : List PieceT} {b : Option Int} {s e n : Int} (h : Cnt ps b s e n) : s ≤ e := by
  induction h with
  | here => omega
  | on _ _ ih => omega
theorem cnt_trans {ps : List PieceT} {b : Option Int} {s e n : Int} (h : Cnt ps b s e n) : ∀ {f k : Int}, Cnt ps b e f k → Cnt ps b s f (n + k) := by
  induction h with
  | here => intro f k h'; rw [Int.zero_add]; exact h'
  | on h1 _ ih => intro f k h'; rw [Int.add_assoc]; exact .on h1 (ih h')
theorem cnt_uniq {ps : List PieceT} {b : Option Int} {s e n : Int} (h : Cnt ps b s e n) : ∀ {n'}, Cnt ps b s e n' → n = n' := by
  induction h with
  | here =>
    intro n' h'
    cases h' with
    | here => rfl
    | on h1 h2 => have := cnt_le h2; omega
  | on h1 h2 ih =>
    intro n' h'
    cases h' with
    | here => have := cnt_le h2; omega
    | on h3 h4 => have e := wp_uniq h1 h3; subst e; rw [ih h4]
theorem spareR_cons (s : StepT) (S : List StepT) : (spareR (s :: S) : Int) = (if s.2 = 0 then 1 else 0) + (spareR S : Nat) := by
  unfold spareR
  rw [List.filter_cons]
  by_cases c : s.2 = 0
  · rw [if_pos (by simpa using c), if_pos c, List.length_cons]; omega
  · rw [if_neg (by simpa using c), if_neg c]; omega
theorem cnt_pth {ps : List PieceT} {b : Option Int} {stop : Int} : ∀ {S : List StepT} {a c : Int}, Pth (WS ps b stop) a S c → Cnt ps b a c (spareR S : Nat)
  | [], a, c, h => by
    obtain rfl : a = c := h
    exact .here _
  | s :: S, a, c, h => by
    have e : s.1 = a := h.1
    rw [spareR_cons]
    exact .on (e ▸ h.2.1.2) (cnt_pth h.2.2)
theorem spareR_shift (d : Int) : ∀ S : List StepT, spareR (shift d S) = spareR S
  | [] => rfl
  | s :: S => by
    have h := spareR_shift d S
    have e1 := spareR_cons s S
    have e2 := spareR_cons (s.1 + d, s.2) (shift d S)
    have e3 : shift d (s :: S) = (s.1 + d, s.2) :: shift d S := rfl
    rw [e3]
    have e4 : (if (s.1 + d, s.2).2 = 0 then (1 : Int) else 0) = if s.2 = 0 then 1 else 0 := rfl
    omega
theorem cnt_run {ps : List PieceT} {b : Option Int} {stop a : Int} {r : RunT} (h : RunOk ps b stop a r) : ∀ k : Nat, k ≤ r.times → Cnt ps b a (a + k * lenR r.steps) ((k : Int) * (spareR r.steps : Nat))
  | 0, _ => by
    rw [show ((0 : Nat) : Int) = 0 from rfl, Int.zero_mul, Int.zero_mul, Int.add_zero]
    exact .here _
  | k + 1, hk => by
    have h1 := cnt_run h k (by omega)
    have h2 := cnt_pth (h.path k (by omega))
    rw [spareR_shift] at h2
    have e : a + ((k + 1 : Nat) : Int) * lenR r.steps = a + ((k : Int) * lenR r.steps + lenR r.steps) := by
      rw [Int.natCast_add, Int.add_mul, show ((1 : Nat) : Int) = 1 from rfl, Int.one_mul]
    have e2 : ((k + 1 : Nat) : Int) * (spareR r.steps : Nat) = (k : Int) * (spareR r.steps : Nat) + (spareR r.steps : Nat) := by
      rw [Int.natCast_add, Int.add_mul, show ((1 : Nat) : Int) = 1 from rfl, Int.one_mul]
    rw [e, e2]
    exact cnt_trans h1 h2
theorem cnt_lvl {ps : List PieceT} {b : Option Int} {stop : Int} : ∀ {rs : List RunT} {a c : Int}, Lvl ps b stop a rs c → Cnt ps b a c (spT rs)
  | [], a, c, h => by
    obtain rfl : a = c := h
    exact .here _
  | r :: rs, a, c, h => by
    rw [spT_cons]
    exact cnt_trans (cnt_run h.1 r.times (Nat.le_refl _)) (cnt_lvl h.2)
/-- how many aren't safe -/
def Uns (ps : List PieceT) (m n : Int) : Prop := Cnt ps (some (m - 1)) 0 m n
/-- the one farthest back that has no patience left, or none -/
def Ref (ps : List PieceT) (m : Int) (o : Option Int) : Prop := (o = none ∧ ∀ x, 0 ≤ x → x < m → SpR ps (some (m - 1)) 0 x) ∨ ∃ who w, o = some who ∧ Rch ps (some (m - 1)) 0 who ∧ WP ps (some (m - 1)) who w ∧ 0 < w ∧ who + w ≤ m ∧ ∀ x, who + w ≤ x → x < m → SpR ps (some (m - 1)) 0 x
theorem uns_of {ps : List PieceT} {m cc : Int} {rs : List RunT} (hp : PsOk ps) (lv : Lvl ps (some (m - 1)) (m - 1) 0 rs cc) (h0 : 0 ≤ m) (hcc : m - 1 < cc) : Uns ps m (spT rs) := by
  have h1 := lvl_hi hp lv (by omega)
  have h2 := cnt_lvl lv
  obtain rfl : cc = m := by omega
  exact h2
def spUnsafe (P1 P2 C C3 : Addr) : Sp := fun vs H Q E => ∃ v u d c, vs = [v, u] ∧ Rp H v d ∧ Rp H u c ∧ Tb P1 P2 H ∧ (isPlan d = false → ∀ H', Ex H H' → Tb P1 P2 H' → E (.ref C) none H') ∧
  (isPlan d = true → ∃ ps pc, piecesOf d = ps ++ [pc] ∧ (momentOk pc.2.1 c = false → ∀ H', Ex H H' → Tb P1 P2 H' → E (.ref C3) none H') ∧ (momentOk pc.2.1 c = true → ∀ m n H', c = .int m → Uns (ps ++ [pc]) m n → Ex H H' → Tb P1 P2 H' → Q (.int n) H'))
def spRefuser (P1 P2 C C3 : Addr) : Sp := fun vs H Q E => ∃ v u d c, vs = [v, u] ∧ Rp H v d ∧ Rp H u c ∧ Tb P1 P2 H ∧ (isPlan d = false → ∀ H', Ex H H' → Tb P1 P2 H' → E (.ref C) none H') ∧
  (isPlan d = true → ∃ ps pc, piecesOf d = ps ++ [pc] ∧ (momentOk pc.2.1 c = false → ∀ H', Ex H H' → Tb P1 P2 H' → E (.ref C3) none H') ∧ (momentOk pc.2.1 c = true → ∀ m o H', c = .int m → Ref (ps ++ [pc]) m o → Ex H H' → Tb P1 P2 H' → Q (optV o) H'))
section
variable {P : Program} {w : World} {K : PySem.W.Frag} {mg : Str → Option Value} {base : Heap}
end
end CL
set_option Elab.async false
set_option linter.all false
set_option pp.maxSteps 400
set_option maxRecDepth 100000
set_option maxHeartbeats 4000000
namespace CL
open PySem PySem.Spec PyProof.Rows L2 GE
/-- the window that a person opens, the last of those around it, or none -/
def WinV (H : Hp) (n : Int) (S : List StepT) (x : V) : Prop := (∃ b l, S.getLast? = some (n, l) ∧ x = .ref b ∧ H b = some (.tup [.int n, .int l])) ∨ ((∀ l, S.getLast? ≠ some (n, l)) ∧ x = .non)
def spWinOf (P1 P2 C C2 : Addr) : Sp := fun vs H Q E => ∃ v u d c, vs = [v, u] ∧ Rp H v d ∧ Rp H u c ∧ Near c ∧ Tb P1 P2 H ∧ (isPlan d = false → ∀ H', Ex H H' → Tb P1 P2 H' → E (.ref C) none H') ∧
  (isPlan d = true → ∃ ps pc, piecesOf d = ps ++ [pc] ∧ (personOk pc.2.1 c = false → ∀ H', Ex H H' → Tb P1 P2 H' → E (.ref C2) none H') ∧ (personOk pc.2.1 c = true → ∀ n S x H', c = .int n → Road (ps ++ [pc]) (pc.2.1.map (· - 1)) 0 n S → WinV H' n S x → Ex H H' → Tb P1 P2 H' → Q x H'))
def spWinAr (P1 P2 C C2 : Addr) : Sp := fun vs H Q E => ∃ v u d c, vs = [v, u] ∧ Rp H v d ∧ Rp H u c ∧ Near c ∧ Tb P1 P2 H ∧ (isPlan d = false → ∀ H', Ex H H' → Tb P1 P2 H' → E (.ref C) none H') ∧
  (isPlan d = true → ∃ ps pc, piecesOf d = ps ++ [pc] ∧ (personOk pc.2.1 c = false → ∀ H', Ex H H' → Tb P1 P2 H' → E (.ref C2) none H') ∧ (personOk pc.2.1 c = true → ∀ n D ws S H', c = .int n → Ex H H' → Tb P1 P2 H' → H' D = some (.lst ws) → StAt H' ws S → S.length ≤ 64 → Road (ps ++ [pc]) (pc.2.1.map (· - 1)) 0 n S → Q (.ref D) H'))
section
variable {P : Program} {w : World} {K : PySem.W.Frag} {mg : Str → Option Value} {base : Heap}
end
end CL
set_option Elab.async false
set_option linter.all false
set_option pp.maxSteps 400
set_option maxRecDepth 100000
set_option maxHeartbeats 4000000
namespace CL
open PySem PySem.Spec PyProof.Rows L2 GE
/-! ### who stands where, of those from s on up to the bound -/
inductive At (ps : List PieceT) : Int → Int → Int → Int → Prop
  | spare {bd x : Int} : WP ps (some bd) x 0 → At ps bd x x (bd - x)
  | own {bd x w : Int} : WP ps (some bd) x w → 0 < w → At ps bd x x (w - 1)
  | inn {bd s x w p : Int} : WP ps (some bd) s w → s < x → x < s + w → At ps (s + w - 1) (s + 1) x p → At ps bd s x p
  | skip {bd s x w p : Int} : WP ps (some bd) s w → s + max w 1 ≤ x → At ps bd (s + max w 1) x p → At ps bd s x (w + p)
theorem at_ge {ps : List PieceT} {bd s x p : Int} (h : At ps bd s x p) : s ≤ x := by
  induction h with
  | spare => omega
  | own => omega
  | inn => omega
  | skip => omega
/-- each place is one of as many as there are people -/
theorem at_in {ps : List PieceT} (hp : PsOk ps) {bd s x p : Int} (h : At ps bd s x p) : x ≤ bd → 0 ≤ p ∧ p ≤ bd - s := by
  induction h with
  | spare h => intro hx; omega
  | own h h0 =>
    intro hx
    obtain ⟨q, _, h2, h3⟩ := wp_pos h h0
    have := h3 _ rfl
    omega
  | inn h h1 h2 _ ih =>
    intro hx
    obtain ⟨q, _, h3, h4⟩ := wp_pos h (by omega)
    have := h4 _ rfl
    have := ih (by omega)
    omega
  | skip h h1 _ ih =>
    intro hx
    have := wp_nn hp h
    have := ih hx
    omega
theorem at_uniq {ps : List PieceT} {bd s x p : Int} (h : At ps bd s x p) : ∀ {p'}, At ps bd s x p' → p = p' := by
  induction h with
  | spare h =>
    intro p' h'
    cases h' with
    | spare _ => rfl
    | own k k0 => have := wp_uniq h k; omega
    | inn k k1 => omega
    | skip k k1 => omega
  | own h h0 =>
    intro p' h'
    cases h' with
    | spare k => have := wp_uniq h k; omega
    | own k k0 => rw [wp_uniq h k]
    | inn k k1 => omega
    | skip k k1 => omega
  | inn h h1 h2 _ ih =>
    intro p' h'
    cases h' with
    | spare k => omega
    | own k k0 => omega
    | inn k k1 k2 k3 => have e := wp_uniq h k; subst e; exact ih k3
    | skip k k1 => have e := wp_uniq h k; subst e; omega
  | skip h h1 _ ih =>
    intro p' h'
    cases h' with
    | spare k => omega
    | own k k0 => omega
    | inn k k1 k2 => have e := wp_uniq h k; subst e; omega
    | skip k k1 k2 => have e := wp_uniq h k; subst e; rw [ih k2]
/-- nobody shares a place -/
theorem at_one {ps : List PieceT} (hp : PsOk ps) {bd s x p : Int} (h : At ps bd s x p) : ∀ {x' p' : Int}, x ≤ bd → x' ≤ bd → p = p' → At ps bd s x' p' → x = x' := by
  induction h with
  | spare h =>
    intro x' p' hx hx' e h'
    cases h' with
    | spare _ => rfl
    | own k k0 => rfl
    | inn k k1 k2 => have := wp_uniq h k; omega
    | skip k k1 k2 =>
      have := wp_uniq h k
      have := at_in hp k2 hx'
      omega
  | own h h0 =>
    intro x' p' hx hx' e h'
    cases h' with
    | spare k => rfl
    | own k k0 => rfl
    | inn k k1 k2 k3 =>
      have := wp_uniq h k
      have := at_in hp k3 (by omega)
      omega
    | skip k k1 k2 =>
      have := wp_uniq h k
      have := at_in hp k2 hx'
      omega
  | inn h h1 h2 h3 ih =>
    intro x' p' hx hx' e h'
    have hr := at_in hp h3 (by omega)
    cases h' with
    | spare k => have := wp_uniq h k; omega
    | own k k0 => have := wp_uniq h k; omega
    | inn k k1 k2 k3 => have e2 := wp_uniq h k; subst e2; exact ih (by omega) (by omega) e k3
    | skip k k1 k2 =>
      have e2 := wp_uniq h k
      subst e2
      have := at_in hp k2 hx'
      omega
  | skip h h1 h3 ih =>
    intro x' p' hx hx' e h'
    have hr := at_in hp h3 hx
    cases h' with
    | spare k => have := wp_uniq h k; omega
    | own k k0 => have := wp_uniq h k; omega
    | inn k k1 k2 k3 =>
      have e2 := wp_uniq h k
      subst e2
      have := at_in hp k3 (by omega)
      omega
    | skip k k1 k2 => have e2 := wp_uniq h k; subst e2; exact ih hx hx' (by omega) k2
theorem cnt_rch {ps : List PieceT} {b : Option Int} {s e n : Int} (h : Cnt ps b s e n) : Rch ps b s e := by
  induction h with
  | here => exact .here _
  | on h1 _ ih => exact .on h1 ih
theorem rch_cnt {ps : List PieceT} {b : Option Int} {s e : Int} (h : Rch ps b s e) : ∃ n, Cnt ps b s e n := by
  induction h with
  | here => exact ⟨0, .here _⟩
  | on h1 _ ih =>
    obtain ⟨n, hn⟩ := ih
    exact ⟨_, .on h1 hn⟩
/-- behind those ahead on the level -/
theorem at_of {ps : List PieceT} (hp : PsOk ps) {bd s e n : Int} {b : Option Int} (h : Cnt ps b s e n) : b = some bd → ∀ {x p : Int}, At ps bd e x p → At ps bd s x (e - s - n + p) := by
  induction h with
  | here => intro hb x p h'; rw [show ∀ y : Int, y - y - 0 + p = p by intro y; omega]; exact h'
  | @on s e w n h1 h2 ih =>
    intro hb x p h'
    subst hb
    have w0 := wp_nn hp h1
    have h3 := ih rfl h'
    have h4 := At.skip h1 (at_ge h3) h3
    have e2 : w + (e - (s + max w 1) - n + p) = e - s - ((if w = 0 then 1 else 0) + n) + p := by split <;> omega
    rw [e2] at h4
    exact h4
/-- of the people up to the last step of a level -/
theorem cnt_last {ps : List PieceT} {b : Option Int} {s x w c k : Int} (h : Cnt ps b s c k) (hR : Rch ps b s x) (hw : WP ps b x w) (hc : x + max w 1 = c) : ∃ n, Cnt ps b s x n ∧ k = n + (if w = 0 then 1 else 0) := by
  obtain ⟨n, hn⟩ := rch_cnt hR
  refine ⟨n, hn, ?_⟩
  have h1 : Cnt ps b x c ((if w = 0 then 1 else 0) + 0) := .on hw (by rw [hc]; exact .here _)
  have := cnt_uniq h (cnt_trans hn h1)
  omega
end CL
set_option Elab.async false
set_option linter.all false
set_option pp.maxSteps 400
set_option maxRecDepth 100000
set_option maxHeartbeats 4000000
namespace CL
open PySem PySem.Spec PyProof.Rows L2 GE
abbrev sPlaceOf : Stmt := topS 30
theorem scPlaceOf : FnScope ["plan", "moment", "person", "pieces", "place", "start", "bound", "runs", "here", "width", "spare"] ["plan", "moment", "person"] (defScope sPlaceOf) := ⟨rfl, rfl, rfl, by decide +kernel, rfl, by decide +kernel, by decide +kernel⟩
/-- whether it is a number from 0 on, below m -/
def stOk (m : Int) : PyData → Bool
  | .int n => decide (0 ≤ n) && decide (n < m)
  | _ => false
theorem stOk_int {m : Int} {c : PyData} (h : stOk m c = true) : ∃ n : Int, c = .int n ∧ 0 ≤ n ∧ n < m := by
  cases c with
  | int n =>
    have h : (decide (0 ≤ n) && decide (n < m)) = true := h
    simp only [Bool.and_eq_true, decide_eq_true_eq] at h
    exact ⟨n, rfl, h.1, h.2⟩
  | _ => cases h
def spPlaceOf (P1 P2 C C3 CX : Addr) : Sp := fun vs H Q E => ∃ v u y d c c', vs = [v, u, y] ∧ Rp H v d ∧ Rp H u c ∧ Rp H y c' ∧ Tb P1 P2 H ∧ (isPlan d = false → ∀ H', Ex H H' → Tb P1 P2 H' → E (.ref C) none H') ∧
  (isPlan d = true → ∃ ps pc, piecesOf d = ps ++ [pc] ∧ (momentOk pc.2.1 c = false → ∀ H', Ex H H' → Tb P1 P2 H' → E (.ref C3) none H') ∧ (momentOk pc.2.1 c = true → ∀ m : Int, c = .int m →
    (stOk m c' = false → ∀ H', Ex H H' → Tb P1 P2 H' → E (.ref CX) none H') ∧ (stOk m c' = true → ∀ n x H', c' = .int n → At (ps ++ [pc]) (m - 1) 0 n x → Ex H H' → Tb P1 P2 H' → Q (.int x) H')))
def spPersonAt (P1 P2 C C3 CX : Addr) : Sp := fun vs H Q E => ∃ v u y d c c', vs = [v, u, y] ∧ Rp H v d ∧ Rp H u c ∧ Rp H y c' ∧ Tb P1 P2 H ∧ (isPlan d = false → ∀ H', Ex H H' → Tb P1 P2 H' → E (.ref C) none H') ∧
  (isPlan d = true → ∃ ps pc, piecesOf d = ps ++ [pc] ∧ (momentOk pc.2.1 c = false → ∀ H', Ex H H' → Tb P1 P2 H' → E (.ref C3) none H') ∧ (momentOk pc.2.1 c = true → ∀ m : Int, c = .int m →
    (stOk m c' = false → ∀ H', Ex H H' → Tb P1 P2 H' → E (.ref CX) none H') ∧ (stOk m c' = true → ∀ n x H', c' = .int n → At (ps ++ [pc]) (m - 1) 0 x n → 0 ≤ x → x < m → Ex H H' → Tb P1 P2 H' → Q (.int x) H')))
theorem RunsAt.sm {C D : Addr} {H H' : Hp} {vs : List V} {rs : List RunT} {ws : List V} (h : RunsAt C D H vs rs) (hD : H D = some (.lst ws)) (s : Same H H') : RunsAt C D H' vs rs := h.kd hD fun b o _ e => s b o e
theorem PcsAt.sm' {H H' : Hp} {a : Addr} {ps : List PieceT} (hp : PcsAt H a ps) (s : Same H H') : PcsAt H' a ps := by
  obtain ⟨xs, h1, h2⟩ := hp.ex
  exact ⟨xs, s _ _ h1, RpAll.sm s h2⟩
/-- behind the last step of a level -/
theorem place_next {ps : List PieceT} (hp : PsOk ps) {bd st n x w c ns pl m : Int} (hns : Cnt ps (some bd) st x ns) (hw : WP ps (some bd) x w) (hx : x ≤ n) (hxc : x + max w 1 = c) (hc : n < c) (hA : ∀ p, At ps bd st n p → At ps (m - 1) 0 n (pl + p)) :
    (w = 0 → At ps (m - 1) 0 n (pl + bd - st - ns)) ∧ (0 < w → ((x + 1 ≤ n ∧ ∀ p, At ps (x + w - 1) (x + 1) n p → At ps (m - 1) 0 n (pl + (x - st - ns) + p)) ∨ (n < x + 1 ∧ At ps (m - 1) 0 n (pl + (x - st - ns) + (x + w - 1) - n)))) := by
  refine ⟨fun h0 => ?_, fun h0 => ?_⟩
  · subst h0
    obtain rfl : x = n := by omega
    have h1 := hA _ (at_of hp hns rfl (.spare hw))
    rw [show pl + bd - st - ns = pl + (x - st - ns + (bd - x)) by omega]
    exact h1
  · by_cases cx : x + 1 ≤ n
    · refine .inl ⟨cx, fun p h => ?_⟩
      have h1 := hA _ (at_of hp hns rfl (.inn hw (by omega) (by omega) h))
      rw [show pl + (x - st - ns) + p = pl + (x - st - ns + p) by omega]
      exact h1
    · obtain rfl : x = n := by omega
      refine .inr ⟨by omega, ?_⟩
      have h1 := hA _ (at_of hp hns rfl (.own hw h0))
      rw [show pl + (x - st - ns) + (x + w - 1) - x = pl + (x - st - ns + (w - 1)) by omega]
      exact h1
section
variable {P : Program} {w : World} {K : PySem.W.Frag} {mg : Str → Option Value} {base : Heap}
theorem ok_placeOf {f P1 P2 C C3 CX CR : Addr} {fd : FuncData} (F : Fun K "place_of" "place_of" sPlaceOf f fd) (XX : ExcC K mg "NoPerson" CX) (CW : Cal P w K mg base 1 "is_whole" ["thing"] (spOne isWhole)) (CP : CalX P w K mg base 9 "pieces_of" ["plan"] (spPieces P1 P2 C)) (CM : CalX P w K mg base 2 "check_moment" ["pieces", "moment"] (spCkM C3))
    (CRn : Cal P w K mg base 3 "runs_on" ["pieces", "start", "bound", "stop"] (spRuns CR)) (CL : Cal P w K mg base 1 "last_step" ["runs"] (spLast CR)) (CS : Cal P w K mg base 1 "spare_on" ["runs"] (spSpareOn CR)) :
    FnOk P w K mg base (L2.CX P w) 10 f fd ["plan", "moment", "person"] (spPlaceOf P1 P2 C C3 CX) := by
  refine F.okX scPlaceOf (fun vs H Q E ⟨v, u, y, d, c, c', e, _⟩ => by rw [e]; rfl) (fun cdv A outer s H vs Q E hr h => ?_)
  obtain ⟨v, u, y, d, c, c', rfl, hR, hU, hY, hT, qE0, q⟩ := h
  have nd := scPlaceOf.nd
  have hG : GREAT = 1000000000000000000000000000000 := rfl
  refine ⟨_, (pss_cons (ps_set (i := 3) nd rfl (.inl rfl) (pe_calX (CP.mono (by decide)) hr (by rfl) (passes_call (takes_of rfl rfl rfl rfl) fun _ _ _ _ h => h) (pa_cons (pv 0) pa_nil)))
    (pss_cons (ps_expr (pe_calX (CM.mono (by decide)) hr (by rfl) (passes_call (takes_of rfl rfl rfl rfl) fun _ _ _ _ h => h) (pa_cons (pv 3) (pa_cons (pv 1) pa_nil))))
    (pss_cons (ps_if (PW.pt (pw_or (pt_not (pt_val (pe_cal (CW.mono (by decide)) hr (by rfl) (pa_cons (pv 2) pa_nil)))) (pw_or1 (pt_not (pt_chain op_le op_lt pe_int (pv 2) (pv 1)))))) (pss_one (ps_raise rfl (takes_of rfl rfl rfl rfl) (pmk_own PySem.F.excBase_ValueError XX.x XX.g XX.k (raises_own XX.b XX.t) rfl))) pss_nil) (PSs.nox (pss_cons (ps_set (i := 4) nd rfl (.inl rfl) pe_int)
    (pss_cons (ps_set (i := 5) nd rfl (.inl rfl) pe_int)
    (pss_cons (ps_set (i := 6) nd rfl (.inl rfl) (pe_op op_sub (pv 1) pe_int))
    (pss_cons (ps_while PassesOwn.never (pt_cmpR op_le (pv 5) (pv 2) (nomark _)) (pss_cons (ps_set (i := 7) nd rfl (.inl rfl) (pe_cal (CRn.mono (by decide)) hr (by rfl) (pa_cons (pv 3) (pa_cons (pv 5) (pa_cons (pv 6) (pa_cons (pv 2) pa_nil))))))
    (pss_cons (ps_asg (pe_cal (CL.mono (by decide)) hr (by rfl) (pa_cons (pv 7) pa_nil)) (pg_tup rfl (pgs_cons (pg_name (i := 8) nd rfl (.inl rfl)) (pgs_cons (pg_name (i := 9) nd rfl (.inl rfl)) pgs_nil))))
    (pss_cons (ps_set (i := 10) nd rfl (.inl rfl) (pe_cal (CS.mono (by decide)) hr (by rfl) (pa_cons (pv 7) pa_nil)))
    (pss_cons (ps_if (pt_cmpR op_eq (pv 9) pe_int (nomark _)) (pss_one (ps_ret (pe_op op_sub (pe_op op_sub (pe_op op_add (pv 4) (pv 6)) (pv 5)) (pe_op op_sub (pv 10) pe_int)))) pss_nil)
    (pss_cons (ps_aug (i := 4) nd rfl (.inl rfl) (pe_op op_sub (pe_op op_sub (pv 8) (pv 5)) (pv 10)) iop_add)
    (pss_cons (ps_set (i := 5) nd rfl (.inl rfl) (pe_op op_add (pv 8) pe_int))
    (pss_one (ps_set (i := 6) nd rfl (.inl rfl) (pe_op op_sub (pe_op op_add (pv 8) (pv 9)) pe_int))))))))))
    (pss_one (ps_ret (pe_op op_sub (pe_op op_add (pv 4) (pv 6)) (pv 2)))))))))))), ?_⟩
  refine ⟨v, rfl, v, d, rfl, hR, hT, qE0, fun z0 p H1 e1 t1 _ rp => ?_⟩
  obtain ⟨ps, pc, hps, qE, q⟩ := q z0
  have hU1 := Rp.ex e1 c u hU
  have hY1 := Rp.ex e1 c' y hY
  have hpl := plOk z0 hps
  rw [hps] at rp
  obtain ⟨a, ea, h⟩ := PcsAt.of rp
  obtain rfl : p = a := V.ref.inj ea
  refine ⟨.ref p, rfl, u, rfl, p, u, ps, pc, c, rfl, h, hU1, fun z H2 s2 => qE z H2 (e1.trans (Ex.of s2)) (t1.same s2), fun z H2 s2 => ?_⟩
  have q := q z
  obtain ⟨m, rfl, m0, m1, mu⟩ := moment_int z
  cases hU1
  obtain ⟨qE3, q⟩ := q m rfl
  have e2 := e1.trans (Ex.of s2)
  have t2 := t1.same s2
  have hund : ∀ x : Int, x ≤ m - 1 → under pc.2.1 x = true := fun x hx => by
    cases e : pc.2.1 with
    | none => rfl
    | some k =>
      rw [e] at mu
      have : m ≤ k := of_decide_eq_true mu
      exact decide_eq_true (by omega)
  refine ⟨y, rfl, y, c', rfl, Rp.sm s2 hY1, fun H3 s3 => ⟨isWhole c', rfl, ?_⟩⟩
  have e3 := e2.trans (Ex.of s3)
  have t3 := t2.same s3
  have bad : stOk m c' = false → E (.ref CX) none H3 := fun z => qE3 z H3 e3 t3
  cases hY1 with
  | int n =>
    refine iteF ⟨.int n, rfl, 0, n, rfl, rfl, decide ((0 : Int) ≤ n), rfl, ?_⟩
    by_cases n0 : (0 : Int) ≤ n
    · rw [decide_eq_true n0]
      refine iteT ⟨.int m, rfl, n, m, rfl, rfl, decide (n < m), rfl, ?_⟩
      by_cases n1 : n < m
      · rw [decide_eq_true n1]
        refine iteF ?_
        have hst : stOk m (.int n) = true := by show (decide (0 ≤ n) && decide (n < m)) = true; rw [decide_eq_true n0, decide_eq_true n1]; rfl
        have fin : ∀ x H4, At (ps ++ [pc]) (m - 1) 0 n x → Same H3 H4 → Q (.int x) H4 := fun x H4 ha s4 => q hst n x H4 rfl ha (e3.trans (Ex.of s4)) (t3.same s4)
        have h3 := (h.sm' s2).sm' s3
        refine ⟨.int m, rfl, m, 1, rfl, rfl, ?_⟩
        refine ⟨fun k σ H4 => ∃ pl st bd : Int, ∃ y7 y8 y9 y10, σ = [some v, some (.int m), some (.int n), some (.ref p), some (.int pl), some (.int st), some (.int bd), y7, y8, y9, y10] ∧ Same H3 H4 ∧ 0 ≤ st ∧ bd < 2 ^ 139 ∧ ((st ≤ n ∧ ∀ p, At (ps ++ [pc]) bd st n p → At (ps ++ [pc]) (m - 1) 0 n (pl + p)) ∨ (n < st ∧ At (ps ++ [pc]) (m - 1) 0 n (pl + bd - n))) ∧ k = (n + 1 - st).toNat,
          ⟨_, 0, 0, m - 1, none, none, none, none, rfl, Same.refl H3, Int.le_refl 0, by omega, .inl ⟨n0, fun p h => by rw [Int.zero_add]; exact h⟩, rfl⟩, fun k σ H4 ⟨pl, st, bd, y7, y8, y9, y10, eσ, s4, hst0, hbd, hA, hk⟩ => ?_⟩
        subst eσ
        refine ⟨.int st, rfl, .int n, rfl, st, n, rfl, rfl, _, rfl, ?_⟩
        by_cases cx : st ≤ n
        · rw [decide_eq_true cx]
          refine iteT ⟨fun σ' H' => ∃ m', m' < k ∧ ∃ pl st bd : Int, ∃ y7 y8 y9 y10, σ' = [some v, some (.int m), some (.int n), some (.ref p), some (.int pl), some (.int st), some (.int bd), y7, y8, y9, y10] ∧ Same H3 H' ∧ 0 ≤ st ∧ bd < 2 ^ 139 ∧ ((st ≤ n ∧ ∀ p, At (ps ++ [pc]) bd st n p → At (ps ++ [pc]) (m - 1) 0 n (pl + p)) ∨ (n < st ∧ At (ps ++ [pc]) (m - 1) 0 n (pl + bd - n))) ∧ m' = (n + 1 - st).toNat, fun σ' H' ⟨m', h1, h2⟩ => ⟨m', h1, h2⟩, ?_⟩
          refine ⟨.ref p, rfl, .int st, rfl, .int bd, rfl, .int n, rfl, p, ps ++ [pc], st, n, some bd, rfl, h3.sm' s4, hpl.ok, hst0, fun x h1 h2 => hpl.find x (hund x (by omega)), breaks_lt hpl.ok hpl.past (by omega) (fun k e => by cases e; exact hbd), fun D ws rs cc H5 s5 n5 e5 ra lv hc hlr hrn => ?_⟩
          refine ⟨.ref D, rfl, D, ws, ps ++ [pc], some bd, st, n, cc, rs, rfl, e5, ra, fun z => by have := hrn z; omega, lv, hpl.ok, hst0, by omega, fun x w p2 H6 s6 e6 hRc hx hws hxc => ?_⟩
          refine ⟨p2, _, rfl, SqT.of e6, rfl, .int x, _, rfl, .int w, _, rfl, rfl, ?_⟩
          have e6D := s6 _ _ e5
          refine ⟨.ref D, rfl, D, ws, ps ++ [pc], some bd, st, n, cc, rs, rfl, e6D, ra.sm e5 s6, hlr, lv, hpl.ok, hst0, by omega, fun H7 s7 => ?_⟩
          have s37 := s4.trans (s5.trans (s6.trans s7))
          obtain ⟨ns, hns, hsp⟩ := cnt_last (cnt_lvl lv) hRc hws.2 hxc
          have hspT : (rs.map fun r => (r.times : Int) * (spareR r.steps : Nat)).sum = spT rs := rfl
          rw [hspT]
          generalize spT rs = sp at hsp
          have hxn := hws.1
          have hAt : ∀ p, At (ps ++ [pc]) bd st n p → At (ps ++ [pc]) (m - 1) 0 n (pl + p) := by
            rcases hA with ⟨_, h⟩ | ⟨h, _⟩
            · exact h
            · omega
          have hnx := place_next (pl := pl) hpl.ok hns hws.2 hxn hxc hc hAt
          obtain ⟨w0, w1, w2⟩ := wp_le hpl.ok hws.2
          refine ⟨.int w, rfl, rfl, _, rfl, ite2 (fun e => ?_) (fun e => ?_)⟩
          · have hw0 : w = 0 := by
              have := of_decide_eq_true e
              first | exact this | exact V.int.inj this
            have hfin := hnx.1 hw0
            rw [hw0, if_pos rfl] at hsp
            have esp : sp - 1 = ns := by omega
            rw [← esp] at hfin
            exact ⟨.int pl, rfl, .int bd, rfl, pl, bd, rfl, rfl, .int st, rfl, pl + bd, st, rfl, rfl, .int sp, rfl, sp, 1, rfl, rfl, pl + bd - st, sp - 1, rfl, rfl, fin _ H7 hfin s37⟩
          · have hw0 : w ≠ 0 := fun z => e (decide_eq_true (by rw [z]))
            obtain ⟨pc1, p1, hm1, hp1', hw1, hp10, hp11, hfit⟩ := w2 hw0
            have hf := hfit bd rfl
            have hnx2 := hnx.2 (by omega)
            rw [if_neg hw0] at hsp
            have esp : sp = ns := by omega
            rw [← esp] at hnx2
            refine ⟨.int pl, rfl, .int x, rfl, .int st, rfl, x, st, rfl, rfl, .int sp, rfl, x - st, sp, rfl, rfl, pl, x - st - sp, rfl, rfl, ?_⟩
            refine ⟨.int x, rfl, x, 1, rfl, rfl, .int x, rfl, .int w, rfl, x, w, rfl, rfl, x + w, 1, rfl, rfl, ?_⟩
            exact ⟨(n + 1 - (x + 1)).toNat, meas_lt hk hx cx, pl + (x - st - sp), x + 1, x + w - 1, _, _, _, _, rfl, s37, nn_of hst0 hx, by omega, hnx2, rfl⟩
        · rw [decide_eq_false cx]
          refine iteF ⟨.int pl, rfl, .int bd, rfl, pl, bd, rfl, rfl, .int n, rfl, pl + bd, n, rfl, rfl, fin _ H4 ?_ s4⟩
          rcases hA with ⟨h, _⟩ | ⟨_, h⟩
          · exact absurd h cx
          · exact h
      · rw [decide_eq_false n1]
        exact iteT (bad (by show (decide (0 ≤ n) && decide (n < m)) = false; rw [decide_eq_false n1, Bool.and_false]))
    · rw [decide_eq_false n0]
      exact iteF ⟨false, rfl, iteT (bad (by show (decide (0 ≤ n) && decide (n < m)) = false; rw [decide_eq_false n0, Bool.false_and]))⟩
  | _ => exact iteT (bad rfl)
end
end CL
set_option Elab.async false
set_option linter.all false
set_option pp.maxSteps 400
set_option maxRecDepth 100000
set_option maxHeartbeats 4000000
namespace CL
open PySem PySem.Spec PyProof.Rows L2 GE
abbrev sSpareAt : Stmt := topS 32
abbrev nSpareAt : List Str := ["runs", "number", "at", "gone", "spare", "person", "width"]
theorem scSpareAt : FnScope nSpareAt ["runs", "number"] (defScope sSpareAt) := ⟨rfl, rfl, rfl, by decide +kernel, rfl, by decide +kernel, by decide +kernel⟩
abbrev sWinAt : Stmt := topS 33
abbrev nWinAt : List Str := ["runs", "place", "at", "gone", "step", "opener"]
theorem scWinAt : FnScope nWinAt ["runs", "place"] (defScope sWinAt) := ⟨rfl, rfl, rfl, by decide +kernel, rfl, by decide +kernel, by decide +kernel⟩
def wnT (rs : List RunT) : Int := (rs.map fun r => (r.times : Int) * (lenR r.steps - (spareR r.steps : Nat))).sum
theorem wnT_cons (r : RunT) (rs : List RunT) : wnT (r :: rs) = (r.times : Int) * (lenR r.steps - (spareR r.steps : Nat)) + wnT rs := by unfold wnT; rw [List.map_cons, List.sum_cons]
/-- how many there are on a level, all together -/
theorem lvl_sum {ps : List PieceT} {b : Option Int} {stop : Int} : ∀ {rs : List RunT} {a c : Int}, Lvl ps b stop a rs c → spT rs + wnT rs = c - a
  | [], a, c, h => by
    obtain rfl : a = c := h
    show (0 : Int) + 0 = a - a
    omega
  | r :: rs, a, c, h => by
    have ih := lvl_sum h.2
    rw [spT_cons, wnT_cons, Int.mul_sub]
    omega
theorem run_step {ps : List PieceT} {b : Option Int} {stop a : Int} {r : RunT} (h : RunOk ps b stop a r) {s : StepT} (hs : s ∈ r.steps) {k : Nat} (hk : k < r.times) : a + k * lenR r.steps ≤ s.1 + k * lenR r.steps ∧ WS ps b stop (s.1 + k * lenR r.steps) s.2 := by
  have := (h.path k hk).le.2 (s.1 + k * lenR r.steps, s.2) (List.mem_map.mpr ⟨s, hs, rfl⟩)
  exact ⟨this.1, this.2.2⟩
theorem run_wid2 {ps : List PieceT} {b : Option Int} {stop a : Int} {r : RunT} (hp : PsOk ps) (h : RunOk ps b stop a r) : ∀ s ∈ r.steps, 0 ≤ s.2 ∧ s.2 ≤ GREAT + 1 := fun s hs => by
  have := wp_le hp (run_step h hs (k := 0) h.times).2.2
  exact ⟨this.1, this.2.1⟩
theorem div_ok {i j : Int} (h0 : 0 ≤ i) (hi : i < 2 ^ 1000) (hj : 0 < j) : CDivP i j := divp_ok hj (by
  have := PyProof.Rows.intBits_le (k := 1000) (a := i) (by omega)
  omega)
theorem filt_at {S : List StepT} {k : Nat} (h : k < spareR S) : ∃ a, ((S.filter fun s => decide (s.2 = 0)).map (·.1)).map V.int = ((S.filter fun s => decide (s.2 = 0)).map (·.1)).map V.int ∧ (((S.filter fun s => decide (s.2 = 0)).map (·.1)).map V.int)[k]? = some (.int a) := by
  unfold spareR at h
  refine ⟨((S.filter fun s => decide (s.2 = 0)).map (·.1))[k]'(by rw [List.length_map]; exact h), rfl, ?_⟩
  rw [List.getElem?_map, List.getElem?_eq_getElem (by rw [List.length_map]; exact h)]
  rfl
theorem widths_sum {S : List StepT} (h : ∀ s ∈ S, 0 ≤ s.2) : (S.map (·.2)).sum = lenR S - (spareR S : Nat) := by
  have := lenR_sum S h
  omega
theorem take_split {α : Type} {xs : List α} {i : Nat} {x : α} (h : xs[i]? = some x) : xs = xs.take i ++ x :: xs.drop (i + 1) := by
  conv => lhs; rw [← List.take_append_drop i xs]
  obtain ⟨hl, e⟩ := List.getElem?_eq_some_iff.mp h
  rw [List.drop_eq_getElem_cons hl, e]
theorem spT_take {rs : List RunT} {i : Nat} {r : RunT} (h : rs[i]? = some r) : spT (rs.take (i + 1)) = spT (rs.take i) + (r.times : Int) * (spareR r.steps : Nat) := by
  rw [List.take_add_one, h]
  unfold spT
  rw [List.map_append, List.sum_append]
  simp
theorem wnT_take {rs : List RunT} {i : Nat} {r : RunT} (h : rs[i]? = some r) : wnT (rs.take (i + 1)) = wnT (rs.take i) + (r.times : Int) * (lenR r.steps - (spareR r.steps : Nat)) := by
  rw [List.take_add_one, h]
  unfold wnT
  rw [List.map_append, List.sum_append]
  simp
theorem lenR_shift (d : Int) : ∀ S : List StepT, lenR (shift d S) = lenR S
  | [] => rfl
  | s :: S => by
    have h := lenR_shift d S
    have e3 : shift d (s :: S) = (s.1 + d, s.2) :: shift d S := rfl
    rw [e3, lenR_cons, lenR_cons, h]
/-- a step of a level, with those ahead of it -/
theorem lvl_at {ps : List PieceT} {b : Option Int} {stop start c : Int} {rs : List RunT} {i g : Nat} {r : RunT} {S1 S2 : List StepT} {s : StepT} (h : Lvl ps b stop start rs c) (hi : rs[i]? = some r) (hg : g < r.times) (eS : r.steps = S1 ++ s :: S2) :
    Cnt ps b start (s.1 + (g : Int) * lenR r.steps) (spT (rs.take i) + ((g : Int) * (spareR r.steps : Nat) + (spareR S1 : Nat))) ∧ WS ps b stop (s.1 + (g : Int) * lenR r.steps) s.2 ∧ s.1 + (g : Int) * lenR r.steps - start = wnT (rs.take i) + spT (rs.take i) + (g : Int) * lenR r.steps + lenR S1 := by
  rw [take_split hi] at h
  obtain ⟨m, h1, h2, h3⟩ := lvl_split h
  have hk := h2.path g hg
  have c1 := cnt_lvl h1
  have c2 := cnt_run h2 g (by omega)
  have l1 := lvl_sum h1
  generalize hd : (g : Int) * lenR r.steps = d at hk c2 ⊢
  have es : shift d r.steps = shift d S1 ++ (s.1 + d, s.2) :: shift d S2 := by rw [eS]; unfold shift; rw [List.map_append]; rfl
  rw [es] at hk
  obtain ⟨m2, k1, k2, k3, k4⟩ := hk.split
  have k2' : s.1 + d = m2 := k2
  have k3' : WS ps b stop (s.1 + d) s.2 := k3
  have c3 := cnt_pth k1
  rw [spareR_shift] at c3
  have e3 := k1.end_
  rw [lenR_shift] at e3
  rw [← k2'] at c3
  refine ⟨cnt_trans c1 (cnt_trans c2 c3), k3', by omega⟩
theorem spareR_nil : spareR [] = 0 := rfl
theorem filt_split : ∀ {S : List StepT} {k : Nat}, k < spareR S → ∃ S1 s S2, S = S1 ++ s :: S2 ∧ s.2 = 0 ∧ spareR S1 = k ∧ (((S.filter fun s => decide (s.2 = 0)).map (·.1)).map V.int)[k]? = some (.int s.1)
  | [], k, h => absurd h (by rw [spareR_nil]; omega)
  | t :: S, k, h => by
    have ec := spareR_cons t S
    by_cases c : t.2 = 0
    · rw [if_pos c] at ec
      have ef : ((t :: S).filter fun s => decide (s.2 = 0)) = t :: S.filter fun s => decide (s.2 = 0) := by rw [List.filter_cons, if_pos (by simpa using c)]
      cases k with
      | zero => exact ⟨[], t, S, rfl, c, rfl, by rw [ef]; rfl⟩
      | succ k =>
        obtain ⟨S1, s, S2, e1, e2, e3, e4⟩ := filt_split (S := S) (k := k) (by omega)
        refine ⟨t :: S1, s, S2, by rw [e1]; rfl, e2, ?_, by rw [ef]; exact e4⟩
        have := spareR_cons t S1
        rw [if_pos c] at this
        omega
    · rw [if_neg c] at ec
      have ef : ((t :: S).filter fun s => decide (s.2 = 0)) = S.filter fun s => decide (s.2 = 0) := by rw [List.filter_cons, if_neg (by simpa using c)]
      obtain ⟨S1, s, S2, e1, e2, e3, e4⟩ := filt_split (S := S) (k := k) (by omega)
      refine ⟨t :: S1, s, S2, by rw [e1]; rfl, e2, ?_, by rw [ef]; exact e4⟩
      have := spareR_cons t S1
      rw [if_neg c] at this
      omega
def spSpareAt (C : Addr) : Sp := fun vs H Q _ => ∃ D ws ps b, ∃ start stop c k : Int, ∃ rs, vs = [.ref D, .int k] ∧ H D = some (.lst ws) ∧ RunsAt C D H ws rs ∧ Lvl ps b stop start rs c ∧ PsOk ps ∧ 0 ≤ start ∧ stop < 2 ^ 139 ∧ k < 2 ^ 139 ∧ 0 ≤ k ∧ k < spT rs ∧ ∀ x H', Same H H' → Cnt ps b start x k → WP ps b x 0 → x ≤ stop → Q (.int x) H'
def spWinAt (C : Addr) : Sp := fun vs H Q _ => ∃ D ws ps b, ∃ start stop c k : Int, ∃ rs, vs = [.ref D, .int k] ∧ H D = some (.lst ws) ∧ RunsAt C D H ws rs ∧ Lvl ps b stop start rs c ∧ PsOk ps ∧ 0 ≤ start ∧ stop < 2 ^ 139 ∧ k < 2 ^ 139 ∧ 0 ≤ k ∧ k < wnT rs ∧
  ∀ (op w pl n : Int) p H', Same H H' → H' p = some (.tup [.int op, .int (op + w - 1), .int pl]) → start ≤ op → WS ps b stop op w → 0 < w → 0 ≤ pl → pl < w → Cnt ps b start op n → k = op - start - n + pl → Q (.ref p) H'
theorem drop_at {α : Type} {xs : List α} {i : Nat} {x : α} (h : xs[i]? = some x) : xs.drop i = x :: xs.drop (i + 1) := by
  obtain ⟨hl, e⟩ := List.getElem?_eq_some_iff.mp h
  rw [List.drop_eq_getElem_cons hl, e]
section
variable {P : Program} {w : World} {K : PySem.W.Frag} {mg : Str → Option Value} {base : Heap}
theorem ok_spareAt {f C fI : Addr} {fd : FuncData} (F : Fun K "spare_at" "spare_at" sSpareAt f fd) (hdm : mg "divmod" = none) (TC : RunC K mg C fI) : FnOk P w K mg base CX0 1 f fd ["runs", "number"] (spSpareAt C) := by
  refine F.ok scSpareAt (fun vs H Q E ⟨D, ws, ps, b, st0, stop, c, k, rs, e, _⟩ => by rw [e]; rfl) (fun cdv A0 outer s H vs Q E hr h => ?_)
  obtain ⟨D, ws, ps, b, start, stop, c, k0, rs, rfl, hD, hra, hlv, hps, h0, hst, hk9, hk0, hk1, q⟩ := h
  have nd := scSpareAt.nd
  have sz := sz5000
  refine ⟨_, (pss_cons (ps_set (i := 2) nd rfl (.inl rfl) pe_int)
    (pss_cons (ps_while PassesOwn.never (pt_cmpR op_ge (pv 1) (pe_op op_mulW (pe_fld (pe_ix ix_list (pv 0) (pv 2) (fun _ _ => rfl)) rfl) (pe_fld (pe_ix ix_list (pv 0) (pv 2) (fun _ _ => rfl)) rfl)) (nomark _)) (pss_cons (ps_aug (i := 1) nd rfl (.inl rfl) (pe_op op_mulW (pe_fld (pe_ix ix_list (pv 0) (pv 2) (fun _ _ => rfl)) rfl) (pe_fld (pe_ix ix_list (pv 0) (pv 2) (fun _ _ => rfl)) rfl)) iop_sub)
    (pss_one (ps_aug (i := 2) nd rfl (.inl rfl) pe_int iop_add))))
    (pss_cons (ps_asg (pe_callB call_divmodW (by rfl) hdm (by decide +kernel) (pa_cons (pv 1) (pa_cons (pe_fld (pe_ix ix_list (pv 0) (pv 2) (fun _ _ => rfl)) rfl) pa_nil))) (pg_tup rfl (pgs_cons (pg_name (i := 3) nd rfl (.inl rfl)) (pgs_cons (pg_name (i := 1) nd rfl (.inl rfl)) pgs_nil))))
    (pss_cons (ps_setLc (i := 4) (own := [("person", 5), ("width", 6)]) (g := gTup K 2 (gCons (gName 5) (gCons (gName 6) gNil))) rfl nd rfl rfl (sw_true rfl rfl rfl (by decide +kernel)) (pi_list (pe_fld (pe_ix ix_list (pv 0) (pv 2) (fun _ _ => rfl)) rfl)) (blkOk_by (N := nSpareAt) (sc := defScope sSpareAt) (by decide +kernel)) (fun _ _ _ _ _ => pg_tup rfl (pgs_cons (pg_name (i := 5) nd rfl (.inl rfl) (.inr rfl)) (pgs_cons (pg_name (i := 6) nd rfl (.inl rfl) (.inr rfl)) pgs_nil))) (fun _ _ _ _ _ => pts_one (pt_cmpR op_eq (pv 6) pe_int (nomark _))) (fun _ _ _ _ _ => (pv 5)))
    (pss_one (ps_ret (pe_op op_add (pe_ix ix_list (pv 4) (pv 1) (fun _ _ => rfl)) (pe_op op_mulW (pv 3) (pe_fld (pe_ix ix_list (pv 0) (pv 2) (fun _ _ => rfl)) rfl))))))))), ?_⟩
  have run : ∀ {i : Nat} {r : RunT}, rs[i]? = some r → ∃ v, ws[i]? = some v ∧ RunAt C D H v r ∧ 1 ≤ lenR r.steps ∧ lenR r.steps < 2 ^ 140 ∧ (r.times : Int) < 2 ^ 140 ∧ r.steps.length ≤ 8 ∧ spareR r.steps ≤ r.steps.length := fun {i r} hi => by
    obtain ⟨v, hv, hr⟩ := hra.at_ i r hi
    obtain ⟨a', ha', hok⟩ := (lvl_le hlv).2 r (List.mem_of_getElem? hi)
    obtain ⟨b1, b2, b3, b4⟩ := runOk_le hps hok (by omega) hst
    exact ⟨v, hv, hr, b1, b2, b4, hok.len, List.length_filter_le _ _⟩
  refine ⟨fun n σ H' => ∃ (k : Int) (i : Nat) (y3 y4 y5 y6 : Option V), σ = [some (.ref D), some (.int k), some (.int (i : Int)), y3, y4, y5, y6] ∧ H' = H ∧ i ≤ rs.length ∧ 0 ≤ k ∧ k0 = spT (rs.take i) + k ∧ k ≤ k0 ∧ k < spT (rs.drop i) ∧ n = rs.length - i,
    ⟨_, k0, 0, none, none, none, none, rfl, rfl, Nat.zero_le _, hk0, (Int.zero_add k0).symm, Int.le_refl _, hk1, rfl⟩, fun n σ H' ⟨k, i, y3, y4, y5, y6, eσ, eH, hi, hk, hk00, hkk, hks, hn⟩ => ?_⟩
  subst eσ eH
  have il : i < rs.length := by
    rcases Nat.lt_or_ge i rs.length with z | z
    · exact z
    · rw [List.drop_eq_nil_of_le z] at hks
      have : spT [] = 0 := rfl
      omega
  obtain ⟨r, hri⟩ : ∃ r, rs[i]? = some r := ⟨_, List.getElem?_eq_getElem il⟩
  obtain ⟨v, hv, ⟨x, dx, p, vs', rfl, npD, hx, hp, hS⟩, b1, b2, b4, h8, hsl⟩ := run hri
  rw [drop_at hri, spT_cons] at hks
  refine ⟨.int k, rfl, .ref D, rfl, .int (i : Nat), rfl, D, ws, (i : Nat), .ref x, rfl, rfl, SqL.of hD, atI_nat hv, x, C, dx, _, .int (r.times : Int), rfl, hx, TC.cl, TC.nTi, rf_times _ _ _, .ref D, rfl, .int (i : Nat), rfl, D, ws, (i : Nat), .ref x, rfl, rfl, SqL.of hD, atI_nat hv, x, C, dx, _, .int ((spareR r.steps : Nat) : Int), rfl, hx, TC.cl, TC.nSp, rf_spare _ _ _, (r.times : Int), ((spareR r.steps : Nat) : Int), rfl, rfl, wide_mul (a := 140) (b := 140) (by omega) (by omega) (by decide) (by decide) (by decide), k, (r.times : Int) * ((spareR r.steps : Nat) : Int), rfl, rfl, _, rfl, ?_⟩
  by_cases cx : k ≥ (r.times : Int) * ((spareR r.steps : Nat) : Int)
  · rw [decide_eq_true cx]
    refine iteT ⟨fun σ' H2 => ∃ m', m' < n ∧ ∃ (k : Int) (i : Nat) (y3 y4 y5 y6 : Option V), σ' = [some (.ref D), some (.int k), some (.int (i : Int)), y3, y4, y5, y6] ∧ H2 = H' ∧ i ≤ rs.length ∧ 0 ≤ k ∧ k0 = spT (rs.take i) + k ∧ k ≤ k0 ∧ k < spT (rs.drop i) ∧ m' = rs.length - i, fun σ' H2 ⟨m', h1, h2⟩ => ⟨m', h1, h2⟩, ?_⟩
    refine ⟨.int k, rfl, .ref D, rfl, .int (i : Nat), rfl, D, ws, (i : Nat), .ref x, rfl, rfl, SqL.of hD, atI_nat hv, x, C, dx, _, .int (r.times : Int), rfl, hx, TC.cl, TC.nTi, rf_times _ _ _, .ref D, rfl, .int (i : Nat), rfl, D, ws, (i : Nat), .ref x, rfl, rfl, SqL.of hD, atI_nat hv, x, C, dx, _, .int ((spareR r.steps : Nat) : Int), rfl, hx, TC.cl, TC.nSp, rf_spare _ _ _, (r.times : Int), ((spareR r.steps : Nat) : Int), rfl, rfl, wide_mul (a := 140) (b := 140) (by omega) (by omega) (by decide) (by decide) (by decide), k, (r.times : Int) * ((spareR r.steps : Nat) : Int), rfl, rfl, ?_⟩
    have hnn : 0 ≤ (r.times : Int) * ((spareR r.steps : Nat) : Int) := Int.mul_nonneg (by omega) (by omega)
    have htk := spT_take hri
    exact ⟨.int (i : Int), rfl, i, 1, rfl, rfl, rs.length - (i + 1), by omega, _, i + 1, _, _, _, _, rfl, rfl, by omega, by omega, by omega, by omega, by omega, rfl⟩
  · rw [decide_eq_false cx]
    have klt : k < (r.times : Int) * ((spareR r.steps : Nat) : Int) := by omega
    have spos : 0 < ((spareR r.steps : Nat) : Int) := by
      rcases (by omega : 0 < ((spareR r.steps : Nat) : Int) ∨ ((spareR r.steps : Nat) : Int) ≤ 0) with z | z
      · exact z
      · have : ((spareR r.steps : Nat) : Int) = 0 := by omega
        rw [this, Int.mul_zero] at klt
        omega
    refine iteF ⟨.int k, rfl, .ref D, rfl, .int (i : Nat), rfl, D, ws, (i : Nat), .ref x, rfl, rfl, SqL.of hD, atI_nat hv, x, C, dx, _, .int ((spareR r.steps : Nat) : Int), rfl, hx, TC.cl, TC.nSp, rf_spare _ _ _, k, ((spareR r.steps : Nat) : Int), rfl, div_ok hk (by have : (2 : Int) ^ 139 ≤ 2 ^ 1000 := (by decide +kernel); omega) spos, fun t nt => ?_⟩
    have g0 : 0 ≤ k / ((spareR r.steps : Nat) : Int) := Int.ediv_nonneg hk (by omega)
    have g1 : k / ((spareR r.steps : Nat) : Int) ≤ k := Int.ediv_le_self _ hk
    have m0 : 0 ≤ k % ((spareR r.steps : Nat) : Int) := Int.emod_nonneg _ (by omega)
    have m1 : k % ((spareR r.steps : Nat) : Int) < ((spareR r.steps : Nat) : Int) := Int.emod_lt_of_pos _ spos
    have st := same_upd (o := .tup [.int (k / ((spareR r.steps : Nat) : Int)), .int (k % ((spareR r.steps : Nat) : Int))]) nt
    have et : (upd H' t (.tup [.int (k / ((spareR r.steps : Nat) : Int)), .int (k % ((spareR r.steps : Nat) : Int))])) t = some (.tup [.int (k / ((spareR r.steps : Nat) : Int)), .int (k % ((spareR r.steps : Nat) : Int))]) := upd_same
    generalize upd H' t (.tup [.int (k / ((spareR r.steps : Nat) : Int)), .int (k % ((spareR r.steps : Nat) : Int))]) = H1 at st et
    refine ⟨t, _, rfl, SqT.of et, rfl, .int (k / ((spareR r.steps : Nat) : Int)), _, rfl, .int (k % ((spareR r.steps : Nat) : Int)), _, rfl, rfl, ?_⟩
    obtain ⟨nu, hnu⟩ : ∃ nu : Nat, k % ((spareR r.steps : Nat) : Int) = (nu : Int) := ⟨(k % ((spareR r.steps : Nat) : Int)).toNat, by omega⟩
    rw [hnu]
    have g2 : k / ((spareR r.steps : Nat) : Int) < (r.times : Int) := Int.ediv_lt_of_lt_mul spos klt
    have gk : k = k / ((spareR r.steps : Nat) : Int) * ((spareR r.steps : Nat) : Int) + nu := by
      have := Int.emod_add_mul_ediv k ((spareR r.steps : Nat) : Int)
      rw [Int.mul_comm (k / _)]
      omega
    generalize k / ((spareR r.steps : Nat) : Int) = gn at g0 g1 g2 gk
    obtain ⟨gN, rfl⟩ : ∃ gN : Nat, gn = (gN : Int) := ⟨gn.toNat, by omega⟩
    have hD1 := st _ _ hD
    have hx1 := st _ _ hx
    have hp1 := st _ _ hp
    have hS1 := hS.kt (KT.of st)
    have lv := hS1.len
    show tSeq _ _ _ [some (.ref D), some (.int (nu : Int)), some (.int (i : Int)), some (.int (gN : Int)), y4, y5, y6] H1
    refine ⟨.ref D, rfl, .int (i : Nat), rfl, D, ws, (i : Nat), .ref x, rfl, rfl, SqL.of hD1, atI_nat hv, x, C, dx, _, .ref p, rfl, hx1, TC.cl, TC.nSt, rf_steps _ _ _, p, rfl, ⟨vs', SqL.of hp1⟩, fun D2 nD2 => ?_⟩
    refine lc_list (xs := vs') (fun i H5 => H5 = upd H1 D2 (.lst ((((r.steps.take i).filter fun s => decide (s.2 = 0)).map (·.1)).map V.int))) rfl (fun i H5 _ e => by rw [e]; exact SqL.of (same_upd nD2 _ _ hp1)) (fun i v H5 hv e => ?_) (fun H5 e => ?_)
    · subst e
      have li : i < r.steps.length := by rw [← lv]; exact (List.getElem?_eq_some_iff.mp hv).1
      obtain ⟨⟨a, w'⟩, hs⟩ : ∃ s, r.steps[i]? = some s := ⟨_, List.getElem?_eq_getElem li⟩
      obtain ⟨b, hb1, hb2⟩ := hS1.at_ i _ hs
      rw [hb1] at hv
      cases hv
      have hl : ((((r.steps.take i).filter fun s => decide (s.2 = 0)).map (·.1)).map V.int).length < sizeLine := by
        rw [List.length_map, List.length_map]
        have h1 := List.length_filter_le (fun s : StepT => decide (s.2 = 0)) (r.steps.take i)
        rw [List.length_take] at h1
        omega
      refine ⟨b, [.int a, .int w'], rfl, SqT.of (same_upd nD2 _ _ hb2), rfl, .int a, [.int w'], rfl, .int w', [], rfl, rfl, rfl, .int w', rfl, rfl, _, rfl, ?_⟩
      rw [List.take_add_one, hs, List.filter_append]
      by_cases c : w' = 0
      · rw [decide_eq_true (by rw [c])]
        refine iteT ⟨.int a, rfl, _, upd_same, hl, ?_⟩
        rw [upd_upd]
        show _ = upd H1 D2 (.lst ((((_ : List StepT) ++ List.filter (fun s : StepT => decide (s.2 = 0)) [(a, w')]).map (fun s : StepT => s.1)).map V.int))
        rw [List.filter_cons, if_pos (by simpa using c), List.map_append, List.map_append]
        rfl
      · rw [decide_eq_false (fun z => c (V.int.inj z))]
        refine iteF ?_
        show _ = upd H1 D2 (.lst ((((_ : List StepT) ++ List.filter (fun s : StepT => decide (s.2 = 0)) [(a, w')]).map (fun s : StepT => s.1)).map V.int))
        rw [List.filter_cons, if_neg (by simpa using c)]
        show _ = upd H1 D2 (.lst ((((_ : List StepT) ++ []).map (fun s : StepT => s.1)).map V.int))
        rw [List.append_nil]
    · have e' : H5 = upd H1 D2 (.lst (((r.steps.filter fun s => decide (s.2 = 0)).map (·.1)).map V.int)) := by rw [e, lv, List.take_length]
      clear e
      subst e'
      have s2 := same_upd (o := .lst (((r.steps.filter fun s => decide (s.2 = 0)).map (·.1)).map V.int)) nD2
      have eD : (upd H1 D2 (.lst (((r.steps.filter fun s => decide (s.2 = 0)).map (·.1)).map V.int))) D2 = some (.lst (((r.steps.filter fun s => decide (s.2 = 0)).map (·.1)).map V.int)) := upd_same
      obtain ⟨S1, sz9, S2, eS, ez, eN, hpz⟩ := filt_split (S := r.steps) (k := nu) (by omega)
      obtain ⟨q1, q2, q3⟩ := lvl_at hlv hri (show gN < r.times by omega) eS
      rw [ez] at q2
      generalize upd H1 D2 (.lst (((r.steps.filter fun s => decide (s.2 = 0)).map (·.1)).map V.int)) = H2 at s2 eD
      have hD2 := s2 _ _ hD1
      have hx2 := s2 _ _ hx1
      refine ⟨.ref D2, rfl, .int (nu : Int), rfl, D2, _, (nu : Int), .int sz9.1, rfl, rfl, SqL.of eD, atI_nat hpz, .int (gN : Int), rfl, .ref D, rfl, .int (i : Nat), rfl, D, ws, (i : Nat), .ref x, rfl, rfl, SqL.of hD2, atI_nat hv, x, C, dx, _, .int (lenR r.steps), rfl, hx2, TC.cl, TC.nLe, rf_length _ _ _, (gN : Int), lenR r.steps, rfl, rfl, wide_mul (a := 140) (b := 140) (by omega) (by omega) (by decide) (by decide) (by decide), sz9.1, (gN : Int) * lenR r.steps, rfl, rfl, q _ H2 (st.trans s2) (by rw [eN, ← gk, ← hk00] at q1; exact q1) q2.2 q2.1⟩
theorem ok_winAt {f C fI : Addr} {fd : FuncData} (F : Fun K "window_at" "window_at" sWinAt f fd) (hdm : mg "divmod" = none) (TC : RunC K mg C fI) : FnOk P w K mg base CX0 1 f fd ["runs", "place"] (spWinAt C) := by
  refine F.ok scWinAt (fun vs H Q E ⟨D, ws, ps, b, st0, stop, c, k, rs, e, _⟩ => by rw [e]; rfl) (fun cdv A0 outer s H vs Q E hr h => ?_)
  obtain ⟨D, ws, ps, b, start, stop, c, k0, rs, rfl, hD, hra, hlv, hps, h0, hst, hk9, hk0, hk1, q⟩ := h
  have nd := scWinAt.nd
  have sz := sz5000
  refine ⟨_, (pss_cons (ps_set (i := 2) nd rfl (.inl rfl) pe_int)
    (pss_cons (ps_while PassesOwn.never (pt_cmpR op_ge (pv 1) (pe_op op_mulW (pe_fld (pe_ix ix_list (pv 0) (pv 2) (fun _ _ => rfl)) rfl) (pe_op op_sub (pe_fld (pe_ix ix_list (pv 0) (pv 2) (fun _ _ => rfl)) rfl) (pe_fld (pe_ix ix_list (pv 0) (pv 2) (fun _ _ => rfl)) rfl))) (nomark _)) (pss_cons (ps_aug (i := 1) nd rfl (.inl rfl) (pe_op op_mulW (pe_fld (pe_ix ix_list (pv 0) (pv 2) (fun _ _ => rfl)) rfl) (pe_op op_sub (pe_fld (pe_ix ix_list (pv 0) (pv 2) (fun _ _ => rfl)) rfl) (pe_fld (pe_ix ix_list (pv 0) (pv 2) (fun _ _ => rfl)) rfl))) iop_sub)
    (pss_one (ps_aug (i := 2) nd rfl (.inl rfl) pe_int iop_add))))
    (pss_cons (ps_asg (pe_callB call_divmodW (by rfl) hdm (by decide +kernel) (pa_cons (pv 1) (pa_cons (pe_op op_sub (pe_fld (pe_ix ix_list (pv 0) (pv 2) (fun _ _ => rfl)) rfl) (pe_fld (pe_ix ix_list (pv 0) (pv 2) (fun _ _ => rfl)) rfl)) pa_nil))) (pg_tup rfl (pgs_cons (pg_name (i := 3) nd rfl (.inl rfl)) (pgs_cons (pg_name (i := 1) nd rfl (.inl rfl)) pgs_nil))))
    (pss_cons (ps_set (i := 4) nd rfl (.inl rfl) pe_int)
    (pss_cons (ps_while PassesOwn.never (pt_cmpR op_ge (pv 1) (pe_ix ix_tup (pe_ix ix_list (pe_fld (pe_ix ix_list (pv 0) (pv 2) (fun _ _ => rfl)) rfl) (pv 4) (fun _ _ => rfl)) pe_int (fun _ _ => rfl)) (nomark _)) (pss_cons (ps_aug (i := 1) nd rfl (.inl rfl) (pe_ix ix_tup (pe_ix ix_list (pe_fld (pe_ix ix_list (pv 0) (pv 2) (fun _ _ => rfl)) rfl) (pv 4) (fun _ _ => rfl)) pe_int (fun _ _ => rfl)) iop_sub)
    (pss_one (ps_aug (i := 4) nd rfl (.inl rfl) pe_int iop_add))))
    (pss_cons (ps_set (i := 5) nd rfl (.inl rfl) (pe_op op_add (pe_ix ix_tup (pe_ix ix_list (pe_fld (pe_ix ix_list (pv 0) (pv 2) (fun _ _ => rfl)) rfl) (pv 4) (fun _ _ => rfl)) pe_int (fun _ _ => rfl)) (pe_op op_mulW (pv 3) (pe_fld (pe_ix ix_list (pv 0) (pv 2) (fun _ _ => rfl)) rfl))))
    (pss_one (ps_ret (pe_tup (pa_cons (pv 5) (pa_cons (pe_op op_sub (pe_op op_add (pv 5) (pe_ix ix_tup (pe_ix ix_list (pe_fld (pe_ix ix_list (pv 0) (pv 2) (fun _ _ => rfl)) rfl) (pv 4) (fun _ _ => rfl)) pe_int (fun _ _ => rfl))) pe_int) (pa_cons (pv 1) pa_nil)))))))))))), ?_⟩
  have run : ∀ {i : Nat} {r : RunT}, rs[i]? = some r → ∃ v a', ws[i]? = some v ∧ RunAt C D H v r ∧ 1 ≤ lenR r.steps ∧ lenR r.steps < 2 ^ 140 ∧ (r.times : Int) < 2 ^ 140 ∧ r.steps.length ≤ 8 ∧ spareR r.steps ≤ r.steps.length ∧ start ≤ a' ∧ RunOk ps b stop a' r := fun {i r} hi => by
    obtain ⟨v, hv, hr⟩ := hra.at_ i r hi
    obtain ⟨a', ha', hok⟩ := (lvl_le hlv).2 r (List.mem_of_getElem? hi)
    obtain ⟨b1, b2, b3, b4⟩ := runOk_le hps hok (by omega) hst
    exact ⟨v, a', hv, hr, b1, b2, b4, hok.len, List.length_filter_le _ _, ha', hok⟩
  refine ⟨fun n σ H' => ∃ (k : Int) (i : Nat) (y3 y4 y5 : Option V), σ = [some (.ref D), some (.int k), some (.int (i : Int)), y3, y4, y5] ∧ H' = H ∧ i ≤ rs.length ∧ 0 ≤ k ∧ k0 = wnT (rs.take i) + k ∧ k ≤ k0 ∧ k < wnT (rs.drop i) ∧ n = rs.length - i,
    ⟨_, k0, 0, none, none, none, rfl, rfl, Nat.zero_le _, hk0, (Int.zero_add k0).symm, Int.le_refl _, hk1, rfl⟩, fun n σ H' ⟨k, i, y3, y4, y5, eσ, eH, hi, hk, hk00, hkk, hks, hn⟩ => ?_⟩
  subst eσ eH
  have il : i < rs.length := by
    rcases Nat.lt_or_ge i rs.length with z | z
    · exact z
    · rw [List.drop_eq_nil_of_le z] at hks
      have : wnT [] = 0 := rfl
      omega
  obtain ⟨r, hri⟩ : ∃ r, rs[i]? = some r := ⟨_, List.getElem?_eq_getElem il⟩
  obtain ⟨v, a', hv, ⟨x, dx, p, vs', rfl, npD, hx, hp, hS⟩, b1, b2, b4, h8, hsl, ha', hok⟩ := run hri
  have hwid := run_wid2 hps hok
  have hle := lenR_pos r.steps
  rw [drop_at hri, wnT_cons] at hks
  refine ⟨.int k, rfl, .ref D, rfl, .int (i : Nat), rfl, D, ws, (i : Nat), .ref x, rfl, rfl, SqL.of hD, atI_nat hv, x, C, dx, _, .int (r.times : Int), rfl, hx, TC.cl, TC.nTi, rf_times _ _ _, .ref D, rfl, .int (i : Nat), rfl, D, ws, (i : Nat), .ref x, rfl, rfl, SqL.of hD, atI_nat hv, x, C, dx, _, .int (lenR r.steps), rfl, hx, TC.cl, TC.nLe, rf_length _ _ _, .ref D, rfl, .int (i : Nat), rfl, D, ws, (i : Nat), .ref x, rfl, rfl, SqL.of hD, atI_nat hv, x, C, dx, _, .int ((spareR r.steps : Nat) : Int), rfl, hx, TC.cl, TC.nSp, rf_spare _ _ _, lenR r.steps, ((spareR r.steps : Nat) : Int), rfl, rfl, (r.times : Int), lenR r.steps - ((spareR r.steps : Nat) : Int), rfl, rfl, wide_mul (a := 140) (b := 140) (by omega) (by omega) (by decide) (by decide) (by decide), k, (r.times : Int) * (lenR r.steps - ((spareR r.steps : Nat) : Int)), rfl, rfl, _, rfl, ?_⟩
  by_cases cx : k ≥ (r.times : Int) * (lenR r.steps - ((spareR r.steps : Nat) : Int))
  · rw [decide_eq_true cx]
    refine iteT ⟨fun σ' H2 => ∃ m', m' < n ∧ ∃ (k : Int) (i : Nat) (y3 y4 y5 : Option V), σ' = [some (.ref D), some (.int k), some (.int (i : Int)), y3, y4, y5] ∧ H2 = H' ∧ i ≤ rs.length ∧ 0 ≤ k ∧ k0 = wnT (rs.take i) + k ∧ k ≤ k0 ∧ k < wnT (rs.drop i) ∧ m' = rs.length - i, fun σ' H2 ⟨m', h1, h2⟩ => ⟨m', h1, h2⟩, ?_⟩
    refine ⟨.int k, rfl, .ref D, rfl, .int (i : Nat), rfl, D, ws, (i : Nat), .ref x, rfl, rfl, SqL.of hD, atI_nat hv, x, C, dx, _, .int (r.times : Int), rfl, hx, TC.cl, TC.nTi, rf_times _ _ _, .ref D, rfl, .int (i : Nat), rfl, D, ws, (i : Nat), .ref x, rfl, rfl, SqL.of hD, atI_nat hv, x, C, dx, _, .int (lenR r.steps), rfl, hx, TC.cl, TC.nLe, rf_length _ _ _, .ref D, rfl, .int (i : Nat), rfl, D, ws, (i : Nat), .ref x, rfl, rfl, SqL.of hD, atI_nat hv, x, C, dx, _, .int ((spareR r.steps : Nat) : Int), rfl, hx, TC.cl, TC.nSp, rf_spare _ _ _, lenR r.steps, ((spareR r.steps : Nat) : Int), rfl, rfl, (r.times : Int), lenR r.steps - ((spareR r.steps : Nat) : Int), rfl, rfl, wide_mul (a := 140) (b := 140) (by omega) (by omega) (by decide) (by decide) (by decide), k, (r.times : Int) * (lenR r.steps - ((spareR r.steps : Nat) : Int)), rfl, rfl, ?_⟩
    have hnn : 0 ≤ (r.times : Int) * (lenR r.steps - ((spareR r.steps : Nat) : Int)) := Int.mul_nonneg (by omega) (by omega)
    have htk := wnT_take hri
    exact ⟨.int (i : Int), rfl, i, 1, rfl, rfl, rs.length - (i + 1), by omega, _, i + 1, _, _, _, rfl, rfl, by omega, by omega, by omega, by omega, by omega, rfl⟩
  · rw [decide_eq_false cx]
    have klt : k < (r.times : Int) * (lenR r.steps - ((spareR r.steps : Nat) : Int)) := by omega
    generalize hwdt : lenR r.steps - ((spareR r.steps : Nat) : Int) = wdt at klt
    have spos : 0 < wdt := by
      rcases (by omega : 0 < wdt ∨ wdt ≤ 0) with z | z
      · exact z
      · have : wdt = 0 := by omega
        rw [this, Int.mul_zero] at klt
        omega
    refine iteF ⟨.int k, rfl, .ref D, rfl, .int (i : Nat), rfl, D, ws, (i : Nat), .ref x, rfl, rfl, SqL.of hD, atI_nat hv, x, C, dx, _, .int (lenR r.steps), rfl, hx, TC.cl, TC.nLe, rf_length _ _ _, .ref D, rfl, .int (i : Nat), rfl, D, ws, (i : Nat), .ref x, rfl, rfl, SqL.of hD, atI_nat hv, x, C, dx, _, .int ((spareR r.steps : Nat) : Int), rfl, hx, TC.cl, TC.nSp, rf_spare _ _ _, lenR r.steps, ((spareR r.steps : Nat) : Int), rfl, rfl, k, wdt, by rw [← hwdt], div_ok hk (by have : (2 : Int) ^ 139 ≤ 2 ^ 1000 := (by decide +kernel); omega) spos, fun t nt => ?_⟩
    have g0 : 0 ≤ k / wdt := Int.ediv_nonneg hk (by omega)
    have g1 : k / wdt ≤ k := Int.ediv_le_self _ hk
    have g2 : k / wdt < (r.times : Int) := Int.ediv_lt_of_lt_mul spos klt
    have m0 : 0 ≤ k % wdt := Int.emod_nonneg _ (by omega)
    have m1 : k % wdt < wdt := Int.emod_lt_of_pos _ spos
    have st := same_upd (o := .tup [.int (k / wdt), .int (k % wdt)]) nt
    have et : (upd H' t (.tup [.int (k / wdt), .int (k % wdt)])) t = some (.tup [.int (k / wdt), .int (k % wdt)]) := upd_same
    generalize upd H' t (.tup [.int (k / wdt), .int (k % wdt)]) = H1 at st et
    refine ⟨t, _, rfl, SqT.of et, rfl, .int (k / wdt), _, rfl, .int (k % wdt), _, rfl, rfl, ?_⟩
    obtain ⟨gn, hgn⟩ : ∃ gn : Nat, k / wdt = (gn : Int) := ⟨(k / wdt).toNat, by omega⟩
    have gk : k = k / wdt * wdt + k % wdt := by
      have := Int.emod_add_mul_ediv k wdt
      rw [Int.mul_comm (k / _)]
      omega
    rw [hgn] at g0 g1 g2 gk ⊢
    generalize k % wdt = pl0 at m0 m1 gk
    have hD1 := st _ _ hD
    have hx1 := st _ _ hx
    have hp1 := st _ _ hp
    have hS1 := hS.kt (KT.of st)
    have lv := hS1.len
    have hsum : (r.steps.map (·.2)).sum = wdt := by rw [widths_sum fun s hs => (hwid s hs).1, hwdt]
    show tSeq _ _ _ [some (.ref D), some (.int pl0), some (.int (i : Int)), some (.int (gn : Int)), y4, y5] H1
    refine ⟨fun n σ H2 => ∃ (pl : Int) (j : Nat) (y5 : Option V), σ = [some (.ref D), some (.int pl), some (.int (i : Int)), some (.int (gn : Int)), some (.int (j : Int)), y5] ∧ H2 = H1 ∧ j ≤ r.steps.length ∧ 0 ≤ pl ∧ pl0 = ((r.steps.take j).map (·.2)).sum + pl ∧ pl < ((r.steps.drop j).map (·.2)).sum ∧ n = r.steps.length - j,
      ⟨_, pl0, 0, y5, rfl, rfl, Nat.zero_le _, m0, (Int.zero_add pl0).symm, by rw [List.drop_zero, hsum]; exact m1, rfl⟩, fun n σ H2 ⟨pl, j, y5, eσ, eH, hj, hpl, hpl00, hps2, hn⟩ => ?_⟩
    subst eσ eH
    have jl : j < r.steps.length := by
      rcases Nat.lt_or_ge j r.steps.length with z | z
      · exact z
      · rw [List.drop_eq_nil_of_le z] at hps2
        have : (([] : List StepT).map (·.2)).sum = 0 := rfl
        omega
    obtain ⟨⟨a, w'⟩, hs⟩ : ∃ s, r.steps[j]? = some s := ⟨_, List.getElem?_eq_getElem jl⟩
    obtain ⟨bb, hbb, htb1⟩ := hS1.at_ j _ hs
    rw [drop_at hs, List.map_cons, List.sum_cons] at hps2
    have hw0 := hwid _ (List.mem_of_getElem? hs)
    refine ⟨.int pl, rfl, .ref D, rfl, .int (i : Nat), rfl, D, ws, (i : Nat), .ref x, rfl, rfl, SqL.of hD1, atI_nat hv, x, C, dx, _, .ref p, rfl, hx1, TC.cl, TC.nSt, rf_steps _ _ _, .int (j : Nat), rfl, p, vs', (j : Nat), .ref bb, rfl, rfl, SqL.of hp1, atI_nat hbb, bb, _, _, _, rfl, rfl, SqT.of htb1, atI_nat (j := 1) rfl, pl, w', rfl, rfl, _, rfl, ?_⟩
    by_cases cy : pl ≥ w'
    · rw [decide_eq_true cy]
      refine iteT ⟨fun σ' H3 => ∃ m', m' < n ∧ ∃ (pl : Int) (j : Nat) (y5 : Option V), σ' = [some (.ref D), some (.int pl), some (.int (i : Int)), some (.int (gn : Int)), some (.int (j : Int)), y5] ∧ H3 = H2 ∧ j ≤ r.steps.length ∧ 0 ≤ pl ∧ pl0 = ((r.steps.take j).map (·.2)).sum + pl ∧ pl < ((r.steps.drop j).map (·.2)).sum ∧ m' = r.steps.length - j, fun σ' H3 ⟨m', h1, h2⟩ => ⟨m', h1, h2⟩, ?_⟩
      refine ⟨.int pl, rfl, .ref D, rfl, .int (i : Nat), rfl, D, ws, (i : Nat), .ref x, rfl, rfl, SqL.of hD1, atI_nat hv, x, C, dx, _, .ref p, rfl, hx1, TC.cl, TC.nSt, rf_steps _ _ _, .int (j : Nat), rfl, p, vs', (j : Nat), .ref bb, rfl, rfl, SqL.of hp1, atI_nat hbb, bb, _, _, _, rfl, rfl, SqT.of htb1, atI_nat (j := 1) rfl, pl, w', rfl, rfl, ?_⟩
      have hw1 : 0 ≤ w' := hw0.1
      have hps3 : pl < w' + ((r.steps.drop (j + 1)).map (·.2)).sum := hps2
      have htj : ((r.steps.take (j + 1)).map (·.2)).sum = ((r.steps.take j).map (·.2)).sum + w' := by
        rw [List.take_add_one, hs, List.map_append, List.sum_append]
        simp
      exact ⟨.int (j : Int), rfl, j, 1, rfl, rfl, r.steps.length - (j + 1), by omega, _, j + 1, _, rfl, rfl, by omega, by omega, by omega, by omega, rfl⟩
    · rw [decide_eq_false cy]
      refine iteF ⟨.ref D, rfl, .int (i : Nat), rfl, D, ws, (i : Nat), .ref x, rfl, rfl, SqL.of hD1, atI_nat hv, x, C, dx, _, .ref p, rfl, hx1, TC.cl, TC.nSt, rf_steps _ _ _, .int (j : Nat), rfl, p, vs', (j : Nat), .ref bb, rfl, rfl, SqL.of hp1, atI_nat hbb, bb, _, _, _, rfl, rfl, SqT.of htb1, atI_nat (j := 0) rfl, .int (gn : Int), rfl, .ref D, rfl, .int (i : Nat), rfl, D, ws, (i : Nat), .ref x, rfl, rfl, SqL.of hD1, atI_nat hv, x, C, dx, _, .int (lenR r.steps), rfl, hx1, TC.cl, TC.nLe, rf_length _ _ _, (gn : Int), lenR r.steps, rfl, rfl, wide_mul (a := 140) (b := 140) (by omega) (by omega) (by decide) (by decide) (by decide), a, (gn : Int) * lenR r.steps, rfl, rfl, ?_⟩
      refine ⟨.int (a + (gn : Int) * lenR r.steps), rfl, .int (a + (gn : Int) * lenR r.steps), rfl, .ref D, rfl, .int (i : Nat), rfl, D, ws, (i : Nat), .ref x, rfl, rfl, SqL.of hD1, atI_nat hv, x, C, dx, _, .ref p, rfl, hx1, TC.cl, TC.nSt, rf_steps _ _ _, .int (j : Nat), rfl, p, vs', (j : Nat), .ref bb, rfl, rfl, SqL.of hp1, atI_nat hbb, bb, _, _, _, rfl, rfl, SqT.of htb1, atI_nat (j := 1) rfl, a + (gn : Int) * lenR r.steps, w', rfl, rfl, a + (gn : Int) * lenR r.steps + w', 1, rfl, rfl, .int pl, rfl, small_le (by show 3 ≤ 1000; decide), fun p2 np2 => ?_⟩
      obtain ⟨hop, hws⟩ := run_step hok (List.mem_of_getElem? hs) (k := gn) (by omega)
      have hmn : 0 ≤ (gn : Int) * lenR r.steps := Int.mul_nonneg (by omega) (by omega)
      have hop' : a' + (gn : Int) * lenR r.steps ≤ a + (gn : Int) * lenR r.steps := hop
      obtain ⟨q1, q2, q3⟩ := lvl_at hlv hri (show gn < r.times by omega) (take_split hs)
      have q3' : a + (gn : Int) * lenR r.steps - start = wnT (rs.take i) + spT (rs.take i) + (gn : Int) * lenR r.steps + lenR (r.steps.take j) := q3
      have q1' : Cnt ps b start (a + (gn : Int) * lenR r.steps) (spT (rs.take i) + ((gn : Int) * (spareR r.steps : Nat) + (spareR (r.steps.take j) : Nat))) := q1
      have hws3 := widths_sum (S := r.steps.take j) fun s hs => (hwid s (List.mem_of_mem_take hs)).1
      have hgw : (gn : Int) * wdt = (gn : Int) * lenR r.steps - (gn : Int) * ((spareR r.steps : Nat) : Int) := by rw [← hwdt, Int.mul_sub]
      exact q (a + (gn : Int) * lenR r.steps) w' pl _ p2 _ (st.trans (same_upd np2)) upd_same (by omega) hws (by omega) hpl (by omega) q1' (by omega)
end
end CL
set_option Elab.async false
set_option linter.all false
set_option pp.maxSteps 400
set_option maxRecDepth 100000
set_option maxHeartbeats 4000000
namespace CL
open PySem PySem.Spec PyProof.Rows L2 GE
abbrev sPersonAt : Stmt := topS 31
theorem scPersonAt : FnScope ["plan", "moment", "place", "pieces", "start", "bound", "runs", "behind", "opener", "last"] ["plan", "moment", "place"] (defScope sPersonAt) := ⟨rfl, rfl, rfl, by decide +kernel, rfl, by decide +kernel, by decide +kernel⟩
theorem meas13 {m st op pl bd : Int} {k : Nat} (hk : k = (m - st).toNat) (h1 : st ≤ op) (h2 : st + pl ≤ bd) (h3 : 0 ≤ pl) (h4 : bd ≤ m - 1) : (m - (op + 1)).toNat < k := by omega
theorem person_spare {ps : List PieceT} (hp : PsOk ps) {bd st pl x m n : Int} (hc : Cnt ps (some bd) st x (bd - st - pl)) (hw : WP ps (some bd) x 0) (hx : x ≤ bd) (hA : ∀ x, x ≤ bd → At ps bd st x pl → At ps (m - 1) 0 x n) : At ps (m - 1) 0 x n := by
  refine hA x hx ?_
  have h := at_of hp hc rfl (.spare hw)
  rw [show x - st - (bd - st - pl) + (bd - x) = pl by omega] at h
  exact h
theorem person_next {ps : List PieceT} (hp : PsOk ps) {bd st pl op wd pl' nw m n p1 : Int} (hc : Cnt ps (some bd) st op nw) (hw : WP ps (some bd) op wd) (h0 : 0 < wd) (hp0 : 0 ≤ pl') (hp1 : pl' < wd) (hk : pl = op - st - nw + pl') (hf : op + p1 ≤ bd) (hw1 : wd = p1 + 1) (hb : bd ≤ m - 1) (hs : 0 ≤ st) (ho : st ≤ op) (hA : ∀ x, x ≤ bd → At ps bd st x pl → At ps (m - 1) 0 x n) :
    ((op + 1 + pl' ≤ op + wd - 1 ∧ ∀ x, x ≤ op + wd - 1 → At ps (op + wd - 1) (op + 1) x pl' → At ps (m - 1) 0 x n) ∨ (op + wd - 1 < op + 1 + pl' ∧ At ps (m - 1) 0 (op + 1 - 1) n ∧ 0 ≤ op + 1 - 1 ∧ op + 1 - 1 < m)) := by
  by_cases c : op + 1 + pl' ≤ op + wd - 1
  · refine .inl ⟨c, fun x hx h => hA x (by omega) ?_⟩
    have h2 := at_ge h
    have h1 := at_of hp hc rfl (.inn hw (by omega) (by omega) h)
    rw [← hk] at h1
    exact h1
  · refine .inr ⟨by omega, ?_, by omega, by omega⟩
    rw [show op + 1 - 1 = op by omega]
    have h1 := at_of hp hc rfl (.own hw h0)
    rw [show op - st - nw + (wd - 1) = pl by omega] at h1
    exact hA op (by omega) h1
section
variable {P : Program} {w : World} {K : PySem.W.Frag} {mg : Str → Option Value} {base : Heap}
theorem ok_personAt {f P1 P2 C C3 CX CR : Addr} {fd : FuncData} (F : Fun K "person_at" "person_at" sPersonAt f fd) (XX : ExcC K mg "NoPlace" CX) (CW : Cal P w K mg base 1 "is_whole" ["thing"] (spOne isWhole)) (CP : CalX P w K mg base 9 "pieces_of" ["plan"] (spPieces P1 P2 C)) (CM : CalX P w K mg base 2 "check_moment" ["pieces", "moment"] (spCkM C3))
    (CRn : Cal P w K mg base 3 "runs_on" ["pieces", "start", "bound", "stop"] (spRuns CR)) (CS : Cal P w K mg base 1 "spare_on" ["runs"] (spSpareOn CR)) (CSA : Cal P w K mg base 1 "spare_at" ["runs", "number"] (spSpareAt CR)) (CWA : Cal P w K mg base 1 "window_at" ["runs", "place"] (spWinAt CR)) :
    FnOk P w K mg base (L2.CX P w) 10 f fd ["plan", "moment", "place"] (spPersonAt P1 P2 C C3 CX) := by
  refine F.okX scPersonAt (fun vs H Q E ⟨v, u, y, d, c, c', e, _⟩ => by rw [e]; rfl) (fun cdv A outer s H vs Q E hr h => ?_)
  obtain ⟨v, u, y, d, c, c', rfl, hR, hU, hY, hT, qE0, q⟩ := h
  have nd := scPersonAt.nd
  have hG : GREAT = 1000000000000000000000000000000 := rfl
  refine ⟨_, (pss_cons (ps_set (i := 3) nd rfl (.inl rfl) (pe_calX (CP.mono (by decide)) hr (by rfl) (passes_call (takes_of rfl rfl rfl rfl) fun _ _ _ _ h => h) (pa_cons (pv 0) pa_nil)))
    (pss_cons (ps_expr (pe_calX (CM.mono (by decide)) hr (by rfl) (passes_call (takes_of rfl rfl rfl rfl) fun _ _ _ _ h => h) (pa_cons (pv 3) (pa_cons (pv 1) pa_nil))))
    (pss_cons (ps_if (PW.pt (pw_or (pt_not (pt_val (pe_cal (CW.mono (by decide)) hr (by rfl) (pa_cons (pv 2) pa_nil)))) (pw_or1 (pt_not (pt_chain op_le op_lt pe_int (pv 2) (pv 1)))))) (pss_one (ps_raise rfl (takes_of rfl rfl rfl rfl) (pmk_own PySem.F.excBase_ValueError XX.x XX.g XX.k (raises_own XX.b XX.t) rfl))) pss_nil) (PSs.nox (pss_cons (ps_set (i := 4) nd rfl (.inl rfl) pe_int)
    (pss_cons (ps_set (i := 5) nd rfl (.inl rfl) (pe_op op_sub (pv 1) pe_int))
    (pss_cons (ps_while PassesOwn.never (pt_cmpR op_le (pe_op op_add (pv 4) (pv 2)) (pv 5) (nomark _)) (pss_cons (ps_set (i := 6) nd rfl (.inl rfl) (pe_cal (CRn.mono (by decide)) hr (by rfl) (pa_cons (pv 3) (pa_cons (pv 4) (pa_cons (pv 5) (pa_cons (pv 5) pa_nil))))))
    (pss_cons (ps_set (i := 7) nd rfl (.inl rfl) (pe_op op_sub (pe_op op_sub (pv 5) (pv 4)) (pv 2)))
    (pss_cons (ps_if (pt_cmpR op_lt (pv 7) (pe_cal (CS.mono (by decide)) hr (by rfl) (pa_cons (pv 6) pa_nil)) (nomark _)) (pss_one (ps_ret (pe_cal (CSA.mono (by decide)) hr (by rfl) (pa_cons (pv 6) (pa_cons (pv 7) pa_nil))))) pss_nil)
    (pss_cons (ps_asg (pe_cal (CWA.mono (by decide)) hr (by rfl) (pa_cons (pv 6) (pa_cons (pv 2) pa_nil))) (pg_tup rfl (pgs_cons (pg_name (i := 8) nd rfl (.inl rfl)) (pgs_cons (pg_name (i := 9) nd rfl (.inl rfl)) (pgs_cons (pg_name (i := 2) nd rfl (.inl rfl)) pgs_nil)))))
    (pss_cons (ps_set (i := 4) nd rfl (.inl rfl) (pe_op op_add (pv 8) pe_int))
    (pss_one (ps_set (i := 5) nd rfl (.inl rfl) (pv 9)))))))))
    (pss_one (ps_ret (pe_op op_sub (pv 4) pe_int)))))))))), ?_⟩
  refine ⟨v, rfl, v, d, rfl, hR, hT, qE0, fun z0 p H1 e1 t1 _ rp => ?_⟩
  obtain ⟨ps, pc, hps, qE, q⟩ := q z0
  have hU1 := Rp.ex e1 c u hU
  have hY1 := Rp.ex e1 c' y hY
  have hpl := plOk z0 hps
  rw [hps] at rp
  obtain ⟨a, ea, h⟩ := PcsAt.of rp
  obtain rfl : p = a := V.ref.inj ea
  refine ⟨.ref p, rfl, u, rfl, p, u, ps, pc, c, rfl, h, hU1, fun z H2 s2 => qE z H2 (e1.trans (Ex.of s2)) (t1.same s2), fun z H2 s2 => ?_⟩
  have q := q z
  obtain ⟨m, rfl, m0, m1, mu⟩ := moment_int z
  cases hU1
  obtain ⟨qE3, q⟩ := q m rfl
  have e2 := e1.trans (Ex.of s2)
  have t2 := t1.same s2
  have hund : ∀ x : Int, x ≤ m - 1 → under pc.2.1 x = true := fun x hx => by
    cases e : pc.2.1 with
    | none => rfl
    | some k =>
      rw [e] at mu
      have : m ≤ k := of_decide_eq_true mu
      exact decide_eq_true (by omega)
  refine ⟨y, rfl, y, c', rfl, Rp.sm s2 hY1, fun H3 s3 => ⟨isWhole c', rfl, ?_⟩⟩
  have e3 := e2.trans (Ex.of s3)
  have t3 := t2.same s3
  have bad : stOk m c' = false → E (.ref CX) none H3 := fun z => qE3 z H3 e3 t3
  cases hY1 with
  | int n =>
    refine iteF ⟨.int n, rfl, 0, n, rfl, rfl, decide ((0 : Int) ≤ n), rfl, ?_⟩
    by_cases n0 : (0 : Int) ≤ n
    · rw [decide_eq_true n0]
      refine iteT ⟨.int m, rfl, n, m, rfl, rfl, decide (n < m), rfl, ?_⟩
      by_cases n1 : n < m
      · rw [decide_eq_true n1]
        refine iteF ?_
        have hst : stOk m (.int n) = true := by show (decide (0 ≤ n) && decide (n < m)) = true; rw [decide_eq_true n0, decide_eq_true n1]; rfl
        have fin : ∀ x H4, At (ps ++ [pc]) (m - 1) 0 x n → 0 ≤ x → x < m → Same H3 H4 → Q (.int x) H4 := fun x H4 ha x0 x1 s4 => q hst n x H4 rfl ha x0 x1 (e3.trans (Ex.of s4)) (t3.same s4)
        have h3 := (h.sm' s2).sm' s3
        refine ⟨.int m, rfl, m, 1, rfl, rfl, ?_⟩
        refine ⟨fun k σ H4 => ∃ pl st bd : Int, ∃ y6 y7 y8 y9, σ = [some v, some (.int m), some (.int pl), some (.ref p), some (.int st), some (.int bd), y6, y7, y8, y9] ∧ Same H3 H4 ∧ 0 ≤ st ∧ 0 ≤ pl ∧ bd ≤ m - 1 ∧ ((st + pl ≤ bd ∧ ∀ x, x ≤ bd → At (ps ++ [pc]) bd st x pl → At (ps ++ [pc]) (m - 1) 0 x n) ∨ (bd < st + pl ∧ At (ps ++ [pc]) (m - 1) 0 (st - 1) n ∧ 0 ≤ st - 1 ∧ st - 1 < m)) ∧ k = (m - st).toNat,
          ⟨_, n, 0, m - 1, none, none, none, none, rfl, Same.refl H3, Int.le_refl 0, n0, Int.le_refl _, .inl ⟨by omega, fun x _ h => h⟩, rfl⟩, fun k σ H4 ⟨pl, st, bd, y6, y7, y8, y9, eσ, s4, hst0, hpl0, hbd, hA, hk⟩ => ?_⟩
        subst eσ
        refine ⟨.int st, rfl, .int pl, rfl, st, pl, rfl, rfl, .int bd, rfl, st + pl, bd, rfl, rfl, _, rfl, ?_⟩
        by_cases cx : st + pl ≤ bd
        · rw [decide_eq_true cx]
          refine iteT ⟨fun σ' H' => ∃ m', m' < k ∧ ∃ pl st bd : Int, ∃ y6 y7 y8 y9, σ' = [some v, some (.int m), some (.int pl), some (.ref p), some (.int st), some (.int bd), y6, y7, y8, y9] ∧ Same H3 H' ∧ 0 ≤ st ∧ 0 ≤ pl ∧ bd ≤ m - 1 ∧ ((st + pl ≤ bd ∧ ∀ x, x ≤ bd → At (ps ++ [pc]) bd st x pl → At (ps ++ [pc]) (m - 1) 0 x n) ∨ (bd < st + pl ∧ At (ps ++ [pc]) (m - 1) 0 (st - 1) n ∧ 0 ≤ st - 1 ∧ st - 1 < m)) ∧ m' = (m - st).toNat, fun σ' H' ⟨m', h1, h2⟩ => ⟨m', h1, h2⟩, ?_⟩
          refine ⟨.ref p, rfl, .int st, rfl, .int bd, rfl, .int bd, rfl, p, ps ++ [pc], st, bd, some bd, rfl, h3.sm' s4, hpl.ok, hst0, fun x h1 h2 => hpl.find x (hund x (by omega)), breaks_lt hpl.ok hpl.past (by omega) (fun k e => by cases e; omega), fun D ws rs cc H5 s5 n5 e5 ra lv hc hlr hrn => ?_⟩
          have hi := lvl_hi hpl.ok lv (by omega)
          have hsum := lvl_sum lv
          obtain rfl : cc = bd + 1 := by omega
          have hcS := cnt_lvl lv
          have hAt : ∀ x, x ≤ bd → At (ps ++ [pc]) bd st x pl → At (ps ++ [pc]) (m - 1) 0 x n := by
            rcases hA with ⟨_, h⟩ | ⟨h, _⟩
            · exact h
            · omega
          refine ⟨.int bd, rfl, .int st, rfl, bd, st, rfl, rfl, .int pl, rfl, bd - st, pl, rfl, rfl, ?_⟩
          refine ⟨.int (bd - st - pl), rfl, .ref D, rfl, D, ws, ps ++ [pc], some bd, st, bd, bd + 1, rs, rfl, e5, ra, hlr, lv, hpl.ok, hst0, by omega, fun H6 s6 => ?_⟩
          have hspT : (rs.map fun r => (r.times : Int) * (spareR r.steps : Nat)).sum = spT rs := rfl
          rw [hspT]
          have e6 := s6 _ _ e5
          have ra6 := ra.sm e5 s6
          refine ⟨bd - st - pl, spT rs, rfl, rfl, _, rfl, ite2 (fun e => ?_) (fun e => ?_)⟩
          · have hlt := of_decide_eq_true e
            exact ⟨.ref D, rfl, .int (bd - st - pl), rfl, D, ws, ps ++ [pc], some bd, st, bd, bd + 1, bd - st - pl, rs, rfl, e6, ra6, lv, hpl.ok, hst0, by omega, by omega, by omega, hlt, fun x H7 s7 hcx hwx hxb => fin x H7 (person_spare hpl.ok hcx hwx hxb hAt) (by have := rch_le (cnt_rch hcx); omega) (by omega) (s4.trans (s5.trans (s6.trans s7)))⟩
          · have hge : ¬ bd - st - pl < spT rs := fun z => e (decide_eq_true z)
            refine ⟨.ref D, rfl, .int pl, rfl, D, ws, ps ++ [pc], some bd, st, bd, bd + 1, pl, rs, rfl, e6, ra6, lv, hpl.ok, hst0, by omega, by omega, hpl0, by omega, fun op wd pl' nw p2 H7 s7 e7 hop hws hw hpl' hplw hcn hpk => ?_⟩
            refine ⟨p2, _, rfl, SqT.of e7, rfl, .int op, _, rfl, .int (op + wd - 1), _, rfl, .int pl', _, rfl, rfl, ?_⟩
            obtain ⟨w0, w1, w2⟩ := wp_le hpl.ok hws.2
            obtain ⟨pc1, p1, hm1, hp1', hw1, hp10, hp11, hfit⟩ := w2 (by omega)
            have hf := hfit bd rfl
            refine ⟨.int op, rfl, op, 1, rfl, rfl, .int (op + wd - 1), rfl, ?_⟩
            have f1 : 0 ≤ op + 1 := nn_of hst0 hop
            have f2 : op + wd - 1 ≤ m - 1 := by rw [hw1]; omega
            have hnx := person_next hpl.ok hcn hws.2 hw hpl' hplw hpk hf hw1 hbd hst0 hop hAt
            exact ⟨(m - (op + 1)).toNat, meas13 hk hop cx hpl0 hbd, pl', op + 1, op + wd - 1, _, _, _, _, rfl, s4.trans (s5.trans (s6.trans s7)), f1, hpl', f2, hnx, rfl⟩
        · rw [decide_eq_false cx]
          rcases hA with ⟨h, _⟩ | ⟨_, h, h1, h2⟩
          · exact absurd h cx
          · exact iteF ⟨.int st, rfl, st, 1, rfl, rfl, fin _ H4 h h1 h2 s4⟩
      · rw [decide_eq_false n1]
        exact iteT (bad (by show (decide (0 ≤ n) && decide (n < m)) = false; rw [decide_eq_false n1, Bool.and_false]))
    · rw [decide_eq_false n0]
      exact iteF ⟨false, rfl, iteT (bad (by show (decide (0 ≤ n) && decide (n < m)) = false; rw [decide_eq_false n0, Bool.false_and]))⟩
  | _ => exact iteT (bad rfl)
end
end CL
set_option Elab.async false
set_option linter.all false
set_option maxRecDepth 100000
set_option maxHeartbeats 4000000
namespace CL
open PySem PySem.Spec PyProof.Rows L2 GE
abbrev sSpring : Stmt := topS 35
abbrev sDraw : Stmt := topS 36
theorem scSpring : FnScope ["script", "figures", "stir", "cell"] ["script"] (defScope sSpring) := ⟨rfl, rfl, rfl, by decide +kernel, rfl, by decide +kernel, by decide +kernel⟩
theorem scDraw : FnScope ["spring", "many", "found", "stir"] ["spring", "many"] (defScope sDraw) := ⟨rfl, rfl, rfl, by decide +kernel, rfl, by decide +kernel, by decide +kernel⟩
abbrev MSP : Int := 2305843009213693951
abbrev P60 : Int := 1000000000000000000000000000000000000000000000000000000000000
theorem p60 : (10 : Int) ^ (60 : Int).toNat = P60 := by decide +kernel
theorem t64 : (2 : Int) ^ 64 = 18446744073709551616 := by decide +kernel
/-- the spring: figures, a number stirred, how many draws -/
structure ReelAt (H : Hp) (r : Addr) : Prop where
  ex : ∃ f st n : Int, H r = some (.lst [.int f, .int st, .int n]) ∧ 0 ≤ st ∧ st < MSP
/-- all but the spring stays -/
structure Mv (r : Addr) (H H' : Hp) : Prop where
  keep : ∀ b o, b ≠ r → H b = some o → H' b = some o
theorem Mv.refl (r : Addr) (H : Hp) : Mv r H H := ⟨fun _ _ _ h => h⟩
theorem Mv.of {r : Addr} {H H' : Hp} (s : Same H H') : Mv r H H' := ⟨fun b o _ h => s b o h⟩
theorem Mv.trans {r : Addr} {H H1 H2 : Hp} (a : Mv r H H1) (b : Mv r H1 H2) : Mv r H H2 := ⟨fun c o n h => b.keep c o n (a.keep c o n h)⟩
theorem ReelAt.same {r : Addr} {H H' : Hp} (s : Same H H') (hr : ReelAt H r) : ReelAt H' r := by
  obtain ⟨f, st, n, er, h⟩ := hr
  exact ⟨f, st, n, s _ _ er, h⟩
theorem ReelAt.some {r : Addr} {H : Hp} (hr : ReelAt H r) : H r ≠ none := by
  obtain ⟨f, st, n, er, h⟩ := hr
  rw [er]
  exact nofun
theorem ReelAt.new {r p : Addr} {H : Hp} (hr : ReelAt H r) (np : H p = none) : p ≠ r := fun z => hr.some (by rw [← z]; exact np)
theorem ReelAt.store {r p : Addr} {H : Hp} {o : HO} (hr : ReelAt H r) (f : p ≠ r) : ReelAt (upd H p o) r := by
  obtain ⟨f', st, n, er, h⟩ := hr
  exact ⟨f', st, n, by rw [upd_ne (Ne.symm f)]; exact er, h⟩
theorem ReelAt.kx {r : Addr} {H H' : Hp} (h : ReelAt H r) (e : Ex H H') : ReelAt H' r := by
  obtain ⟨f, st, n, er, h⟩ := h
  exact ⟨f, st, n, e.lst er, h⟩
theorem mem_keep {r b : Addr} {H H' : Hp} (m : Mv r H H') (n : b ≠ r) (h : H b ≠ none) : H' b ≠ none := fun z => by
  cases q : H b with
  | none => exact h q
  | some o =>
    rw [m.keep b o n q] at z
    cases z
def spDraw (r : Addr) : Sp := fun vs H Q _ => ∃ m : Int, vs = [.ref r, .int m] ∧ ReelAt H r ∧ 1 ≤ m ∧ m < 2 ^ 140 ∧ ∀ x H', ReelAt H' r → Mv r H H' → 0 ≤ x → x < m → Q (.int x) H'
def spSpring (K : PySem.W.Frag) : Sp := fun vs H Q _ => ∃ (a : Addr) (ns : List Int), vs = [.ref a] ∧ SqL K H a (ns.map V.int) ∧ ns.length ≤ 63 ∧ ∀ r H', Same H H' → H r = none → ReelAt H' r → Q (.ref r) H'
theorem nat_two60 : (1000000000000000000000000000000000000000000000000000000000000 : Nat) ≤ 2 ^ 200 := by decide +kernel
theorem fig_step {f c : Int} {i : Nat} (h0 : 0 ≤ f) (h : f.natAbs < 2 ^ (200 * i)) : 0 ≤ f * P60 + c % P60 ∧ (f * P60 + c % P60).natAbs < 2 ^ (200 * (i + 1)) := by
  have c0 := Int.emod_nonneg c (show P60 ≠ 0 by decide)
  have c1 := Int.emod_lt_of_pos c (show 0 < P60 by decide)
  obtain ⟨F, rfl⟩ : ∃ F : Nat, f = (F : Int) := ⟨f.toNat, by omega⟩
  obtain ⟨R, hR⟩ : ∃ R : Nat, c % P60 = (R : Int) := ⟨(c % P60).toNat, by omega⟩
  rw [hR] at c1 ⊢
  have hF : F < 2 ^ (200 * i) := h
  have hR2 : R < 1000000000000000000000000000000000000000000000000000000000000 := by
    have : (R : Int) < 1000000000000000000000000000000000000000000000000000000000000 := c1
    omega
  have e : ((F : Int) * P60 + (R : Int)) = ((F * 1000000000000000000000000000000000000000000000000000000000000 + R : Nat) : Int) := by
    rw [Int.natCast_add, Int.natCast_mul]
    rfl
  rw [e]
  refine ⟨Int.natCast_nonneg _, ?_⟩
  rw [Int.natAbs_natCast]
  have e2 : 2 ^ (200 * (i + 1)) = 2 ^ (200 * i) * 2 ^ 200 := by rw [← Nat.pow_add]; rfl
  rw [e2]
  have h1 : (F + 1) * 1000000000000000000000000000000000000000000000000000000000000 ≤ 2 ^ (200 * i) * 2 ^ 200 := Nat.mul_le_mul hF nat_two60
  rw [Nat.succ_mul] at h1
  omega
theorem fig_stay {f : Int} {i : Nat} (h : f.natAbs < 2 ^ (200 * i)) : f.natAbs < 2 ^ (200 * (i + 1)) := Nat.lt_of_lt_of_le h (Nat.pow_le_pow_right (by decide) (by omega))
theorem log_p60 : P60.natAbs < 2 ^ 200 := by decide +kernel
section
variable {P : Program} {w : World} {K : PySem.W.Frag} {mg : Str → Option Value} {base : Heap}
theorem ok_draw {f r : Addr} {fd : FuncData} (F : Fun K "_law_draw" "_law_draw" sDraw f fd) : FnOk P w K mg base CX0 1 f fd ["spring", "many"] (spDraw r) := by
  refine F.ok scDraw (fun vs H Q E ⟨m, e, _⟩ => by rw [e]; rfl) (fun cdv A outer s H vs Q E hr h => ?_)
  obtain ⟨m, rfl, ⟨f, st, n, er, st0, st1⟩, m1, m2, q⟩ := h
  have nd := scDraw.nd
  refine ⟨_, pss_cons (ps_if (pt_cmpR op_gt (pe_ix ix_list (pv 0) pe_int (fun _ _ => rfl)) pe_int (nomark _))
      (pss_cons (ps_set (i := 2) nd rfl (.inl rfl) (pe_op op_mod (pe_ix ix_list (pv 0) pe_int (fun _ _ => rfl)) (pv 1)))
      (pss_cons (ps_asg (pe_op op_fdivW (pe_ix ix_list (pv 0) pe_int (fun _ _ => rfl)) (pv 1)) (pg_sub (pv 0) pe_int set_list))
      (pss_one (ps_ret (pv 2))))) pss_nil)
    (pss_cons (ps_asg (pe_op op_add (pe_ix ix_list (pv 0) pe_int (fun _ _ => rfl)) pe_int) (pg_sub (pv 0) pe_int set_list))
    (pss_cons (ps_set (i := 3) nd rfl (.inl rfl) (pe_op op_mod (pe_op op_mul (pe_ix ix_list (pv 0) pe_int (fun _ _ => rfl)) (pe_ix ix_list (pv 0) pe_int (fun _ _ => rfl))) pe_int))
    (pss_cons (ps_asg (pe_op op_mod (pe_op op_add (pe_op op_add (pv 3) (pe_op op_mul (pe_op op_mul pe_int (pe_ix ix_list (pv 0) pe_int (fun _ _ => rfl))) (pe_ix ix_list (pv 0) pe_int (fun _ _ => rfl)))) pe_int) pe_int) (pg_sub (pv 0) pe_int set_list))
    (pss_one (ps_ret (pe_op op_mod (pe_op op_fdiv (pe_ix ix_list (pv 0) pe_int (fun _ _ => rfl)) pe_int) (pv 1))))))), ?_⟩
  have mdiv : CDivW f m := wide_div (b := 140) (by omega) (by omega) (by decide) (by decide)
  have st1' : st < 2305843009213693951 := st1
  refine ⟨.ref r, rfl, r, _, 0, .int f, rfl, rfl, SqL.of er, atI_nat (j := 0) rfl, f, 0, rfl, rfl, decide (0 < f), rfl, ite2 (fun _ => ?_) (fun _ => ?_)⟩
  · refine ⟨.ref r, rfl, r, _, 0, .int f, rfl, rfl, SqL.of er, atI_nat (j := 0) rfl, .int m, rfl, f, m, rfl, rfl, (by show (0 : Int) < m; omega), ?_⟩
    refine ⟨.ref r, rfl, r, _, 0, .int f, rfl, rfl, SqL.of er, atI_nat (j := 0) rfl, .int m, rfl, f, m, rfl, rfl, mdiv, .ref r, rfl, r, _, 0, 0, rfl, rfl, er, rfl, .int (f % m), rfl, ?_⟩
    exact q _ _ ⟨f / m, st, n, upd_same, st0, st1⟩ ⟨fun b o nb e => by rw [upd_ne nb]; exact e⟩ (Int.emod_nonneg _ (by omega)) (Int.emod_lt_of_pos _ (by omega))
  · refine ⟨.ref r, rfl, r, _, 2, .int n, rfl, rfl, SqL.of er, atI_nat (j := 2) rfl, n, 1, rfl, rfl, .ref r, rfl, r, _, 2, 2, rfl, rfl, er, rfl, ?_⟩
    have m2' : ∀ b o, b ≠ r → H b = some o → upd H r (.lst [.int f, .int st, .int (n + 1)]) b = some o := fun b o nb e => by rw [upd_ne nb]; exact e
    have er2 : (upd H r (.lst [.int f, .int st, .int (n + 1)])) r = some (.lst [.int f, .int st, .int (n + 1)]) := upd_same
    show tSeq _ _ _ _ (upd H r (.lst [.int f, .int st, .int (n + 1)]))
    generalize hH2 : upd H r (.lst [.int f, .int st, .int (n + 1)]) = H2 at m2' er2
    refine ⟨.ref r, rfl, r, _, 1, .int st, rfl, rfl, SqL.of er2, atI_nat (j := 1) rfl, .ref r, rfl, r, _, 1, .int st, rfl, rfl, SqL.of er2, atI_nat (j := 1) rfl, st, st, rfl, rfl, .inl ⟨by rw [t64]; omega, by rw [t64]; omega⟩, _, _, rfl, rfl, (by show (0 : Int) < 2305843009213693951; decide), ?_⟩
    refine ⟨_, rfl, .ref r, rfl, r, _, 2, .int (n + 1), rfl, rfl, SqL.of er2, atI_nat (j := 2) rfl, 7919, n + 1, rfl, rfl, .inl ⟨by decide, by decide⟩, .ref r, rfl, r, _, 1, .int st, rfl, rfl, SqL.of er2, atI_nat (j := 1) rfl, _, st, rfl, rfl, .inr ⟨by rw [t64]; omega, by rw [t64]; omega⟩, _, _, rfl, rfl, _, 104729, rfl, rfl, _, _, rfl, rfl, (by show (0 : Int) < 2305843009213693951; decide), .ref r, rfl, r, _, 1, 1, rfl, rfl, er2, rfl, ?_⟩
    generalize hz : (st * st % 2305843009213693951 + 7919 * (n + 1) * st + 104729) = z2
    have z0 := Int.emod_nonneg z2 (show MSP ≠ 0 by decide)
    have z1 := Int.emod_lt_of_pos z2 (show 0 < MSP by decide)
    generalize hH3 : upd H2 r (HO.lst ([V.int f, V.int st, V.int (n + 1)].set 1 ((fun i j => V.int (i % j)) z2 2305843009213693951))) = H3
    have er3 : H3 r = some (.lst [.int f, .int (z2 % MSP), .int (n + 1)]) := by
      rw [← hH3, upd_same]
      rfl
    have m3 : ∀ b o, b ≠ r → H b = some o → H3 b = some o := fun b o nb e => by
      rw [← hH3, upd_ne nb]
      exact m2' b o nb e
    generalize hz : z2 % MSP = z at z0 z1 er3
    refine ⟨.ref r, rfl, r, _, 1, .int z, rfl, rfl, SqL.of er3, atI_nat (j := 1) rfl, z, 65537, rfl, rfl, ⟨by decide, by decide⟩, .int m, rfl, _, m, rfl, rfl, (by show (0 : Int) < m; omega), ?_⟩
    exact q _ H3 ⟨f, z, n + 1, er3, z0, z1⟩ ⟨m3⟩ (Int.emod_nonneg _ (by omega)) (Int.emod_lt_of_pos _ (by omega))
end
end CL
set_option Elab.async false
set_option linter.all false
set_option maxRecDepth 100000
set_option maxHeartbeats 4000000
namespace CL
open PySem PySem.Spec PyProof.Rows L2 GE
section
variable {P : Program} {w : World} {K : PySem.W.Frag} {mg : Str → Option Value} {base : Heap}
theorem ok_spring {f : Addr} {fd : FuncData} (F : Fun K "_law_spring" "_law_spring" sSpring f fd) (habs : mg "abs" = none) : FnOk P w K mg base CX0 1 f fd ["script"] (spSpring K) := by
  refine F.ok scSpring (fun vs H Q E ⟨a, ns, e, _⟩ => by rw [e]; rfl) (fun cdv A outer s H vs Q E hr h => ?_)
  obtain ⟨a, ns, rfl, hS, hlen, q⟩ := h
  have nd := scSpring.nd
  refine ⟨_, pss_cons (ps_set (i := 1) nd rfl (.inl rfl) pe_int) (pss_cons (ps_set (i := 2) nd rfl (.inl rfl) pe_int)
    (pss_cons (ps_for PassesOwn.never rfl (pi_list (pe_slice sl_list (pv 0) po_none (po_some pe_int))) (pg_name (i := 3) nd rfl (.inl rfl))
      (pss_cons (ps_if (pt_cmpR op_ge (pe_callB call_abs (by rfl) habs boot_abs (pa_cons (pv 3) pa_nil)) (pe_op op_pow pe_int pe_int) (nomark _))
        (pss_one (ps_set (i := 1) nd rfl (.inl rfl) (pe_op op_add (pe_op op_mulW (pv 1) (pe_op op_pow pe_int pe_int)) (pe_op op_mod (pe_callB call_abs (by rfl) habs boot_abs (pa_cons (pv 3) pa_nil)) (pe_op op_pow pe_int pe_int))))) pss_nil)
      (pss_one (ps_set (i := 2) nd rfl (.inl rfl) (pe_op op_mod (pe_op op_add (pe_op op_add (pe_op op_mul (pv 2) pe_int) (pe_op op_mod (pv 3) pe_int)) pe_int) pe_int)))))
    (pss_one (ps_ret (pe_lst (pa_cons (pv 1) (pa_cons (pv 2) (pa_cons pe_int pa_nil)))))))), ?_⟩
  have cut : cutV (ns.map V.int) none (some 63) = ns.map V.int := (cut_to _ 63).trans (List.take_of_length_le (by rw [List.length_map]; exact hlen))
  refine ⟨.ref a, rfl, 63, rfl, a, _, rfl, hS, fun p np => ?_⟩
  rw [cut]
  have s1 : Same H (upd H p (.lst (ns.map V.int))) := same_upd np
  have ep : (upd H p (.lst (ns.map V.int))) p = some (.lst (ns.map V.int)) := upd_same
  generalize hH1 : upd H p (.lst (ns.map V.int)) = H1 at s1 ep
  refine ⟨p, rfl, ⟨_, SqL.of ep⟩, for_list (xs := ns.map V.int) (fun i σ H2 => H2 = H1 ∧ ∃ f st y3, σ = [some (.ref a), some (.int f), some (.int st), y3] ∧ 0 ≤ f ∧ f.natAbs < 2 ^ (200 * i) ∧ 0 ≤ st ∧ st < MSP) ⟨rfl, 0, 88651, none, rfl, by decide, by decide, by decide, by decide⟩
    (fun i σ H2 _ ⟨e, _⟩ => by rw [e]; exact SqL.of ep) (fun i x σ H2 hx ⟨e, f, st, y3, es, f0, f1, h0, h1⟩ => ?_) (fun σ H2 ⟨e, f, st, y3, es, f0, f1, h0, h1⟩ => ?_)⟩
  · subst e es
    obtain ⟨c, rfl⟩ : ∃ c, x = .int c := by
      rw [List.getElem?_map] at hx
      cases q : ns[i]? with
      | none => rw [q] at hx; cases hx
      | some c => rw [q] at hx; cases hx; exact ⟨c, rfl⟩
    have hi : i < 63 := by
      have := (List.getElem?_eq_some_iff.mp hx).1
      rw [List.length_map] at this
      omega
    have fin : ∀ st2 : Int, 0 ≤ st2 % 2305843009213693951 ∧ st2 % 2305843009213693951 < MSP := fun st2 => ⟨Int.emod_nonneg _ (by decide), Int.emod_lt_of_pos _ (by decide)⟩
    refine ⟨.int c, rfl, c, rfl, 10, 18, rfl, rfl, ⟨by decide, by decide, by decide⟩, _, _, rfl, rfl, _, rfl, ite2 (fun _ => ?_) (fun _ => ?_)⟩
    · obtain ⟨g0, g1⟩ := fig_step (c := if c < 0 then -c else c) f0 f1
      refine ⟨.int f, rfl, 10, 60, rfl, rfl, ⟨by decide, by decide, by decide⟩, f, _, rfl, rfl, ?_, .int c, rfl, c, rfl, 10, 60, rfl, rfl, ⟨by decide, by decide, by decide⟩, _, _, rfl, rfl, (by show (0 : Int) < (10 : Int) ^ (60 : Int).toNat; rw [p60]; decide), _, _, rfl, rfl, ?_⟩
      · show CMulW f ((10 : Int) ^ (60 : Int).toNat)
        rw [p60]
        exact wide_mul (a := 200 * 63) (b := 200) (Nat.lt_of_lt_of_le f1 (Nat.pow_le_pow_right (by decide) (by omega))) log_p60 (by decide) (by decide) (by decide)
      refine ⟨.int st, rfl, st, 69069, rfl, rfl, .inr ⟨by decide, by decide⟩, .int c, rfl, c, _, rfl, rfl, (by show (0 : Int) < 2305843009213693921; decide), _, _, rfl, rfl, _, 7, rfl, rfl, _, _, rfl, rfl, (by show (0 : Int) < 2305843009213693951; decide), ?_⟩
      rw [p60]
      exact ⟨rfl, _, _, some (.int c), rfl, g0, g1, (fin _).1, (fin _).2⟩
    · refine ⟨.int st, rfl, st, 69069, rfl, rfl, .inr ⟨by decide, by decide⟩, .int c, rfl, c, _, rfl, rfl, (by show (0 : Int) < 2305843009213693921; decide), _, _, rfl, rfl, _, 7, rfl, rfl, _, _, rfl, rfl, (by show (0 : Int) < 2305843009213693951; decide), ?_⟩
      exact ⟨rfl, _, _, some (.int c), rfl, f0, fig_stay f1, (fin _).1, (fin _).2⟩
  · subst e es
    refine ⟨.int f, rfl, .int st, rfl, small_le (by show 3 ≤ 1000; decide), fun r nr => ?_⟩
    exact q r _ (s1.trans (same_upd nr)) (s1.free nr) ⟨f, st, 0, upd_same, h0, h1⟩
end
end CL
set_option Elab.async false
set_option linter.all false
set_option maxRecDepth 100000
set_option maxHeartbeats 4000000
namespace CL
open PySem PySem.Spec PyProof.Rows L2 GE
/-! ### a text said over -/
def repS (a : Str) (n : Nat) : Str := ⟨(List.replicate n a.cps).foldl (· ++ ·) #[]⟩
theorem op_repS {X : Cx} : OpR X (binaryOp .Mult) (fun x y H Q => ∃ (a : Str) (n : Nat), x = .str a ∧ y = .int (n : Int) ∧ a.length = 1 ∧ n ≤ 1000 ∧ Q (.str (repS a n)) H) := by
  intro pins s σ H x y v u Q I rx ry h
  obtain ⟨a, n, rfl, rfl, ha, hn, q⟩ := h
  obtain ⟨t, rfl⟩ := rx
  obtain ⟨t', rfl⟩ := ry
  have sz : 1000 ≤ sizeLine := by decide
  have p63 : (2 : Int) ^ 63 = 9223372036854775808 := by decide
  refine P.mul_str ?_ (fun h1 h2 => ?_) (fun h1 h2 => ?_) ?_
  · rw [p63, decide_eq_false (by omega), decide_eq_false (by omega)]
    rfl
  · rw [ha]
    have h3 : (1 : Int) ≤ (2 ^ 63 - 1) / (n : Int) := by
      rw [Int.le_ediv_iff_mul_le (by omega), p63]
      omega
    show ¬ ((1 : Nat) : Int) > (2 ^ 63 - 1) / (n : Int)
    omega
  · rw [ha]
    exact decide_eq_false (by show ¬ 1 * ((n : Int)).toNat > sizeLine; rw [Int.toNat_natCast]; omega)
  · by_cases h0 : (n : Int) < 1
    · rw [if_pos h0]
      have : n = 0 := by omega
      subst this
      exact ⟨Nat.zero_le _, .str (repS a 0), H, I.tok _, ⟨_, rfl⟩, q⟩
    · rw [if_neg h0]
      by_cases h1 : n = 1
      · subst h1
        rw [if_pos (by rfl)]
        have e : repS a 1 = a := by
          show (⟨#[] ++ a.cps⟩ : Str) = a
          rw [Array.empty_append]
        rw [e] at q
        exact ⟨.str a, H, I, ⟨_, rfl⟩, q⟩
      · rw [if_neg (by rw [ha]; simp; omega)]
        have e2 : ((n : Int)).toNat = n := Int.toNat_natCast n
        rw [e2]
        refine ⟨?_, .str (repS a n), H, I.tok _, ⟨_, rfl⟩, q⟩
        have hl : ∀ (k : Nat) (acc : Array Nat), ((List.replicate k a.cps).foldl (· ++ ·) acc).size = acc.size + k := by
          intro k
          induction k with
          | zero => intro acc; rfl
          | succ k ih =>
            intro acc
            rw [List.replicate_succ, List.foldl_cons, ih, Array.size_append]
            have ha' : a.cps.size = 1 := ha
            omega
        show ((List.replicate n a.cps).foldl (· ++ ·) #[]).size ≤ sizeLine
        rw [hl]
        show 0 + n ≤ sizeLine
        omega
theorem rep_zero : ∀ (k : Nat) (acc : Array Nat), ((List.replicate k #[48]).foldl (· ++ ·) acc).toList = acc.toList ++ List.replicate k 48
  | 0, acc => by simp
  | k + 1, acc => by
    rw [List.replicate_succ, List.foldl_cons, rep_zero k, Array.toList_append, List.replicate_succ]
    simp
theorem zero_cps : (PySem.Str.ofString "0") = ⟨#[48]⟩ := by decide +kernel
theorem one_cps : (PySem.Str.ofString "1") = ⟨#[49]⟩ := by decide +kernel
theorem ten_cps (n : Nat) : (PySem.Str.ofString "1" ++ repS (PySem.Str.ofString "0") n).cps.toList = 49 :: List.replicate n 48 := by
  rw [zero_cps, one_cps]
  show (#[49] ++ (List.replicate n #[48]).foldl (· ++ ·) #[]).toList = _
  rw [Array.toList_append, rep_zero]
  rfl
theorem val_zero : ∀ (k acc : Nat), (List.replicate k 48).foldl (fun acc c => acc * 10 + (c - 48)) acc = acc * 10 ^ k
  | 0, acc => by simp
  | k + 1, acc => by
    rw [List.replicate_succ, List.foldl_cons, val_zero k, Nat.pow_succ]
    show (acc * 10 + 0) * 10 ^ k = acc * (10 ^ k * 10)
    rw [Nat.add_zero, Nat.mul_assoc, Nat.mul_comm 10]
theorem ten_text {n : Nat} (h : n ≤ 30) : PySem.intText? (PySem.Str.ofString "1" ++ repS (PySem.Str.ofString "0") n) = some (((10 ^ n : Nat)) : Int) := by
  have e := ten_cps n
  have hl : (PySem.Str.ofString "1" ++ repS (PySem.Str.ofString "0") n).length = n + 1 := by
    show (PySem.Str.ofString "1" ++ repS (PySem.Str.ofString "0") n).cps.size = _
    rw [← Array.length_toList, e]
    simp
  rw [PySem.intText_digits (by rw [e]; intro c hc; rcases List.mem_cons.mp hc with h | h
                               · subst h; decide
                               · rw [(List.mem_replicate.mp h).2]; decide) (by rw [e]; exact List.cons_ne_nil _ _) (by omega), e]
  unfold NumText.digitsVal
  rw [List.foldl_cons, val_zero]
  show some (((0 * 10 + (49 - 48)) * 10 ^ n : Nat) : Int) = _
  rw [show (0 * 10 + (49 - 48)) = 1 from rfl, Nat.one_mul]
theorem ten_len {n : Nat} (h : n ≤ 30) : (PySem.Str.ofString "1" ++ repS (PySem.Str.ofString "0") n).length ≤ 640 := by
  have e := ten_cps n
  have hl : (PySem.Str.ofString "1" ++ repS (PySem.Str.ofString "0") n).length = n + 1 := by
    show (PySem.Str.ofString "1" ++ repS (PySem.Str.ofString "0") n).cps.size = _
    rw [← Array.length_toList, e]
    simp
  omega
theorem rep_len {n : Nat} (h : n ≤ 30) : (PySem.Str.ofString "1").length + (repS (PySem.Str.ofString "0") n).length ≤ sizeLine := by
  have e := ten_len h
  have e2 : (PySem.Str.ofString "1" ++ repS (PySem.Str.ofString "0") n).length = (PySem.Str.ofString "1").length + (repS (PySem.Str.ofString "0") n).length := by
    show ((PySem.Str.ofString "1").cps ++ (repS (PySem.Str.ofString "0") n).cps).size = _
    rw [Array.size_append]
    rfl
  have : 640 ≤ sizeLine := by decide
  omega
theorem ten_le {n : Nat} (h : n ≤ 30) : (((10 ^ n : Nat)) : Int) ≤ GREAT := by
  have h1 : 10 ^ n ≤ 10 ^ 30 := Nat.pow_le_pow_right (by decide) h
  have h2 : ((10 ^ 30 : Nat) : Int) = GREAT := by decide +kernel
  omega
theorem ten_le29 {n : Nat} (h : n ≤ 29) : (((10 ^ n : Nat)) : Int) ≤ 100000000000000000000000000000 := by
  have h1 : 10 ^ n ≤ 10 ^ 29 := Nat.pow_le_pow_right (by decide) h
  have h2 : ((10 ^ 29 : Nat) : Int) = 100000000000000000000000000000 := by decide +kernel
  omega
/-! ### values that may be none -/
def pvO : Option Int → V
  | none => .non
  | some i => .int i
def pdO : Option Int → PyData
  | none => .none
  | some i => .int i
def goodO : Option Int → Prop
  | none => True
  | some i => 0 ≤ i ∧ i ≤ GREAT
abbrev P29 : Int := 100000000000000000000000000000
def spPatL (r : Addr) : Sp := fun vs H Q _ => ∃ m : Int, vs = [.ref r, .int m] ∧ ReelAt H r ∧ 0 ≤ m ∧ m ≤ P29 ∧ ∀ o H', ReelAt H' r → Mv r H H' → goodO o → Q (pvO o) H'
theorem t140 : (2 : Int) ^ 140 = 1393796574908163946345982392040522594123776 := by decide +kernel
section
variable {P : Program} {w : World} {K : PySem.W.Frag} {mg : Str → Option Value} {base : Heap}
end
end CL
set_option Elab.async false
set_option linter.all false
set_option maxRecDepth 100000
set_option maxHeartbeats 4000000
namespace CL
open PySem PySem.Spec PyProof.Rows L2 GE
/-- W is tracked, the spring in it -/
structure Wk (W : Addr → Prop) (H : Hp) (r : Addr) : Prop where
  reel : W r
  trk : ∀ b, W b → H b ≠ none
theorem Mv.hw {r : Addr} {W : Addr → Prop} {H H' : Hp} (m : Mv r H H') (h : W r) : Same (Hw W H) (Hw W H') := fun b o e => by
  have hb := Hw.ne e
  rw [Hw.at hb]
  exact m.keep b o (fun z => hb (by rw [z]; exact h)) (Hw.sub W H b o e)
theorem Wk.mv {W : Addr → Prop} {H H' : Hp} {r : Addr} (k : Wk W H r) (re : ReelAt H' r) (m : Mv r H H') : Wk W H' r := ⟨k.reel, fun b hb z => by
  by_cases hr : b = r
  · rw [hr] at z
    exact re.some z
  · exact mem_keep m hr (k.trk b hb) z⟩
theorem Wk.out {W : Addr → Prop} {H : Hp} {r p : Addr} (k : Wk W H r) (n : H p = none) : ¬ W p := fun z => k.trk p z n
theorem Wk.add {W : Addr → Prop} {H : Hp} {r p : Addr} (k : Wk W H r) (n : H p ≠ none) : Wk (fun b => W b ∨ b = p) H r := ⟨.inl k.reel, fun b hb => hb.elim (k.trk b) fun z => by rw [z]; exact n⟩
theorem Mv.upd {r p : Addr} {H H' : Hp} {o : HO} (m : Mv r H H') (hn : H p = none) : Mv r H (upd H' p o) := ⟨fun b x nb e => by
  rw [upd_ne (ne_of_none e hn)]
  exact m.keep b x nb e⟩
structure Nm2 (mg : Str → Option Value) : Prop where
  range : mg "range" = none
  min : mg "min" = none
  repr : mg "repr" = none
  enum : mg "enumerate" = none
abbrev RowT := List (Option Int) × PyData
theorem rp_O {H : Hp} : ∀ o : Option Int, Rp H (pvO o) (pdO o)
  | none => .non
  | some i => .int i
theorem rp_Os {H : Hp} : ∀ os : List (Option Int), RpAll H (os.map pvO) (os.map pdO)
  | [] => .nil
  | o :: os => .cons (rp_O o) (rp_Os os)
def rowD (x : RowT) : PyData := .tuple [.list (x.1.map pdO), x.2]
def sumW (rs : List RowT) : Int := (rs.map fun x => worth x.2).sum
structure GoodRow (x : RowT) : Prop where
  lo : 1 ≤ x.1.length
  hi : x.1.length ≤ 8
  pat : ∀ o ∈ x.1, goodO o
  many : isMany x.2 = true
structure Fine (rs : List RowT) : Prop where
  lo : 1 ≤ rs.length
  hi : rs.length ≤ 8
  row : ∀ x ∈ rs, GoodRow x
  last : ∀ x ∈ rs.take (rs.length - 1), isNone x.2 = false
  sum : sumW rs ≤ GREAT
def spRows (r : Addr) : Sp := fun vs H Q _ => ∃ W, vs = [.ref r] ∧ ReelAt H r ∧ Wk W H r ∧ ∀ p rs H', ReelAt H' r → Mv r H H' → Rp (Hw W H') (.ref p) (.list (rs.map rowD)) → Fine rs → Q (.ref p) H'
theorem RpAll.unsnoc {H : Hp} : ∀ {ds : List PyData} {vs : List V} {d : PyData}, RpAll H vs (ds ++ [d]) → ∃ vs' v, vs = vs' ++ [v] ∧ RpAll H vs' ds ∧ Rp H v d
  | [], _, _, .cons h .nil => ⟨[], _, rfl, .nil, h⟩
  | _ :: _, _, _, .cons h t => by
    obtain ⟨vs', v, e, h1, h2⟩ := RpAll.unsnoc t
    exact ⟨_ :: vs', v, by rw [e]; rfl, .cons h h1, h2⟩
theorem ix_last (n : Nat) : ixN (n + 1) (-1) = some n := by
  unfold ixN
  rw [if_neg (by decide), if_pos (by omega)]
  congr 1
  omega
/-! ### rows that were drawn are a plan -/
theorem pat_good {o : Option Int} (h : goodO o) : isPatience (pdO o) = true := by
  cases o with
  | none => rfl
  | some i =>
    have h1 : 0 ≤ i := h.1
    have h2 : i ≤ GREAT := h.2
    show (decide (0 ≤ i) && decide (i ≤ GREAT)) = true
    rw [decide_eq_true h1, decide_eq_true h2]
    rfl
theorem piece_good {x : RowT} (g : GoodRow x) : isPiece (rowD x) = true := by
  have e : isPiece (rowD x) = (isTurns (.list (x.1.map pdO)) && isMany x.2) := isPiece_two rfl
  rw [e, g.many, Bool.and_true]
  show (decide (1 ≤ (x.1.map pdO).length) && decide ((x.1.map pdO).length ≤ 8) && (x.1.map pdO).all isPatience) = true
  rw [List.length_map, decide_eq_true g.lo, decide_eq_true g.hi]
  simp only [Bool.true_and, List.all_map, List.all_eq_true]
  exact fun o ho => pat_good (g.pat o ho)
theorem sum_rows : ∀ rs : List RowT, sumSnd (rs.map rowD) = sumW rs
  | [] => rfl
  | x :: rs => by
    have h := sum_rows rs
    unfold sumSnd sumW at *
    simp only [List.map_cons, List.sum_cons]
    rw [h]
    rfl
theorem fine_plan {rs : List RowT} (f : Fine rs) : isPlan (.list (rs.map rowD)) = true := by
  have e : isPlan (.list (rs.map rowD)) = isPlanL (rs.map rowD) := rfl
  rw [e]
  unfold isPlanL
  rw [sum_rows, List.length_map, decide_eq_true f.lo, decide_eq_true f.hi, decide_eq_true f.sum, Bool.and_true, Bool.true_and, Bool.true_and]
  have h1 : (rs.map rowD).all isPiece = true := by
    simp only [List.all_map, List.all_eq_true]
    exact fun x hx => piece_good (f.row x hx)
  have h2 : ((rs.map rowD).take (rs.length - 1)).any (fun d => isNone (sndD d)) = false := by
    rw [← List.map_take, List.any_eq_false]
    intro d hd
    obtain ⟨x, hx, rfl⟩ := List.mem_map.mp hd
    have h3 := f.last x hx
    have h4 : sndD (rowD x) = x.2 := rfl
    rw [h4, h3]
    exact Bool.false_ne_true
  rw [h1, h2]
  rfl
/-! ### what a call that fills tables leaves -/
theorem Ex.some {H H' : Hp} (e : Ex H H') {b : Addr} (n : H b ≠ none) : H' b ≠ none := fun z => n (e.free z)
theorem Wk.ex {W : Addr → Prop} {H H' : Hp} {r : Addr} (k : Wk W H r) (e : Ex H H') : Wk W H' r := ⟨k.reel, fun b hb => e.some (k.trk b hb)⟩
theorem Ex.hw {W : Addr → Prop} {H H' : Hp} (e : Ex H H') : Ex (Hw W H) (Hw W H') := fun b o h => by
  rw [Hw.at (Hw.ne h)]
  exact e b o (Hw.sub W H b o h)
theorem tabG_ne {P r : Addr} {H : Hp} (h : GxR.TabG H P) (hr : ReelAt H r) : P ≠ r := fun z => by
  obtain ⟨ps, e, _⟩ := h
  obtain ⟨f, st, n, er, _⟩ := hr
  rw [z, er] at e
  cases e
theorem tabG_mv {P r : Addr} {H H' : Hp} (h : GxR.TabG H P) (hr : ReelAt H r) (m : Mv r H H') : GxR.TabG H' P := by
  have n := tabG_ne h hr
  obtain ⟨ps, e, t⟩ := h
  exact ⟨ps, m.keep P _ n e, t⟩
theorem Tb.mv {P1 P2 r : Addr} {H H' : Hp} (h : Tb P1 P2 H) (hr : ReelAt H r) (m : Mv r H H') : Tb P1 P2 H' := ⟨tabG_mv h.1 hr m, tabG_mv h.2 hr m⟩
theorem tabG_upd {P p : Addr} {H : Hp} {o : HO} (h : GxR.TabG H P) (n : ∀ ps, H p ≠ some (.tbl ps)) : GxR.TabG (upd H p o) P := by
  obtain ⟨ps, e, t⟩ := h
  exact ⟨ps, by rw [upd_ne fun z => n ps (by rw [← z]; exact e)]; exact e, t⟩
theorem Tb.upd {P1 P2 p : Addr} {H : Hp} {o : HO} (h : Tb P1 P2 H) (n : ∀ ps, H p ≠ some (.tbl ps)) : Tb P1 P2 (upd H p o) := ⟨tabG_upd h.1 n, tabG_upd h.2 n⟩
theorem RpAll.exh {H H' : Hp} (e : Ex H H') {vs : List V} {ds : List PyData} (h : RpAll H vs ds) : RpAll H' vs ds := RpAll.ex e ds vs h
end CL
set_option Elab.async false
set_option linter.all false
set_option maxRecDepth 100000
set_option maxHeartbeats 4000000
namespace CL
open PySem PySem.Spec PyProof.Rows L2 GE
abbrev nPlanL : List Str := ["spring", "ends", "found", "k", "lot", "turn", "at"]
theorem p29 : (10 : Int) ^ (29 : Int).toNat = P29 := by decide +kernel
theorem sumW_snoc2 (rs : List RowT) (x : RowT) : sumW (rs ++ [x]) = sumW rs + worth x.2 := by
  unfold sumW
  rw [List.map_append, List.sum_append]
  simp
def spPlanL (r : Addr) : Sp := fun vs H Q _ => ∃ b : Bool, ∃ W, vs = [.ref r, .bl b] ∧ ReelAt H r ∧ Wk W H r ∧ ∀ p rs H', ReelAt H' r → Mv r H H' → Rp (Hw W H') (.ref p) (.list (rs.map rowD)) → Fine rs → (∀ x ∈ rs, worth x.2 ≤ P29) → (b = true → ∀ x ∈ rs, isNone x.2 = false) → Q (.ref p) H'
theorem pick2 {x : Int} (h0 : 0 ≤ x) (h1 : x < 2) {a : Int} (ha : 1 ≤ a) (hb : a ≤ 8) : ∃ z, atI [V.int a, .int 8] x = some (.int z) ∧ 1 ≤ z ∧ z ≤ 8 := by
  have hh : x = 0 ∨ x = 1 := by omega
  rcases hh with z | z <;> rw [z]
  · exact ⟨a, atI_nat (j := 0) rfl, ha, hb⟩
  · exact ⟨8, atI_nat (j := 1) rfl, by decide, by decide⟩
section
variable {P : Program} {w : World} {K : PySem.W.Frag} {mg : Str → Option Value} {base : Heap}
end
end CL
set_option Elab.async false
set_option linter.all false
set_option maxRecDepth 100000
set_option maxHeartbeats 2000000
namespace CL
open PySem PySem.Spec PyProof.Rows L2 GE
/-! ### how much a thing weighs -/
mutual
def wt : PyData → Nat
  | .none => 4
  | .bool _ => 5
  | .int i => i.natAbs.log2 + 4
  | .str x => (reprText x).length
  | .list xs => wtAll xs + 4
  | .tuple xs => wtAll xs + 4
  | .dict kvs => kvs.length * 100000000 + 2
def wtAll : List PyData → Nat
  | [] => 0
  | x :: xs => wt x + 2 + wtAll xs
end
structure B (k u : Nat) (d : PyData) : Prop where
  dp : d.depth ≤ k
  wt : wt d ≤ u
  sh : d.showable = true
theorem B.mono {k u k' u' : Nat} {d : PyData} (b : B k u d) (hk : k ≤ k') (hu : u ≤ u') : B k' u' d := ⟨Nat.le_trans b.dp hk, Nat.le_trans b.wt hu, b.sh⟩
theorem all_bnd {k u : Nat} : ∀ {ds : List PyData}, (∀ x ∈ ds, B k u x) → PyData.depthAll ds ≤ k ∧ wtAll ds ≤ ds.length * (u + 2) ∧ PyData.showableAll ds = true
  | [], _ => ⟨Nat.zero_le _, by simp [wtAll], by simp [PyData.showableAll]⟩
  | x :: ds, h => by
    obtain ⟨h1, h2, h3⟩ := all_bnd (ds := ds) fun y hy => h y (List.mem_cons_of_mem _ hy)
    have hx := h x List.mem_cons_self
    refine ⟨?_, ?_, ?_⟩
    · show max _ _ ≤ k
      exact Nat.max_le.mpr ⟨hx.dp, h1⟩
    · show wt x + 2 + wtAll ds ≤ _
      rw [List.length_cons, Nat.add_mul]
      have := hx.wt
      omega
    · simp [PyData.showableAll, hx.sh, h3]
theorem B.list {k u n : Nat} {ds : List PyData} (h : ∀ x ∈ ds, B k u x) (hn : ds.length ≤ n) : B (k + 1) (n * (u + 2) + 4) (.list ds) := by
  obtain ⟨h1, h2, h3⟩ := all_bnd h
  have := Nat.mul_le_mul_right (u + 2) hn
  refine ⟨?_, ?_, ?_⟩
  · show PyData.depthAll ds + 1 ≤ k + 1
    omega
  · show wtAll ds + 4 ≤ _
    omega
  · simp [PyData.showable, h3]
theorem B.tuple {k u n : Nat} {ds : List PyData} (h : ∀ x ∈ ds, B k u x) (hn : ds.length ≤ n) : B (k + 1) (n * (u + 2) + 4) (.tuple ds) := by
  obtain ⟨h1, h2, h3⟩ := all_bnd h
  have := Nat.mul_le_mul_right (u + 2) hn
  refine ⟨?_, ?_, ?_⟩
  · show PyData.depthAll ds + 1 ≤ k + 1
    omega
  · show wtAll ds + 4 ≤ _
    omega
  · simp [PyData.showable, h3]
theorem b_none {k : Nat} : B k 200 .none := ⟨Nat.zero_le _, by decide, rfl⟩
theorem b_bool {k : Nat} {b : Bool} : B k 200 (.bool b) := ⟨Nat.zero_le _, by show 5 ≤ 200; decide, rfl⟩
theorem b_int {k : Nat} {i : Int} (h : i.natAbs < 2 ^ 140) : B k 200 (.int i) := by
  have h1 : i.natAbs.log2 < 140 := PySem.Flt.log2_lt_of (by decide) h
  exact ⟨Nat.zero_le _, by show i.natAbs.log2 + 4 ≤ 200; omega, by simp [PyData.showable]; omega⟩
/-- a list of lo to hi things, each P -/
def Ls (lo hi : Nat) (P : PyData → Prop) (d : PyData) : Prop := ∃ ds, d = .list ds ∧ lo ≤ ds.length ∧ ds.length ≤ hi ∧ ∀ x ∈ ds, P x
def Tp (n : Nat) (P : PyData → Prop) (d : PyData) : Prop := ∃ ds, d = .tuple ds ∧ ds.length ≤ n ∧ ∀ x ∈ ds, P x
/-! ### evaluation where nothing but the reel changes -/
abbrev Gam := List (V × PyData)
def GOk (W : Addr → Prop) (H : Hp) (G : Gam) : Prop := ∀ p ∈ G, Rp (Hw W H) p.1 p.2
theorem GOk.mv {r : Addr} {W : Addr → Prop} {H H' : Hp} {G : Gam} (g : GOk W H G) (m : Mv r H H') (h : W r) : GOk W H' G := fun p hp => Rp.sm (m.hw h) (g p hp)
theorem GOk.cons {W : Addr → Prop} {H : Hp} {G : Gam} {v : V} {d : PyData} (g : GOk W H G) (h : Rp (Hw W H) v d) : GOk W H ((v, d) :: G) := fun p hp => by
  rcases List.mem_cons.mp hp with e | hp
  · rw [e]; exact h
  · exact g p hp
structure Se (r : Addr) (W : Addr → Prop) (G : Gam) (H : Hp) : Prop where
  re : ReelAt H r
  wk : Wk W H r
  ok : GOk W H G
theorem Se.mv {r : Addr} {W : Addr → Prop} {G : Gam} {H H' : Hp} (s : Se r W G H) (re : ReelAt H' r) (m : Mv r H H') : Se r W G H' := ⟨re, s.wk.mv re m, s.ok.mv m s.wk.reel⟩
theorem Se.same {r : Addr} {W : Addr → Prop} {G : Gam} {H H' : Hp} (s : Se r W G H) (m : Same H H') : Se r W G H' := s.mv (s.re.same m) (Mv.of m)
section
variable {r : Addr} {W : Addr → Prop} {G : Gam} {σ : L2.St}
def Ev (r : Addr) (W : Addr → Prop) (G : Gam) (σ : L2.St) (te : TE) (P : PyData → Prop) : Prop := ∀ H Q, Se r W G H → (∀ v d H', ReelAt H' r → Mv r H H' → Rp (Hw W H') v d → P d → Q v H') → te σ H Q
def EvI (r : Addr) (W : Addr → Prop) (G : Gam) (σ : L2.St) (te : TE) (P : Int → Prop) : Prop := ∀ H Q, Se r W G H → (∀ i H', ReelAt H' r → Mv r H H' → P i → Q (.int i) H') → te σ H Q
def EvA (r : Addr) (W : Addr → Prop) (G : Gam) (σ : L2.St) (ta : TA) (n : Nat) (P : PyData → Prop) : Prop := ∀ H Q, Se r W G H → (∀ vs ds H', ReelAt H' r → Mv r H H' → RpAll (Hw W H') vs ds → ds.length = n → (∀ x ∈ ds, P x) → Q vs H') → ta σ H Q
theorem Ev.imp {te : TE} {P P' : PyData → Prop} (e : Ev r W G σ te P) (h : ∀ d, P d → P' d) : Ev r W G σ te P' := fun H Q s q => e H Q s fun v d H' re m rp p => q v d H' re m rp (h d p)
theorem EvI.imp {te : TE} {P P' : Int → Prop} (e : EvI r W G σ te P) (h : ∀ d, P d → P' d) : EvI r W G σ te P' := fun H Q s q => e H Q s fun i H' re m p => q i H' re m (h i p)
theorem EvI.ev {te : TE} {P : Int → Prop} {P' : PyData → Prop} (e : EvI r W G σ te P) (h : ∀ i, P i → P' (.int i)) : Ev r W G σ te P' := fun H Q s q => e H Q s fun i H' re m p => q _ _ H' re m (.int i) (h i p)
theorem ev_int {i : Int} : EvI r W G σ (tC (.int i)) (· = i) := fun H Q s q => q i H s.re (Mv.refl r H) rfl
theorem ev_non {P : PyData → Prop} (h : P .none) : Ev r W G σ (tC .non) P := fun H Q s q => q _ _ H s.re (Mv.refl r H) .non h
theorem ev_bl {b : Bool} {P : PyData → Prop} (h : P (.bool b)) : Ev r W G σ (tC (.bl b)) P := fun H Q s q => q _ _ H s.re (Mv.refl r H) (.bl b) h
theorem ev_str {x : Str} {P : PyData → Prop} (h : P (.str x)) : Ev r W G σ (tC (.str x)) P := fun H Q s q => q _ _ H s.re (Mv.refl r H) (.str x) h
theorem ev_var {i : Nat} {v : V} {d : PyData} {P : PyData → Prop} (h1 : σ[i]? = some (some v)) (h2 : (v, d) ∈ G) (h : P d) : Ev r W G σ (tVar i) P := fun H Q s q => ⟨v, h1, q v d H s.re (Mv.refl r H) (s.ok _ h2) h⟩
theorem ev_varI {i : Nat} {x : Int} (h1 : σ[i]? = some (some (.int x))) : EvI r W G σ (tVar i) (· = x) := fun H Q s q => ⟨.int x, h1, q x H s.re (Mv.refl r H) rfl⟩
theorem eva_nil {P : PyData → Prop} : EvA r W G σ tNil 0 P := fun H Q s q => q [] [] H s.re (Mv.refl r H) .nil rfl (fun _ h => nomatch h)
theorem eva_cons {te : TE} {ta : TA} {n : Nat} {P : PyData → Prop} (e : Ev r W G σ te P) (a : EvA r W G σ ta n P) : EvA r W G σ (tCons te ta) (n + 1) P := fun H Q s q =>
  e H _ s fun v d H1 re1 m1 rp1 p1 => a H1 _ (s.mv re1 m1) fun vs ds H2 re2 m2 rp2 l2 p2 => q (v :: vs) (d :: ds) H2 re2 (m1.trans m2) (.cons (Rp.sm (m2.hw s.wk.reel) rp1) rp2) (by rw [List.length_cons, l2]) fun x hx => by
    rcases List.mem_cons.mp hx with z | z
    · rw [z]; exact p1
    · exact p2 x z
theorem ev_lst {ta : TA} {n : Nat} {P : PyData → Prop} (a : EvA r W G σ ta n P) (hn : n ≤ 1000 := by decide) : Ev r W G σ (tLst ta) (Ls n n P) := fun H Q s q =>
  a H _ s fun vs ds H1 re1 m1 rp1 l1 p1 => ⟨small_le (by rw [rp1.length]; omega), fun p np => q (.ref p) (.list ds) _ (re1.same (same_upd np)) (m1.trans (Mv.of (same_upd np)))
    (.lst (by rw [Hw.at ((s.wk.mv re1 m1).out np)]; exact upd_same) (RpAll.sm (Same.hw (same_upd np)) rp1)) ⟨ds, rfl, Nat.le_of_eq l1.symm, Nat.le_of_eq l1, p1⟩⟩
theorem ev_tup {ta : TA} {n : Nat} {P : PyData → Prop} (a : EvA r W G σ ta n P) (hn : n ≤ 1000 := by decide) : Ev r W G σ (tTup ta) (Tp n P) := fun H Q s q =>
  a H _ s fun vs ds H1 re1 m1 rp1 l1 p1 => ⟨small_le (by rw [rp1.length]; omega), fun p np => q (.ref p) (.tuple ds) _ (re1.same (same_upd np)) (m1.trans (Mv.of (same_upd np)))
    (.tup (by rw [Hw.at ((s.wk.mv re1 m1).out np)]; exact upd_same) (RpAll.sm (Same.hw (same_upd np)) rp1)) ⟨ds, rfl, Nat.le_of_eq l1, p1⟩⟩
theorem rp_list {H : Hp} {v : V} {ds : List PyData} (h : Rp H v (.list ds)) : ∃ p xs, v = .ref p ∧ H p = some (.lst xs) ∧ RpAll H xs ds := by
  cases h with
  | lst h1 h2 => exact ⟨_, _, rfl, h1, h2⟩
theorem ev_cat {ta tb : TE} {l1 h1 l2 h2 : Nat} {P : PyData → Prop} (a : Ev r W G σ ta (Ls l1 h1 P)) (b : Ev r W G σ tb (Ls l2 h2 P)) (hn : h1 ≤ 1000 := by decide) (hm : h2 ≤ 1000 := by decide) : Ev r W G σ (tOp rCat ta tb) (Ls (l1 + l2) (h1 + h2) P) := fun H Q s q =>
  a H _ s fun v d H1 re1 m1 rp1 ⟨ds, e1, a1, b1, p1⟩ => b H1 _ (s.mv re1 m1) fun v2 d2 H2 re2 m2 rp2 ⟨es, e2, a2, b2, p2⟩ => by
    subst e1 e2
    obtain ⟨p, xs, rfl, hp, hx⟩ := rp_list (Rp.sm (m2.hw s.wk.reel) rp1)
    obtain ⟨p', ys, rfl, hp', hy⟩ := rp_list rp2
    refine ⟨p, p', xs, ys, rfl, rfl, Hw.sub W H2 _ _ hp, Hw.sub W H2 _ _ hp', small_add (by rw [hx.length]; omega) (by rw [hy.length]; omega), fun t nt => q (.ref t) (.list (ds ++ es)) _ (re2.same (same_upd nt)) ((m1.trans m2).trans (Mv.of (same_upd nt)))
      (.lst (by rw [Hw.at ((s.wk.mv re2 (m1.trans m2)).out nt)]; exact upd_same) (RpAll.sm (Same.hw (same_upd nt)) (hx.append hy))) ⟨ds ++ es, rfl, by rw [List.length_append]; omega, by rw [List.length_append]; omega, fun x hx => (List.mem_append.mp hx).elim (p1 x) (p2 x)⟩⟩
theorem RpAll.drop {H : Hp} : ∀ {vs : List V} {ds : List PyData} (n : Nat), RpAll H vs ds → RpAll H (vs.drop n) (ds.drop n)
  | _, _, 0, h => h
  | _, _, _ + 1, .nil => .nil
  | _, _, n + 1, .cons _ t => RpAll.drop n t
theorem ev_sl {K : PySem.W.Frag} {te : TE} {tl th : TO} {lo hi : Nat} {P : PyData → Prop} (a : Ev r W G σ te (Ls lo hi P)) (hl : ∀ H Q, Se r W G H → (∀ l H', ReelAt H' r → Mv r H H' → Q l H') → tl σ H Q) (hh : ∀ H Q, Se r W G H → (∀ l H', ReelAt H' r → Mv r H H' → Q l H') → th σ H Q) :
    Ev r W G σ (tSl (rSlL K) te tl th) (Ls 0 hi P) := fun H Q s q =>
  a H _ s fun v d H1 re1 m1 rp1 ⟨ds, e1, a1, b1, p1⟩ => hl H1 _ (s.mv re1 m1) fun l H2 re2 m2 => hh H2 _ (s.mv re2 (m1.trans m2)) fun u H3 re3 m3 => by
    subst e1
    obtain ⟨p, xs, rfl, hp, hx⟩ := rp_list (Rp.sm ((m2.trans m3).hw s.wk.reel) rp1)
    have m13 := m1.trans (m2.trans m3)
    refine ⟨p, xs, rfl, SqL.of (Hw.sub W H3 _ _ hp), fun t nt => q (.ref t) (.list ((ds.drop (HT.sIx xs.length 0 l)).take (HT.sIx xs.length xs.length u - HT.sIx xs.length 0 l))) _ (re3.same (same_upd nt)) (m13.trans (Mv.of (same_upd nt)))
      (.lst (by rw [Hw.at ((s.wk.mv re3 m13).out nt)]; exact upd_same) (RpAll.sm (Same.hw (same_upd nt)) ((hx.drop _).take _))) ⟨_, rfl, Nat.zero_le _, ?_, fun x hx => p1 x (List.mem_of_mem_drop (List.mem_of_mem_take hx))⟩⟩
    rw [List.length_take, List.length_drop]
    omega
theorem part_none : ∀ H (Q : Option Int → Hp → Prop), Se r W G H → (∀ l H', ReelAt H' r → Mv r H H' → Q l H') → tNoPart σ H Q := fun H Q s q => q none H s.re (Mv.refl r H)
theorem part_some {te : TE} {P : Int → Prop} (e : EvI r W G σ te P) : ∀ H (Q : Option Int → Hp → Prop), Se r W G H → (∀ l H', ReelAt H' r → Mv r H H' → Q l H') → tPart te σ H Q := fun H Q s q => e H _ s fun i H' re m _ => ⟨i, rfl, q (some i) H' re m⟩
theorem ev_draw {tm : TE} {m : Int} (e : EvI r W G σ tm (· = m)) (h0 : σ[0]? = some (some (.ref r))) (h1 : 1 ≤ m) (h2 : m < 2 ^ 140) : EvI r W G σ (tCall (spDraw r) [] E0 (tCons (tVar 0) (tCons tm tNil))) (fun x => 0 ≤ x ∧ x < m) := fun H Q s q =>
  ⟨.ref r, h0, e H _ s fun i H1 re1 m1 e1 => ⟨m, by rw [e1]; rfl, re1, h1, h2, fun x H' re' m' x0 x1 => q x H' re' (m1.trans m') ⟨x0, x1⟩⟩⟩
theorem ev_ix {K : PySem.W.Frag} {ta ti : TE} {lo hi : Nat} {P : PyData → Prop} (a : Ev r W G σ ta (Ls lo hi P)) (b : EvI r W G σ ti (fun x => 0 ≤ x ∧ x < (lo : Int))) : Ev r W G σ (tOp (rIxL K) ta ti) P := fun H Q s q =>
  a H _ s fun v d H1 re1 m1 rp1 ⟨ds, e1, a1, b1, p1⟩ => b H1 _ (s.mv re1 m1) fun i H2 re2 m2 hi => by
    subst e1
    obtain ⟨p, xs, rfl, hp, hx⟩ := rp_list (Rp.sm (m2.hw s.wk.reel) rp1)
    obtain ⟨j, rfl⟩ : ∃ j : Nat, i = (j : Int) := ⟨i.toNat, (Int.toNat_of_nonneg hi.1).symm⟩
    have hj : j < xs.length := by have := hx.length; omega
    obtain ⟨d, hd, hr⟩ := hx.get (List.getElem?_eq_getElem hj)
    exact ⟨p, xs, j, xs[j], rfl, rfl, SqL.of (Hw.sub W H2 _ _ hp), atI_nat (List.getElem?_eq_getElem hj), q _ d H2 re2 (m1.trans m2) hr (p1 d (List.mem_of_getElem? hd))⟩
theorem ev_rep {ta ti : TE} {lo hi : Nat} {k : Nat} {P : PyData → Prop} (a : Ev r W G σ ta (Ls lo hi P)) (b : EvI r W G σ ti (fun x => x ≤ (k : Int) ∧ -1000 ≤ x)) (h1 : hi ≤ 1000 := by decide) (hk : hi * k ≤ 1000 := by decide) (hk2 : k ≤ 1000 := by decide) : Ev r W G σ (tOp rRep ta ti) (Ls 0 (hi * k) P) := fun H Q s q =>
  a H _ s fun v d H1 re1 m1 rp1 ⟨ds, e1, a1, b1, p1⟩ => b H1 _ (s.mv re1 m1) fun i H2 re2 m2 hi' => by
    subst e1
    obtain ⟨p, xs, rfl, hp, hx⟩ := rp_list (Rp.sm (m2.hw s.wk.reel) rp1)
    have hl := hx.length
    have kk : i.toNat ≤ k := by omega
    have hmul : xs.length * i.toNat ≤ hi * k := Nat.mul_le_mul (by omega) kk
    have rep : ∀ n : Nat, RpAll (Hw W H2) (List.replicate n xs).flatten (List.replicate n ds).flatten := fun n => by
      induction n with
      | zero => exact .nil
      | succ n ih =>
        rw [List.replicate_succ, List.replicate_succ, List.flatten_cons, List.flatten_cons]
        exact hx.append ih
    refine ⟨p, i, xs, rfl, rfl, Hw.sub W H2 _ _ hp, by omega, by omega, small_le (by omega), fun t nt => q (.ref t) (.list (List.replicate i.toNat ds).flatten) _ (re2.same (same_upd nt)) ((m1.trans m2).trans (Mv.of (same_upd nt)))
      (.lst (by rw [Hw.at ((s.wk.mv re2 (m1.trans m2)).out nt)]; exact upd_same) (RpAll.sm (Same.hw (same_upd nt)) (rep _))) ⟨_, rfl, Nat.zero_le _, ?_, fun x hx => ?_⟩⟩
    · have := (rep i.toNat).length
      rw [← this]
      rw [List.length_flatten, List.map_replicate, List.sum_replicate_nat]
      rw [Nat.mul_comm]
      exact hmul
    · obtain ⟨l, hl, hxl⟩ := List.mem_flatten.mp hx
      rw [(List.mem_replicate.mp hl).2] at hxl
      exact p1 x hxl
theorem ev_len {K : PySem.W.Frag} {i : Nat} {v : V} {ds : List PyData} (h1 : σ[i]? = some (some v)) (h2 : (v, PyData.list ds) ∈ G) :
    EvI r W G σ (tCB (fun xs H Q => ∃ p ys, xs = [.ref p] ∧ (SqL K H p ys ∨ SqT K H p ys) ∧ Q (.int ys.length) H) (tCons (tVar i) tNil)) (· = (ds.length : Int)) := fun H Q s q => by
  obtain ⟨p, xs, rfl, hp, hx⟩ := rp_list (s.ok _ h2)
  exact ⟨.ref p, h1, p, xs, rfl, .inl (SqL.of (Hw.sub W H _ _ hp)), q _ H s.re (Mv.refl r H) (by rw [hx.length])⟩
theorem evi_add {ta tb : TE} {x y : Int} (a : EvI r W G σ ta (· = x)) (b : EvI r W G σ tb (· = y)) : EvI r W G σ (tOp (rI0 fun i j => .int (i + j)) ta tb) (· = x + y) := fun H Q s q =>
  a H _ s fun i H1 re1 m1 e1 => b H1 _ (s.mv re1 m1) fun j H2 re2 m2 e2 => ⟨i, j, rfl, rfl, q _ H2 re2 (m1.trans m2) (by rw [e1, e2])⟩
theorem evi_sub {ta tb : TE} {x y : Int} (a : EvI r W G σ ta (· = x)) (b : EvI r W G σ tb (· = y)) : EvI r W G σ (tOp (rI0 fun i j => .int (i - j)) ta tb) (· = x - y) := fun H Q s q =>
  a H _ s fun i H1 re1 m1 e1 => b H1 _ (s.mv re1 m1) fun j H2 re2 m2 e2 => ⟨i, j, rfl, rfl, q _ H2 re2 (m1.trans m2) (by rw [e1, e2])⟩
theorem evi_pow {x y : Int} (h : CPow x y) : EvI r W G σ (tOp (rI CPow fun i j => .int (i ^ j.toNat)) (tC (.int x)) (tC (.int y))) (· = x ^ y.toNat) := fun H Q s q =>
  ⟨x, y, rfl, rfl, h, q _ H s.re (Mv.refl r H) rfl⟩
theorem evi_neg {x : Int} : EvI r W G σ (tUn (rU fun i => .int (-i)) (tC (.int x))) (· = -x) := fun H Q s q => ⟨x, rfl, q _ H s.re (Mv.refl r H) rfl⟩
theorem ev_set {te : TE} {i : Nat} {P : PyData → Prop} {D : Ends} {H : Hp} (e : Ev r W G σ te P) (s : Se r W G H) (h : ∀ v d H', Se r W ((v, d) :: G) H' → Mv r H H' → P d → D.nx (σ.set i (some v)) H') : tAsg te (gName i) D σ H :=
  e H _ s fun v d H' re m rp p => h v d H' ⟨re, s.wk.mv re m, (s.ok.mv m s.wk.reel).cons rp⟩ m p
theorem evi_set {te : TE} {i : Nat} {P : Int → Prop} {D : Ends} {H : Hp} (e : EvI r W G σ te P) (s : Se r W G H) (h : ∀ x H', Se r W G H' → Mv r H H' → P x → D.nx (σ.set i (some (.int x))) H') : tAsg te (gName i) D σ H :=
  e H _ s fun x H' re m p => h x H' (s.mv re m) m p
end
end CL
set_option Elab.async false
set_option linter.all false
set_option maxRecDepth 100000
set_option maxHeartbeats 4000000
namespace CL
open PySem PySem.Spec PyProof.Rows L2 GE
/-! ### a def that is called where no repr is under way -/
structure FnG (P : Program) (w : World) (K : PySem.W.Frag) (mg : Str → Option Value) (base : Heap) (k : Nat) (f : Addr) (fd : FuncData) (ps : List Str) (sp : Sp) : Prop where
  run : ∀ (A : Around) (outer : List Env) (s : Shared) (H : Hp) (args : Args) (us : List Value) (vs : List V) (Q : VK) (E : XK), A.guards = some [] → Room k A → Env0 P w K mg base A outer s H → BindsTo s fd args (ps.zip us) → Vals vs us → sp vs H Q E →
    codeAny (model P w) A (.call (.ref f) args) (CR CX0 outer P w H s Q E) s
theorem fng_of {P : Program} {w : World} {K : PySem.W.Frag} {mg : Str → Option Value} {base : Heap} {x qual : Str} {st : Stmt} {f : Addr} {fd : FuncData} {N ps : List Str} {k : Nat} {sp : Sp} (F : Fun K x qual st f fd) (S : FnScope N ps (defScope st)) (len : ∀ vs H Q E, sp vs H Q E → vs.length = ps.length)
    (hbody : ∀ (cdv : Value) (A : Around) (outer : List Env) (s : Shared) (H : Hp) (vs : List V) (Q : VK) (E : XK), A.guards = some [] → Room k (A.deeper (envOfC qual (defScope st) s.heap.objs.size f cdv)) → sp vs H Q E →
      ∃ t, PSs (cxOf CX0 P w K mg base N qual (defScope st) f cdv A outer s H E).nox (defBody st) t ∧ t { nx := fun _ H' => Q .non H', rt := Q } (start N vs) H) : FnG P w K mg base (k + 1) f fd ps sp := by
  obtain ⟨oc, od, kV, doc, pm, an, cdv, ct, osl, rfl, lk, hcd⟩ := F.ex
  constructor
  intro A outer s H args us vs Q E hgd hr e0 hb r hsp
  have hl : vs.length = ps.length := len _ _ _ _ hsp
  have up : ∀ b o, base.get? b = some o → s.heap.get? b = some o := fun b o e => (e0.bs b o e).1
  have KX : K.In s.heap := e0.mod.kin.keeps up
  have pk : ∀ y ∈ ps.zip us, (defScope st).names.lookup y.1 = some .local ∨ ((defScope st).names.lookup y.1 = some .cell ∧ ((cellsFrom (s.heap.objs.size + 1) (defScope st).names []).lookup y.1).isSome = true) := by
    rintro ⟨n, v⟩ hy
    exact (S.par n (List.of_mem_zip hy).1).imp id fun q => ⟨q, PySem.W.cellsFrom_some _ _ _ (.inl q)⟩
  refine codeAny_call_function hr.depth (KX _ _ lk) rfl S.co S.gen rfl (PySem.W.codeRec_of KX hcd) (hb _ _ _ _ (wpAny_newFunctionEnv_cells S.kind pk fun env he s1 x => ?_))
  subst he
  obtain ⟨t, ht, hq⟩ := hbody cdv A outer s H vs Q E hgd (hr.deeper _) hsp
  refine ⟨(e0.mod.nolimit.keeps up).keeps x.toInCall.keep, codeAny_func (wpAny_mono (ht.nox.run [] s1 (start N vs) H _ (inv_start S hr.hd e0 hl r x) hq) (fun fl s' hs => ?_) fun _ _ z => z)⟩
  cases fl with
  | ret u =>
    obtain ⟨v, _, H', J, rv, z⟩ := hs
    exact ⟨v, H', J.os, J.bare, J.base, J.hok, rv, z⟩
  | next =>
    obtain ⟨_, H', J, z⟩ := hs
    exact ⟨.non, H', J.os, J.bare, J.base, J.hok, rfl, z⟩
  | brk => exact (let ⟨_, _, _, z⟩ := hs; z : False).elim
  | cont => exact (let ⟨_, _, _, z⟩ := hs; z : False).elim
/-! ### repr of data -/
section
variable {X : Cx} {pins : List (Addr × Obj)} {σ : L2.St} {H : Hp} {s : Shared}
mutual
theorem Rp.reads (hsys : ∃ o, X.base.get? sysModules = some o) (I : Inv X pins σ H s) : ∀ (d : PyData) (v : V) (u : Value), Rp H v d → RelV v u → ∃ as, Reads s.heap u d as ∧ sysModules ∉ as
  | .none, _, _, h, r => by cases h; cases r; exact ⟨_, Reads.none, by simp⟩
  | .bool b, _, _, h, r => by cases h; cases r; exact ⟨_, Reads.bool b, by simp⟩
  | .int i, _, _, h, r => by cases h; obtain ⟨t, rfl⟩ := r; exact ⟨_, Reads.int i t, by simp⟩
  | .str x, _, _, h, r => by cases h; obtain ⟨t, rfl⟩ := r; exact ⟨_, Reads.str x t, by simp⟩
  | .list ds, _, _, h, r => by
    cases h with
    | @lst a xs _ hs ha =>
      cases r
      obtain ⟨its, rv, ⟨o, n, ho, hc, _, hd⟩, _⟩ := I.list (SqL.of hs)
      obtain ⟨as, hr, hn⟩ := RpAll.reads hsys I ds _ its ha rv
      refine ⟨_, Reads.list ho hc hd hr, fun z => (List.mem_cons.mp z).elim (fun e => ?_) hn⟩
      obtain ⟨o1, ho1⟩ := hsys
      have z := (I.bs _ _ ho1).2
      rw [e, hs] at z
      cases z
  | .tuple ds, _, _, h, r => by
    cases h with
    | tup hs ha =>
      cases r
      obtain ⟨its, rv, ⟨o, ho, hc, n, hd⟩, _⟩ := I.tuple (SqT.of hs)
      obtain ⟨as, hr, hn⟩ := RpAll.reads hsys I ds _ its ha rv
      exact ⟨_, Reads.tuple ho hc hd hr, hn⟩
  | .dict kvs, _, _, h, r => by
    cases h with
    | @dct a hs =>
      cases r
      obtain ⟨_, hne, vs, kv, o, es, ep, ho, hx, hd, _, hp, _⟩ := (show ObjOk X.prog X.w H s.heap a (.dK []) from I.hok a _ hs)
      cases kv
      have e0 : es.toList = [] := List.eq_nil_of_length_eq_zero hp.length
      refine ⟨_, Reads.dict ho hx.1 hd (by rw [e0]; exact .nil) (by rw [e0]; exact .nil), fun z => ?_⟩
      have z' : sysModules = a := by simpa using z
      rw [z'] at hne
      simp at hne
theorem RpAll.reads (hsys : ∃ o, X.base.get? sysModules = some o) (I : Inv X pins σ H s) : ∀ (ds : List PyData) (vs : List V) (us : List Value), RpAll H vs ds → Vals vs us → ∃ as, ReadsAll s.heap us ds as ∧ sysModules ∉ as
  | [], _, _, h, r => by cases h; cases r; exact ⟨_, ReadsAll.nil, by simp⟩
  | d :: ds, _, _, h, r => by
    cases h with
    | cons h1 h2 =>
      cases r with
      | cons r1 r2 =>
        obtain ⟨as, q1, n1⟩ := Rp.reads hsys I d _ _ h1 r1
        obtain ⟨bs, q2, n2⟩ := RpAll.reads hsys I ds _ _ h2 r2
        exact ⟨_, ReadsAll.cons q1 q2, fun z => (List.mem_append.mp z).elim n1 n2⟩
end
end
/-! ### how long a thing is, shown -/
theorem piled_le {ts : List Str} : ∀ {ds : List PyData}, ts = PyData.shownAll ds → (∀ d ∈ ds, d.shown.length ≤ wt d) → piled ts ≤ wtAll ds
  | [], e, _ => by rw [e]; exact Nat.le_refl 0
  | d :: ds, e, h => by
    have ih := piled_le (ts := PyData.shownAll ds) rfl fun x hx => h x (List.mem_cons_of_mem _ hx)
    have h1 := h d List.mem_cons_self
    rw [e]
    show d.shown.length + 2 + piled (PyData.shownAll ds) ≤ wt d + 2 + wtAll ds
    omega
theorem list_len (ts : List Str) : (listText ts).length ≤ piled ts + 2 := by
  cases ts with
  | nil => decide +kernel
  | cons t r =>
    have h := textFrom_length_pos r 1 (("[" : Str) ++ (if (0 : Nat) > 0 then ", " else "" : String) ++ t) (Nat.succ_pos 0)
    have hX : (listText (t :: r)).length = (textFrom 1 (("[" : Str) ++ (if (0 : Nat) > 0 then ", " else "" : String) ++ t) r).length + 1 := by
      show (textFrom 1 _ r ++ "]").length = _
      rw [Str.length_append]
      rfl
    have e1 : ((("[" : Str) ++ (if (0 : Nat) > 0 then ", " else "" : String) ++ t) : Str).length = 1 + t.length := by
      rw [Str.length_append, Str.length_append]
      rfl
    have e2 : piled (t :: r) = t.length + 2 + piled r := rfl
    omega
theorem tuple_len (ts : List Str) : (tupleText ts).length ≤ piled ts + 3 := by
  have h : (Str.join ", " ts).length ≤ piled ts := by
    by_cases e : ts = []
    · rw [e]; decide +kernel
    · have := join_length_add ts e
      omega
  unfold tupleText
  rw [Str.length_append, Str.length_append]
  have h1 : (("(" : Str)).length = 1 := by decide +kernel
  have h2 : ((if ts.length == 1 then ",)" else ")" : String) : Str).length ≤ 2 := by
    split <;> decide +kernel
  omega
mutual
theorem shown_le : ∀ d : PyData, wt d ≤ 10000000 → d.showable = true → d.shown.length ≤ wt d
  | .none, _, _ => by decide +kernel
  | .bool b, _, _ => by cases b <;> decide +kernel
  | .int i, _, _ => by
    have h := int_text_length_le (a := i) (k := i.natAbs.log2 + 1) (Nat.succ_pos _) (Nat.lt_succ_self _)
    show (Str.ofString (toString i)).length ≤ i.natAbs.log2 + 4
    rw [PySem.ofString_length]
    omega
  | .str x, _, _ => Nat.le_refl _
  | .list ds, h, s => by
    have h1 := shown_all ds (by have : wt (.list ds) = wtAll ds + 4 := rfl; omega) (by simpa [PyData.showable] using s)
    have h2 := piled_le rfl h1
    have h3 := list_len (PyData.shownAll ds)
    show (listText (PyData.shownAll ds)).length ≤ wtAll ds + 4
    omega
  | .tuple ds, h, s => by
    have h1 := shown_all ds (by have : wt (.tuple ds) = wtAll ds + 4 := rfl; omega) (by simpa [PyData.showable] using s)
    have h2 := piled_le rfl h1
    have h3 := tuple_len (PyData.shownAll ds)
    show (tupleText (PyData.shownAll ds)).length ≤ wtAll ds + 4
    omega
  | .dict [], _, _ => by decide +kernel
  | .dict (x :: kvs), h, _ => by
    have : wt (.dict (x :: kvs)) = (kvs.length + 1) * 100000000 + 2 := rfl
    omega
theorem shown_all : ∀ ds : List PyData, wtAll ds ≤ 10000000 → PyData.showableAll ds = true → ∀ d ∈ ds, d.shown.length ≤ wt d
  | [], _, _, d, hd => nomatch hd
  | x :: ds, h, s, d, hd => by
    have e : wtAll (x :: ds) = wt x + 2 + wtAll ds := rfl
    have s' : x.showable = true ∧ PyData.showableAll ds = true := by simpa [PyData.showableAll] using s
    rcases List.mem_cons.mp hd with z | z
    · rw [z]
      exact shown_le x (by omega) s'.1
    · exact shown_all ds (by omega) s'.2 d z
end
/-! ### repr(x) of a list or a tuple -/
theorem call_reprD {X : Cx} {k : Nat} (hg : X.A.guards = some []) (hr : Room k X.A) (hsys : ∃ o, X.base.get? sysModules = some o) :
    CallR X (.builtin "repr") (fun xs H Q => ∃ v d a, xs = [v] ∧ v = .ref a ∧ Rp H v d ∧ B 100 10000000 d ∧ Q (.str d.shown) H) := by
  intro pins s σ H xs us Q I r h
  obtain ⟨v, d, a, rfl, rfl, hR, hB, q⟩ := h
  obtain ⟨u, rfl, rx⟩ := vals1 r
  obtain ⟨as, hrd, hno⟩ := Rp.reads hsys I d _ _ hR rx
  cases rx
  refine repr_of_reads' hrd hB.sh (fun _ => hno) hg (by have := hr.un; have := hB.dp; omega) (fun _ _ e => e) (fun h' u tk hk => ⟨.str _, H, I.kept hk, ⟨_, rfl⟩, q⟩) ?_
  have h1 := shown_le d hB.wt hB.sh
  have h2 := hB.wt
  rw [sizeLine_eq]
  omega
end CL
set_option Elab.async false
set_option linter.all false
set_option maxRecDepth 100000
set_option maxHeartbeats 4000000
namespace CL
open PySem PySem.Spec PyProof.Rows L2 GE
section
variable {r : Addr} {W : Addr → Prop} {G : Gam} {σ : L2.St}
def EvX (r : Addr) (W : Addr → Prop) (G : Gam) (σ : L2.St) (te : TE) (d : PyData) : Prop := Ev r W G σ te (· = d)
def EvXs (r : Addr) (W : Addr → Prop) (G : Gam) (σ : L2.St) (ta : TA) (ds : List PyData) : Prop := ∀ H Q, Se r W G H → (∀ vs H', ReelAt H' r → Mv r H H' → RpAll (Hw W H') vs ds → Q vs H') → ta σ H Q
theorem xi {te : TE} {n : Int} (e : EvI r W G σ te (· = n)) : EvX r W G σ te (.int n) := e.ev fun i h => by rw [h]
theorem xi_neg {te : TE} {n : Int} (e : EvI r W G σ te (· = n)) : EvI r W G σ (tUn (rU fun i => .int (-i)) te) (· = -n) := fun H Q s q => e H _ s fun i H' re m h => ⟨i, rfl, q _ H' re m (by rw [h])⟩
theorem x_non : EvX r W G σ (tC .non) .none := ev_non rfl
theorem x_bl {b : Bool} : EvX r W G σ (tC (.bl b)) (.bool b) := ev_bl rfl
theorem x_str {x : Str} : EvX r W G σ (tC (.str x)) (.str x) := ev_str rfl
theorem x_var {i : Nat} {v : V} {d : PyData} (h1 : σ[i]? = some (some v)) (h2 : (v, d) ∈ G) : EvX r W G σ (tVar i) d := ev_var h1 h2 rfl
theorem x_dict : EvX r W G σ tDNewK (.dict []) := fun H Q s q => fun p np => q (.ref p) (.dict []) _ (s.re.same (same_upd np)) (Mv.of (same_upd np)) (.dct (by rw [Hw.at (s.wk.out np)]; exact upd_same)) rfl
theorem xs_nil : EvXs r W G σ tNil [] := fun H Q s q => q [] H s.re (Mv.refl r H) .nil
theorem xs_cons {te : TE} {ta : TA} {d : PyData} {ds : List PyData} (e : EvX r W G σ te d) (a : EvXs r W G σ ta ds) : EvXs r W G σ (tCons te ta) (d :: ds) := fun H Q s q =>
  e H _ s fun v d' H1 re1 m1 rp1 p1 => a H1 _ (s.mv re1 m1) fun vs H2 re2 m2 rp2 => q (v :: vs) H2 re2 (m1.trans m2) (.cons (by rw [← p1]; exact Rp.sm (m2.hw s.wk.reel) rp1) rp2)
theorem x_lst {ta : TA} {ds : List PyData} (a : EvXs r W G σ ta ds) (hn : ds.length ≤ 1000 := by first | decide | (simp only [List.length_cons, List.length_nil]; decide)) : EvX r W G σ (tLst ta) (.list ds) := fun H Q s q =>
  a H _ s fun vs H1 re1 m1 rp1 => ⟨small_le (by rw [rp1.length]; exact hn), fun p np => q (.ref p) (.list ds) _ (re1.same (same_upd np)) (m1.trans (Mv.of (same_upd np)))
    (.lst (by rw [Hw.at ((s.wk.mv re1 m1).out np)]; exact upd_same) (RpAll.sm (Same.hw (same_upd np)) rp1)) rfl⟩
theorem x_tup {ta : TA} {ds : List PyData} (a : EvXs r W G σ ta ds) (hn : ds.length ≤ 1000 := by first | decide | (simp only [List.length_cons, List.length_nil]; decide)) : EvX r W G σ (tTup ta) (.tuple ds) := fun H Q s q =>
  a H _ s fun vs H1 re1 m1 rp1 => ⟨small_le (by rw [rp1.length]; exact hn), fun p np => q (.ref p) (.tuple ds) _ (re1.same (same_upd np)) (m1.trans (Mv.of (same_upd np)))
    (.tup (by rw [Hw.at ((s.wk.mv re1 m1).out np)]; exact upd_same) (RpAll.sm (Same.hw (same_upd np)) rp1)) rfl⟩
theorem rp_rep {H : Hp} {xs : List V} {ds : List PyData} (hx : RpAll H xs ds) : ∀ n : Nat, RpAll H (List.replicate n xs).flatten (List.replicate n ds).flatten
  | 0 => .nil
  | n + 1 => by
    rw [List.replicate_succ, List.replicate_succ, List.flatten_cons, List.flatten_cons]
    exact hx.append (rp_rep hx n)
theorem x_rep (n : Nat) {ta : TE} {ds : List PyData} (a : EvX r W G σ ta (.list ds)) (h1 : ds.length * n ≤ 1000 := by decide) (h2 : n ≤ 1000 := by decide) : EvX r W G σ (tOp rRep ta (tC (.int (n : Int)))) (.list (List.replicate n ds).flatten) := fun H Q s q =>
  a H _ s fun v d H1 re1 m1 rp1 e1 => by
    subst e1
    obtain ⟨p, xs, rfl, hp, hx⟩ := rp_list rp1
    have hl := hx.length
    have e : ((n : Int)).toNat = n := rfl
    refine ⟨p, n, xs, rfl, rfl, Hw.sub W H1 _ _ hp, by omega, by omega, small_le (by rw [e, hl]; exact h1), fun t nt => q (.ref t) (.list (List.replicate n ds).flatten) _ (re1.same (same_upd nt)) (m1.trans (Mv.of (same_upd nt)))
      (.lst (by rw [Hw.at ((s.wk.mv re1 m1).out nt)]; exact upd_same) (RpAll.sm (Same.hw (same_upd nt)) (rp_rep hx n))) rfl⟩
theorem x_cat {ta tb : TE} {ds es : List PyData} (a : EvX r W G σ ta (.list ds)) (b : EvX r W G σ tb (.list es)) (hn : ds.length ≤ 1000 := by decide) (hm : es.length ≤ 1000 := by decide) : EvX r W G σ (tOp rCat ta tb) (.list (ds ++ es)) := fun H Q s q =>
  a H _ s fun v d H1 re1 m1 rp1 e1 => b H1 _ (s.mv re1 m1) fun v2 d2 H2 re2 m2 rp2 e2 => by
    subst e1 e2
    obtain ⟨p, xs, rfl, hp, hx⟩ := rp_list (Rp.sm (m2.hw s.wk.reel) rp1)
    obtain ⟨p', ys, rfl, hp', hy⟩ := rp_list rp2
    exact ⟨p, p', xs, ys, rfl, rfl, Hw.sub W H2 _ _ hp, Hw.sub W H2 _ _ hp', small_add (by rw [hx.length]; exact hn) (by rw [hy.length]; exact hm), fun t nt => q (.ref t) (.list (ds ++ es)) _ (re2.same (same_upd nt)) ((m1.trans m2).trans (Mv.of (same_upd nt)))
      (.lst (by rw [Hw.at ((s.wk.mv re2 (m1.trans m2)).out nt)]; exact upd_same) (RpAll.sm (Same.hw (same_upd nt)) (hx.append hy))) rfl⟩
/-- one of a list that is known -/
theorem x_ix {K : PySem.W.Frag} {ta ti : TE} {ds : List PyData} (a : EvX r W G σ ta (.list ds)) (b : EvI r W G σ ti (fun x => 0 ≤ x ∧ x < (ds.length : Int))) : Ev r W G σ (tOp (rIxL K) ta ti) (· ∈ ds) := fun H Q s q =>
  a H _ s fun v d H1 re1 m1 rp1 e1 => b H1 _ (s.mv re1 m1) fun i H2 re2 m2 hi => by
    subst e1
    obtain ⟨p, xs, rfl, hp, hx⟩ := rp_list (Rp.sm (m2.hw s.wk.reel) rp1)
    obtain ⟨j, rfl⟩ : ∃ j : Nat, i = (j : Int) := ⟨i.toNat, (Int.toNat_of_nonneg hi.1).symm⟩
    have hj : j < xs.length := by have := hx.length; omega
    obtain ⟨d, hd, hr⟩ := hx.get (List.getElem?_eq_getElem hj)
    exact ⟨p, xs, j, xs[j], rfl, rfl, SqL.of (Hw.sub W H2 _ _ hp), atI_nat (List.getElem?_eq_getElem hj), q _ d H2 re2 (m1.trans m2) hr (List.mem_of_getElem? hd)⟩
end

section
variable {r : Addr} {W : Addr → Prop} {G : Gam} {σ : L2.St}
theorem ev_catG {ta tb : TE} {PA PB PC : PyData → Prop} (a : Ev r W G σ ta PA) (b : Ev r W G σ tb PB) (h : ∀ d e, PA d → PB e → ∃ ds es, d = .list ds ∧ e = .list es ∧ ds.length ≤ 1000 ∧ es.length ≤ 1000 ∧ PC (.list (ds ++ es))) : Ev r W G σ (tOp rCat ta tb) PC := fun H Q s q =>
  a H _ s fun v d H1 re1 m1 rp1 e1 => b H1 _ (s.mv re1 m1) fun v2 d2 H2 re2 m2 rp2 e2 => by
    obtain ⟨ds, es, z1, z2, hn, hm, hc⟩ := h d d2 e1 e2
    subst z1 z2
    obtain ⟨p, xs, rfl, hp, hx⟩ := rp_list (Rp.sm (m2.hw s.wk.reel) rp1)
    obtain ⟨p', ys, rfl, hp', hy⟩ := rp_list rp2
    exact ⟨p, p', xs, ys, rfl, rfl, Hw.sub W H2 _ _ hp, Hw.sub W H2 _ _ hp', small_add (by rw [hx.length]; exact hn) (by rw [hy.length]; exact hm), fun t nt => q (.ref t) (.list (ds ++ es)) _ (re2.same (same_upd nt)) ((m1.trans m2).trans (Mv.of (same_upd nt)))
      (.lst (by rw [Hw.at ((s.wk.mv re2 (m1.trans m2)).out nt)]; exact upd_same) (RpAll.sm (Same.hw (same_upd nt)) (hx.append hy))) hc⟩
end
end CL
set_option Elab.async false
set_option linter.all false
set_option pp.maxSteps 500
set_option maxRecDepth 100000
set_option maxHeartbeats 4000000
namespace CL
open PySem PySem.Spec PyProof.Rows L2 GE
/-! ### how many the rows bring -/
/-- the last number by which people come, none without end -/
def lastPast (d : PyData) : Option Int := ((piecesOf d).getLast?).bind (·.2.1)
theorem lastPast_of {d : PyData} {ps : List PieceT} {pc : PieceT} (e : piecesOf d = ps ++ [pc]) : lastPast d = pc.2.1 := by
  unfold lastPast
  rw [e, List.getLast?_concat]
  rfl
def manyO : PyData → Option Int
  | .int m => some m
  | _ => none
def szs (rs : List RowT) : List (Option Int) := rs.map fun x => manyO x.2
def numsR (rs : List RowT) : List Int := (szs rs).filterMap id
def dueO (rs : List RowT) : Option Int := if (szs rs).any (·.isNone) = true then none else some (numsR rs).sum
theorem opts_some : ∀ {os : List (Option Int)}, os.any (·.isNone) = false → os.map optV = (os.filterMap id).map V.int
  | [], _ => rfl
  | none :: os, h => by cases h
  | some i :: os, h => by
    have ih := opts_some (os := os) h
    show V.int i :: os.map optV = V.int i :: (os.filterMap id).map V.int
    rw [ih]
theorem szs_nums {rs : List RowT} (h : (szs rs).any (·.isNone) = false) : (szs rs).map optV = (numsR rs).map V.int := opts_some h
theorem nums_sum : ∀ {rs : List RowT}, (∀ x ∈ rs, isMany x.2 = true) → (numsR rs).sum = sumW rs
  | [], _ => rfl
  | x :: rs, h => by
    have ih := nums_sum (rs := rs) fun y hy => h y (List.mem_cons_of_mem _ hy)
    have hx := h x List.mem_cons_self
    obtain ⟨t, m⟩ := x
    cases m with
    | int i =>
      show (i :: numsR rs).sum = i + sumW rs
      rw [List.sum_cons, ih]
    | none =>
      show (numsR rs).sum = 0 + sumW rs
      rw [ih]
      omega
    | _ => cases hx
theorem worth_nn {x : RowT} (h : isMany x.2 = true) : 0 ≤ worth x.2 := by
  obtain ⟨t, m⟩ := x
  cases m with
  | int i => exact of_decide_eq_true h
  | _ => exact Int.le_refl 0
theorem sumW_cons (x : RowT) (rs : List RowT) : sumW (x :: rs) = worth x.2 + sumW rs := rfl
theorem sumW_nn : ∀ {rs : List RowT}, (∀ x ∈ rs, isMany x.2 = true) → 0 ≤ sumW rs
  | [], _ => Int.le_refl 0
  | x :: rs, h => by
    have ih := sumW_nn (rs := rs) fun y hy => h y (List.mem_cons_of_mem _ hy)
    have := worth_nn (h x List.mem_cons_self)
    rw [sumW_cons]
    omega
theorem worth_le : ∀ {rs : List RowT}, (∀ x ∈ rs, isMany x.2 = true) → ∀ x ∈ rs, worth x.2 ≤ sumW rs
  | y :: rs, h, x, hx => by
    have h1 := worth_nn (h y List.mem_cons_self)
    have h2 := sumW_nn (rs := rs) fun y hy => h y (List.mem_cons_of_mem _ hy)
    rw [sumW_cons]
    rcases List.mem_cons.mp hx with e | hx
    · rw [e]; omega
    · have := worth_le (rs := rs) (fun y hy => h y (List.mem_cons_of_mem _ hy)) x hx
      omega
theorem fine_snoc {rs : List RowT} (f : Fine rs) : ∃ rs' x, rs = rs' ++ [x] ∧ (∀ y ∈ rs', isNone y.2 = false) := by
  have hl := f.lo
  have hne : rs ≠ [] := fun z => by rw [z] at hl; exact absurd hl (by decide)
  refine ⟨rs.dropLast, rs.getLast hne, (List.dropLast_concat_getLast hne).symm, fun y hy => f.last y ?_⟩
  rw [List.dropLast_eq_take] at hy
  exact hy
theorem rows_last {rs : List RowT} (f : Fine rs) : lastPast (.list (rs.map rowD)) = dueO rs ∧ (∀ s, dueO rs = some s → s = sumW rs) := by
  obtain ⟨rs', x, rfl, hno⟩ := fine_snoc f
  have hn := nums_sum fun y hy => (f.row y hy).many
  have gx := (f.row x (List.mem_append_right _ List.mem_cons_self)).many
  have hany : (szs (rs' ++ [x])).any (·.isNone) = (manyO x.2).isNone := by
    unfold szs
    rw [List.map_append, List.any_append]
    have z : (rs'.map fun y => manyO y.2).any (·.isNone) = false := by
      rw [List.any_eq_false]
      intro o ho
      obtain ⟨y, hy, rfl⟩ := List.mem_map.mp ho
      have h1 := hno y hy
      have h2 := (f.row y (List.mem_append_left _ hy)).many
      cases e2 : y.2 with
      | int m => exact Bool.false_ne_true
      | none => rw [e2] at h1; cases h1
      | _ => rw [e2] at h2; cases h2
    rw [z]
    simp
  have hp : piecesOf (.list ((rs' ++ [x]).map rowD)) = pcs 0 (rs'.map rowD) ++ [(0 + sumSnd (rs'.map rowD), pastO (0 + sumSnd (rs'.map rowD)) x.2, turnsD (rowD x))] := by
    show pcs 0 ((rs' ++ [x]).map rowD) = _
    rw [List.map_append]
    exact pcs_snoc 0 (rs'.map rowD) (rowD x)
  rw [lastPast_of hp]
  show pastO (0 + sumSnd (rs'.map rowD)) x.2 = _ ∧ _
  rw [sum_rows]
  cases ex : x.2 with
  | int m =>
    have e1 : dueO (rs' ++ [x]) = some (sumW (rs' ++ [x])) := by
      unfold dueO
      rw [hany, ex, hn]
      rfl
    rw [e1]
    refine ⟨?_, fun s e => (Option.some.inj e).symm⟩
    rw [sumW_snoc2, ex]
    show some (0 + sumW rs' + m) = some (sumW rs' + m)
    rw [Int.zero_add]
  | none =>
    have e1 : dueO (rs' ++ [x]) = none := by
      unfold dueO
      rw [hany, ex]
      rfl
    rw [e1]
    exact ⟨rfl, fun s e => by cases e⟩
  | _ => rw [ex] at gx; cases gx
theorem pdO_b {o : Option Int} (h : goodO o) {k : Nat} : B k 200 (pdO o) := by
  cases o with
  | none => exact b_none
  | some i =>
    have h1 : 0 ≤ i := h.1
    have h2 : i ≤ 1000000000000000000000000000000 := h.2
    exact b_int (by omega)
theorem rows_b {rs : List RowT} (f : Fine rs) : B 10 100000 (.list (rs.map rowD)) := by
  have hsum : sumW rs ≤ 1000000000000000000000000000000 := f.sum
  have one : ∀ d ∈ rs.map rowD, B 7 4000 d := fun d hd => by
    obtain ⟨x, hx, rfl⟩ := List.mem_map.mp hd
    have g := f.row x hx
    have hb : B 6 1700 (.list (x.1.map pdO)) := (B.list (k := 5) (u := 200) (n := 8) (fun y hy => by
      obtain ⟨o, ho, rfl⟩ := List.mem_map.mp hy
      exact pdO_b (g.pat o ho)) (by rw [List.length_map]; exact g.hi)).mono (Nat.le_refl _) (by decide)
    have hm : B 6 1700 x.2 := by
      have h1 := g.many
      have h2 := worth_le (fun y hy => (f.row y hy).many) x hx
      cases e : x.2 with
      | int m =>
        rw [e] at h1 h2
        have h3 : 0 ≤ m := of_decide_eq_true h1
        have h4 : m ≤ sumW rs := h2
        exact (b_int (k := 6) (by omega)).mono (Nat.le_refl _) (by decide)
      | none => exact (b_none (k := 6)).mono (Nat.le_refl _) (by decide)
      | _ => rw [e] at h1; cases h1
    exact (B.tuple (k := 6) (u := 1700) (n := 2) (ds := [.list (x.1.map pdO), x.2]) (fun y hy => by
      rcases List.mem_cons.mp hy with e | hy
      · rw [e]; exact hb
      · rw [List.mem_singleton.mp hy]; exact hm) (Nat.le_refl 2)).mono (Nat.le_refl _) (by decide)
  exact (B.list (n := 8) one (by rw [List.length_map]; exact f.hi)).mono (by decide) (by decide)

abbrev nTot : List Str := ["plan", "turn", "lot"]
def totR (rs : List RowT) : Int := (dueO rs).getD GREAT
theorem last_due {rs' : List RowT} {x : RowT} (f : Fine (rs' ++ [x])) : (dueO (rs' ++ [x])).isNone = isNone x.2 := by
  have h1 := f.last
  have gx := (f.row x (List.mem_append_right _ List.mem_cons_self)).many
  have hany : (szs (rs' ++ [x])).any (·.isNone) = (manyO x.2).isNone := by
    unfold szs
    rw [List.map_append, List.any_append]
    have z : (rs'.map fun y => manyO y.2).any (·.isNone) = false := by
      rw [List.any_eq_false]
      intro o ho
      obtain ⟨y, hy, rfl⟩ := List.mem_map.mp ho
      have h1 := h1 y (by rw [List.length_append, List.length_singleton, Nat.add_sub_cancel, List.take_left' rfl]; exact hy)
      have h2 := (f.row y (List.mem_append_left _ hy)).many
      cases e2 : y.2 with
      | int m => exact Bool.false_ne_true
      | none => rw [e2] at h1; cases h1
      | _ => rw [e2] at h2; cases h2
    rw [z]
    simp
  unfold dueO
  rw [hany]
  cases e : x.2 with
  | none => rfl
  | int m => rfl
  | _ => rw [e] at gx; cases gx
/-- plan[-1][1] -/
theorem last_at {H : Hp} {v : V} {rs : List RowT} (f : Fine rs) (h : Rp H v (.list (rs.map rowD))) : ∃ p xs q c vm, v = .ref p ∧ H p = some (.lst (xs ++ [.ref q])) ∧ H q = some (.tup [c, vm]) ∧ ((dueO rs = none ∧ vm = .non) ∨ ∃ s i, dueO rs = some s ∧ vm = .int i) := by
  obtain ⟨rs', x, rfl, hno⟩ := fine_snoc f
  have gx := (f.row x (List.mem_append_right _ List.mem_cons_self)).many
  have hd := last_due f
  obtain ⟨p, xs, rfl, hp, hx⟩ := rp_list h
  rw [List.map_append] at hx
  obtain ⟨fvs', w, rfl, hA', hv⟩ := RpAll.unsnoc hx
  cases hv with
  | @tup b ys _ hb hxs =>
    cases hxs with
    | @cons vt _ _ _ ht hxs2 =>
      cases hxs2 with
      | @cons vm _ _ _ hm hxs3 =>
        cases hxs3
        refine ⟨p, fvs', b, vt, vm, rfl, hp, hb, ?_⟩
        generalize x.2 = m2 at hm gx hd
        cases hm with
        | non =>
          left
          cases z : dueO (rs' ++ [x]) with
          | none => exact ⟨rfl, rfl⟩
          | some s => rw [z] at hd; cases hd
        | int i =>
          right
          cases z : dueO (rs' ++ [x]) with
          | none => rw [z] at hd; cases hd
          | some s => exact ⟨s, i, rfl, rfl⟩
        | _ => cases gx
theorem last_rd {K : PySem.W.Frag} {H : Hp} {Q : VK} {σ : L2.St} {i : Nat} {p q : Addr} {xs : List V} {c vm : V} (hi : σ[i]? = some (some (.ref p))) (h1 : H p = some (.lst (xs ++ [.ref q]))) (h3 : H q = some (.tup [c, vm])) (k : Q vm H) :
    (tOp (rIxT K) (tOp (rIxL K) (tVar i) (tUn (rU fun i => .int (-i)) (tC (.int 1)))) (tC (.int 1))) σ H Q := ⟨.ref p, hi, 1, rfl, p, _, -1, .ref q, rfl, rfl, SqL.of h1, atI_last _ _, q, _, 1, vm, rfl, rfl, SqT.of h3, atI_nat (j := 1) rfl, k⟩
def spTot : Sp := fun vs H Q _ => ∃ v rs, vs = [v] ∧ Rp H v (.list (rs.map rowD)) ∧ Fine rs ∧ ∀ H', Same H H' → Q (.int (totR rs)) H'
section
variable {P : Program} {w : World} {K : PySem.W.Frag} {mg : Str → Option Value} {base : Heap}
end
end CL
set_option Elab.async false
set_option linter.all false
set_option pp.maxSteps 500
set_option maxRecDepth 100000
set_option maxHeartbeats 4000000
namespace CL
open PySem PySem.Spec PyProof.Rows L2 GE
/-! ### the law's plan -/
def r0 : RowT := ([some 2, some 0, none], .int 4)
def cutR (lrs : List RowT) : List RowT := r0 :: lrs.take 7
theorem sum7 : ∀ {rs : List RowT}, (∀ x ∈ rs, worth x.2 ≤ P29) → sumW rs ≤ P29 * (rs.length : Int)
  | [], _ => by show (0 : Int) ≤ _; simp
  | x :: rs, h => by
    have ih := sum7 (rs := rs) fun y hy => h y (List.mem_cons_of_mem _ hy)
    have hx := h x List.mem_cons_self
    rw [sumW_cons, List.length_cons, Int.natCast_add, Int.mul_add]
    show worth x.2 + sumW rs ≤ P29 * (rs.length : Int) + P29 * 1
    omega
theorem cut_fine {lrs : List RowT} (f : Fine lrs) (h : ∀ x ∈ lrs, worth x.2 ≤ P29) : Fine (cutR lrs) := by
  have l1 := f.lo
  have l8 := f.hi
  have lt : (lrs.take 7).length = min 7 lrs.length := List.length_take ..
  refine ⟨by unfold cutR; rw [List.length_cons]; omega, by unfold cutR; rw [List.length_cons]; omega, fun x hx => ?_, fun x hx => ?_, ?_⟩
  · rcases List.mem_cons.mp hx with rfl | hx
    · refine ⟨by decide, by decide, fun o ho => ?_, rfl⟩
      simp only [r0, List.mem_cons, List.not_mem_nil, or_false] at ho
      rcases ho with rfl | rfl | rfl
      · exact ⟨by decide, by decide⟩
      · exact ⟨by decide, by decide⟩
      · trivial
    · exact f.row x (List.mem_of_mem_take hx)
  · have hx' : x ∈ (r0 :: lrs.take 7).take ((lrs.take 7).length + 1 - 1) := hx
    rw [Nat.add_sub_cancel] at hx'
    obtain ⟨n, hn⟩ : ∃ n, (lrs.take 7).length = n + 1 := ⟨(lrs.take 7).length - 1, by omega⟩
    rw [hn, List.take_succ_cons] at hx'
    rcases List.mem_cons.mp hx' with rfl | hx'
    · rfl
    · rw [List.take_take] at hx'
      refine f.last x (List.take_subset_take_left lrs (by omega) hx')
  · have hs := sum7 (rs := lrs.take 7) fun x hx => h x (List.mem_of_mem_take hx)
    show sumW (r0 :: lrs.take 7) ≤ (1000000000000000000000000000000 : Int)
    rw [sumW_cons]
    have e : worth r0.2 = 4 := rfl
    have E29 : P29 = 100000000000000000000000000000 := rfl
    rw [E29] at hs
    omega
/-! ### what is due of such a plan -/
section
variable {rs : List RowT}
theorem fl (f : Fine rs) : lastPast (.list (rs.map rowD)) = dueO rs := (rows_last f).1
theorem two_come {lrs : List RowT} (f : Fine (cutR lrs)) : ∀ s, dueO (cutR lrs) = some s → 2 ≤ s ∧ s ≤ GREAT := fun s e => by
  have h1 := (rows_last f).2 s e
  have h2 := sumW_nn (rs := lrs.take 7) fun y hy => (f.row y (List.mem_cons_of_mem _ hy)).many
  have h3 := f.sum
  have e2 : sumW (cutR lrs) = 4 + sumW (lrs.take 7) := rfl
  rw [h1]
  constructor
  · omega
  · exact h3
/-- by so many people at least, and no more than 10 ** 30 -/
def Past (o : Option Int) : Prop := ∀ s, o = some s → 2 ≤ s ∧ s ≤ GREAT

theorem tot_bnd {rs : List RowT} (h : Past (dueO rs)) : 2 ≤ totR rs ∧ totR rs ≤ 1000000000000000000000000000000 := by
  unfold totR
  cases e : dueO rs with
  | none => exact ⟨by decide, by decide⟩
  | some s =>
    obtain ⟨h1, h2⟩ := h s e
    exact ⟨h1, h2⟩
end
/-! ### what is told of the plan -/
def psR (rs : List RowT) : List PieceT := piecesOf (.list (rs.map rowD))
def bR (rs : List RowT) : Option Int := (dueO rs).map (· - 1)
/-- the last of a person -/
def LasR (rs : List RowT) (x : Int) (l : Option Int) : Prop := Las (psR rs) (bR rs) 0 x l
/-- the number of one that comes, not too far -/
structure Asks (rs : List RowT) (n : Int) : Prop where
  ok : personOk (dueO rs) (.int n) = true
  hi : n < 2 ^ 138
theorem Asks.lo {rs : List RowT} {n : Int} (h : Asks rs n) : 0 ≤ n := by
  have := h.ok
  rw [personOk_int, Bool.and_eq_true, decide_eq_true_eq] at this
  exact this.1
theorem Asks.bnd {rs : List RowT} {n : Int} (h : Asks rs n) : ∀ m, bR rs = some m → n ≤ m := fun m e => by
  have := h.ok
  rw [personOk_int, Bool.and_eq_true] at this
  unfold bR at e
  cases z : dueO rs with
  | none => rw [z] at e; cases e
  | some s =>
    rw [z] at e this
    have e2 : s - 1 = m := Option.some.inj e
    have h2 : n < s := of_decide_eq_true this.2
    omega
theorem asks_of {rs : List RowT} {n : Int} (h0 : 0 ≤ n) (hb : ∀ m, bR rs = some m → n ≤ m) (h1 : n < 2 ^ 138) : Asks rs n := by
  refine ⟨?_, h1⟩
  rw [personOk_int, decide_eq_true h0]
  cases z : dueO rs with
  | none => rfl
  | some s =>
    have := hb (s - 1) (by unfold bR; rw [z]; rfl)
    exact decide_eq_true (by omega)
/-- the state of the law: the spring, the tables, the plan -/
structure Sl (r P1 P2 : Addr) (v : V) (rs : List RowT) (H : Hp) : Prop where
  re : ReelAt H r
  tb : Tb P1 P2 H
  rp : Rp (Hw (fun b => b = r) H) v (.list (rs.map rowD))
theorem Sl.wk {r P1 P2 : Addr} {v : V} {rs : List RowT} {H : Hp} (s : Sl r P1 P2 v rs H) : Wk (fun b => b = r) H r := ⟨rfl, fun b hb => by rw [hb]; exact s.re.some⟩
theorem Sl.mv {r P1 P2 : Addr} {v : V} {rs : List RowT} {H H' : Hp} (s : Sl r P1 P2 v rs H) (re : ReelAt H' r) (m : Mv r H H') : Sl r P1 P2 v rs H' := ⟨re, s.tb.mv s.re m, Rp.sm (m.hw (W := fun b => b = r) rfl) s.rp⟩
theorem Sl.sm {r P1 P2 : Addr} {v : V} {rs : List RowT} {H H' : Hp} (s : Sl r P1 P2 v rs H) (m : Same H H') : Sl r P1 P2 v rs H' := s.mv (s.re.same m) (Mv.of m)
theorem Sl.ex {r P1 P2 : Addr} {v : V} {rs : List RowT} {H H' : Hp} (s : Sl r P1 P2 v rs H) (e : Ex H H') (t : Tb P1 P2 H') : Sl r P1 P2 v rs H' := ⟨s.re.kx e, t, Rp.ex e.hw _ _ s.rp⟩
theorem Sl.rpH {r P1 P2 : Addr} {v : V} {rs : List RowT} {H : Hp} (s : Sl r P1 P2 v rs H) : Rp H v (.list (rs.map rowD)) := Rp.sm (Hw.sub _ _) s.rp
/-- all but the spring and the tables stays -/
def Kl (r : Addr) (H H' : Hp) : Prop := ∀ b o, b ≠ r → H b = some o → (∀ ps, o ≠ .tbl ps) → H' b = some o
section
variable {r P1 P2 C C2 C3 C4 : Addr} {v : V} {rs : List RowT} {H : Hp} {Q : VK} {E : XK}
theorem parts (hF : Fine rs) : ∃ ps pc, piecesOf (.list (rs.map rowD)) = ps ++ [pc] ∧ psR rs = ps ++ [pc] ∧ pc.2.1 = dueO rs := by
  obtain ⟨ps, pc, e⟩ := plan_last (fine_plan hF)
  refine ⟨ps, pc, e, e, ?_⟩
  rw [← lastPast_of e]
  exact (rows_last hF).1
theorem psR_ok (hF : Fine rs) : PsOk (psR rs) := by
  obtain ⟨ps, pc, e, e2, _⟩ := parts hF
  rw [e2]
  exact (plOk (fine_plan hF) e).ok
theorem c_last (hF : Fine rs) (s : Sl r P1 P2 v rs H) {n : Int} (ha : Asks rs n) (q : ∀ l H', LasR rs n l → Ex H H' → Sl r P1 P2 v rs H' → Q (optV l) H') : spLastOf P1 P2 C C2 [v, .int n] H Q E := by
  obtain ⟨ps, pc, e, e2, e3⟩ := parts hF
  refine ⟨v, .int n, _, .int n, rfl, s.rpH, .int n, fun m em => by cases em; exact ha.hi, s.tb, fun z => absurd (fine_plan hF) (by rw [z]; simp), fun _ => ⟨ps, pc, e, fun z => absurd ha.ok (by rw [← e3, z]; simp), fun _ m l H' em hl ex tb => ?_⟩⟩
  cases em
  refine q l H' ?_ ex (s.ex ex tb)
  unfold LasR bR
  rw [e2, ← e3]
  exact hl
theorem c_went (hF : Fine rs) (s : Sl r P1 P2 v rs H) {n m : Int} (ha : Asks rs n) (hm : momentOk (dueO rs) (.int m) = true) (hlt : n < m) (q : ∀ l H', LasR rs n l → Ex H H' → Sl r P1 P2 v rs H' → Q (.int (pastV l n m)) H') : spWent P1 P2 C C2 C3 [v, .int n, .int m] H Q E := by
  obtain ⟨ps, pc, e, e2, e3⟩ := parts hF
  refine ⟨v, .int n, .int m, _, .int n, .int m, rfl, s.rpH, .int n, .int m, fun k em => by cases em; exact ha.hi, s.tb, fun z => absurd (fine_plan hF) (by rw [z]; simp), fun _ => ⟨ps, pc, e, fun z => absurd ha.ok (by rw [← e3, z]; simp), fun _ => ⟨fun z => absurd hm (by rw [← e3, z]; simp), fun _ n' m' en em => ?_⟩⟩⟩
  cases en
  cases em
  refine ⟨fun z => absurd z (by omega), fun _ l H' hl ex tb => q l H' ?_ ex (s.ex ex tb)⟩
  unfold LasR bR
  rw [e2, ← e3]
  exact hl
theorem c_pat (hF : Fine rs) (s : Sl r P1 P2 v rs H) {n : Int} (ha : Asks rs n) (q : ∀ t x H', Pt (psR rs) n t → isPatience t = true → Rp H' x t → Ex H H' → Sl r P1 P2 v rs H' → Q x H') : spPatOf P1 P2 C C2 [v, .int n] H Q E := by
  obtain ⟨ps, pc, e, e2, e3⟩ := parts hF
  refine ⟨v, .int n, _, .int n, rfl, s.rpH, .int n, s.tb, fun z => absurd (fine_plan hF) (by rw [z]; simp), fun _ => ⟨ps, pc, e, fun z => absurd ha.ok (by rw [← e3, z]; simp), fun _ => ?_⟩⟩
  obtain ⟨pp, hf⟩ := (plOk (fine_plan hF) e).find n (by
    have := ha.ok
    rw [personOk_int, Bool.and_eq_true, ← e3] at this
    exact this.2)
  have hps := psR_ok hF
  have hmem : pp ∈ psR rs := by rw [e2]; exact List.mem_of_find?_eq_some hf
  obtain ⟨l1, l8, lp⟩ := hps.turns pp hmem
  have hm0 := Int.emod_nonneg (n - pp.1) (show ((pp.2.2.length : Nat) : Int) ≠ 0 by omega)
  have hm1 := Int.emod_lt_of_pos (n - pp.1) (show (0 : Int) < ((pp.2.2.length : Nat) : Int) by omega)
  have hlt : ((n - pp.1) % (pp.2.2.length : Int)).toNat < pp.2.2.length := by omega
  have hg := List.getElem?_eq_getElem hlt
  have hpt : Pt (psR rs) n (pp.2.2[((n - pp.1) % (pp.2.2.length : Int)).toNat]) := ⟨pp, by rw [e2]; exact hf, hg⟩
  exact ⟨n, _, rfl, ⟨pp, by rw [e]; exact hf, by omega, hg⟩, fun x H' ex tb rp => q _ x H' hpt (pt_ok hps hpt) rp ex (s.ex ex tb)⟩
theorem c_who (hF : Fine rs) (s : Sl r P1 P2 v rs H) {n m : Int} (ha : Asks rs n) (hb : Asks rs m) (hne : n ≠ m) (q : ∀ l H', LasR rs (if m < n then m else n) l → Ex H H' → Sl r P1 P2 v rs H' → Q (.int (whoV l (if m < n then m else n) (if m > n then m else n))) H') : spWho P1 P2 C C2 C4 [v, .int n, .int m] H Q E := by
  obtain ⟨ps, pc, e, e2, e3⟩ := parts hF
  refine ⟨v, .int n, .int m, _, .int n, .int m, rfl, s.rpH, .int n, .int m, fun k em => by cases em; exact ha.hi, fun k em => by cases em; exact hb.hi, s.tb, fun z => absurd (fine_plan hF) (by rw [z]; simp), fun _ => ⟨ps, pc, e, fun z => absurd ha.ok (by rw [← e3, z]; simp), fun _ => ⟨fun z => absurd hb.ok (by rw [← e3, z]; simp), fun _ n' m' en em => ?_⟩⟩⟩
  cases en
  cases em
  refine ⟨fun z => absurd z hne, fun _ l H' hl ex tb => q l H' ?_ ex (s.ex ex tb)⟩
  unfold LasR bR
  rw [e2, ← e3]
  exact hl
theorem c_uns (hF : Fine rs) (s : Sl r P1 P2 v rs H) {m : Int} (ha : momentOk (dueO rs) (.int m) = true) (q : ∀ n H', Uns (psR rs) m n → Ex H H' → Sl r P1 P2 v rs H' → Q (.int n) H') : spUnsafe P1 P2 C C3 [v, .int m] H Q E := by
  obtain ⟨ps, pc, e, e2, e3⟩ := parts hF
  refine ⟨v, .int m, _, .int m, rfl, s.rpH, .int m, s.tb, fun z => absurd (fine_plan hF) (by rw [z]; simp), fun _ => ⟨ps, pc, e, fun z => absurd ha (by rw [← e3, z]; simp), fun _ m' n H' em hn ex tb => ?_⟩⟩
  cases em
  exact q n H' (by rw [e2]; exact hn) ex (s.ex ex tb)
theorem c_ref (hF : Fine rs) (s : Sl r P1 P2 v rs H) {m : Int} (ha : momentOk (dueO rs) (.int m) = true) (q : ∀ o H', Ref (psR rs) m o → Ex H H' → Sl r P1 P2 v rs H' → Q (optV o) H') : spRefuser P1 P2 C C3 [v, .int m] H Q E := by
  obtain ⟨ps, pc, e, e2, e3⟩ := parts hF
  refine ⟨v, .int m, _, .int m, rfl, s.rpH, .int m, s.tb, fun z => absurd (fine_plan hF) (by rw [z]; simp), fun _ => ⟨ps, pc, e, fun z => absurd ha (by rw [← e3, z]; simp), fun _ m' o H' em hn ex tb => ?_⟩⟩
  cases em
  exact q o H' (by rw [e2]; exact hn) ex (s.ex ex tb)
end
/-- how far a last may be -/
theorem las_far {ps : List PieceT} (hp : PsOk ps) {b l : Option Int} {s x : Int} (h : Las ps b s x l) : ∀ k, l = some k → k ≤ x + GREAT ∨ b = some k := by
  have G0 : (0 : Int) ≤ GREAT := by decide
  induction h with
  | spare h => exact fun k e => .inr e
  | own h h0 =>
    intro k e
    cases e
    have := (wp_le hp h).2.1
    exact .inl (by omega)
  | inn h h1 h2 _ ih =>
    intro k e
    rcases ih k e with h3 | h3
    · exact .inl h3
    · cases h3
      have := (wp_le hp h).2.1
      exact .inl (by omega)
  | skip h h1 _ ih => exact ih
/-! ### what the law asks -/
section
variable {rs : List RowT} {x : Int} {l : Option Int}
theorem bR_none (h : bR rs = none) : dueO rs = none := by
  unfold bR at h
  cases z : dueO rs with
  | none => rfl
  | some s => rw [z] at h; cases h
theorem lasR_le (ha : Asks rs x) (h : LasR rs x l) : (∀ k, l = some k → x ≤ k ∧ ∀ m, bR rs = some m → k ≤ m) ∧ (l = none → dueO rs = none) := by
  obtain ⟨i1, i2⟩ := las_le h ha.bnd
  exact ⟨i1, fun e => bR_none (i2 e)⟩
theorem lasR_far (hF : Fine rs) (hpa : Past (dueO rs)) (h : LasR rs x l) (h0 : 0 ≤ x) : ∀ k, l = some k → k ≤ x + GREAT := fun k e => by
  have G0 : GREAT = 1000000000000000000000000000000 := rfl
  rcases las_far (psR_ok hF) h k e with h1 | h1
  · exact h1
  · unfold bR at h1
    cases z : dueO rs with
    | none => rw [z] at h1; cases h1
    | some s =>
      rw [z] at h1
      have h2 : s - 1 = k := Option.some.inj h1
      have := (hpa s z).2
      omega
end
end CL
set_option Elab.async false
set_option linter.all false
set_option pp.maxSteps 400
set_option maxRecDepth 100000
set_option maxHeartbeats 4000000
namespace CL
open PySem PySem.Spec PyProof.Rows L2 GE
/-- who is ahead: the newer one just where the last of the older one is as far -/
theorem at_order {ps : List PieceT} (hp : PsOk ps) {bd s x p : Int} (h : At ps bd s x p) : ∀ {y q l : Int}, x < y → y ≤ bd → At ps bd s y q → Las ps (some bd) s x (some l) → (q < p ↔ y ≤ l) ∧ q ≠ p := by
  induction h with
  | spare h =>
    intro y q l hxy hy h' hl
    cases hl with
    | own k k0 => have := wp_uniq h k; omega
    | inn k k1 => omega
    | skip k k1 => omega
    | spare k =>
      cases h' with
      | spare _ => omega
      | own _ _ => omega
      | inn k2 k3 k4 => have := wp_uniq h k2; omega
      | skip k2 k3 k4 =>
        have := wp_uniq h k2
        have := at_in hp k4 hy
        omega
  | own h h0 =>
    intro y q l hxy hy h' hl
    cases hl with
    | spare k => have := wp_uniq h k; omega
    | inn k k1 => omega
    | skip k k1 => omega
    | own k k0 =>
      have e := wp_uniq h k
      subst e
      cases h' with
      | spare _ => omega
      | own _ _ => omega
      | inn k2 k3 k4 k5 =>
        have := wp_uniq h k2
        have := at_in hp k5 (by omega)
        omega
      | skip k2 k3 k4 =>
        have := wp_uniq h k2
        have := at_in hp k4 hy
        omega
  | inn h h1 h2 h3 ih =>
    intro y q l hxy hy h' hl
    have hr := at_in hp h3 (by omega)
    cases hl with
    | spare k => omega
    | own k k0 => omega
    | skip k k1 => have e := wp_uniq h k; subst e; omega
    | inn k k1 k2 k3 =>
      have e := wp_uniq h k
      subst e
      have hle := ((las_le k3 fun m e => by cases e; omega).1 l rfl).2 _ rfl
      cases h' with
      | spare _ => omega
      | own _ _ => omega
      | inn j j1 j2 j3 => have e := wp_uniq h j; subst e; exact ih hxy (by omega) j3 k3
      | skip j j1 j2 =>
        have e := wp_uniq h j
        subst e
        have := at_in hp j2 hy
        omega
  | skip h h1 h3 ih =>
    intro y q l hxy hy h' hl
    cases hl with
    | spare k => omega
    | own k k0 => omega
    | inn k k1 k2 => have e := wp_uniq h k; subst e; omega
    | skip k k1 k2 =>
      have e := wp_uniq h k
      subst e
      cases h' with
      | spare _ => omega
      | own _ _ => omega
      | inn j j1 j2 => have e := wp_uniq h j; subst e; omega
      | skip j j1 j2 =>
        have e := wp_uniq h j
        subst e
        obtain ⟨i1, i2⟩ := ih hxy hy j2 k2
        exact ⟨⟨fun z => i1.mp (by omega), fun z => by have := i1.mpr z; omega⟩, by omega⟩
/-- at a sooner bound: so many places less as its last goes beyond it -/
theorem at_cut {ps : List PieceT} (hp : PsOk ps) {c c' s x p : Int} (h : At ps c' s x p) : ∀ {l : Int}, x ≤ c → c < c' → Las ps (some c') s x (some l) → At ps c s x (p - (if c < l then l - c else 0)) := by
  induction h with
  | @spare c' x h =>
    intro l hx hc hl
    cases hl with
    | own k k0 => have := wp_uniq h k; omega
    | inn k k1 => omega
    | skip k k1 => omega
    | spare k =>
      rw [if_pos hc, show c' - x - (c' - c) = c - x by omega]
      exact .spare (cut_zero hp h fun m e => by cases e; exact hc)
  | @own c' x w h h0 =>
    intro l hx hc hl
    cases hl with
    | spare k => have := wp_uniq h k; omega
    | inn k k1 => omega
    | skip k k1 => omega
    | own k k0 =>
      have e := wp_uniq h k
      subst e
      by_cases cx : c < x + w - 1
      · rw [if_pos cx, show w - 1 - (x + w - 1 - c) = c - x by omega]
        exact .spare (cut_out h h0 cx)
      · rw [if_neg cx, show w - 1 - 0 = w - 1 by omega]
        exact .own (cut_in h h0 (by omega)) h0
  | @inn c' s x w p h h1 h2 h3 ih =>
    intro l hx hc hl
    cases hl with
    | spare k => omega
    | own k k0 => omega
    | skip k k1 => have e := wp_uniq h k; subst e; omega
    | inn k k1 k2 k3 =>
      have e := wp_uniq h k
      subst e
      have hle := ((las_le k3 fun m e => by cases e; omega).1 l rfl).2 _ rfl
      by_cases cx : c < s + w - 1
      · have h9 := ih hx cx k3
        have k9 := cut_out h (by omega) cx
        have h10 := At.skip (p := p - (if c < l then l - c else 0)) k9 (show s + max (0 : Int) 1 ≤ x by omega) (by rw [show s + max (0 : Int) 1 = s + 1 by omega]; exact h9)
        rw [Int.zero_add] at h10
        exact h10
      · rw [if_neg (by omega), show p - 0 = p by omega]
        exact .inn (cut_in h (by omega) (by omega)) h1 h2 h3
  | @skip c' s x w p h h1 h3 ih =>
    intro l hx hc hl
    cases hl with
    | spare k => omega
    | own k k0 => omega
    | inn k k1 k2 => have e := wp_uniq h k; subst e; omega
    | skip k k1 k2 =>
      have e := wp_uniq h k
      subst e
      have h9 := ih hx hc k2
      have w0 := wp_nn hp h
      have k9 : WP ps (some c) s w := by
        by_cases cw : w = 0
        · subst cw; exact cut_zero hp h fun m e => by cases e; exact hc
        · exact cut_in h (by omega) (by omega)
      rw [show w + p - (if c < l then l - c else 0) = w + (p - (if c < l then l - c else 0)) by omega]
      exact .skip k9 h1 h9
theorem cnt_nn {ps : List PieceT} {b : Option Int} {s e n : Int} (h : Cnt ps b s e n) : 0 ≤ n := by
  induction h with
  | here => omega
  | on _ _ ih => split <;> omega
theorem cnt_up {ps : List PieceT} (hp : PsOk ps) {b : Option Int} {s e n : Int} (h : Cnt ps b s e n) : n ≤ e - s := by
  induction h with
  | here => omega
  | on k _ ih => have := wp_nn hp k; split <;> omega
/-- those left over stand behind all others -/
theorem at_calm {ps : List PieceT} (hp : PsOk ps) {bd s x p : Int} (h : At ps bd s x p) : ∀ {n : Int}, x ≤ bd → Cnt ps (some bd) s (bd + 1) n → ((SpR ps (some bd) s x ↔ bd + 1 - s - n ≤ p)) := by
  induction h with
  | spare h =>
    intro n hx hn
    refine ⟨fun _ => ?_, fun _ => .here h⟩
    cases hn with
    | here => omega
    | on k k1 =>
      have e := wp_uniq h k
      subst e
      have := cnt_nn k1
      rw [if_pos rfl]
      omega
  | own h h0 =>
    intro n hx hn
    refine ⟨fun z => ?_, fun z => ?_⟩
    · have := wp_uniq h (spr_wp z); omega
    · cases hn with
      | here => omega
      | on k k1 =>
        have e := wp_uniq h k
        subst e
        have := cnt_up hp k1
        rw [if_neg (by omega)] at z
        omega
  | inn h h1 h2 h3 ih =>
    intro n hx hn
    have hr := at_in hp h3 (by omega)
    refine ⟨fun z => ?_, fun z => ?_⟩
    · cases z with
      | here k => omega
      | on k k1 => have e := wp_uniq h k; subst e; omega
    · cases hn with
      | here => omega
      | on k k1 =>
        have e := wp_uniq h k
        subst e
        have := cnt_up hp k1
        rw [if_neg (by omega)] at z
        omega
  | skip h h1 h3 ih =>
    intro n hx hn
    cases hn with
    | here => have := at_ge h3; omega
    | on k k1 =>
      have e := wp_uniq h k
      subst e
      have hi := ih hx k1
      have w0 := wp_nn hp h
      refine ⟨fun z => ?_, fun z => ?_⟩
      · cases z with
        | here k => have := at_ge h3; omega
        | on k k2 k3 =>
          have e := wp_uniq h k
          subst e
          have := hi.mp k3
          split <;> omega
      · refine .on h h1 (hi.mpr ?_)
        split at z <;> omega
/-- the newest stands where those begin that aren't safe ahead of it -/
theorem at_newest {ps : List PieceT} (hp : PsOk ps) {bd s x p : Int} (h : At ps bd s x p) : ∀ {n : Int}, x = bd → Cnt ps (some (bd - 1)) s bd n → p = bd - s - n := by
  induction h with
  | spare h =>
    intro n hx hn
    subst hx
    cases hn with
    | here => omega
    | on k k1 => have := cnt_le k1; omega
  | own h h0 =>
    intro n hx hn
    subst hx
    obtain ⟨q, _, h2, h3⟩ := wp_pos h h0
    have := h3 _ rfl
    cases hn with
    | here => omega
    | on k k1 => have := cnt_le k1; omega
  | @inn bd s x w p h h1 h2 h3 ih =>
    intro n hx hn
    subst hx
    obtain ⟨q, _, h4, h5⟩ := wp_pos h (by omega)
    have h6 := h5 _ rfl
    have eb : s + w - 1 = x := by omega
    rw [eb] at ih
    have k9 := cut_out (c := x - 1) h (by omega) (by omega)
    cases hn with
    | here => omega
    | on k k1 =>
      have e := wp_uniq k9 k
      subst e
      rw [show s + max (0 : Int) 1 = s + 1 by omega] at k1
      have := ih rfl k1
      rw [if_pos rfl]
      omega
  | @skip bd s x w p h h1 h3 ih =>
    intro n hx hn
    subst hx
    have w0 := wp_nn hp h
    have k9 : WP ps (some (x - 1)) s w := by
      by_cases cw : w = 0
      · subst cw; exact cut_zero hp h fun m e => by cases e; omega
      · exact cut_in h (by omega) (by omega)
    cases hn with
    | here => omega
    | on k k1 =>
      have e := wp_uniq k9 k
      subst e
      have := ih rfl k1
      split <;> omega
end CL
set_option Elab.async false
set_option linter.all false
set_option pp.maxSteps 600
set_option maxRecDepth 100000
set_option maxHeartbeats 4000000
namespace CL
open PySem PySem.Spec PyProof.Rows L2 GE
/-! ### there is a last, and a place -/
theorem las_total {ps : List PieceT} (hp : PsOk ps) : ∀ (k : Nat) {b : Option Int} {s x : Int}, (x - s).toNat = k → s ≤ x → (∀ y, s ≤ y → y ≤ x → ∃ t, Pt ps y t) → ∃ l, Las ps b s x l := fun k => by
  induction k using Nat.strongRecOn with
  | ind k ih =>
    intro b s x hk hx hpt
    obtain ⟨t, ht⟩ := hpt s (Int.le_refl _) hx
    have hw := pt_wp b ht
    generalize wd b s t = w at hw
    have w0 := wp_nn hp hw
    by_cases c0 : x = s
    · subst c0
      by_cases cw : w = 0
      · subst cw; exact ⟨_, .spare hw⟩
      · exact ⟨_, .own hw (by omega)⟩
    · by_cases c1 : x < s + w
      · obtain ⟨l, hl⟩ := ih (x - (s + 1)).toNat (by omega) (b := some (s + w - 1)) (s := s + 1) (x := x) rfl (by omega) fun y h1 h2 => hpt y (by omega) h2
        exact ⟨l, .inn hw (by omega) c1 hl⟩
      · obtain ⟨l, hl⟩ := ih (x - (s + max w 1)).toNat (by omega) (b := b) (s := s + max w 1) (x := x) rfl (by omega) fun y h1 h2 => hpt y (by omega) h2
        exact ⟨l, .skip hw (by omega) hl⟩
theorem at_total {ps : List PieceT} (hp : PsOk ps) : ∀ (k : Nat) {bd s x : Int}, (x - s).toNat = k → s ≤ x → (∀ y, s ≤ y → y ≤ x → ∃ t, Pt ps y t) → ∃ p, At ps bd s x p := fun k => by
  induction k using Nat.strongRecOn with
  | ind k ih =>
    intro bd s x hk hx hpt
    obtain ⟨t, ht⟩ := hpt s (Int.le_refl _) hx
    have hw := pt_wp (some bd) ht
    generalize wd (some bd) s t = w at hw
    have w0 := wp_nn hp hw
    by_cases c0 : x = s
    · subst c0
      by_cases cw : w = 0
      · subst cw; exact ⟨_, .spare hw⟩
      · exact ⟨_, .own hw (by omega)⟩
    · by_cases c1 : x < s + w
      · obtain ⟨l, hl⟩ := ih (x - (s + 1)).toNat (by omega) (bd := s + w - 1) (s := s + 1) (x := x) rfl (by omega) fun y h1 h2 => hpt y (by omega) h2
        exact ⟨l, .inn hw (by omega) c1 hl⟩
      · obtain ⟨l, hl⟩ := ih (x - (s + max w 1)).toNat (by omega) (bd := bd) (s := s + max w 1) (x := x) rfl (by omega) fun y h1 h2 => hpt y (by omega) h2
        exact ⟨_, .skip hw (by omega) hl⟩
theorem pt_ex {rs : List RowT} (hF : Fine rs) {n : Int} (ha : Asks rs n) : ∃ t, Pt (psR rs) n t := by
  obtain ⟨ps, pc, e, e2, e3⟩ := parts hF
  obtain ⟨pp, hf⟩ := (plOk (fine_plan hF) e).find n (by
    have := ha.ok
    rw [personOk_int, Bool.and_eq_true, ← e3] at this
    exact this.2)
  have hps := psR_ok hF
  have hmem : pp ∈ psR rs := by rw [e2]; exact List.mem_of_find?_eq_some hf
  obtain ⟨l1, l8, lp⟩ := hps.turns pp hmem
  have hm0 := Int.emod_nonneg (n - pp.1) (show ((pp.2.2.length : Nat) : Int) ≠ 0 by omega)
  have hm1 := Int.emod_lt_of_pos (n - pp.1) (show (0 : Int) < ((pp.2.2.length : Nat) : Int) by omega)
  have hlt : ((n - pp.1) % (pp.2.2.length : Int)).toNat < pp.2.2.length := by omega
  exact ⟨_, pp, by rw [e2]; exact hf, List.getElem?_eq_getElem hlt⟩
def lesser (l : Option Int) (c : Int) : Int := match l with
  | none => c
  | some k => if c < k then c else k
theorem past_less {l : Option Int} {n m : Int} : pastV l n m = lesser l (m - 1) - n := by cases l <;> rfl
/-- the last under a bound -/
theorem las_under {rs : List RowT} (hF : Fine rs) {c x : Int} {l : Option Int} (hl : LasR rs x l) (hx : x ≤ c) (hb : ∀ b, bR rs = some b → c ≤ b) : Las (psR rs) (some c) 0 x (some (lesser l c)) := by
  have hps := psR_ok hF
  by_cases e : bR rs = some c
  · have h1 : Las (psR rs) (some c) 0 x l := by have := hl; unfold LasR at this; rw [e] at this; exact this
    obtain ⟨i1, i2⟩ := las_le h1 fun k e => by cases e; exact hx
    cases l with
    | none => cases i2 rfl
    | some k =>
      have := (i1 k rfl).2 _ rfl
      rw [show lesser (some k) c = k from if_neg (by omega)]
      exact h1
  · rcases las_cut hps hl hx (fun b e2 => by
      have := hb b e2
      have : b ≠ c := fun z => e (by rw [e2, z])
      omega) with ⟨h3, h4⟩ | ⟨_, k, rfl, h4, h5⟩
    · have e3 : lesser l c = c := by
        cases l with
        | none => rfl
        | some k => exact if_pos (h4 k rfl)
      rw [e3]
      exact spr_las h3
    · rw [show lesser (some k) c = k from if_neg (by omega)]
      exact h5
/-- two moments of a plan -/
structure Mo (rs : List RowT) (one other : Int) : Prop where
  f : Fine rs
  lo : 1 ≤ one
  le : one ≤ other
  hi : other ≤ 1000000000000000000000000000000
  du : ∀ s, dueO rs = some s → other ≤ s
theorem Mo.bl {rs : List RowT} {one other : Int} (h : Mo rs one other) : ∀ b, bR rs = some b → other - 1 ≤ b := fun b e => by
  unfold bR at e
  cases z : dueO rs with
  | none => rw [z] at e; cases e
  | some s =>
    rw [z] at e
    have h2 : s - 1 = b := Option.some.inj e
    have := h.du s z
    omega
theorem p138 : (2 : Int) ^ 138 = 348449143727040986586495598010130648530944 := by decide +kernel
theorem p140 : (2 : Int) ^ 140 = 1393796574908163946345982392040522594123776 := by decide +kernel
theorem Mo.ask {rs : List RowT} {one other x : Int} (h : Mo rs one other) (h0 : 0 ≤ x) (h1 : x ≤ other - 1) : Asks rs x := by
  have := h.hi
  exact asks_of h0 (fun b e => by have := h.bl b e; omega) (by rw [p138]; omega)
theorem Mo.mom {rs : List RowT} {one other s : Int} (h : Mo rs one other) (h0 : 0 ≤ s) (h1 : s ≤ other) : momentOk (dueO rs) (.int s) = true := by
  have hh := h.hi
  rw [momentOk_int, decide_eq_true h0, decide_eq_true (show s ≤ GREAT from (show s ≤ (1000000000000000000000000000000 : Int) by omega))]
  cases z : dueO rs with
  | none => rfl
  | some t =>
    have := h.du t z
    show decide (s ≤ t) = true
    exact decide_eq_true (by omega)
theorem Mo.pts {rs : List RowT} {one other x : Int} (h : Mo rs one other) (h1 : x ≤ other - 1) : ∀ y, 0 ≤ y → y ≤ x → ∃ t, Pt (psR rs) y t := fun y y0 y1 => pt_ex h.f (h.ask y0 (by omega))
/-- one who stands there at both moments -/
structure Man (rs : List RowT) (one other x p p' : Int) : Prop where
  x0 : 0 ≤ x
  x1 : x < one
  a : At (psR rs) (one - 1) 0 x p
  b : At (psR rs) (other - 1) 0 x p'
theorem lesser_more {l : Option Int} {c c' : Int} (h : c < c') : (if c < lesser l c' then lesser l c' - c else 0) = lesser l c' - lesser l c := by
  cases l with
  | none => show (if c < c' then c' - c else 0) = c' - c; rw [if_pos h]
  | some k =>
    show (if c < (if c' < k then c' else k) then (if c' < k then c' else k) - c else 0) = (if c' < k then c' else k) - (if c < k then c else k)
    split <;> split <;> (try split) <;> omega
theorem Man.more {rs : List RowT} {one other x p p' : Int} (h : Mo rs one other) (m : Man rs one other x p p') {l : Option Int} (hl : LasR rs x l) : p' = p + (lesser l (other - 1) - lesser l (one - 1)) := by
  have hx := m.x1
  have hle := h.le
  by_cases c : one = other
  · subst c
    have := at_uniq m.a m.b
    omega
  · have h1 := at_cut (psR_ok h.f) m.b (show x ≤ one - 1 by omega) (by omega) (las_under h.f hl (show x ≤ other - 1 by omega) h.bl)
    rw [lesser_more (by omega)] at h1
    have := at_uniq m.a h1
    omega
theorem Man.calm {rs : List RowT} {one other x p p' n : Int} (h : Mo rs one other) (m : Man rs one other x p p') {l : Option Int} (hl : LasR rs x l) (hn : Uns (psR rs) one n) (hc : p < one - n) : lesser l (other - 1) = lesser l (one - 1) := by
  have hx := m.x1
  have hle := h.le
  by_cases c : one = other
  · rw [c]
  · have hn' : Cnt (psR rs) (some (one - 1)) 0 (one - 1 + 1) n := by rw [show one - 1 + 1 = one by omega]; exact hn
    have hs := at_calm (psR_ok h.f) m.a (by omega) hn'
    rcases las_cut (psR_ok h.f) hl (show x ≤ one - 1 by omega) (fun b e => by have := h.bl b e; omega) with ⟨z, _⟩ | ⟨_, k, rfl, h4, _⟩
    · have := hs.mp z; omega
    · show (if other - 1 < k then other - 1 else k) = if one - 1 < k then one - 1 else k
      rw [if_neg (by omega), if_neg (by omega)]
theorem ord1 {rs : List RowT} {one other x p p' y q q' : Int} (h : Mo rs one other) (m : Man rs one other x p p') (m2 : Man rs one other y q q') (c : x < y) : (q < p ↔ q' < p') ∧ q ≠ p ∧ q' ≠ p' := by
  have hle := h.le
  have hx := m.x1
  have hy := m2.x1
  have hps := psR_ok h.f
  obtain ⟨l, hl⟩ := las_total hps _ (b := bR rs) (s := 0) (x := x) rfl m.x0 (h.pts (by omega))
  have hl : LasR rs x l := hl
  obtain ⟨a1, a2⟩ := at_order hps m.a c (by omega) m2.a (las_under h.f hl (by omega) fun b e => by have := h.bl b e; omega)
  obtain ⟨b1, b2⟩ := at_order hps m.b c (by omega) m2.b (las_under h.f hl (by omega) h.bl)
  refine ⟨?_, a2, b2⟩
  rw [a1, b1]
  cases l with
  | none => show y ≤ one - 1 ↔ y ≤ other - 1; omega
  | some k => show (y ≤ if one - 1 < k then one - 1 else k) ↔ (y ≤ if other - 1 < k then other - 1 else k); split <;> split <;> omega
theorem Man.order {rs : List RowT} {one other x p p' y q q' : Int} (h : Mo rs one other) (m : Man rs one other x p p') (m2 : Man rs one other y q q') : decide (p < q) = decide (p' < q') := by
  rcases Int.lt_or_le x y with c | c
  · obtain ⟨a1, a2, a3⟩ := ord1 h m m2 c
    rw [decide_eq_decide]
    omega
  · rcases Int.lt_or_eq_of_le c with c | c
    · obtain ⟨a1, a2, a3⟩ := ord1 h m2 m c
      rw [decide_eq_decide]
      exact a1
    · subst c
      have h1 := at_uniq m.a m2.a
      have h2 := at_uniq m.b m2.b
      rw [h1, h2]
      simp
/-- whoever stands ahead of all that aren't safe stays -/
theorem Mo.same {rs : List RowT} {one other x y pl n : Int} (h : Mo rs one other) (hn : Uns (psR rs) one n) (hc : pl < one - n) (hx0 : 0 ≤ x) (hx1 : x < one) (hx : At (psR rs) (one - 1) 0 x pl) (hy0 : 0 ≤ y) (hy1 : y < other) (hy : At (psR rs) (other - 1) 0 y pl) : y = x := by
  have hle := h.le
  have hps := psR_ok h.f
  obtain ⟨p', hp'⟩ := at_total hps _ (bd := other - 1) (s := 0) (x := x) rfl hx0 (h.pts (by omega))
  obtain ⟨l, hl⟩ := las_total hps _ (b := bR rs) (s := 0) (x := x) rfl hx0 (h.pts (by omega))
  have hl : LasR rs x l := hl
  have m : Man rs one other x pl p' := ⟨hx0, hx1, hx, hp'⟩
  have h1 := m.more h hl
  have h2 := m.calm h hl hn hc
  have : p' = pl := by omega
  rw [this] at hp'
  exact at_one hps hy (by omega) (by omega) rfl hp'
theorem Mo.newest {rs : List RowT} {one other p n : Int} (h : Mo rs one other) (hn : Uns (psR rs) one n) (hp : At (psR rs) (one + 1 - 1) 0 one p) : p = one - n := by
  rw [show one + 1 - 1 = one by omega] at hp
  have := at_newest (psR_ok h.f) hp rfl hn
  omega
end CL
set_option Elab.async false
set_option linter.all false
set_option pp.maxSteps 600
set_option maxRecDepth 100000
set_option maxHeartbeats 4000000
namespace CL
open PySem PySem.Spec PyProof.Rows L2 GE
/-- the windows around a person -/
def RoadR (rs : List RowT) (x : Int) (S : List StepT) : Prop := Road (psR rs) (bR rs) 0 x S
/-- all lists but the spring stay -/
def KL (r : Addr) (H H' : Hp) : Prop := ∀ D zs, D ≠ r → H D = some (.lst zs) → H' D = some (.lst zs)
theorem KL.refl (r : Addr) (H : Hp) : KL r H H := fun _ _ _ h => h
theorem KL.mv {r : Addr} {H H1 H2 : Hp} (k : KL r H H1) (m : Mv r H1 H2) : KL r H H2 := fun D zs n h => m.keep D _ n (k D zs n h)
theorem KL.ex {r : Addr} {H H1 H2 : Hp} (k : KL r H H1) (e : Ex H1 H2) : KL r H H2 := fun D zs n h => e.lst (k D zs n h)
theorem KL.trans {r : Addr} {H H1 H2 : Hp} (k : KL r H H1) (k2 : KL r H1 H2) : KL r H H2 := fun D zs n h => k2 D zs n (k D zs n h)
theorem stOk_mk {m n : Int} (h0 : 0 ≤ n) (h1 : n < m) : stOk m (.int n) = true := by
  show (decide (0 ≤ n) && decide (n < m)) = true
  rw [decide_eq_true h0, decide_eq_true h1]
  rfl
section
variable {r P1 P2 C C2 C3 C4 : Addr} {v : V} {rs : List RowT} {H : Hp} {Q : VK} {E : XK} {σ : L2.St} {i j l3 : Nat}
theorem c_place (hF : Fine rs) (s : Sl r P1 P2 v rs H) {m n : Int} (hm : momentOk (dueO rs) (.int m) = true) (h0 : 0 ≤ n) (h1 : n < m) (q : ∀ p H', At (psR rs) (m - 1) 0 n p → Ex H H' → Sl r P1 P2 v rs H' → Q (.int p) H') : spPlaceOf P1 P2 C C3 C2 [v, .int m, .int n] H Q E := by
  obtain ⟨ps, pc, e, e2, e3⟩ := parts hF
  refine ⟨v, .int m, .int n, _, .int m, .int n, rfl, s.rpH, .int m, .int n, s.tb, fun z => absurd (fine_plan hF) (by rw [z]; simp), fun _ => ⟨ps, pc, e, fun z => absurd hm (by rw [← e3, z]; simp), fun _ m' em => ?_⟩⟩
  cases em
  refine ⟨fun z => absurd (stOk_mk h0 h1) (by rw [z]; simp), fun _ n' p H' en ha ex tb => ?_⟩
  cases en
  exact q p H' (by rw [e2]; exact ha) ex (s.ex ex tb)
theorem c_pers (hF : Fine rs) (s : Sl r P1 P2 v rs H) {m n : Int} (hm : momentOk (dueO rs) (.int m) = true) (h0 : 0 ≤ n) (h1 : n < m) (q : ∀ x H', At (psR rs) (m - 1) 0 x n → 0 ≤ x → x < m → Ex H H' → Sl r P1 P2 v rs H' → Q (.int x) H') : spPersonAt P1 P2 C C3 C2 [v, .int m, .int n] H Q E := by
  obtain ⟨ps, pc, e, e2, e3⟩ := parts hF
  refine ⟨v, .int m, .int n, _, .int m, .int n, rfl, s.rpH, .int m, .int n, s.tb, fun z => absurd (fine_plan hF) (by rw [z]; simp), fun _ => ⟨ps, pc, e, fun z => absurd hm (by rw [← e3, z]; simp), fun _ m' em => ?_⟩⟩
  cases em
  refine ⟨fun z => absurd (stOk_mk h0 h1) (by rw [z]; simp), fun _ n' x H' en ha x0 x1 ex tb => ?_⟩
  cases en
  exact q x H' (by rw [e2]; exact ha) x0 x1 ex (s.ex ex tb)
theorem k_place (hi : σ[i]? = some (some v)) {m n : Int} (hj : σ[j]? = some (some (.int m))) (hl : σ[l3]? = some (some (.int n))) (hF : Fine rs) (s : Sl r P1 P2 v rs H) (hm : momentOk (dueO rs) (.int m) = true) (h0 : 0 ≤ n) (h1 : n < m) (q : ∀ p H', At (psR rs) (m - 1) 0 n p → Ex H H' → Sl r P1 P2 v rs H' → Q (.int p) H') : tCall (spPlaceOf P1 P2 C C3 C2) [] E (tCons (tVar i) (tCons (tVar j) (tCons (tVar l3) tNil))) σ H Q := ⟨v, hi, .int m, hj, .int n, hl, (c_place hF s hm h0 h1 q : spPlaceOf P1 P2 C C3 C2 [v, .int m, .int n] H Q E)⟩
theorem k_place1 (hi : σ[i]? = some (some v)) {m n : Int} (hj : σ[j]? = some (some (.int m))) (hl : σ[l3]? = some (some (.int n))) (hF : Fine rs) (s : Sl r P1 P2 v rs H) (hm : momentOk (dueO rs) (.int (m + 1)) = true) (h0 : 0 ≤ n) (h1 : n < m + 1) (q : ∀ p H', At (psR rs) (m + 1 - 1) 0 n p → Ex H H' → Sl r P1 P2 v rs H' → Q (.int p) H') : tCall (spPlaceOf P1 P2 C C3 C2) [] E (tCons (tVar i) (tCons (tOp (rI0 fun i j => V.int (i + j)) (tVar j) (tC (V.int 1))) (tCons (tVar l3) tNil))) σ H Q := ⟨v, hi, .int m, hj, m, 1, rfl, rfl, .int n, hl, (c_place hF s hm h0 h1 q : spPlaceOf P1 P2 C C3 C2 [v, .int (m + 1), .int n] H Q E)⟩
theorem k_pers (hi : σ[i]? = some (some v)) {m n : Int} (hj : σ[j]? = some (some (.int m))) (hl : σ[l3]? = some (some (.int n))) (hF : Fine rs) (s : Sl r P1 P2 v rs H) (hm : momentOk (dueO rs) (.int m) = true) (h0 : 0 ≤ n) (h1 : n < m) (q : ∀ x H', At (psR rs) (m - 1) 0 x n → 0 ≤ x → x < m → Ex H H' → Sl r P1 P2 v rs H' → Q (.int x) H') : tCall (spPersonAt P1 P2 C C3 C2) [] E (tCons (tVar i) (tCons (tVar j) (tCons (tVar l3) tNil))) σ H Q := ⟨v, hi, .int m, hj, .int n, hl, (c_pers hF s hm h0 h1 q : spPersonAt P1 P2 C C3 C2 [v, .int m, .int n] H Q E)⟩
theorem k_uns (hi : σ[i]? = some (some v)) {m : Int} (hj : σ[j]? = some (some (.int m))) (hF : Fine rs) (s : Sl r P1 P2 v rs H) (ha : momentOk (dueO rs) (.int m) = true) (q : ∀ n H', Uns (psR rs) m n → Ex H H' → Sl r P1 P2 v rs H' → Q (.int n) H') : tCall (spUnsafe P1 P2 C C3) [] E (tCons (tVar i) (tCons (tVar j) tNil)) σ H Q := ⟨v, hi, .int m, hj, (c_uns hF s ha q : spUnsafe P1 P2 C C3 [v, .int m] H Q E)⟩
/-- went_past of one of a list -/
theorem k_wentL {K : PySem.W.Frag} {D : Addr} {xs : List Int} {a b : Nat} (hi : σ[i]? = some (some v)) (hD : σ[j]? = some (some (.ref D))) (hk : σ[a]? = some (some (.int (b : Int)))) {n m : Int} (eD : H D = some (.lst (xs.map V.int))) (hx : xs[b]? = some n) (hl : σ[l3]? = some (some (.int m))) (hF : Fine rs) (s : Sl r P1 P2 v rs H) (ha : Asks rs n) (hm : momentOk (dueO rs) (.int m) = true) (hlt : n < m) (q : ∀ l H', LasR rs n l → Ex H H' → Sl r P1 P2 v rs H' → Q (.int (pastV l n m)) H') :
    tCall (spWent P1 P2 C C2 C3) [] E (tCons (tVar i) (tCons (tOp (rIxL K) (tVar j) (tVar a)) (tCons (tVar l3) tNil))) σ H Q := ⟨v, hi, .ref D, hD, .int (b : Int), hk, D, _, (b : Int), .int n, rfl, rfl, SqL.of eD, atI_nat (by rw [List.getElem?_map, hx]; rfl), .int m, hl, (c_went hF s ha hm hlt q : spWent P1 P2 C C2 C3 [v, .int n, .int m] H Q E)⟩
end
theorem vib {A B : Prop} (h : A → B) (a : A) : B := h a
theorem ex_updN {H H1 : Hp} {b : Addr} {o : HO} (e : Ex H H1) (n : H b = none) : Ex H (upd H1 b o) := fun c x h => by
  rw [upd_ne (ne_of_none h n)]
  exact e c x h
theorem tb_upd {P1 P2 b : Addr} {H : Hp} {xs : List V} {o : HO} (h : Tb P1 P2 H) (e : H b = some (.lst xs)) : Tb P1 P2 (upd H b o) := h.upd fun ps z => by rw [e] at z; cases z
section
variable {r P1 P2 C C2 : Addr} {v : V} {rs : List RowT} {H : Hp} {Q : VK} {E : XK} {σ : L2.St} {i j : Nat}
theorem c_around (hF : Fine rs) (s : Sl r P1 P2 v rs H) {n : Int} (ha : Asks rs n) (q : ∀ D ws S H', Ex H H' → Sl r P1 P2 v rs H' → H' D = some (.lst ws) → StAt H' ws S → S.length ≤ 64 → RoadR rs n S → Q (.ref D) H') : spWinAr P1 P2 C C2 [v, .int n] H Q E := by
  obtain ⟨ps, pc, e, e2, e3⟩ := parts hF
  refine ⟨v, .int n, _, .int n, rfl, s.rpH, .int n, fun m em => by cases em; exact ha.hi, s.tb, fun z => absurd (fine_plan hF) (by rw [z]; simp), fun _ => ⟨ps, pc, e, fun z => absurd ha.ok (by rw [← e3, z]; simp), fun _ m D ws S H' em ex tb eD hS hl hRd => ?_⟩⟩
  cases em
  refine q D ws S H' ex (s.ex ex tb) eD hS hl ?_
  unfold RoadR bR
  rw [e2, ← e3]
  exact hRd
theorem k_around (hi : σ[i]? = some (some v)) {n : Int} (hj : σ[j]? = some (some (.int n))) (hF : Fine rs) (s : Sl r P1 P2 v rs H) (ha : Asks rs n) (q : ∀ D ws S H', Ex H H' → Sl r P1 P2 v rs H' → H' D = some (.lst ws) → StAt H' ws S → S.length ≤ 64 → RoadR rs n S → Q (.ref D) H') : tCall (spWinAr P1 P2 C C2) [] E (tCons (tVar i) (tCons (tVar j) tNil)) σ H Q := ⟨v, hi, .int n, hj, (c_around hF s ha q : spWinAr P1 P2 C C2 [v, .int n] H Q E)⟩
end
/-- who comes stands behind as many as are safe, and from then on behind as many more as went past -/
theorem sums_at {rs : List RowT} {x m p n b : Int} {l : Option Int} (h : Mo rs (x + 1) m) (hx : 0 ≤ x) (hn : Uns (psR rs) x n) (hb : At (psR rs) (x + 1 - 1) 0 x b) (hp : At (psR rs) (m - 1) 0 x p) (hl : LasR rs x l) : b = x - n ∧ p = x - n + (lesser l (m - 1) - x) := by
  have hb' : At (psR rs) x 0 x b := by rw [show x + 1 - 1 = x by omega] at hb; exact hb
  have h1 := at_newest (psR_ok h.f) hb' rfl hn
  have h2 := Man.more h ⟨hx, by omega, hb, hp⟩ hl
  have h3 := (las_le (las_under h.f hl (show x ≤ m - 1 by have := h.le; omega) h.bl) fun k e => by cases e; have := h.le; omega).1 _ rfl
  have h4 : lesser l (x + 1 - 1) = x := by
    rw [show x + 1 - 1 = x by omega]
    cases l with
    | none => rfl
    | some k =>
      have h5 := ((las_le hl (fun b e => by have := h.bl b e; have := h.le; omega)).1 k rfl).1
      show (if x < k then x else k) = x
      split <;> omega
  omega
/-! ### a list of anything, and the empty list -/
def rNeE : R2 := fun x y H Q => ∃ (a b : Addr) (xs : List V), x = .ref a ∧ y = .ref b ∧ H a = some (.lst xs) ∧ H b = some (.lst []) ∧ Q (.bl (!xs.isEmpty)) H
theorem op_neE {X : Cx} (hu : X.A.units < cLine) : OpR X (compareOp .NotEq) rNeE := by
  intro pins s σ H x y v u Q I rx ry ⟨a, b, xs, ex, ey, ha, hb, q⟩
  subst ex ey
  obtain ⟨its, rv, p1, _⟩ := I.list (SqL.of ha)
  obtain ⟨jts, rw', p2, _⟩ := I.list (SqL.of hb)
  cases rx
  cases ry
  have l1 := rv.length
  have l2 := rw'.length
  cases xs with
  | nil =>
    have e : its.toArray.size = jts.toArray.size := by rw [List.size_toArray, List.size_toArray, ← l1, ← l2]
    have e0 : its.toArray.size = 0 := by rw [List.size_toArray, ← l1]; rfl
    have z := SeqAt.RcNeAt.lists (A := X.A) (e := fun _ => true) p1.isList p2.isList e hu (fun j h1 => absurd h1 (by rw [e0]; exact Nat.not_lt_zero j))
    refine z X.prog X.w _ _ ⟨.bl _, H, I, ?_, q⟩
    rw [e0]
    rfl
  | cons x xs =>
    have e : (its.toArray.size != jts.toArray.size) = true := by
      rw [List.size_toArray, List.size_toArray, ← l1, ← l2]
      rfl
    exact SeqAt.RcNeAt.lists_lengths (A := X.A) p1.isList p2.isList e hu X.prog X.w _ _ ⟨.bl _, H, I, rfl, q⟩
theorem seqP {A B : TS} {D : Ends} {σ : L2.St} {H : Hp} (R : L2.St → Hp → Prop) (hB : ∀ σ' H', R σ' H' → B D σ' H') (hA : ∀ nx : L2.St → Hp → Prop, (∀ σ' H', R σ' H' → nx σ' H') → A { D with nx := nx } σ H) : tSeq A B D σ H := hA (B D) hB
section
variable {r P1 P2 C C2 C3 C4 : Addr} {v : V} {rs : List RowT} {H : Hp} {Q : VK} {E : XK} {σ : L2.St} {i j l3 : Nat}
theorem k_went (hi : σ[i]? = some (some v)) {n m : Int} (hj : σ[j]? = some (some (.int n))) (hl : σ[l3]? = some (some (.int m))) (hF : Fine rs) (s : Sl r P1 P2 v rs H) (ha : Asks rs n) (hm : momentOk (dueO rs) (.int m) = true) (hlt : n < m) (q : ∀ l H', LasR rs n l → Ex H H' → Sl r P1 P2 v rs H' → Q (.int (pastV l n m)) H') : tCall (spWent P1 P2 C C2 C3) [] E (tCons (tVar i) (tCons (tVar j) (tCons (tVar l3) tNil))) σ H Q := ⟨v, hi, .int n, hj, .int m, hl, (c_went hF s ha hm hlt q : spWent P1 P2 C C2 C3 [v, .int n, .int m] H Q E)⟩
theorem k_last (hi : σ[i]? = some (some v)) {n : Int} (hj : σ[j]? = some (some (.int n))) (hF : Fine rs) (s : Sl r P1 P2 v rs H) (ha : Asks rs n) (q : ∀ l H', LasR rs n l → Ex H H' → Sl r P1 P2 v rs H' → Q (optV l) H') : tCall (spLastOf P1 P2 C C2) [] E (tCons (tVar i) (tCons (tVar j) tNil)) σ H Q := ⟨v, hi, .int n, hj, (c_last hF s ha q : spLastOf P1 P2 C C2 [v, .int n] H Q E)⟩
theorem k_who (hi : σ[i]? = some (some v)) {n m : Int} (hj : σ[j]? = some (some (.int n))) (hl : σ[l3]? = some (some (.int m))) (hF : Fine rs) (s : Sl r P1 P2 v rs H) (ha : Asks rs n) (hb : Asks rs m) (hne : n ≠ m) (q : ∀ l H', LasR rs (if m < n then m else n) l → Ex H H' → Sl r P1 P2 v rs H' → Q (.int (whoV l (if m < n then m else n) (if m > n then m else n))) H') : tCall (spWho P1 P2 C C2 C4) [] E (tCons (tVar i) (tCons (tVar j) (tCons (tVar l3) tNil))) σ H Q := ⟨v, hi, .int n, hj, .int m, hl, (c_who hF s ha hb hne q : spWho P1 P2 C C2 C4 [v, .int n, .int m] H Q E)⟩
theorem k_ref (hi : σ[i]? = some (some v)) {m : Int} (hj : σ[j]? = some (some (.int m))) (hF : Fine rs) (s : Sl r P1 P2 v rs H) (ha : momentOk (dueO rs) (.int m) = true) (q : ∀ o H', Ref (psR rs) m o → Ex H H' → Sl r P1 P2 v rs H' → Q (optV o) H') : tCall (spRefuser P1 P2 C C3) [] E (tCons (tVar i) (tCons (tVar j) tNil)) σ H Q := ⟨v, hi, .int m, hj, (c_ref hF s ha q : spRefuser P1 P2 C C3 [v, .int m] H Q E)⟩
end
theorem lcC {lo c : Int} {n : Nat} {g : TG} {tt : TT} {te : TE} {vs : List Nat} {σ : L2.St} {H1 : Hp} {D : Addr} {Qd : Hp → Prop} (Pv : Nat → Hp → Prop) (h0 : Pv 0 (upd H1 D (.lst []))) (hs : ∀ i H, i < n → Pv i H → g (.int (lo + (i : Nat) * c)) (wipe σ vs) H fun σ2 H2 => wipe σ2 vs = wipe σ vs ∧ tt σ2 H2 fun b H3 => if b = true then te σ2 H3 fun y H4 => ∃ acc, H4 D = some (.lst acc) ∧ acc.length < sizeLine ∧ Pv (i + 1) (upd H4 D (.lst (acc ++ [y]))) else Pv (i + 1) H3) (hd : ∀ H, Pv n H → Qd H) :
    ∃ W : Nat → Nat → Hp → Prop, (∃ m, W 0 m (upd H1 D (.lst []))) ∧ ∀ i m H, W i m H → ((Itc lo c n).stop i H ∧ Qd H) ∨ ((Itc lo c n).go i H ∧ ∃ Nx : Hp → Prop, (∀ H', Nx H' → ∃ m', m' < m ∧ W (i + 1) m' H') ∧ ∀ x H', (Itc lo c n).yld i H x H' → g x (wipe σ vs) H' fun σ2 H2 => wipe σ2 vs = wipe σ vs ∧ tt σ2 H2 fun b H3 => if b = true then te σ2 H3 fun y H4 => ∃ acc, H4 D = some (.lst acc) ∧ acc.length < sizeLine ∧ Nx (upd H4 D (.lst (acc ++ [y]))) else Nx H3) :=
  ⟨fun i m H => m = n - i ∧ i ≤ n ∧ Pv i H, ⟨n, (Nat.sub_zero n).symm, Nat.zero_le n, h0⟩, fun i m H ⟨em, hi, hp⟩ => by
    rcases Nat.lt_or_ge i n with c1 | c1
    · exact .inr ⟨c1, Pv (i + 1), fun H' hp' => ⟨n - (i + 1), by omega, rfl, c1, hp'⟩, fun x H' ⟨e1, e2⟩ => by rw [e1, e2]; exact hs i H c1 hp⟩
    · have e3 : i = n := Nat.le_antisymm hi c1
      rw [e3] at hp
      exact .inl ⟨c1, hd H hp⟩⟩
theorem cut_mid (xs : List V) (a b : Nat) (h : b ≤ xs.length) : cutV xs (some (a : Int)) (some (b : Int)) = (xs.drop a).take (b - a) := by
  unfold cutV
  have e0 : HT.sIx xs.length 0 (some (a : Int)) = min a xs.length := HT.sIx_nat _ _ _
  have e1 : HT.sIx xs.length xs.length (some (b : Int)) = min b xs.length := HT.sIx_nat _ _ _
  rw [e0, e1, Nat.min_eq_left h]
  rcases Nat.le_total a xs.length with c | c
  · rw [Nat.min_eq_left c]
  · rw [Nat.min_eq_right c, List.drop_of_length_le (Nat.le_refl _), List.drop_of_length_le c, List.take_nil, List.take_nil]
theorem rp_ints {H : Hp} (ns : List Int) : RpAll H (ns.map V.int) ((ns.map some).map pdO) := by
  have e : ns.map V.int = (ns.map some).map pvO := by rw [List.map_map]; rfl
  rw [e]
  exact rp_Os _
theorem sl_blk {X : Cx} {s : Shared} {H : Hp} {scope : Scope} {cenv : Env} {fp : List Addr} : L2.SlR (X.blk s H scope cenv fp) (rSlL X.K) := sl_list
/-- all that the sums need of one who comes by the moment -/
theorem sums_all {rs : List RowT} {x m n : Int} {l : Option Int} (h : Mo rs (x + 1) m) (hx : 0 ≤ x) (hn : Uns (psR rs) x n) (hl : LasR rs x l) : At (psR rs) (m - 1) 0 x (x - n + pastV l x m) ∧ 0 ≤ x - n + pastV l x m ∧ x - n + pastV l x m < m ∧ At (psR rs) (x + 1 - 1) 0 x (x - n) := by
  have hps := psR_ok h.f
  have hle := h.le
  obtain ⟨p, hp⟩ := at_total hps _ (bd := m - 1) (s := 0) (x := x) rfl hx (h.pts (by omega))
  obtain ⟨b, hb⟩ := at_total hps _ (bd := x + 1 - 1) (s := 0) (x := x) rfl hx (h.pts (by omega))
  obtain ⟨h1, h2⟩ := sums_at h hx hn hb hp hl
  rw [past_less]
  obtain ⟨a1, a2⟩ := at_in hps hp (by omega)
  subst h1 h2
  exact ⟨hp, a1, by omega, hb⟩
section
variable {r P1 P2 C C2 C3 C4 : Addr} {v : V} {rs : List RowT} {H : Hp} {Q : VK} {E : XK} {σ : L2.St} {i j l3 : Nat}
theorem k_pat (hi : σ[i]? = some (some v)) {n : Int} (hj : σ[j]? = some (some (.int n))) (hF : Fine rs) (s : Sl r P1 P2 v rs H) (ha : Asks rs n) (q : ∀ t x H', Pt (psR rs) n t → isPatience t = true → Rp H' x t → Ex H H' → Sl r P1 P2 v rs H' → Q x H') : tCall (spPatOf P1 P2 C C2) [] E (tCons (tVar i) (tCons (tVar j) tNil)) σ H Q := ⟨v, hi, .int n, hj, (c_pat hF s ha q : spPatOf P1 P2 C C2 [v, .int n] H Q E)⟩
theorem c_wino (hF : Fine rs) (s : Sl r P1 P2 v rs H) {n : Int} (ha : Asks rs n) (q : ∀ S x H', RoadR rs n S → WinV H' n S x → Ex H H' → Sl r P1 P2 v rs H' → Q x H') : spWinOf P1 P2 C C2 [v, .int n] H Q E := by
  obtain ⟨ps, pc, e, e2, e3⟩ := parts hF
  refine ⟨v, .int n, _, .int n, rfl, s.rpH, .int n, fun m em => by cases em; exact ha.hi, s.tb, fun z => absurd (fine_plan hF) (by rw [z]; simp), fun _ => ⟨ps, pc, e, fun z => absurd ha.ok (by rw [← e3, z]; simp), fun _ m S x H' em hR hV ex tb => ?_⟩⟩
  cases em
  refine q S x H' ?_ hV ex (s.ex ex tb)
  unfold RoadR bR
  rw [e2, ← e3]
  exact hR
theorem k_wino (hi : σ[i]? = some (some v)) {n : Int} (hj : σ[j]? = some (some (.int n))) (hF : Fine rs) (s : Sl r P1 P2 v rs H) (ha : Asks rs n) (q : ∀ S x H', RoadR rs n S → WinV H' n S x → Ex H H' → Sl r P1 P2 v rs H' → Q x H') : tCall (spWinOf P1 P2 C C2) [] E (tCons (tVar i) (tCons (tVar j) tNil)) σ H Q := ⟨v, hi, .int n, hj, (c_wino hF s ha q : spWinOf P1 P2 C C2 [v, .int n] H Q E)⟩
end
theorem Kl.refl (r : Addr) (H : Hp) : Kl r H H := fun _ _ _ h _ => h
theorem Kl.mv {r : Addr} {H H1 H2 : Hp} (k : Kl r H H1) (m : Mv r H1 H2) : Kl r H H2 := fun b o n h t => m.keep b o n (k b o n h t)
theorem Kl.ex {r : Addr} {H H1 H2 : Hp} (k : Kl r H H1) (e : Ex H1 H2) : Kl r H H2 := fun b o n h t => e.keep (k b o n h t) t
theorem Kl.trans {r : Addr} {H H1 H2 : Hp} (k : Kl r H H1) (k2 : Kl r H1 H2) : Kl r H H2 := fun b o n h t => k2 b o n (k b o n h t) t
theorem Kl.kl {r : Addr} {H H1 : Hp} (k : Kl r H H1) : KL r H H1 := fun D zs n h => k D _ n h fun _ z => nomatch z
theorem Kl.lst {r D : Addr} {H H1 : Hp} {zs : List V} (k : Kl r H H1) (n : D ≠ r) (h : H D = some (.lst zs)) : H1 D = some (.lst zs) := k D _ n h fun _ z => nomatch z
theorem Kl.tup {r D : Addr} {H H1 : Hp} {zs : List V} (k : Kl r H H1) (n : D ≠ r) (h : H D = some (.tup zs)) : H1 D = some (.tup zs) := k D _ n h fun _ z => nomatch z
/-- the law's state, and all lists of a heap ahead but the spring stand there still -/
structure Sk (r P1 P2 : Addr) (v : V) (rs : List RowT) (H0 H : Hp) : Prop where
  s : Sl r P1 P2 v rs H
  k : Kl r H0 H
theorem Sk.mv {r P1 P2 : Addr} {v : V} {rs : List RowT} {H0 H H' : Hp} (a : Sk r P1 P2 v rs H0 H) (re : ReelAt H' r) (m : Mv r H H') : Sk r P1 P2 v rs H0 H' := ⟨a.s.mv re m, a.k.mv m⟩
theorem Sk.sm {r P1 P2 : Addr} {v : V} {rs : List RowT} {H0 H H' : Hp} (a : Sk r P1 P2 v rs H0 H) (m : Same H H') : Sk r P1 P2 v rs H0 H' := ⟨a.s.sm m, a.k.mv (Mv.of m)⟩
theorem Sk.ex {r P1 P2 : Addr} {v : V} {rs : List RowT} {H0 H H' : Hp} (a : Sk r P1 P2 v rs H0 H) (e : Ex H H') (t : Tb P1 P2 H') : Sk r P1 P2 v rs H0 H' := ⟨a.s.ex e t, a.k.ex e⟩
/-- [a call of each of a list of numbers] -/
theorem lc_ints {K : PySem.W.Frag} {P1 P2 D0 : Addr} {xs : List Int} {g : TG} {tt : TT} {te : TE} {vs : List Nat} {σ : L2.St} {H1 : Hp} {D : Addr} {Qd : Hp → Prop} (R : Int → Int → Prop) (e0 : H1 D0 = some (.lst (xs.map V.int))) (t0 : Tb P1 P2 H1) (hl : xs.length ≤ 1000) (nD : H1 D = none)
    (hs : ∀ (i : Nat) x H6 (k : VK) (F : Hp → Prop), xs[i]? = some x → Ex H1 H6 → Tb P1 P2 H6 → (∀ z H4, R x z → Ex H6 H4 → Tb P1 P2 H4 → k (.int z) H4) → g (.int x) (wipe σ vs) H6 fun σ2 H2 => wipe σ2 vs = wipe σ vs ∧ tt σ2 H2 fun b H3 => if b = true then te σ2 H3 k else F H3)
    (hd : ∀ (H : Hp) (qs : List Int), Ex H1 H → Tb P1 P2 H → H D = some (.lst (qs.map V.int)) → qs.length = xs.length → (∀ (j : Nat) x, xs[j]? = some x → ∃ z, qs[j]? = some z ∧ R x z) → Qd H) :
    ∃ W : Nat → Nat → Hp → Prop, (∃ m, W 0 m (upd H1 D (.lst []))) ∧ ∀ i m H, W i m H → ((Itl K D0).stop i H ∧ Qd H) ∨ ((Itl K D0).go i H ∧ ∃ Nx : Hp → Prop, (∀ H', Nx H' → ∃ m', m' < m ∧ W (i + 1) m' H') ∧ ∀ x H', (Itl K D0).yld i H x H' → g x (wipe σ vs) H' fun σ2 H2 => wipe σ2 vs = wipe σ vs ∧ tt σ2 H2 fun b H3 => if b = true then te σ2 H3 fun y H4 => ∃ acc, H4 D = some (.lst acc) ∧ acc.length < sizeLine ∧ Nx (upd H4 D (.lst (acc ++ [y]))) else Nx H3) := by
  refine lc_list (xs := xs.map V.int) (fun i H6 => ∃ qs : List Int, Ex H1 H6 ∧ Tb P1 P2 H6 ∧ H6 D = some (.lst (qs.map V.int)) ∧ qs.length = i ∧ ∀ (j : Nat) x, j < i → xs[j]? = some x → ∃ z, qs[j]? = some z ∧ R x z)
    ⟨[], Ex.new nD, t0.same (same_upd nD), upd_same, rfl, fun j x hj => absurd hj (Nat.not_lt_zero j)⟩ (fun i H6 _ ⟨qs, e6, _⟩ => SqL.of (e6.lst e0)) (fun i xv H6 hx ⟨qs, e6, t6, eq6, lq, hq⟩ => ?_) (fun H6 ⟨qs, e6, t6, eq6, lq, hq⟩ => ?_)
  · obtain ⟨x, hy, rfl⟩ : ∃ y, xs[i]? = some y ∧ xv = .int y := by
      rw [List.getElem?_map] at hx
      cases z : xs[i]? with
      | none => rw [z] at hx; cases hx
      | some y => rw [z] at hx; cases hx; exact ⟨y, rfl, rfl⟩
    have li : i < xs.length := (List.getElem?_eq_some_iff.mp hy).1
    refine hs i x H6 _ _ hy e6 t6 fun z H7 hz e7 t7 => ⟨qs.map V.int, e7.lst eq6, by rw [List.length_map]; exact small1000 (by omega), qs ++ [z], ex_updN (e6.trans e7) nD, tb_upd t7 (e7.lst eq6), by rw [upd_same, List.map_append]; rfl, by rw [List.length_append, lq]; rfl, fun j y hj hy' => ?_⟩
    by_cases c : j < i
    · obtain ⟨p', h1, h2⟩ := hq j y c hy'
      exact ⟨p', by rw [List.getElem?_append_left (by omega)]; exact h1, h2⟩
    · have : j = i := by omega
      subst this
      rw [hy] at hy'
      cases hy'
      exact ⟨z, by rw [← lq]; exact List.getElem?_concat_length, hz⟩
  · rw [List.length_map] at lq
    exact hd H6 qs e6 t6 eq6 lq fun j x hj => hq j x (by rw [List.length_map]; exact (List.getElem?_eq_some_iff.mp hj).1) hj
end CL
set_option Elab.async false
set_option linter.all false
set_option pp.maxSteps 600
set_option maxRecDepth 100000
set_option maxHeartbeats 4000000
namespace CL
open PySem PySem.Spec PyProof.Rows L2 GE
/-! ### a window, up to a bound -/
/-- the window (o, l) is met from s on up to the bound; so many places stand ahead of it -/
inductive Win (ps : List PieceT) : Int → Int → Int → Int → Int → Prop
  | here {bd o w : Int} : WP ps (some bd) o w → 0 < w → Win ps bd o o (o + w - 1) 0
  | inn {bd s o l w q : Int} : WP ps (some bd) s w → s < o → o < s + w → Win ps (s + w - 1) (s + 1) o l q → Win ps bd s o l q
  | skip {bd s o l w q : Int} : WP ps (some bd) s w → s + max w 1 ≤ o → Win ps bd (s + max w 1) o l q → Win ps bd s o l (w + q)
theorem win_ge {ps : List PieceT} {bd s o l q : Int} (h : Win ps bd s o l q) : s ≤ o ∧ o ≤ l := by
  induction h with
  | here => omega
  | inn => omega
  | skip => omega
theorem win_in {ps : List PieceT} (hp : PsOk ps) {bd s o l q : Int} (h : Win ps bd s o l q) : 0 ≤ q ∧ q + (l - o) ≤ bd - s ∧ l ≤ bd := by
  induction h with
  | here h h0 =>
    obtain ⟨p, _, h2, h3⟩ := wp_pos h h0
    have := h3 _ rfl
    omega
  | inn h h1 h2 _ ih =>
    obtain ⟨p, _, h3, h4⟩ := wp_pos h (by omega)
    have := h4 _ rfl
    omega
  | skip h h1 _ ih =>
    have := wp_nn hp h
    omega
theorem win_las {ps : List PieceT} {bd s o l q : Int} (h : Win ps bd s o l q) : Las ps (some bd) s o (some l) := by
  induction h with
  | here h h0 => exact .own h h0
  | inn h h1 h2 _ ih => exact .inn h h1 h2 ih
  | skip h h1 _ ih => exact .skip h h1 ih
/-- all of a window stand together, its opener last -/
theorem win_at {ps : List PieceT} (hp : PsOk ps) {bd s o l q : Int} (h : Win ps bd s o l q) : ∀ {y p : Int}, o ≤ y → y ≤ l → At ps bd s y p → q ≤ p ∧ p ≤ q + (l - o) ∧ (y = o → p = q + (l - o)) := by
  induction h with
  | here h h0 =>
    intro y p h1 h2 h'
    cases h' with
    | spare h3 => have := wp_uniq h h3; omega
    | own h3 h4 => have := wp_uniq h h3; omega
    | inn h3 h4 h5 h6 =>
      have e := wp_uniq h h3
      subst e
      have := at_in hp h6 (by omega)
      omega
    | skip h3 h4 => have := wp_uniq h h3; omega
  | inn h h1 h2 hw ih =>
    intro y p h3 h4 h'
    have hb := win_in hp hw
    cases h' with
    | spare h5 => omega
    | own h5 h6 => omega
    | inn h5 h6 h7 h8 => have e := wp_uniq h h5; subst e; exact ih h3 h4 h8
    | skip h5 h6 => have := wp_uniq h h5; omega
  | skip h h1 hw ih =>
    intro y p h3 h4 h'
    cases h' with
    | spare h5 => omega
    | own h5 h6 => omega
    | inn h5 h6 h7 h8 => have := wp_uniq h h5; omega
    | skip h5 h6 h7 =>
      have e := wp_uniq h h5
      subst e
      have := ih h3 h4 h7
      omega
/-- nobody else stands among them -/
theorem win_back {ps : List PieceT} (hp : PsOk ps) {bd s o l q : Int} (h : Win ps bd s o l q) : ∀ {y p : Int}, y ≤ bd → q ≤ p → p ≤ q + (l - o) → At ps bd s y p → o ≤ y ∧ y ≤ l := by
  induction h with
  | here h h0 =>
    intro y p hy h1 h2 h'
    cases h' with
    | spare h3 => have := wp_uniq h h3; omega
    | own h3 h4 => omega
    | inn h3 h4 h5 h6 => have := wp_uniq h h3; omega
    | skip h3 h4 h5 =>
      have := wp_uniq h h3
      have := at_in hp h5 hy
      omega
  | inn h h1 h2 hw ih =>
    intro y p hy h3 h4 h'
    have hb := win_in hp hw
    cases h' with
    | spare h5 => have := wp_uniq h h5; omega
    | own h5 h6 => have := wp_uniq h h5; omega
    | inn h5 h6 h7 h8 => have e := wp_uniq h h5; subst e; exact ih (by omega) h3 h4 h8
    | skip h5 h6 h7 =>
      have := wp_uniq h h5
      have := at_in hp h7 hy
      omega
  | skip h h1 hw ih =>
    intro y p hy h3 h4 h'
    have hb := win_in hp hw
    have hn := wp_nn hp h
    cases h' with
    | spare h5 => have := wp_uniq h h5; omega
    | own h5 h6 => have := wp_uniq h h5; omega
    | inn h5 h6 h7 h8 =>
      have e := wp_uniq h h5
      subst e
      obtain ⟨pp, _, h9, h10⟩ := wp_pos h (by omega)
      have := h10 _ rfl
      have := at_in hp h8 (by omega)
      omega
    | skip h5 h6 h7 =>
      have e := wp_uniq h h5
      subst e
      exact ih hy (by omega) (by omega) h7
/-- the windows around a person hold it, and lie within the bound -/
theorem road_lasts {ps : List PieceT} {b : Option Int} {s y : Int} {S : List StepT} (h : Road ps b s y S) : (∀ m, b = some m → y ≤ m) → ∀ z ∈ S, y ≤ z.2 ∧ ∀ m, b = some m → z.2 ≤ m := by
  induction h with
  | spare h => intro _ z hz; cases hz
  | own h h0 =>
    intro hb z hz
    rw [List.mem_singleton.mp hz]
    obtain ⟨p, _, h2, h3⟩ := wp_pos h h0
    exact ⟨by show _ ≤ _; omega, fun m e => by have := h3 m e; show _ ≤ _; omega⟩
  | inn h h0 h1 _ ih =>
    intro hb z hz
    obtain ⟨p, _, h2, h3⟩ := wp_pos h (by omega)
    rcases List.mem_cons.mp hz with rfl | hz
    · exact ⟨by show _ ≤ _; omega, fun m e => by have := h3 m e; show _ ≤ _; omega⟩
    · have h4 := ih (fun m e => by cases e; omega) z hz
      exact ⟨h4.1, fun m e => by have := h3 m e; have := h4.2 _ rfl; omega⟩
  | skip h h0 _ ih => exact fun hb z hz => ih hb z hz
/-- a window around a person, up to any bound that it lies within -/
theorem win_of {ps : List PieceT} (hp : PsOk ps) {b : Option Int} {s y : Int} {S : List StepT} (h : Road ps b s y S) : ∀ {c o l : Int}, (∀ m, b = some m → y ≤ m) → (∀ m, b = some m → c ≤ m) → (o, l) ∈ S → l ≤ c → ∃ q, Win ps c s o l q := by
  induction h with
  | spare h => intro c o l _ _ hm; cases hm
  | own h h0 =>
    intro c o l _ hb hm hl
    cases List.mem_singleton.mp hm
    exact ⟨_, .here (cut_in h h0 hl) h0⟩
  | @inn b s x w S h h0 h1 hR ih =>
    intro c o l hy hb hm hl
    rcases List.mem_cons.mp hm with e | hm
    · cases e
      exact ⟨_, .here (cut_in h (by omega) hl) (by omega)⟩
    · have hxm : ∀ m, some (s + w - 1) = some m → x ≤ m := fun m e => by cases e; omega
      have hL := road_lasts hR hxm _ hm
      have hl1 : l ≤ s + w - 1 := hL.2 _ rfl
      have ho : s + 1 ≤ o := (road_in hR _ hm).1
      have hol : o ≤ l := by
        have h2 := (road_in hR _ hm).2
        have h3 := hL.1
        have h4 : o ≤ x := h2
        have h5 : x ≤ l := h3
        omega
      rcases Int.lt_or_le c (s + w - 1) with c1 | c1
      · obtain ⟨q, hq⟩ := ih hxm (fun m e => by cases e; omega) hm hl
        exact ⟨_, .skip (cut_out h (by omega) c1) (by show s + max 0 1 ≤ o; rw [show max (0 : Int) 1 = 1 from rfl]; exact ho) (by show Win ps c (s + max 0 1) o l q; rw [show max (0 : Int) 1 = 1 from rfl]; exact hq)⟩
      · obtain ⟨q, hq⟩ := ih (c := s + w - 1) hxm (fun m e => by cases e; omega) hm hl1
        exact ⟨_, .inn (cut_in h (by omega) c1) (by omega) (by omega) hq⟩
  | @skip b s x w S h h0 hR ih =>
    intro c o l hy hb hm hl
    obtain ⟨q, hq⟩ := ih hy hb hm hl
    have hin := road_in hR _ hm
    have hL := road_lasts hR hy _ hm
    have h2 : s + max w 1 ≤ o := hin.1
    have h3 : o ≤ x := hin.2
    have h4 : x ≤ l := hL.1
    have hn := wp_nn hp h
    refine ⟨_, .skip ?_ h2 hq⟩
    by_cases e : w = 0
    · subst e
      by_cases e2 : b = some c
      · rw [e2] at h; exact h
      · exact cut_zero hp h fun m em => by
          have h5 := hb m em
          have : c ≠ m := fun z => e2 (by rw [em, z])
          omega
    · exact cut_in h (by omega) (by omega)
/-- a window that is told of somebody -/
def WinR (rs : List RowT) (z : StepT) : Prop := ∃ x S, RoadR rs x S ∧ Asks rs x ∧ z ∈ S
theorem WinR.ge {rs : List RowT} {o l : Int} (h : WinR rs (o, l)) : 0 ≤ o ∧ o ≤ l := by
  obtain ⟨x, S, hR, ha, hm⟩ := h
  have h1 := road_in hR _ hm
  have h2 := road_lasts hR (fun m e => ha.bnd m e) _ hm
  have h3 : 0 ≤ o := h1.1
  have h4 : o ≤ x := h1.2
  have h5 : x ≤ l := h2.1
  omega
theorem WinR.win {rs : List RowT} {o l c : Int} (hF : Fine rs) (h : WinR rs (o, l)) (hc : l ≤ c) (hb : ∀ m, bR rs = some m → c ≤ m) : ∃ q, Win (psR rs) c 0 o l q := by
  obtain ⟨x, S, hR, ha, hm⟩ := h
  exact win_of (psR_ok hF) hR (fun m e => ha.bnd m e) hb hm hc
/-- two windows: one opener has one last; one that begins within another ends within it -/
theorem win_two {ps : List PieceT} {bd o l o' l' q q' : Int} (h : Win ps bd 0 o l q) (h' : Win ps bd 0 o' l' q') (hb : l ≤ bd) : (o = o' → l = l') ∧ (o < o' → o' ≤ l → l' ≤ l) := by
  refine ⟨fun e => ?_, fun h1 h2 => ?_⟩
  · subst e
    exact Option.some.inj (las_uniq (win_las h) _ (win_las h'))
  · obtain ⟨j, e, hj⟩ := las_nest (win_las h) l o' (some l') rfl h1 h2 (fun m e => by cases e; have := win_ge h; omega) (win_las h')
    cases e
    exact hj
end CL
set_option Elab.async false
set_option linter.all false
set_option pp.maxSteps 600
set_option maxRecDepth 100000
set_option maxHeartbeats 4000000
namespace CL
open PySem PySem.Spec PyProof.Rows L2 GE
/-! ### the windows around a person, one within the other -/
theorem road_sorted {ps : List PieceT} {b : Option Int} {s x : Int} {S : List StepT} (h : Road ps b s x S) : S.Pairwise (fun a c => a.1 < c.1 ∧ c.2 ≤ a.2) := by
  induction h with
  | spare h => exact .nil
  | own h h0 => exact List.pairwise_singleton ..
  | @inn b s x w S h h0 h1 hR ih =>
    refine List.pairwise_cons.mpr ⟨fun z hz => ?_, ih⟩
    have h2 := road_in hR z hz
    have h3 := (road_lasts hR (fun m e => by cases e; omega) z hz).2 _ rfl
    exact ⟨by show s < z.1; omega, h3⟩
  | skip h h0 _ ih => exact ih
/-- a window ends where its opener's patience does -/
theorem road_pt {ps : List PieceT} {b : Option Int} {s x : Int} {S : List StepT} (h : Road ps b s x S) : ∀ {o l : Int}, (o, l) ∈ S → Pt ps o (.int (l - o)) := by
  induction h with
  | spare h => intro o l hm; cases hm
  | own h h0 =>
    intro o l hm
    cases List.mem_singleton.mp hm
    obtain ⟨p, h1, h2, _⟩ := wp_pos h h0
    rw [show ∀ y : Int, y + _ - 1 - y = p by intro y; omega]
    exact h1
  | inn h h0 h1 _ ih =>
    intro o l hm
    rcases List.mem_cons.mp hm with e | hm
    · cases e
      obtain ⟨p, h2, h3, _⟩ := wp_pos h (by omega)
      rw [show ∀ y : Int, y + _ - 1 - y = p by intro y; omega]
      exact h2
    · exact ih hm
  | skip h h0 _ ih => exact fun hm => ih hm
/-- a window's last is its opener's -/
theorem road_las {ps : List PieceT} {b : Option Int} {s x : Int} {S : List StepT} (h : Road ps b s x S) : ∀ {o l : Int}, (o, l) ∈ S → Las ps b s o (some l) := by
  induction h with
  | spare h => intro o l hm; cases hm
  | own h h0 =>
    intro o l hm
    cases List.mem_singleton.mp hm
    exact .own h h0
  | inn h h0 h1 hR ih =>
    intro o l hm
    rcases List.mem_cons.mp hm with e | hm
    · cases e
      exact .own h (by omega)
    · have h2 := road_in hR _ hm
      have h3 : _ ≤ o := h2.1
      have h4 : o ≤ _ := h2.2
      exact .inn h (by omega) (by omega) (ih hm)
  | skip h h0 hR ih =>
    intro o l hm
    have h2 : _ ≤ o := (road_in hR _ hm).1
    exact .skip h h2 (ih hm)
/-- whom a window holds has these windows around it, too -/
theorem road_share {ps : List PieceT} {b : Option Int} {s x : Int} {S : List StepT} (h : Road ps b s x S) : ∀ {k : Nat} {o l y : Int} {T : List StepT}, S[k]? = some (o, l) → o ≤ y → y ≤ l → Road ps b s y T → T.take (k + 1) = S.take (k + 1) := by
  induction h with
  | spare h => intro k o l y T hk; cases k <;> cases hk
  | @own b x w h h0 =>
    intro k o l y T hk h1 h2 hT
    cases k with
    | succ k => cases k <;> cases hk
    | zero =>
      cases hk
      cases hT with
      | spare h3 => have := wp_uniq h h3; omega
      | own h3 h4 => rw [wp_uniq h h3]
      | inn h3 h4 h5 h6 => rw [wp_uniq h h3]; rfl
      | skip h3 h4 => have := wp_uniq h h3; omega
  | @inn b s x w S h h0 h1 hR ih =>
    intro k o l y T hk h2 h3 hT
    cases k with
    | zero =>
      cases hk
      cases hT with
      | spare h4 => have := wp_uniq h h4; omega
      | own h4 h5 => rw [wp_uniq h h4]; rfl
      | inn h4 h5 h6 h7 => rw [wp_uniq h h4]; rfl
      | skip h4 h5 => have := wp_uniq h h4; omega
    | succ k =>
      have hm : (o, l) ∈ S := List.mem_of_getElem? hk
      have h4 : s + 1 ≤ o := (road_in hR _ hm).1
      have h5 : l ≤ s + w - 1 := (road_lasts hR (fun m e => by cases e; omega) _ hm).2 _ rfl
      cases hT with
      | spare h6 => omega
      | own h6 h7 => omega
      | inn h6 h7 h8 h9 =>
        have e := wp_uniq h h6
        subst e
        rw [List.take_succ_cons, List.take_succ_cons, ih (k := k) hk h2 h3 h9]
      | skip h6 h7 => have := wp_uniq h h6; omega
  | @skip b s x w S h h0 hR ih =>
    intro k o l y T hk h2 h3 hT
    have h4 : s + max w 1 ≤ o := (road_in hR _ (List.mem_of_getElem? hk)).1
    cases hT with
    | spare h6 => omega
    | own h6 h7 => omega
    | inn h6 h7 h8 => have := wp_uniq h h6; omega
    | skip h6 h7 h8 => have e := wp_uniq h h6; subst e; exact ih hk h2 h3 h8
/-- who opens none is left over: its patience goes beyond the innermost window's last -/
theorem road_spare {ps : List PieceT} {b : Option Int} {s x : Int} {S : List StepT} (h : Road ps b s x S) : (∀ l, S.getLast? ≠ some (x, l)) → WP ps (lastB b S) x 0 := by
  induction h with
  | spare h => exact fun _ => h
  | own h h0 => exact fun hn => absurd rfl (hn _)
  | @inn b s x w S h h0 h1 hR ih =>
    intro hn
    rw [lastB_cons]
    refine ih fun l e => hn l ?_
    cases S with
    | nil => cases e
    | cons z S => rw [List.getLast?_cons_cons]; exact e
  | skip h h0 _ ih => exact ih
theorem wp_none {ps : List PieceT} {b : Option Int} {x : Int} (hp : PsOk ps) (h : WP ps b x 0) {t : PyData} (ht : Pt ps x t) : t = .none ∨ ∃ p m, t = .int p ∧ b = some m ∧ m < x + p := by
  obtain ⟨t', h1, h2⟩ := wp_pt h
  obtain rfl := pt_uniq ht h1
  have hk := pt_ok hp ht
  cases t with
  | none => exact .inl rfl
  | int p =>
    have hp0 : (decide (0 ≤ p) && decide (p ≤ GREAT)) = true := hk
    simp only [Bool.and_eq_true, decide_eq_true_eq] at hp0
    refine .inr ⟨p, ?_⟩
    cases b with
    | none =>
      have : (0 : Int) = p + 1 := h2
      omega
    | some m =>
      refine ⟨m, rfl, rfl, ?_⟩
      have h3 : (0 : Int) = if x + p ≤ m then p + 1 else 0 := h2
      split at h3
      · omega
      · omega
  | _ => cases hk
end CL
set_option Elab.async false
set_option linter.all false
set_option pp.maxSteps 600
set_option maxRecDepth 100000
set_option maxHeartbeats 4000000
namespace CL
open PySem PySem.Spec PyProof.Rows L2 GE
/-! ### places and people -/
/-- who_ahead tells the one of the lesser place -/
theorem who_place {rs : List RowT} {mo x y p q : Int} {l : Option Int} (h : Mo rs mo mo) (hx1 : x < mo) (hy1 : y < mo) (hp : At (psR rs) (mo - 1) 0 x p) (hq : At (psR rs) (mo - 1) 0 y q) (hne : x ≠ y) (hl : LasR rs (if y < x then y else x) l) : decide (whoV l (if y < x then y else x) (if y > x then y else x) = x) = decide (p < q) := by
  have hps := psR_ok h.f
  rcases Int.lt_or_gt_of_ne hne with c | c
  · rw [if_neg (by omega)] at hl
    rw [if_neg (by omega), if_pos (show y > x from c), decide_eq_decide]
    obtain ⟨a1, a2⟩ := at_order hps hp c (by omega) hq (las_under h.f hl (by omega) h.bl)
    cases l with
    | none =>
      have : y ≤ lesser none (mo - 1) := by show y ≤ mo - 1; omega
      show y = x ↔ p < q
      omega
    | some k =>
      have e : lesser (some k) (mo - 1) = if mo - 1 < k then mo - 1 else k := rfl
      rw [e] at a1
      show (if k ≥ y then y else x) = x ↔ p < q
      split at a1 <;> split <;> omega
  · rw [if_pos c] at hl
    rw [if_pos c, if_neg (show ¬ y > x by omega), decide_eq_decide]
    obtain ⟨a1, a2⟩ := at_order hps hq c (by omega) hp (las_under h.f hl (by omega) h.bl)
    cases l with
    | none =>
      have : x ≤ lesser none (mo - 1) := by show x ≤ mo - 1; omega
      show x = x ↔ p < q
      omega
    | some k =>
      have e : lesser (some k) (mo - 1) = if mo - 1 < k then mo - 1 else k := rfl
      rw [e] at a1
      show (if k ≥ x then x else y) = x ↔ p < q
      split at a1 <;> split <;> omega
theorem cntR {ps : List PieceT} {b : Option Int} {s x : Int} (h : Rch ps b s x) : ∃ k, Cnt ps b s x k := by
  induction h with
  | here x => exact ⟨0, .here x⟩
  | on h1 _ ih => obtain ⟨k, hk⟩ := ih; exact ⟨_, .on h1 hk⟩
theorem cnt_spare {ps : List PieceT} {b : Option Int} : ∀ (k : Nat) {s e : Int}, (e - s).toNat = k → s ≤ e → (∀ x, s ≤ x → x < e → WP ps b x 0) → Cnt ps b s e (e - s)
  | 0, s, e, hk, hs, h => by
    obtain rfl : s = e := by omega
    rw [Int.sub_self]
    exact .here _
  | k + 1, s, e, hk, hs, h => by
    have h1 := cnt_spare k (s := s + 1) (e := e) (by omega) (by omega) fun x h2 h3 => h x (by omega) h3
    have h2 := h s (Int.le_refl _) (by omega)
    have h3 : Cnt ps b s e ((if (0 : Int) = 0 then 1 else 0) + (e - (s + 1))) := .on h2 (by rw [show max (0 : Int) 1 = 1 from rfl]; exact h1)
    rw [if_pos rfl, show 1 + (e - (s + 1)) = e - s by omega] at h3
    exact h3
/-- the refuser stands ahead of all that aren't safe, behind all others -/
theorem ref_place {rs : List RowT} {mo who p n : Int} (h : Mo rs mo mo) (hr : Ref (psR rs) mo (some who)) (hp : At (psR rs) (mo - 1) 0 who p) (hn : Uns (psR rs) mo n) : p = mo - 1 - n := by
  have hps := psR_ok h.f
  rcases hr with ⟨h0, _⟩ | ⟨who', w, e, h1, h2, h3, h4, h5⟩
  · cases h0
  · cases e
    obtain ⟨k, hk⟩ := cntR h1
    have hsp := cnt_spare (ps := psR rs) (b := some (mo - 1)) _ rfl (show who + w ≤ mo from h4) fun x a b => spr_wp (h5 x a b)
    have hc : Cnt (psR rs) (some (mo - 1)) who mo ((if w = 0 then 1 else 0) + (mo - (who + w))) := .on h2 (by rw [Int.max_eq_left (by omega)]; exact hsp)
    rw [if_neg (by omega)] at hc
    have e1 := cnt_uniq hn (cnt_trans hk hc)
    have e2 := at_uniq hp (at_of hps hk rfl (.own h2 h3))
    omega
/-! ### one by one -/
theorem rch_back {ps : List PieceT} {b : Option Int} {s x : Int} (h : Rch ps b s x) : ∀ {w : Int}, WP ps b x w → Rch ps b s (x + max w 1) := by
  induction h with
  | here x => exact fun hw => .on hw (.here _)
  | on h1 _ ih => exact fun hw => .on h1 (ih hw)
/-- on a level there is a last opener, or all are left over -/
theorem ref_ex {ps : List PieceT} (hp : PsOk ps) {bd : Int} : ∀ (k : Nat) {s : Int}, (bd + 1 - s).toNat = k → s ≤ bd + 1 → (∀ y, s ≤ y → y ≤ bd → ∃ t, Pt ps y t) →
    (∀ x, s ≤ x → x ≤ bd → SpR ps (some bd) s x) ∨ ∃ who w, Rch ps (some bd) s who ∧ WP ps (some bd) who w ∧ 0 < w ∧ who + w ≤ bd + 1 ∧ ∀ x, who + w ≤ x → x ≤ bd → SpR ps (some bd) s x := fun k => by
  induction k using Nat.strongRecOn with
  | ind k ih =>
    intro s hk hs hpt
    rcases Int.lt_or_le bd s with c | c
    · exact .inl fun x h1 h2 => by omega
    · obtain ⟨t, ht⟩ := hpt s (Int.le_refl _) c
      have hw := pt_wp (some bd) ht
      generalize wd (some bd) s t = w at hw
      have w0 := wp_nn hp hw
      by_cases cw : w = 0
      · subst cw
        have hm : max (0 : Int) 1 = 1 := rfl
        rcases ih (bd + 1 - (s + 1)).toNat (by omega) (s := s + 1) rfl (by omega) fun y h1 h2 => hpt y (by omega) h2 with h | ⟨who, w, h1, h2, h3, h4, h5⟩
        · refine .inl fun x h1 h2 => ?_
          by_cases e : x = s
          · subst e; exact .here hw
          · exact .on hw (by rw [hm]; omega) (by rw [hm]; exact h x (by omega) h2)
        · refine .inr ⟨who, w, .on hw (by rw [hm]; exact h1), h2, h3, h4, fun x h6 h7 => ?_⟩
          have := rch_le h1
          exact .on hw (by rw [hm]; omega) (by rw [hm]; exact h5 x h6 h7)
      · obtain ⟨p, _, hp1, hp2⟩ := wp_pos hw (by omega)
        have hb := hp2 _ rfl
        have hm : max w 1 = w := by omega
        rcases ih (bd + 1 - (s + w)).toNat (by omega) (s := s + w) rfl (by omega) fun y h1 h2 => hpt y (by omega) h2 with h | ⟨who, w', h1, h2, h3, h4, h5⟩
        · refine .inr ⟨s, w, .here s, hw, by omega, by omega, fun x h1 h2 => .on hw (by rw [hm]; exact h1) (by rw [hm]; exact h x h1 h2)⟩
        · refine .inr ⟨who, w', .on hw (by rw [hm]; exact h1), h2, h3, h4, fun x h6 h7 => ?_⟩
          have := rch_le h1
          exact .on hw (by rw [hm]; omega) (by rw [hm]; exact h5 x h6 h7)
theorem uns_ex {rs : List RowT} {m other : Int} (h : Mo rs m other) : ∃ n, Uns (psR rs) m n ∧ ∃ o, Ref (psR rs) m o := by
  have hps := psR_ok h.f
  have hlo := h.lo
  have hpt : ∀ y, 0 ≤ y → y ≤ m - 1 → ∃ t, Pt (psR rs) y t := fun y h0 h1 => h.pts (x := y) (by have := h.le; omega) y h0 (Int.le_refl _)
  rcases ref_ex hps (bd := m - 1) _ (s := 0) rfl (by omega) hpt with h1 | ⟨who, w, h1, h2, h3, h4, h5⟩
  · have hc := cnt_spare (ps := psR rs) (b := some (m - 1)) _ rfl (show (0 : Int) ≤ m by omega) fun x a b => spr_wp (h1 x a (by omega))
    exact ⟨_, hc, none, .inl ⟨rfl, fun x a b => h1 x a (by omega)⟩⟩
  · obtain ⟨k, hk⟩ := cntR h1
    have hsp := cnt_spare (ps := psR rs) (b := some (m - 1)) _ rfl (show who + w ≤ m by omega) fun x a b => spr_wp (h5 x a (by omega))
    have hc : Cnt (psR rs) (some (m - 1)) who m ((if w = 0 then 1 else 0) + (m - (who + w))) := .on h2 (by rw [Int.max_eq_left (by omega)]; exact hsp)
    exact ⟨_, cnt_trans hk hc, some who, .inr ⟨who, w, rfl, h1, h2, h3, by omega, fun x a b => h5 x a (by omega)⟩⟩
/-- the patience left of one whose patience is that, past whom so many went -/
def leftO (o : Option Int) (c : Int) : Option Int := o.map (· - c)
/-- who stands where when so many have come one by one, how many went past each, what each has left -/
structure Sim (rs : List RowT) (os : List (Option Int)) (m : Nat) (qs past : List Int) (left : List (Option Int)) : Prop where
  lq : qs.length = m
  lp : past.length = os.length
  ll : left.length = os.length
  at_ : ∀ (p : Nat) x, qs[p]? = some x → 0 ≤ x ∧ x < m ∧ At (psR rs) ((m : Int) - 1) 0 x p
  pa : ∀ (x : Nat) l, x < m → LasR rs (x : Int) l → past[x]? = some (lesser l ((m : Int) - 1) - x)
  le : ∀ (x : Nat) o c, x < m → os[x]? = some o → past[x]? = some c → left[x]? = some (leftO o c)
  pz : ∀ x : Nat, m ≤ x → x < os.length → past[x]? = some 0
  lz : ∀ x : Nat, m ≤ x → left[x]? = os[x]?
/-- the patiences of the first people -/
structure Firsts (rs : List RowT) (os : List (Option Int)) : Prop where
  f : Fine rs
  pt : ∀ (x : Nat) o, os[x]? = some o → Pt (psR rs) (x : Int) (pdO o)
  du : ∀ s, dueO rs = some s → (os.length : Int) ≤ s
  hi : os.length ≤ 1000
theorem Firsts.mo {rs : List RowT} {os : List (Option Int)} (h : Firsts rs os) {m n : Nat} (h1 : 1 ≤ m) (h2 : m ≤ n) (h3 : n ≤ os.length) : Mo rs (m : Int) (n : Int) := ⟨h.f, by omega, by omega, by have := h.hi; omega, fun s e => by have := h.du s e; omega⟩
theorem Firsts.las {rs : List RowT} {os : List (Option Int)} (h : Firsts rs os) {x : Nat} (hx : x < os.length) : ∃ l, LasR rs (x : Int) l := by
  have hm := h.mo (m := x + 1) (n := x + 1) (by omega) (Nat.le_refl _) hx
  exact las_total (psR_ok h.f) _ (b := bR rs) (s := 0) (x := (x : Int)) rfl (by omega) (hm.pts (by omega))
/-- one who stands there at a moment: what is known of it -/
theorem Sim.one {rs : List RowT} {os left : List (Option Int)} {m : Nat} {qs past : List Int} {n : Int} (hf : Firsts rs os) (hs : Sim rs os m qs past left) (hm : m ≤ os.length) (hn : Uns (psR rs) (m : Int) n) {p : Nat} {x : Int} (hx : qs[p]? = some x) : ∃ (k : Nat) (l o : Option Int), x = (k : Int) ∧ k < m ∧ p < m ∧ LasR rs x l ∧ os[k]? = some o ∧ past[k]? = some (lesser l ((m : Int) - 1) - x) ∧ left[k]? = some (leftO o (lesser l ((m : Int) - 1) - x)) ∧ (SpR (psR rs) (some ((m : Int) - 1)) 0 x ↔ (m : Int) - n ≤ p) ∧ Las (psR rs) (some ((m : Int) - 1)) 0 x (some (lesser l ((m : Int) - 1))) := by
  obtain ⟨x0, x1, ha⟩ := hs.at_ p x hx
  have hp : p < m := by rw [← hs.lq]; exact (List.getElem?_eq_some_iff.mp hx).1
  obtain ⟨k, rfl⟩ : ∃ k : Nat, x = (k : Int) := ⟨x.toNat, (Int.toNat_of_nonneg x0).symm⟩
  have hk : k < m := by omega
  obtain ⟨l, hl⟩ := hf.las (x := k) (by omega)
  have ho : os[k]? = some os[k] := List.getElem?_eq_getElem (by omega)
  have hp1 := hs.pa k l hk hl
  have hmo := hf.mo (m := m) (n := m) (by omega) (Nat.le_refl _) hm
  have hn' : Cnt (psR rs) (some ((m : Int) - 1)) 0 ((m : Int) - 1 + 1) n := by rw [show (m : Int) - 1 + 1 = m by omega]; exact hn
  have hc := at_calm (psR_ok hf.f) ha (by omega) hn'
  exact ⟨k, l, _, rfl, hk, hp, hl, ho, hp1, hs.le k _ _ hk ho hp1, by rw [hc]; constructor <;> intro h <;> omega, las_under hf.f hl (by omega) hmo.bl⟩
/-- who isn't safe lets somebody past still -/
theorem Sim.lets {rs : List RowT} {os left : List (Option Int)} {m : Nat} {qs past : List Int} {n : Int} (hf : Firsts rs os) (hs : Sim rs os m qs past left) (hm : m ≤ os.length) (hn : Uns (psR rs) (m : Int) n) {p : Nat} {x : Int} (hx : qs[p]? = some x) (hp : (m : Int) - n ≤ p) : ∃ k o, x = ((k : Nat) : Int) ∧ left[k]? = some o ∧ o ≠ some 0 := by
  obtain ⟨k, l, o, rfl, hk, hpm, hl, ho, hpa, hle, hsp, hu⟩ := hs.one hf hm hn hx
  refine ⟨k, _, rfl, hle, fun e => ?_⟩
  have hps := psR_ok hf.f
  have h1 := hsp.mpr hp
  have hpt := hf.pt k o ho
  rcases wp_none hps (spr_wp h1) hpt with h | ⟨q, mm, h, em, hlt⟩
  · cases o with
    | none => cases e
    | some q => cases h
  · cases o with
    | none => cases h
    | some q' =>
      have e2 : q' = q := by cases h; rfl
      subst e2
      cases em
      have e3 : q' - (lesser l ((m : Int) - 1) - k) = 0 := Option.some.inj e
      have h4 : lesser l ((m : Int) - 1) ≤ (m : Int) - 1 := by
        cases l with
        | none => exact Int.le_refl _
        | some z => show (if (m : Int) - 1 < z then (m : Int) - 1 else z) ≤ _; split <;> omega
      omega
/-- the one farthest back of those that are safe lets nobody past -/
theorem Sim.keeps {rs : List RowT} {os left : List (Option Int)} {m : Nat} {qs past : List Int} {n : Int} (hf : Firsts rs os) (hs : Sim rs os m qs past left) (hm : m ≤ os.length) (hn : Uns (psR rs) (m : Int) n) {p : Nat} {x : Int} (hx : qs[p]? = some x) (hp : (p : Int) = (m : Int) - n - 1) : (∃ k, x = ((k : Nat) : Int) ∧ left[k]? = some (some 0)) ∧ Ref (psR rs) (m : Int) (some x) := by
  obtain ⟨k, l, o, rfl, hk, hpm, hl, ho, hpa, hle, hsp, hu⟩ := hs.one hf hm hn hx
  have hps := psR_ok hf.f
  have hmo := hf.mo (m := m) (n := m) (by omega) (Nat.le_refl _) hm
  obtain ⟨n2, hn2, ro, hro⟩ := uns_ex hmo
  obtain rfl := cnt_uniq hn hn2
  obtain ⟨_, _, ha⟩ := hs.at_ p _ hx
  cases ro with
  | none =>
    rcases hro with ⟨_, h⟩ | ⟨_, _, e, _⟩
    · have := hsp.mp (h _ (by omega) (by omega))
      omega
    · cases e
  | some who =>
    have hro' := hro
    rcases hro with ⟨e, _⟩ | ⟨who', w, e, h1, h2, h3, h4, h5⟩
    · cases e
    · cases e
      have hwho := rch_le h1
      obtain ⟨pw, hpw⟩ := at_total hps _ (bd := (m : Int) - 1) (s := 0) (x := who) rfl hwho (hmo.pts (by omega))
      have e1 := ref_place hmo hro' hpw hn
      obtain rfl := at_one hps ha (by omega) (by omega) (by omega) hpw
      refine ⟨⟨k, rfl, ?_⟩, hro'⟩
      obtain ⟨q, hq1, hq2, _⟩ := wp_pos h2 h3
      have e2 := Option.some.inj (las_uniq hu _ (las_of h1 (.own h2 h3)))
      have hpt := pt_uniq (hf.pt k o ho) hq1
      cases o with
      | none => cases hpt
      | some q' =>
        have e3 : q' = q := PyData.int.inj hpt
        rw [hle, e3]
        show some (some (q - (lesser l ((m : Int) - 1) - k))) = some (some 0)
        congr 2
        omega
theorem Sim.none {rs : List RowT} {os left : List (Option Int)} {m : Nat} {qs past : List Int} {n : Int} (hf : Firsts rs os) (hm : m ≤ os.length) (hn : Uns (psR rs) (m : Int) n) (h : (m : Int) = n) : Ref (psR rs) (m : Int) none := by
  have hps := psR_ok hf.f
  refine .inl ⟨rfl, fun x x0 x1 => ?_⟩
  have hmo := hf.mo (m := m) (n := m) (by omega) (Nat.le_refl _) hm
  obtain ⟨p, hp⟩ := at_total hps _ (bd := (m : Int) - 1) (s := 0) (x := x) rfl x0 (hmo.pts (by omega))
  have hn' : Cnt (psR rs) (some ((m : Int) - 1)) 0 ((m : Int) - 1 + 1) n := by rw [show (m : Int) - 1 + 1 = m by omega]; exact hn
  have := at_in hps hp (by omega)
  exact (at_calm hps hp (by omega) hn').mpr (by omega)
/-! ### one more comes -/
/-- all of the last places have let one more past -/
structure Mid (m : Nat) (qs past : List Int) (left : List (Option Int)) (spot : Nat) (past' : List Int) (left' : List (Option Int)) : Prop where
  lp : past'.length = past.length
  ll : left'.length = left.length
  pa : ∀ (x : Nat) c, past[x]? = some c → past'[x]? = some (c + if (x : Int) ∈ qs.drop spot then 1 else 0)
  le : ∀ (x : Nat) o, left[x]? = some o → left'[x]? = some (if (x : Int) ∈ qs.drop spot then o.map (· - 1) else o)
theorem Mid.zero {m : Nat} {qs past : List Int} {left : List (Option Int)} (h : qs.length = m) : Mid m qs past left m past left := by
  have e : qs.drop m = [] := List.drop_of_length_le (by omega)
  refine ⟨rfl, rfl, fun x c hc => ?_, fun x o ho => ?_⟩
  · rw [e, if_neg (by simp), Int.add_zero]; exact hc
  · rw [e, if_neg (by simp)]; exact ho
theorem Sim.next {rs : List RowT} {os left left' : List (Option Int)} {m spot : Nat} {qs past past' : List Int} {n : Int} (hf : Firsts rs os) (hs : Sim rs os m qs past left) (hm : m < os.length) (hn : Uns (psR rs) (m : Int) n) (hsp : (spot : Int) = (m : Int) - n) (hmid : Mid m qs past left spot past' left') : Sim rs os (m + 1) (qs.take spot ++ [(m : Int)] ++ qs.drop spot) past' left' := by
  have hps := psR_ok hf.f
  have n0 := cnt_nn hn
  have hlq := hs.lq
  have hmo1 := hf.mo (m := m + 1) (n := m + 1) (by omega) (Nat.le_refl _) hm
  have e1 : ((m + 1 : Nat) : Int) - 1 = m := by omega
  have key : ∀ (p : Nat) x, qs[p]? = some x → ∃ (k : Nat) (l o : Option Int), x = (k : Int) ∧ k < m ∧ p < m ∧ LasR rs x l ∧ os[k]? = some o ∧ past[k]? = some (lesser l ((m : Int) - 1) - x) ∧ left[k]? = some (leftO o (lesser l ((m : Int) - 1) - x)) ∧ At (psR rs) (m : Int) 0 x (p + if spot ≤ p then 1 else 0) ∧ lesser l (m : Int) = lesser l ((m : Int) - 1) + if spot ≤ p then 1 else 0 := fun p x hx => by
    obtain ⟨k, l, o, rfl, hk, hpm, hl, ho, hpa, hle, hcalm, hu⟩ := hs.one hf (by omega) hn hx
    have hmo := hf.mo (m := m) (n := m + 1) (by omega) (by omega) hm
    obtain ⟨_, _, ha⟩ := hs.at_ p _ hx
    obtain ⟨p', hp'⟩ := at_total hps _ (bd := ((m + 1 : Nat) : Int) - 1) (s := 0) (x := (k : Int)) rfl (by omega) (hmo.pts (by omega))
    have man : Man rs (m : Int) ((m + 1 : Nat) : Int) (k : Int) p p' := ⟨by omega, by omega, ha, hp'⟩
    have hmore := man.more hmo hl
    have hle2 : lesser l (m : Int) = lesser l ((m : Int) - 1) + if spot ≤ p then 1 else 0 := by
      by_cases c : spot ≤ p
      · rw [if_pos c]
        have h1 := hcalm.mpr (by omega)
        rcases las_cut hps hl (show (k : Int) ≤ (m : Int) - 1 by omega) (fun b e => by have := hmo.bl b e; omega) with ⟨_, h2⟩ | ⟨h2, _⟩
        · cases l with
          | none => show (m : Int) = (m : Int) - 1 + 1; omega
          | some z =>
            have := h2 z rfl
            show (if (m : Int) < z then (m : Int) else z) = (if (m : Int) - 1 < z then (m : Int) - 1 else z) + 1
            split <;> (try split) <;> omega
        · exact absurd h1 h2
      · rw [if_neg c, Int.add_zero]
        have h3 := man.calm hmo hl hn (by omega)
        rw [e1] at h3
        exact h3
    rw [e1] at hp' hmore
    refine ⟨k, l, o, rfl, hk, hpm, hl, ho, hpa, hle, ?_, hle2⟩
    rw [show (p : Int) + (if spot ≤ p then 1 else 0) = p' by omega]
    exact hp'
  obtain ⟨pm, hpm⟩ := at_total hps _ (bd := ((m + 1 : Nat) : Int) - 1) (s := 0) (x := (m : Int)) rfl (by omega) (hmo1.pts (by omega))
  rw [e1] at hpm
  have hnew := at_newest hps hpm rfl hn
  have hin : ∀ k : Nat, (k : Int) ∈ qs → ∃ p, qs[p]? = some (k : Int) ∧ ((k : Int) ∈ qs.drop spot ↔ spot ≤ p) := fun k hk => by
    obtain ⟨p, hp⟩ := List.getElem?_of_mem hk
    refine ⟨p, hp, fun h => ?_, fun h => ?_⟩
    · obtain ⟨j, hj⟩ := List.getElem?_of_mem h
      rw [List.getElem?_drop] at hj
      obtain ⟨_, _, a1⟩ := hs.at_ p _ hp
      obtain ⟨_, _, a2⟩ := hs.at_ _ _ hj
      have := at_uniq a1 a2
      omega
    · exact List.mem_of_getElem? (i := p - spot) (by rw [List.getElem?_drop, show spot + (p - spot) = p by omega]; exact hp)
  have hall : ∀ k : Nat, k < m → (k : Int) ∈ qs := fun k hk => by
    have hmo := hf.mo (m := m) (n := m) (by omega) (Nat.le_refl _) (by omega)
    obtain ⟨p, hp⟩ := at_total hps _ (bd := (m : Int) - 1) (s := 0) (x := (k : Int)) rfl (by omega) (hmo.pts (by omega))
    obtain ⟨p0, p1⟩ := at_in hps hp (by omega)
    have hpl : p.toNat < qs.length := by omega
    obtain ⟨_, _, ha⟩ := hs.at_ p.toNat _ (List.getElem?_eq_getElem hpl)
    have e := at_one hps hp (by omega) (by have := (hs.at_ p.toNat _ (List.getElem?_eq_getElem hpl)).2.1; omega) (by omega) ha
    rw [e]
    exact List.getElem_mem hpl
  have hnot : (m : Int) ∉ qs.drop spot := fun h => by
    obtain ⟨p, hp⟩ := List.getElem?_of_mem (List.mem_of_mem_drop h)
    have := (hs.at_ p _ hp).2.1
    omega
  have ltake : (qs.take spot).length = spot := by rw [List.length_take]; omega
  refine ⟨by rw [List.length_append, List.length_append, ltake, List.length_drop, List.length_singleton]; omega, by rw [hmid.lp, hs.lp], by rw [hmid.ll, hs.ll], fun p x hx => ?_, fun x l hx hl => ?_, fun x o c hx ho hc => ?_, fun x hx hx2 => ?_, fun x hx => ?_⟩
  · rw [e1]
    rcases Nat.lt_trichotomy p spot with c | c | c
    · rw [List.append_assoc, List.getElem?_append_left (by omega), List.getElem?_take, if_pos c] at hx
      obtain ⟨k, l, o, rfl, hk, _, _, _, _, _, ha, _⟩ := key p x hx
      rw [if_neg (by omega), Int.add_zero] at ha
      exact ⟨by omega, by omega, ha⟩
    · subst c
      rw [List.append_assoc, List.getElem?_append_right (by omega), ltake, Nat.sub_self] at hx
      cases hx
      exact ⟨by omega, by omega, by rw [hsp]; rw [show (m : Int) - n = pm by omega]; exact hpm⟩
    · rw [List.append_assoc, List.getElem?_append_right (by omega), ltake] at hx
      obtain ⟨j, hj⟩ : ∃ j, p - spot = j + 1 := ⟨p - spot - 1, by omega⟩
      rw [hj] at hx
      have hx' : (qs.drop spot)[j]? = some x := hx
      rw [List.getElem?_drop] at hx'
      obtain ⟨k, l, o, rfl, hk, _, _, _, _, _, ha, _⟩ := key (spot + j) x hx'
      rw [if_pos (by omega), show ((spot + j : Nat) : Int) + 1 = (p : Int) by omega] at ha
      exact ⟨by omega, by omega, ha⟩
  · rw [e1]
    by_cases c : x = m
    · subst c
      have h1 := hmid.pa x 0 (hs.pz x (Nat.le_refl _) hm)
      rw [if_neg hnot] at h1
      rw [h1]
      congr 1
      have h2 := (las_le hl fun b e => by have := hmo1.bl b e; omega).1
      cases l with
      | none => show (0 : Int) + 0 = (x : Int) - x; omega
      | some z =>
        have := (h2 z rfl).1
        show (0 : Int) + 0 = (if (x : Int) < z then (x : Int) else z) - x
        split <;> omega
    · obtain ⟨p, hp, hiff⟩ := hin x (hall x (by omega))
      obtain ⟨k, l', o, ek, hk, _, hl', _, hpa, _, _, hle2⟩ := key p _ hp
      obtain rfl : x = k := by omega
      obtain rfl := las_uniq hl _ hl'
      rw [hmid.pa x _ hpa, hle2]
      congr 1
      by_cases c2 : spot ≤ p
      · rw [if_pos (hiff.mpr c2), if_pos c2]; omega
      · rw [if_neg (fun h => c2 (hiff.mp h)), if_neg c2]; omega
  · by_cases c2 : x = m
    · subst c2
      have h1 := hmid.pa x 0 (hs.pz x (Nat.le_refl _) hm)
      rw [if_neg hnot, hc] at h1
      have h2 := hmid.le x o (by rw [hs.lz x (Nat.le_refl _)]; exact ho)
      rw [if_neg hnot] at h2
      rw [h2]
      have e : c = 0 := by have := Option.some.inj h1; omega
      subst e
      congr 1
      cases o with
      | none => rfl
      | some q => show some q = some (q - 0); rw [Int.sub_zero]
    · obtain ⟨p, hp, hiff⟩ := hin x (hall x (by omega))
      obtain ⟨k, l', o', ek, hk, _, hl', ho', hpa, hle', _, hle2⟩ := key p _ hp
      obtain rfl : x = k := by omega
      rw [ho] at ho'
      cases ho'
      have h1 := hmid.pa x _ hpa
      rw [hc] at h1
      have h2 := hmid.le x _ hle'
      rw [h2]
      have e := Option.some.inj h1
      by_cases c3 : spot ≤ p
      · rw [if_pos (hiff.mpr c3)] at e ⊢
        subst e
        cases o with
        | none => rfl
        | some q => show some (some (q - _ - 1)) = some (some (q - (_ + 1))); congr 2; omega
      · rw [if_neg (fun h => c3 (hiff.mp h))] at e ⊢
        rw [Int.add_zero] at e
        rw [e]
  · have h1 := hmid.pa x 0 (hs.pz x (by omega) hx2)
    have hno : (x : Int) ∉ qs.drop spot := fun h => by
      obtain ⟨p, hp⟩ := List.getElem?_of_mem (List.mem_of_mem_drop h)
      have := (hs.at_ p _ hp).2.1
      omega
    rw [if_neg hno] at h1
    exact h1
  · have hno : (x : Int) ∉ qs.drop spot := fun h => by
      obtain ⟨p, hp⟩ := List.getElem?_of_mem (List.mem_of_mem_drop h)
      have := (hs.at_ p _ hp).2.1
      omega
    cases ho : os[x]? with
    | none =>
      have h1 : os.length ≤ x := by
        rcases Nat.lt_or_ge x os.length with c | c
        · rw [List.getElem?_eq_getElem c] at ho; cases ho
        · exact c
      exact List.getElem?_eq_none (by rw [hmid.ll, hs.ll]; exact h1)
    | some o =>
      have h2 := hmid.le x o (by rw [hs.lz x (by omega)]; exact ho)
      rw [if_neg hno] at h2
      exact h2
end CL
set_option Elab.async false
set_option linter.all false
set_option pp.maxSteps 600
set_option maxRecDepth 100000
set_option maxHeartbeats 4000000
namespace CL
open PySem PySem.Spec PyProof.Rows L2 GE
theorem eqvAll_ints : ∀ as bs : List Int, PyData.eqvAll (as.map PyData.int) (bs.map PyData.int) = decide (as = bs)
  | [], [] => by simp [PyData.eqvAll]
  | [], b :: bs => by simp [PyData.eqvAll]
  | a :: as, [] => by simp [PyData.eqvAll]
  | a :: as, b :: bs => by
    have ih := eqvAll_ints as bs
    simp only [List.map_cons, PyData.eqvAll, ih, List.cons.injEq, PyData.eqv]
    by_cases h : a = b
    · simp [h]
    · simp [h]
theorem eqv_ints (as bs : List Int) : PyData.eqv (.list (as.map PyData.int)) (.list (bs.map PyData.int)) = decide (as = bs) := by
  have := eqvAll_ints as bs
  simp [PyData.eqv, this]
theorem sorted_uniq : ∀ {xs ys : List Int}, xs.Perm ys → xs.Pairwise (· ≤ ·) → ys.Pairwise (· ≤ ·) → xs = ys
  | [], ys, p, _, _ => (List.Perm.nil_eq p)
  | x :: xs, [], p, _, _ => absurd p.length_eq (by simp)
  | x :: xs, y :: ys, p, hx, hy => by
    obtain ⟨h1, h2⟩ := List.pairwise_cons.mp hx
    obtain ⟨h3, h4⟩ := List.pairwise_cons.mp hy
    have a1 : y ≤ x := by
      rcases List.mem_cons.mp (p.mem_iff.mp List.mem_cons_self) with e | e
      · omega
      · exact h3 x e
    have a2 : x ≤ y := by
      rcases List.mem_cons.mp (p.mem_iff.mpr (List.mem_cons_self : y ∈ y :: ys)) with e | e
      · omega
      · exact h1 y e
    obtain rfl : x = y := by omega
    rw [sorted_uniq (List.Perm.cons_inv p) h2 h4]
end CL
set_option Elab.async false
set_option linter.all false
set_option maxRecDepth 100000
set_option maxHeartbeats 4000000
namespace CL
open PySem PySem.Spec PyProof.Rows L2 GE
/-! ### sorted(row) of whole numbers, a list or a tuple -/
section
variable {P : Program} {w : World} {A : Around} {E : Value → Shared → Prop} {t : Shared}
/-- a fresh list of what a tuple holds -/
abbrev taken (h : Heap) (us : List Value) : Heap := Heap.update (Heap.push h (seqObj "list" #[] 0)) h.objs.size (Obj.mapSeq fun z => z ++ us.toArray)
theorem grab_tup {b : Addr} {us : List Value} {R : List Value → Shared → Prop} {ob : Obj} {c : Nat} (hob : t.heap.get? b = some ob) (hcl : ob.cls = .type "tuple") (hda : ob.data = .seq us.toArray c)
    (hle : us.length ≤ sizeLine) (hr : R us { t with heap := taken t.heap us }) : wpAny (model P w) A (collect (.ref b)) R E t := by
  have up : (t.heap.push (seqObj "list" #[] 0)).get? b = some ob := Heap.get?_push_of_some _ hob
  have own : (t.heap.push (seqObj "list" #[] 0)).get? t.heap.objs.size = some (seqObj "list" #[] 0) := Heap.get?_push_size _ rfl
  unfold collect
  refine wpAny_bind (wpAny_runValue (codeAny_builtin entry_proto_collect' (?_ : wpAny _ _ (do again (.builtin "list.__iadd__" ⟨[← newList [], .ref b], []⟩)) _ _ t)))
  refine wpAny_bind (wpAny_newList (wpAny_pure ⟨Code.quiet_builtin _ (by decide +kernel), codeAny_builtin entry_list_iadd' ?_⟩))
  show wpAny _ _ (Builtin.List.listExtendWith (.ref t.heap.objs.size) (.ref b) (.ref t.heap.objs.size)) _ _ { t with heap := Heap.push t.heap (seqObj "list" #[] 0) }
  unfold Builtin.List.listExtendWith
  refine wpAny_bind (wpAny_typeOf (T := "tuple") ⟨ob, up, hcl⟩ ?_)
  have isT : (Value.type "tuple" == Value.type "tuple") = true := by rfl
  rw [if_pos (show (Builtin.List.listSameRef (.ref t.heap.objs.size) (.ref b) || Value.type "tuple" == .type "list" || Value.type "tuple" == .type "tuple") = true by rw [isT, Bool.or_true])]
  refine wpAny_bind (listItems_at up hda (wpAny_bind (listItems_at (n := 0) (xs := #[]) own rfl ?_)))
  rw [if_neg (show ¬ (!(#[] : Array Value).isEmpty && Builtin.List.listTooLong ((#[] : Array Value).size + us.toArray.size)) = true by simp)]
  refine wpAny_bind (listUpdate_at (n := 0) (xs := #[]) own rfl (wpAny_pure ?_) (Nat.zero_le _) (Nat.le_succ_of_le (by simpa using hle)))
  have got : (taken t.heap us).get? t.heap.objs.size = some (Obj.mapSeq (fun z => z ++ us.toArray) (seqObj "list" #[] 0)) := Heap.get?_update_self _ own rfl
  show wpAny (model P w) A (load t.heap.objs.size >>= fun o => match o.data with
    | .seq xs _ => pure xs.toList
    | _ => unsupported "internal:collect") R E { t with heap := taken t.heap us }
  refine wpAny_bind (wpAny_load got ?_)
  have e : ((#[] : Array Value) ++ us.toArray).toList = us := by simp
  show wpAny _ _ (pure ((#[] : Array Value) ++ us.toArray).toList) R E _
  rw [e]
  exact wpAny_pure hr
theorem sorted_tup {b : Addr} {us : List Value} {ns : List Int} {R : Value → Shared → Prop} {ob : Obj} {c : Nat} (hob : t.heap.get? b = some ob) (hcl : ob.cls = .type "tuple") (hda : ob.data = .seq us.toArray c) (hI : IntsAre us ns) (hfew : us.length < 64)
    (hr : ∀ (out : Array Value) (ms : List Int), IntsAre out.toList ms → ms.Perm ns → ms.Pairwise (· ≤ ·) → R (.ref (t.heap.objs.size + 1)) { t with heap := sortedAll t.heap us out }) : wpAny (model P w) A (call (.builtin "sorted") [.ref b]) R E t := by
  have hle : us.length ≤ sizeLine := small64 hfew
  refine Calls.call_function_entry kind_sorted plain_sorted entry_sorted (args_sorted1 (.ref b)) ?_
  unfold Builtin.«sorted»
  refine wpAny_bind (m := checkCount "sorted" 1 1 _) (wpAny_pure (wpAny_bind (grab_tup hob hcl hda hle (wpAny_bind (wpAny_newList ?_ hle)))))
  have sz : (taken t.heap us).objs.size = t.heap.objs.size + 1 := (Heap.size_update ..).trans (size_push' ..)
  have mine : ((taken t.heap us).push (seqObj "list" us.toArray 0)).get? (t.heap.objs.size + 1) = some (seqObj "list" us.toArray 0) := by
    have z : ((taken t.heap us).push (seqObj "list" us.toArray 0)).get? (taken t.heap us).objs.size = some (seqObj "list" us.toArray 0) := Heap.get?_push_size _ rfl
    rwa [sz] at z
  show wpAny _ _ _ _ _ { t with heap := (taken t.heap us).push (seqObj "list" us.toArray 0) }
  rw [sz]
  exact wpAny_bind (wpAny_holding (wpAny_call_entry slot_list_sort ⟨_, mine, rfl⟩ entry_list_sort (list_sort_tree mine hI hfew fun out ms a1 a2 a3 => ⟨_, rfl, wpAny_pure ⟨_, rfl, hr out ms a1 a2 a3⟩⟩) (args_list_sort _)))
end
def rSortedX (K : PySem.W.Frag) : List V → Hp → VK → Prop := fun vs H Q => ∃ (a : Addr) (ns : List Int), vs = [V.ref a] ∧ (SqL K H a (ns.map V.int) ∨ SqT K H a (ns.map V.int)) ∧ ns.length < 64 ∧ ∀ (ms : List Int) (p : Addr), ms.Perm ns → ms.Pairwise (· ≤ ·) → H p = none → Q (.ref p) (upd H p (.lst (ms.map V.int)))
theorem cr_sortedX {X : Cx} : CallR X (.builtin "sorted") (rSortedX X.K) := by
  intro pins s σ H vs us Q I r ⟨a, ns, ev, hs, h64, q⟩
  subst ev
  rcases hs with hs | hs
  · exact cr_sorted pins s σ H _ us Q I r ⟨a, ns, rfl, hs, h64, q⟩
  · obtain ⟨its, rv, ⟨ob, hob, hcl, c, hda⟩, _⟩ := I.tuple hs
    have hi := rv.ints
    rw [Vals.ref1 r]
    refine sorted_tup hob hcl hda hi (by rw [hi.length]; exact h64) fun out ms h1 h2 h3 => ?_
    obtain ⟨ep, he⟩ := PyProof.Rows.sortedAll_at s.heap its out
    have few : (ms.map V.int).length ≤ sizeLine := by rw [List.length_map, h2.length_eq]; exact small64 h64
    have ok : ObjOk X.prog X.w (upd H (s.heap.objs.size + 1) (.lst (ms.map V.int))) (sortedAll s.heap its out) (s.heap.objs.size + 1) (.lst (ms.map V.int)) := ⟨few, out.toList, ep, vals_of_ints h1, he⟩
    exact ⟨.ref (s.heap.objs.size + 1), _, I.laid (t' := s.toks) (fun _ _ => PyProof.Rows.sortedAll_old) (Nat.le_succ _) ok, rfl, q ms _ h2 h3 (I.hok.fresh (Nat.le_succ _))⟩
end CL
set_option Elab.async false
set_option linter.all false
set_option pp.maxSteps 900
set_option maxRecDepth 100000
set_option maxHeartbeats 4000000
namespace CL
open PySem PySem.Spec PyProof.Rows L2 GE
abbrev sStd : Stmt := topS 42
abbrev nStd : List Str := ["patiences", "queue", "left", "past", "who", "spot", "other"]
theorem scStd : FnScope nStd ["patiences"] (defScope sStd) := ⟨rfl, rfl, rfl, by decide +kernel, rfl, by decide +kernel, by decide +kernel⟩
def spStd (K : PySem.W.Frag) : Sp := fun vs H Q _ => ∃ a rs, ∃ os : List (Option Int), vs = [.ref a] ∧ SqL K H a (os.map optV) ∧ Firsts rs os ∧ os.length ≤ 300 ∧ ∀ t q l p qs past left H', Same H H' → H q = none → H p = none → H' t = some (.tup [.ref q, .ref p, .ref l]) → H' q = some (.lst (qs.map V.int)) → H' p = some (.lst (past.map V.int)) → H' l = some (.lst (left.map optV)) → Sim rs os os.length qs past left → Q (.ref t) H'
theorem ixN_of {n j : Nat} (hj : j < n) : ixN n (j : Int) = some j := by
  unfold ixN
  rw [if_pos (by omega), if_pos (by omega), Int.toNat_natCast]
theorem Mid.step {m p k : Nat} {qs past past' : List Int} {left left' : List (Option Int)} {c : Int} {o : Option Int} (h : Mid m qs past left (p + 1) past' left') (hx : qs[p]? = some (k : Int)) (hc : past'[k]? = some c) (ho : left'[k]? = some o) (hno : (k : Int) ∉ qs.drop (p + 1)) : Mid m qs past left p (past'.set k (c + 1)) (left'.set k (o.map (· - 1))) := by
  have hp : p < qs.length := (List.getElem?_eq_some_iff.mp hx).1
  have hd : qs.drop p = (k : Int) :: qs.drop (p + 1) := by rw [List.drop_eq_getElem_cons hp, (List.getElem?_eq_some_iff.mp hx).2]
  have hk1 : k < past'.length := (List.getElem?_eq_some_iff.mp hc).1
  have hk2 : k < left'.length := (List.getElem?_eq_some_iff.mp ho).1
  refine ⟨by rw [List.length_set, h.lp], by rw [List.length_set, h.ll], fun x c0 hx0 => ?_, fun x o0 hx0 => ?_⟩
  · have h1 := h.pa x c0 hx0
    by_cases e : x = k
    · subst e
      rw [if_neg hno, hc] at h1
      rw [List.getElem?_set_self hk1, hd, if_pos List.mem_cons_self]
      have := Option.some.inj h1
      congr 1
      omega
    · rw [List.getElem?_set_ne (fun z => e z.symm), h1, hd]
      have : ((x : Int) ∈ (k : Int) :: qs.drop (p + 1)) ↔ (x : Int) ∈ qs.drop (p + 1) := by
        rw [List.mem_cons]
        exact ⟨fun z => z.elim (fun z => by omega) id, .inr⟩
      simp only [this]
  · have h1 := h.le x o0 hx0
    by_cases e : x = k
    · subst e
      rw [if_neg hno, ho] at h1
      rw [List.getElem?_set_self hk2, hd, if_pos List.mem_cons_self, Option.some.inj h1]
    · rw [List.getElem?_set_ne (fun z => e z.symm), h1, hd]
      have : ((x : Int) ∈ (k : Int) :: qs.drop (p + 1)) ↔ (x : Int) ∈ qs.drop (p + 1) := by
        rw [List.mem_cons]
        exact ⟨fun z => z.elim (fun z => by omega) id, .inr⟩
      simp only [this]
section
variable {P : Program} {w : World} {K : PySem.W.Frag} {mg : Str → Option Value} {base : Heap}
theorem ok_std {f : Addr} {fd : FuncData} (F : Fun K "_law_stood" "_law_stood" sStd f fd) (T : Nm mg) (hrange : mg "range" = none) : FnOk P w K mg base CX0 1 f fd ["patiences"] (spStd K) := by
  refine F.ok scStd (fun vs H Q E ⟨a, rs, os, e, _⟩ => by rw [e]; rfl) (fun cdv A outer s H vs Q E hr h => ?_)
  obtain ⟨a, rs, os, rfl, hS, hf, h300, q⟩ := h
  have nd := scStd.nd
  refine ⟨_, (pss_cons (ps_set (i := 1) nd rfl (.inl rfl) (pe_lst pa_nil))
      (pss_cons (ps_set (i := 2) nd rfl (.inl rfl) (pe_callTy call_list_of (by rfl) T.list (by decide +kernel) (pa_cons (pv 0) pa_nil)))
      (pss_cons (ps_set (i := 3) nd rfl (.inl rfl) (pe_op op_rep (pe_lst (pa_cons pe_int pa_nil)) (pe_callB call_len_seq (by rfl) T.len PySem.boot_len (pa_cons (pv 0) pa_nil))))
      (pss_cons (ps_for PassesOwn.never rfl (pi_range1 (by rfl) hrange (pa_cons (pe_callB call_len_seq (by rfl) T.len PySem.boot_len (pa_cons (pv 0) pa_nil)) pa_nil)) (pg_name (i := 4) nd rfl (.inl rfl)) (pss_cons (ps_set (i := 5) nd rfl (.inl rfl) (pe_callB call_len_seq (by rfl) T.len PySem.boot_len (pa_cons (pv 1) pa_nil)))
      (pss_cons (ps_while PassesOwn.never (PW.pt (pw_and (pt_cmpR op_gt (pv 5) pe_int (nomark _)) (pw_and1 (pt_cmpR op_ne (pe_ix ix_list (pv 2) (pe_ix ix_list (pv 1) (pe_op op_sub (pv 5) pe_int) (fun _ _ => rfl)) (fun _ _ => rfl)) pe_int (nomark _))))) (pss_cons (ps_set (i := 5) nd rfl (.inl rfl) (pe_op op_sub (pv 5) pe_int))
      (pss_cons (ps_set (i := 6) nd rfl (.inl rfl) (pe_ix ix_list (pv 1) (pv 5) (fun _ _ => rfl)))
      (pss_cons (ps_asg (pe_op op_add (pe_ix ix_list (pv 3) (pv 6) (fun _ _ => rfl)) pe_int) (pg_sub (pv 3) (pv 6) set_list))
      (pss_one (ps_asg (pe_ifExp (pt_cmp (pc_isN (pe_ix ix_list (pv 2) (pv 6) (fun _ _ => rfl)))) pe_non (pe_op op_sub (pe_ix ix_list (pv 2) (pv 6) (fun _ _ => rfl)) pe_int)) (pg_sub (pv 2) (pv 6) set_list)))))))
      (pss_one (ps_set (i := 1) nd rfl (.inl rfl) (pe_op op_cat (pe_op op_cat (pe_slice sl_list (pv 1) po_none (po_some (pv 5))) (pe_lst (pa_cons (pv 4) pa_nil))) (pe_slice sl_list (pv 1) (po_some (pv 5)) po_none)))))))
      (pss_one (ps_ret (pe_tup (pa_cons (pv 1) (pa_cons (pv 3) (pa_cons (pv 2) pa_nil)))))))))), ?_⟩
  have lm : (os.map optV).length = os.length := List.length_map ..
  refine ⟨Nat.zero_le _, fun A1 n1 => ?_⟩
  have s1 := same_upd (o := .lst []) n1
  have e1 : (upd H A1 (.lst [])) A1 = some (.lst ([].map V.int)) := upd_same
  generalize upd H A1 (.lst []) = H1 at s1 e1 ⊢
  refine ⟨.ref a, rfl, a, _, rfl, .inl (s1.seq hS), fun A2 n2 => ?_⟩
  have s2 := same_upd (o := .lst (os.map optV)) n2
  have e2 : (upd H1 A2 (.lst (os.map optV))) A2 = some (.lst (os.map optV)) := upd_same
  have e12 := s2 _ _ e1
  have h12 : A1 ≠ A2 := fun z => by rw [← z, e1] at n2; cases n2
  generalize upd H1 A2 (.lst (os.map optV)) = H2 at s2 e2 e12 ⊢
  refine ⟨small_le (by show 1 ≤ 1000; decide), fun A0 n0 => ⟨.ref a, rfl, a, _, rfl, .inl ((s1.trans (s2.trans (same_upd n0))).seq hS), A0, _, [.int 0], rfl, rfl, upd_same, by omega, by omega, small_le (by show 1 * ((os.map optV).length : Int).toNat ≤ 1000; omega), fun A3 n3 => ?_⟩⟩
  have erep : (List.replicate ((os.map optV).length : Int).toNat [V.int 0]).flatten = (List.replicate os.length (0 : Int)).map V.int := by
    rw [lm, Int.toNat_natCast, List.map_replicate]
    generalize os.length = n
    induction n with
    | zero => rfl
    | succ n ih => rw [List.replicate_succ, List.flatten_cons, ih, List.replicate_succ]; rfl
  rw [erep]
  have s0 := same_upd (o := .lst [.int 0]) n0
  have s3 := same_upd (o := .lst ((List.replicate os.length (0 : Int)).map V.int)) n3
  have sH3 := s1.trans (s2.trans (s0.trans s3))
  have e3 : (upd (upd H2 A0 (.lst [.int 0])) A3 (.lst ((List.replicate os.length (0 : Int)).map V.int))) A3 = some (.lst ((List.replicate os.length (0 : Int)).map V.int)) := upd_same
  have e13 := s3 _ _ (s0 _ _ e12)
  have e23 := s3 _ _ (s0 _ _ e2)
  have h13 : A1 ≠ A3 := fun z => by rw [← z, s0 _ _ e12] at n3; cases n3
  have h23 : A2 ≠ A3 := fun z => by rw [← z, s0 _ _ e2] at n3; cases n3
  have nA2 : H A2 = none := s1.free n2
  have nA3 : H A3 = none := s1.free (s2.free (s0.free n3))
  generalize upd (upd H2 A0 (.lst [.int 0])) A3 (.lst ((List.replicate os.length (0 : Int)).map V.int)) = H3 at sH3 e3 e13 e23 ⊢
  show tSeq _ _ _ [some (.ref a), some (.ref A1), some (.ref A2), some (.ref A3), none, none, none] H3
  refine ⟨.ref a, rfl, a, _, rfl, .inl (sH3.seq hS), _, rfl, by omega, by omega, ?_⟩
  have sim0 : Sim rs os 0 [] (List.replicate os.length (0 : Int)) os := ⟨rfl, List.length_replicate, rfl, fun p x h => absurd h (by simp), fun x l h => absurd h (Nat.not_lt_zero x), fun x o c h => absurd h (Nat.not_lt_zero x), fun x _ h => by rw [List.getElem?_replicate, if_pos h], fun x _ => rfl⟩
  refine for_range (lo := 0) (n := ((os.map optV).length : Int).toNat) (fun m σ H4 => ∃ (A1 : Addr) (y4 y5 y6 : Option V) (qs past : List Int) (left : List (Option Int)), σ = [some (.ref a), some (.ref A1), some (.ref A2), some (.ref A3), y4, y5, y6] ∧ Same H H4 ∧ A1 ≠ A2 ∧ A1 ≠ A3 ∧ H A1 = none ∧ H4 A1 = some (.lst (qs.map V.int)) ∧ H4 A2 = some (.lst (left.map optV)) ∧ H4 A3 = some (.lst (past.map V.int)) ∧ Sim rs os m qs past left)
    ⟨A1, none, none, none, [], _, os, rfl, sH3, h12, h13, n1, e13, e23, e3, sim0⟩ (fun m σ H4 hm hP => ?_) (fun σ H4 hP => ?_)
  · obtain ⟨A1, y4, y5, y6, qs, past, left, rfl, s4, h12, h13, n1, e1, e2, e3, sim⟩ := hP
    have hm' : m < os.length := by omega
    rw [Int.zero_add]
    have hlq := sim.lq
    obtain ⟨n, hn⟩ : ∃ n, Uns (psR rs) (m : Int) n := by
      rcases Nat.eq_zero_or_pos m with z | z
      · subst z; exact ⟨0, .here _⟩
      · obtain ⟨n, hn, _⟩ := uns_ex (hf.mo (m := m) (n := m) z (Nat.le_refl _) (by omega))
        exact ⟨n, hn⟩
    have n0 := cnt_nn hn
    have nup := cnt_up (psR_ok hf.f) hn
    refine ⟨.ref A1, rfl, A1, _, rfl, .inl (SqL.of e1), ?_⟩
    rw [show ((qs.map V.int).length : Int) = (m : Int) by rw [List.length_map, hlq]]
    dsimp only [gName]
    show tSeq _ _ _ [some (.ref a), some (.ref A1), some (.ref A2), some (.ref A3), some (.int (m : Int)), some (.int (m : Int)), y6] H4
    refine ⟨fun k σ H5 => ∃ (y6 : Option V) (past' : List Int) (left' : List (Option Int)), σ = [some (.ref a), some (.ref A1), some (.ref A2), some (.ref A3), some (.int (m : Int)), some (.int (k : Int)), y6] ∧ k ≤ m ∧ (m : Int) - n ≤ k ∧ Same H H5 ∧ H5 A1 = some (.lst (qs.map V.int)) ∧ H5 A2 = some (.lst (left'.map optV)) ∧ H5 A3 = some (.lst (past'.map V.int)) ∧ Mid m qs past left k past' left',
      ⟨m, y6, past, left, rfl, Nat.le_refl _, by omega, s4, e1, e2, e3, Mid.zero hlq⟩, fun k σ H5 ⟨y6, past', left', eσ, hk, hkn, s5, e51, e52, e53, mid⟩ => ?_⟩
    subst eσ
    -- behind the loop: the newcomer stops there
    have stop : (k : Int) = (m : Int) - n → ∀ {D : Ends}, (∀ (A1' : Addr) (y5 y6 : Option V) (qs' past' : List Int) (left' : List (Option Int)) H', Same H H' → A1' ≠ A2 → A1' ≠ A3 → H A1' = none → H' A1' = some (.lst (qs'.map V.int)) → H' A2 = some (.lst (left'.map optV)) → H' A3 = some (.lst (past'.map V.int)) → Sim rs os (m + 1) qs' past' left' → D.nx [some (.ref a), some (.ref A1'), some (.ref A2), some (.ref A3), some (.int (m : Int)), y5, y6] H') → tAsg (tOp rCat (tOp rCat (tSl (rSlL K) (tVar 1) tNoPart (tPart (tVar 5))) (tLst (tCons (tVar 4) tNil))) (tSl (rSlL K) (tVar 1) (tPart (tVar 5)) tNoPart)) (gName 1) D [some (.ref a), some (.ref A1), some (.ref A2), some (.ref A3), some (.int (m : Int)), some (.int (k : Int)), y6] H5 := fun hk2 {D} nxt => by
      have lqs : (qs.map V.int).length = m := by rw [List.length_map, hlq]
      refine ⟨.ref A1, rfl, .int (k : Int), rfl, (k : Int), rfl, A1, _, rfl, SqL.of e51, fun B1 nB1 => ⟨.int (m : Int), rfl, small_le (by show 1 ≤ 1000; decide), fun B2 nB2 => ?_⟩⟩
      rw [cut_to] at nB2 ⊢
      have s6 := same_upd (o := .lst ((qs.map V.int).take k)) nB1
      have s7 := same_upd (o := .lst [.int (m : Int)]) nB2
      have eB1 := s7 _ _ (upd_same (H := H5) (a := B1) (o := .lst ((qs.map V.int).take k)))
      have eB2 : (upd (upd H5 B1 (.lst ((qs.map V.int).take k))) B2 (.lst [.int (m : Int)])) B2 = some (.lst [.int (m : Int)]) := upd_same
      have s57 := s6.trans s7
      generalize upd (upd H5 B1 (.lst ((qs.map V.int).take k))) B2 (.lst [.int (m : Int)]) = H7 at eB1 eB2 s57 ⊢
      refine ⟨B1, B2, _, _, rfl, rfl, eB1, eB2, small_add (by rw [List.length_take]; omega) (by show 1 ≤ 1000; decide), fun B3 nB3 => ?_⟩
      have s8 := same_upd (o := .lst ((qs.map V.int).take k ++ [.int (m : Int)])) nB3
      have eB3 : (upd H7 B3 (.lst ((qs.map V.int).take k ++ [.int (m : Int)]))) B3 = some (.lst ((qs.map V.int).take k ++ [.int (m : Int)])) := upd_same
      generalize upd H7 B3 (.lst ((qs.map V.int).take k ++ [.int (m : Int)])) = H8 at s8 eB3 ⊢
      have s58 := s57.trans s8
      refine ⟨.ref A1, rfl, .int (k : Int), rfl, (k : Int), rfl, A1, _, rfl, SqL.of (s58 _ _ e51), fun B4 nB4 => ?_⟩
      rw [cut_from] at ⊢
      have s9 := same_upd (o := .lst ((qs.map V.int).drop k)) nB4
      have eB4 : (upd H8 B4 (.lst ((qs.map V.int).drop k))) B4 = some (.lst ((qs.map V.int).drop k)) := upd_same
      have eB3' := s9 _ _ eB3
      have s59 := s58.trans s9
      generalize upd H8 B4 (.lst ((qs.map V.int).drop k)) = H9 at s59 eB4 eB3' ⊢
      refine ⟨B3, B4, _, _, rfl, rfl, eB3', eB4, small_add (by rw [List.length_append, List.length_take]; show min k _ + 1 ≤ 1000; omega) (by rw [List.length_drop]; omega), fun B5 nB5 => ?_⟩
      have s10 := same_upd (o := .lst (((qs.map V.int).take k ++ [.int (m : Int)]) ++ (qs.map V.int).drop k)) nB5
      have s510 := s59.trans s10
      have hB : H B5 = none := s5.free (s59.free nB5)
      refine nxt B5 _ _ (qs.take k ++ [(m : Int)] ++ qs.drop k) past' left' _ (s5.trans s510) (fun z => ?_) (fun z => ?_) hB ?_ (s510 _ _ e52) (s510 _ _ e53) (sim.next hf hm' hn hk2 mid)
      · rw [z, s59 _ _ e52] at nB5; cases nB5
      · rw [z, s59 _ _ e53] at nB5; cases nB5
      · rw [upd_same, List.map_append, List.map_append, List.map_take, List.map_drop]; rfl
    have fin : (k : Int) = (m : Int) - n → ∀ (W : Nat → L2.St → Hp → Prop), True := fun _ _ => trivial
    rcases Nat.eq_zero_or_pos k with z | z
    · subst z
      refine ⟨.int ((0 : Nat) : Int), rfl, _, _, rfl, rfl, _, rfl, ite2 (fun z => absurd z (by simp)) (fun _ => iteF ?_)⟩
      refine stop (by omega) fun A1' y5 y6 qs' past'' left'' H' s' g1 g2 g3 g4 g5 g6 g7 => ?_
      exact ⟨A1', _, _, _, qs', past'', left'', rfl, s', g1, g2, g3, g4, g5, g6, g7⟩
    · obtain ⟨p, rfl⟩ : ∃ p, k = p + 1 := ⟨k - 1, by omega⟩
      have hp1 : ((p + 1 : Nat) : Int) - 1 = (p : Int) := by omega
      obtain ⟨x, hx⟩ : ∃ x, qs[p]? = some x := ⟨_, List.getElem?_eq_getElem (by omega)⟩
      obtain ⟨kk, l, o, rfl, hkm, hpm, _, ho, hpa, hle, _, _⟩ := sim.one hf (by omega) hn hx
      have hno : (kk : Int) ∉ qs.drop (p + 1) := fun h => by
        obtain ⟨j, hj⟩ := List.getElem?_of_mem h
        rw [List.getElem?_drop] at hj
        obtain ⟨_, _, b1⟩ := sim.at_ p _ hx
        obtain ⟨_, _, b2⟩ := sim.at_ _ _ hj
        have := at_uniq b1 b2
        omega
      have hl' := mid.le kk _ hle
      rw [if_neg hno] at hl'
      have hp' := mid.pa kk _ hpa
      rw [if_neg hno, Int.add_zero] at hp'
      generalize leftO o (lesser l ((m : Int) - 1) - (kk : Int)) = oo at hl' hle
      generalize lesser l ((m : Int) - 1) - (kk : Int) = cc at hp' hpa
      refine ⟨.int ((p + 1 : Nat) : Int), rfl, ((p + 1 : Nat) : Int), 0, rfl, rfl, _, rfl, ite2 (fun _ => ?_) (fun z => absurd (decide_eq_true (show (0 : Int) < ((p + 1 : Nat) : Int) by omega)) z)⟩
      have rdx : ∀ {Q' : VK}, Q' (optV oo) H5 → (tOp (rIxL K) (tVar 2) (tOp (rIxL K) (tVar 1) (tOp (rI0 fun i j => V.int (i - j)) (tVar 5) (tC (V.int 1))))) [some (.ref a), some (.ref A1), some (.ref A2), some (.ref A3), some (.int (m : Int)), some (.int ((p + 1 : Nat) : Int)), y6] H5 Q' := fun hQ =>
        ⟨.ref A2, rfl, .ref A1, rfl, .int ((p + 1 : Nat) : Int), rfl, ((p + 1 : Nat) : Int), 1, rfl, rfl, A1, _, ((p + 1 : Nat) : Int) - 1, .int (kk : Int), rfl, rfl, SqL.of e51, by rw [hp1]; exact atI_nat (by rw [List.getElem?_map, hx]; rfl), A2, _, (kk : Int), optV oo, rfl, rfl, SqL.of e52, atI_nat (by rw [List.getElem?_map, hl']; rfl), hQ⟩
      refine rdx ⟨by cases oo <;> rfl, _, rfl, ?_⟩
      by_cases hz : oo = some 0
      · subst hz
        refine ite2 (fun z => absurd z (by simp [optV])) (fun _ => ?_)
        have hk3 : ((p + 1 : Nat) : Int) = (m : Int) - n := by
          rcases Int.lt_or_le (p : Int) ((m : Int) - n) with c | c
          · omega
          · obtain ⟨k', o', ek, hl2, hne⟩ := sim.lets hf (by omega) hn hx c
            have : kk = k' := by omega
            subst this
            rw [hle] at hl2
            exact absurd (Option.some.inj hl2).symm hne
        refine stop hk3 fun A1' y5 y6 qs' past'' left'' H' s' g1 g2 g3 g4 g5 g6 g7 => ?_
        exact ⟨A1', _, _, _, qs', past'', left'', rfl, s', g1, g2, g3, g4, g5, g6, g7⟩
      · have hk3 : (m : Int) - n ≤ (p : Int) := by
          rcases Int.lt_or_le (p : Int) ((m : Int) - n) with c | c
          · obtain ⟨⟨k', ek, hl2⟩, _⟩ := sim.keeps hf (by omega) hn hx (by omega)
            have : kk = k' := by omega
            subst this
            rw [hle] at hl2
            exact absurd (Option.some.inj hl2) hz
          · exact c
        refine ite2 (fun _ => ?_) (fun z => absurd (by cases oo with | none => rfl | some w => simp [optV]; intro e; exact hz (by rw [e])) z)
        refine ⟨fun σ' H' => ∃ m', m' < p + 1 ∧ ∃ (y6 : Option V) (past' : List Int) (left' : List (Option Int)), σ' = [some (.ref a), some (.ref A1), some (.ref A2), some (.ref A3), some (.int (m : Int)), some (.int (m' : Int)), y6] ∧ m' ≤ m ∧ (m : Int) - n ≤ m' ∧ Same H H' ∧ H' A1 = some (.lst (qs.map V.int)) ∧ H' A2 = some (.lst (left'.map optV)) ∧ H' A3 = some (.lst (past'.map V.int)) ∧ Mid m qs past left m' past' left', fun σ' H' ⟨m', h1, h2⟩ => ⟨m', h1, h2⟩, ?_⟩
        refine ⟨.int ((p + 1 : Nat) : Int), rfl, ((p + 1 : Nat) : Int), 1, rfl, rfl, ?_⟩
        dsimp only [gName]
        rw [hp1]
        show tSeq _ _ _ [some (.ref a), some (.ref A1), some (.ref A2), some (.ref A3), some (.int (m : Int)), some (.int (p : Int)), y6] H5
        refine ⟨.ref A1, rfl, .int (p : Int), rfl, A1, _, (p : Int), .int (kk : Int), rfl, rfl, SqL.of e51, atI_nat (by rw [List.getElem?_map, hx]; rfl), ?_⟩
        dsimp only [gName]
        show tSeq _ _ _ [some (.ref a), some (.ref A1), some (.ref A2), some (.ref A3), some (.int (m : Int)), some (.int (p : Int)), some (.int (kk : Int))] H5
        have hk3l : kk < past'.length := (List.getElem?_eq_some_iff.mp hp').1
        have hk2l : kk < left'.length := (List.getElem?_eq_some_iff.mp hl').1
        refine ⟨.ref A3, rfl, .int (kk : Int), rfl, A3, _, (kk : Int), .int cc, rfl, rfl, SqL.of e53, atI_nat (by rw [List.getElem?_map, hp']; rfl), cc, 1, rfl, rfl, .ref A3, rfl, .int (kk : Int), rfl, A3, _, (kk : Int), kk, rfl, rfl, e53, ixN_of (by rw [List.length_map]; exact hk3l), ?_⟩
        have q51 : (upd H5 A3 (.lst ((past'.map V.int).set kk (.int (cc + 1))))) A1 = some (.lst (qs.map V.int)) := by rw [upd_ne h13]; exact e51
        have q52 : (upd H5 A3 (.lst ((past'.map V.int).set kk (.int (cc + 1))))) A2 = some (.lst (left'.map optV)) := by rw [upd_ne h23]; exact e52
        have q53 : (upd H5 A3 (.lst ((past'.map V.int).set kk (.int (cc + 1))))) A3 = some (.lst ((past'.set kk (cc + 1)).map V.int)) := by rw [upd_same, List.map_set]
        have qs5 : Same H (upd H5 A3 (.lst ((past'.map V.int).set kk (.int (cc + 1))))) := fun b ob hb => by
          rw [upd_ne (fun z => by rw [z, nA3] at hb; cases hb)]
          exact s5 _ _ hb
        dsimp only []
        show tAsg _ _ _ [some (.ref a), some (.ref A1), some (.ref A2), some (.ref A3), some (.int (m : Int)), some (.int (p : Int)), some (.int (kk : Int))] (upd H5 A3 (.lst ((past'.map V.int).set kk (.int (cc + 1)))))
        generalize upd H5 A3 (.lst ((past'.map V.int).set kk (.int (cc + 1)))) = H6 at q51 q52 q53 qs5 ⊢
        have put : ∀ {D : Ends} {w : Option Int}, w = oo.map (· - 1) → (∀ H', Same H H' → H' A1 = some (.lst (qs.map V.int)) → H' A2 = some (.lst ((left'.set kk w).map optV)) → H' A3 = some (.lst ((past'.set kk (cc + 1)).map V.int)) → D.nx [some (.ref a), some (.ref A1), some (.ref A2), some (.ref A3), some (.int (m : Int)), some (.int (p : Int)), some (.int (kk : Int))] H') → D.nx [some (.ref a), some (.ref A1), some (.ref A2), some (.ref A3), some (.int (m : Int)), some (.int (p : Int)), some (.int (kk : Int))] (upd H6 A2 (.lst ((left'.map optV).set kk (optV w)))) := fun {D w} _ hD => by
          refine hD _ (fun b ob hb => ?_) ?_ ?_ ?_
          · rw [upd_ne (fun z => by rw [z, nA2] at hb; cases hb)]
            exact qs5 _ _ hb
          · rw [upd_ne h12]; exact q51
          · rw [upd_same, List.map_set]
          · rw [upd_ne (fun z => h23 z.symm)]; exact q53
        have mid' := mid.step hx hp' hl' hno
        refine ⟨.ref A2, rfl, .int (kk : Int), rfl, A2, _, (kk : Int), optV oo, rfl, rfl, SqL.of q52, atI_nat (by rw [List.getElem?_map, hl']; rfl), _, rfl, ?_⟩
        cases oo with
        | none =>
          refine ite2 (fun _ => ?_) (fun z => absurd (by simp [optV]) z)
          refine ⟨.ref A2, rfl, .int (kk : Int), rfl, A2, _, (kk : Int), kk, rfl, rfl, q52, ixN_of (by rw [List.length_map]; exact hk2l), ?_⟩
          refine put (w := none) rfl fun H' g1 g2 g3 g4 => ⟨p, by omega, _, _, _, rfl, by omega, hk3, g1, g2, g3, g4, mid'⟩
        | some ov =>
          refine ite2 (fun z => absurd z (by simp [optV])) (fun _ => ?_)
          refine ⟨.ref A2, rfl, .int (kk : Int), rfl, A2, _, (kk : Int), .int ov, rfl, rfl, SqL.of q52, atI_nat (by rw [List.getElem?_map, hl']; rfl), ov, 1, rfl, rfl, .ref A2, rfl, .int (kk : Int), rfl, A2, _, (kk : Int), kk, rfl, rfl, q52, ixN_of (by rw [List.length_map]; exact hk2l), ?_⟩
          refine put (w := some (ov - 1)) rfl fun H' g1 g2 g3 g4 => ⟨p, by omega, _, _, _, rfl, by omega, hk3, g1, g2, g3, g4, mid'⟩
  · obtain ⟨A1, y4, y5, y6, qs, past, left, rfl, s4, h12, h13, n1, e1, e2, e3, sim⟩ := hP
    refine ⟨.ref A1, rfl, .ref A3, rfl, .ref A2, rfl, small_le (by show 3 ≤ 1000; decide), fun t nt => ?_⟩
    have s5 := same_upd (o := .tup [.ref A1, .ref A3, .ref A2]) nt
    have sim' : Sim rs os os.length qs past left := by
      have e : ((os.map optV).length : Int).toNat = os.length := by omega
      rw [e] at sim
      exact sim
    exact q t A1 A2 A3 qs past left _ (s4.trans s5) n1 nA3 upd_same (s5 _ _ e1) (s5 _ _ e3) (s5 _ _ e2) sim'
end
end CL
set_option Elab.async false
set_option linter.all false
set_option pp.maxSteps 900
set_option maxRecDepth 100000
set_option maxHeartbeats 4000000
namespace CL
open PySem PySem.Spec PyProof.Rows L2 GE
abbrev sPeo : Stmt := topS 41
abbrev nPeo : List Str := ["plan", "most", "found", "turn", "lot", "size", "k"]
theorem scPeo : FnScope nPeo ["plan", "most"] (defScope sPeo) := ⟨rfl, rfl, rfl, by decide +kernel, rfl, by decide +kernel, by decide +kernel⟩
def pcsR : Int → List RowT → List PieceT
  | _, [] => []
  | f, x :: rs => (f, pastO f x.2, x.1.map pdO) :: pcsR (f + worth x.2) rs
theorem pcs_rows : ∀ (f : Int) (rs : List RowT), pcs f (rs.map rowD) = pcsR f rs
  | _, [] => rfl
  | f, x :: rs => by
    show (f, pastO f x.2, x.1.map pdO) :: pcs (f + worth x.2) (rs.map rowD) = _
    rw [pcs_rows]
    rfl
/-! ### the first people's patiences -/
def sizeO (most len : Nat) : PyData → Nat
  | .int m => min m.toNat (most - len)
  | _ => most - len
def seg (x : RowT) (n : Nat) : List (Option Int) := (List.range n).map fun k => (x.1[k % x.1.length]?).getD none
def said (most : Nat) : List (Option Int) → List RowT → List (Option Int)
  | acc, [] => acc
  | acc, x :: rs => said most (acc ++ seg x (sizeO most acc.length x.2)) rs
theorem seg_len (x : RowT) (n : Nat) : (seg x n).length = n := by
  unfold seg
  rw [List.length_map, List.length_range]
theorem sizeO_le (most len : Nat) (d : PyData) : sizeO most len d ≤ most - len := by
  cases d <;> first | exact Nat.min_le_right _ _ | exact Nat.le_refl _
theorem said_le (most : Nat) : ∀ (rs : List RowT) (acc : List (Option Int)), acc.length ≤ most → (said most acc rs).length ≤ most
  | [], acc, h => h
  | x :: rs, acc, h => by
    refine said_le most rs _ ?_
    rw [List.length_append, seg_len]
    have := sizeO_le most acc.length x.2
    omega
theorem said_pre (most : Nat) : ∀ (rs : List RowT) (acc : List (Option Int)) (n : Nat), n < acc.length → (said most acc rs)[n]? = acc[n]?
  | [], acc, n, h => rfl
  | x :: rs, acc, n, h => by
    show (said most (acc ++ seg x (sizeO most acc.length x.2)) rs)[n]? = _
    rw [said_pre most rs _ n (by rw [List.length_append]; omega), List.getElem?_append_left h]
theorem pdO_optD : ∀ o : Option Int, pdO o = optD o
  | none => rfl
  | some _ => rfl
theorem seg_has {x : RowT} (g : GoodRow x) (f : Int) (past : Option Int) {n k : Nat} (hk : k < n) : ∃ o, (seg x n)[k]? = some o ∧ ∀ i : Int, i - f = (k : Int) → (x.1.map pdO)[((i - f) % ((x.1.map pdO).length : Int)).toNat]? = some (optD o) := by
  have l1 := g.lo
  have hm : k % x.1.length < x.1.length := Nat.mod_lt _ (by omega)
  refine ⟨x.1[k % x.1.length], ?_, fun i e => ?_⟩
  · unfold seg
    rw [List.getElem?_map, List.getElem?_range hk]
    show some ((x.1[k % x.1.length]?).getD none) = _
    rw [List.getElem?_eq_getElem hm]
    rfl
  · rw [e, List.length_map]
    have e2 : ((k : Int) % (x.1.length : Int)).toNat = k % x.1.length := rfl
    rw [e2, List.getElem?_map, List.getElem?_eq_getElem hm, Option.map_some, pdO_optD]
theorem said_has (most : Nat) : ∀ (rs : List RowT) (acc : List (Option Int)) (f : Nat), (∀ x ∈ rs, GoodRow x) → acc.length = f → f ≤ most → ∀ n : Nat, f ≤ n → n < (said most acc rs).length → ∃ o, (said most acc rs)[n]? = some o ∧ HasP (pcsR (f : Int) rs) (n : Int) (optD o)
  | [], acc, f, _, hl, _, n, h1, h2 => by
    have : n < acc.length := h2
    omega
  | x :: rs, acc, f, hg, hl, hm, n, h1, h2 => by
    subst hl
    have g := hg x List.mem_cons_self
    have l1 := g.lo
    have hs := sizeO_le most acc.length x.2
    have h2' : n < (said most (acc ++ seg x (sizeO most acc.length x.2)) rs).length := h2
    by_cases hn : n < acc.length + sizeO most acc.length x.2
    · obtain ⟨o, ho, hp⟩ := seg_has g (acc.length : Int) (pastO (acc.length : Int) x.2) (n := sizeO most acc.length x.2) (k := n - acc.length) (by omega)
      refine ⟨o, ?_, (((acc.length : Int), pastO (acc.length : Int) x.2, x.1.map pdO) : PieceT), ?_, by show 0 < (x.1.map pdO).length; rw [List.length_map]; omega, hp (n : Int) (by omega)⟩
      · show (said most (acc ++ seg x (sizeO most acc.length x.2)) rs)[n]? = _
        rw [said_pre most rs _ n (by rw [List.length_append, seg_len]; omega), List.getElem?_append_right (by omega)]
        exact ho
      · show List.find? (comes (n : Int)) (((acc.length : Int), pastO (acc.length : Int) x.2, x.1.map pdO) :: pcsR ((acc.length : Int) + worth x.2) rs) = _
        have hc : comes (n : Int) ((acc.length : Int), pastO (acc.length : Int) x.2, x.1.map pdO) = true := by
          unfold comes
          have hmany := g.many
          cases e : x.2 with
          | int m =>
            rw [e] at hn hmany
            have hm0 : 0 ≤ m := of_decide_eq_true hmany
            have : sizeO most acc.length (.int m) ≤ m.toNat := Nat.min_le_left _ _
            show decide ((n : Int) < (acc.length : Int) + m) = true
            exact decide_eq_true (by omega)
          | _ => rfl
        rw [List.find?_cons, hc]
    · have hle := said_le most rs (acc ++ seg x (sizeO most acc.length x.2)) (by rw [List.length_append, seg_len]; omega)
      have hmany := g.many
      obtain ⟨m, e⟩ : ∃ m, x.2 = .int m := by
        cases e : x.2 with
        | int m => exact ⟨m, rfl⟩
        | none =>
          exfalso
          have : sizeO most acc.length .none = most - acc.length := rfl
          rw [e] at hn h2' hle
          omega
        | _ => rw [e] at hmany; cases hmany
      rw [e] at hn h2' hle hmany hs
      have hm0 : 0 ≤ m := of_decide_eq_true hmany
      have hsm : sizeO most acc.length (.int m) = m.toNat := by
        have : sizeO most acc.length (.int m) = min m.toNat (most - acc.length) := rfl
        omega
      obtain ⟨o, ho, pp, hf, hpl, hpe⟩ := said_has most rs (acc ++ seg x (sizeO most acc.length (.int m))) (acc.length + m.toNat) (fun y hy => hg y (List.mem_cons_of_mem _ hy)) (by rw [List.length_append, seg_len]; omega) (by omega) n (by omega) h2'
      refine ⟨o, ?_, pp, ?_, hpl, hpe⟩
      · show (said most (acc ++ seg x (sizeO most acc.length x.2)) rs)[n]? = _
        rw [e]
        exact ho
      · show List.find? (comes (n : Int)) (((acc.length : Int), pastO (acc.length : Int) x.2, x.1.map pdO) :: pcsR ((acc.length : Int) + worth x.2) rs) = _
        have hc : comes (n : Int) ((acc.length : Int), pastO (acc.length : Int) x.2, x.1.map pdO) = false := by
          unfold comes
          rw [e]
          show decide ((n : Int) < (acc.length : Int) + m) = false
          exact decide_eq_false (by omega)
        have e3 : (acc.length : Int) + worth x.2 = ((acc.length + m.toNat : Nat) : Int) := by
          rw [e]
          show (acc.length : Int) + m = _
          omega
        rw [List.find?_cons, hc, e3]
        exact hf
theorem said_snoc (most : Nat) : ∀ (rs : List RowT) (acc : List (Option Int)) (x : RowT), said most acc (rs ++ [x]) = said most acc rs ++ seg x (sizeO most (said most acc rs).length x.2)
  | [], acc, x => rfl
  | y :: rs, acc, x => said_snoc most rs (acc ++ seg y (sizeO most acc.length y.2)) x
theorem seg_succ (x : RowT) (n : Nat) : seg x (n + 1) = seg x n ++ [(x.1[n % x.1.length]?).getD none] := by
  unfold seg
  rw [List.range_succ, List.map_append]
  rfl
theorem rp_pdO {H : Hp} {v : V} {o : Option Int} (h : Rp H v (pdO o)) : v = optV o := by
  cases o with
  | none => cases h; rfl
  | some i => cases h; rfl
theorem many_int {m : PyData} (h : isNone m = false) (g : isMany m = true) : ∃ i : Int, m = .int i ∧ 0 ≤ i := by
  cases m with
  | int i => exact ⟨i, rfl, of_decide_eq_true g⟩
  | none => cases h
  | _ => cases g
theorem said_len (most : Nat) : ∀ (rs : List RowT) (acc : List (Option Int)), (∀ x ∈ rs, isNone x.2 = false ∧ isMany x.2 = true) → acc.length ≤ most → ((said most acc rs).length : Int) = min (most : Int) (acc.length + sumW rs)
  | [], acc, _, h => by
    show (acc.length : Int) = min (most : Int) (acc.length + 0)
    omega
  | x :: rs, acc, g, h => by
    obtain ⟨hx1, hx2⟩ := g x List.mem_cons_self
    obtain ⟨m, em, hm⟩ := many_int hx1 hx2
    have h0 := sumW_nn (rs := rs) fun z hz => (g z (List.mem_cons_of_mem _ hz)).2
    have hs : sizeO most acc.length x.2 = min m.toNat (most - acc.length) := by rw [em]; rfl
    have ew : worth x.2 = m := by rw [em]; rfl
    have ih := said_len most rs (acc ++ seg x (sizeO most acc.length x.2)) (fun y hy => g y (List.mem_cons_of_mem _ hy)) (by rw [List.length_append, seg_len]; omega)
    have e : said most acc (x :: rs) = said most (acc ++ seg x (sizeO most acc.length x.2)) rs := rfl
    rw [e, ih, List.length_append, seg_len]
    show min (most : Int) _ = min (most : Int) (acc.length + (worth x.2 + sumW rs))
    omega
theorem said_full (most : Nat) {rs : List RowT} {x : RowT} (e : x.2 = .none) : (said most [] (rs ++ [x])).length = most := by
  rw [said_snoc, List.length_append, seg_len, e]
  have := said_le most rs [] (Nat.zero_le _)
  show _ + (most - _) = most
  omega
def patL (os : List (Option Int)) : Nat → Option Int := fun n => (os[n]?).getD none
theorem said_pat {most : Nat} {rs : List RowT} (g : ∀ x ∈ rs, GoodRow x) {k : Nat} (h : k < (said most [] rs).length) : HasP (pcsR 0 rs) (k : Int) (optD (patL (said most [] rs) k)) := by
  obtain ⟨o, ho, hp⟩ := said_has most rs [] 0 g rfl (Nat.zero_le _) k (Nat.zero_le _) h
  unfold patL
  rw [ho]
  exact hp

/-! ### data alike to a plan's rows -/
def AlikeR (x : RowT) (e : PyData) : Prop := ∃ t, rowsD e = some [t, x.2] ∧ rowsD t = some (x.1.map pdO)
inductive AlikeAll : List RowT → List PyData → Prop
  | nil : AlikeAll [] []
  | cons {x : RowT} {e : PyData} {rs : List RowT} {es : List PyData} : AlikeR x e → AlikeAll rs es → AlikeAll (x :: rs) (e :: es)
def AlikeP (rs : List RowT) (d : PyData) : Prop := ∃ es, rowsD d = some es ∧ AlikeAll rs es
theorem alike_piece {x : RowT} {e : PyData} (h : AlikeR x e) (g : GoodRow x) : isPiece e = true ∧ sndD e = x.2 ∧ turnsD e = x.1.map pdO := by
  obtain ⟨t, he, ht⟩ := h
  refine ⟨?_, sndD_two he, ?_⟩
  · rw [isPiece_two he, g.many, Bool.and_true]
    unfold isTurns
    rw [ht]
    show (decide (1 ≤ (x.1.map pdO).length) && decide ((x.1.map pdO).length ≤ 8) && (x.1.map pdO).all isPatience) = true
    rw [List.length_map, decide_eq_true g.lo, decide_eq_true g.hi]
    simp only [Bool.true_and, List.all_map, List.all_eq_true]
    exact fun o ho => pat_good (g.pat o ho)
  · unfold turnsD
    rw [he]
    show (rowsD t).getD [] = _
    rw [ht]
    rfl
theorem pcs_alike : ∀ (f : Int) {rs : List RowT} {es : List PyData}, AlikeAll rs es → (∀ x ∈ rs, GoodRow x) → pcs f es = pcsR f rs ∧ es.all isPiece = true ∧ sumSnd es = sumW rs ∧ es.map sndD = rs.map (·.2)
  | _, _, _, .nil, _ => ⟨rfl, rfl, rfl, rfl⟩
  | f, _, _, .cons (x := x) (rs := rs) h t, g => by
    obtain ⟨a1, a2, a3⟩ := alike_piece h (g x List.mem_cons_self)
    obtain ⟨b1, b2, b3, b4⟩ := pcs_alike (f + worth x.2) t fun y hy => g y (List.mem_cons_of_mem _ hy)
    refine ⟨?_, ?_, ?_, ?_⟩
    · show (f, pastO f (sndD _), turnsD _) :: pcs (f + worth (sndD _)) _ = _
      rw [a2, a3, b1]
      rfl
    · show (isPiece _ && List.all _ isPiece) = true
      rw [a1, b2]
      rfl
    · show worth (sndD _) + sumSnd _ = worth x.2 + sumW rs
      rw [a2, b3]
    · show sndD _ :: List.map sndD _ = _
      rw [a2, b4]
      rfl
theorem alike_plan {rs : List RowT} {d : PyData} (h : AlikeP rs d) (f : Fine rs) : isPlan d = true ∧ piecesOf d = psR rs := by
  obtain ⟨es, he, ha⟩ := h
  obtain ⟨b1, b2, b3, b4⟩ := pcs_alike 0 ha f.row
  have hl : es.length = rs.length := by
    have := congrArg List.length b4
    simpa using this
  refine ⟨?_, ?_⟩
  · have e : isPlan d = isPlanL es := by unfold isPlan; rw [he]
    rw [e]
    unfold isPlanL
    have h2 : (es.take (es.length - 1)).any (fun d => isNone (sndD d)) = false := by
      rw [List.any_eq_false]
      intro y hy
      have z : sndD y ∈ (es.take (es.length - 1)).map sndD := List.mem_map_of_mem hy
      rw [List.map_take, b4, hl, ← List.map_take] at z
      obtain ⟨x, hx, ex⟩ := List.mem_map.mp z
      rw [← ex, f.last x hx]
      exact Bool.false_ne_true
    rw [b2, b3, h2, hl, decide_eq_true f.lo, decide_eq_true f.hi, decide_eq_true f.sum]
    rfl
  · unfold piecesOf psR
    rw [he]
    show pcs 0 es = pcs 0 (rs.map rowD)
    rw [b1, pcs_rows]
theorem psR_pcs (rs : List RowT) : psR rs = pcsR 0 rs := pcs_rows 0 rs
/-- the first people of a plan, so many at most -/
theorem said_firsts {most : Nat} {rs : List RowT} (hF : Fine rs) (hm : most ≤ 1000) : Firsts rs (said most [] rs) ∧ (said most [] rs).length ≤ most ∧ (dueO rs = none → (said most [] rs).length = most) ∧ (∀ s, dueO rs = some s → ((said most [] rs).length : Int) = min (most : Int) s) := by
  have hle := said_le most rs [] (Nat.zero_le _)
  have h3 : dueO rs = none → (said most [] rs).length = most := fun e => by
    obtain ⟨rs', x, rfl, _⟩ := fine_snoc hF
    have h1 := last_due hF
    rw [e] at h1
    have hx : x.2 = .none := by
      have g := (hF.row x (List.mem_append_right _ (List.mem_singleton.mpr rfl))).many
      cases z : x.2 with
      | none => rfl
      | _ => rw [z] at h1; cases h1
    exact said_full most hx
  have h4 : ∀ s, dueO rs = some s → ((said most [] rs).length : Int) = min (most : Int) s := fun s e => by
    have hs := (rows_last hF).2 s e
    have hall : ∀ x ∈ rs, isNone x.2 = false ∧ isMany x.2 = true := fun x hx => by
      refine ⟨?_, (hF.row x hx).many⟩
      obtain ⟨rs', y, rfl, hno⟩ := fine_snoc hF
      rcases List.mem_append.mp hx with h | h
      · exact hno x h
      · rw [List.mem_singleton.mp h]
        have h1 := last_due hF
        rw [e] at h1
        exact h1.symm
    have h5 := said_len most rs [] hall (Nat.zero_le _)
    rw [h5, hs]
    show min (most : Int) (0 + sumW rs) = _
    rw [Int.zero_add]
  refine ⟨⟨hF, fun x o ho => ?_, fun s e => by have := h4 s e; omega, by omega⟩, hle, h3, h4⟩
  have hx : x < (said most [] rs).length := (List.getElem?_eq_some_iff.mp ho).1
  have h6 := said_pat hF.row hx
  unfold patL at h6
  rw [ho] at h6
  obtain ⟨pp, h7, h8, h9⟩ := h6
  rw [← psR_pcs] at h7
  exact ⟨pp, h7, by rw [pdO_optD]; exact h9⟩
theorem len_blk {X : Cx} {s : Shared} {H : Hp} {scope : Scope} {cenv : Env} {fp : List Addr} : CallR (X.blk s H scope cenv fp) (.builtin "len") (fun xs H Q => ∃ p ys, xs = [.ref p] ∧ (SqL X.K H p ys ∨ SqT X.K H p ys) ∧ Q (.int ys.length) H) := call_len_seq
theorem ix_blk {X : Cx} {s : Shared} {H : Hp} {scope : Scope} {cenv : Env} {fp : List Addr} : IxR (X.blk s H scope cenv fp) (rIxL X.K) := ix_list
/-- a row, a tuple or a list of its round's list and how many -/
def RowL (x : RowT) (e : PyData) : Prop := e = .tuple [.list (x.1.map pdO), x.2] ∨ e = .list [.list (x.1.map pdO), x.2]
theorem RowL.alike {x : RowT} {e : PyData} (h : RowL x e) : AlikeR x e := by
  rcases h with rfl | rfl
  · exact ⟨_, rfl, rfl⟩
  · exact ⟨_, rfl, rfl⟩
inductive RowsL : List RowT → List PyData → Prop
  | nil : RowsL [] []
  | cons {x : RowT} {e : PyData} {rs : List RowT} {es : List PyData} : RowL x e → RowsL rs es → RowsL (x :: rs) (e :: es)
theorem RowsL.alike : ∀ {rs : List RowT} {es : List PyData}, RowsL rs es → AlikeAll rs es
  | _, _, .nil => .nil
  | _, _, .cons h t => .cons h.alike t.alike
theorem RowsL.get : ∀ {rs : List RowT} {es : List PyData}, RowsL rs es → ∀ {i : Nat} {e : PyData}, es[i]? = some e → ∃ x, rs[i]? = some x ∧ RowL x e
  | _, _, .nil, i, e, h => by cases h
  | _, _, .cons h t, 0, e, he => by cases he; exact ⟨_, rfl, h⟩
  | _, _, .cons h t, i + 1, e, he => t.get he
theorem RowsL.len : ∀ {rs : List RowT} {es : List PyData}, RowsL rs es → es.length = rs.length
  | _, _, .nil => rfl
  | _, _, .cons h t => congrArg (· + 1) t.len
theorem rowL_at {H : Hp} {x : V} {row : RowT} {e : PyData} (he : RowL row e) (h : Rp H x e) (g : GoodRow row) : ∃ b t zs vm, x = .ref b ∧ StSeq H b [.ref t, vm] ∧ H t = some (.lst zs) ∧ zs.length = row.1.length ∧ (∀ j : Nat, j < row.1.length → zs[j]? = some (optV ((row.1[j]?).getD none))) ∧ ((row.2 = .none ∧ vm = .non) ∨ ∃ m, row.2 = .int m ∧ vm = .int m ∧ 0 ≤ m) := by
  have core : ∀ {b : Addr} {xs : List V}, RpAll H xs [.list (row.1.map pdO), row.2] → (H b = some (.lst xs) ∨ H b = some (.tup xs)) → ∃ t zs vm, xs = [.ref t, vm] ∧ StSeq H b [.ref t, vm] ∧ H t = some (.lst zs) ∧ zs.length = row.1.length ∧ (∀ j : Nat, j < row.1.length → zs[j]? = some (optV ((row.1[j]?).getD none))) ∧ ((row.2 = .none ∧ vm = .non) ∨ ∃ m, row.2 = .int m ∧ vm = .int m ∧ 0 ≤ m) := fun {b xs} hxs hb => by
    cases hxs with
    | cons a1 h2 =>
    cases h2 with
    | cons a2 h3 =>
    cases h3
    obtain ⟨t, zs, rfl, ht, hz⟩ := rp_list a1
    have hl := hz.length
    rw [List.length_map] at hl
    refine ⟨t, zs, _, rfl, ⟨hb⟩, ht, hl, fun j hj => ?_, ?_⟩
    · obtain ⟨d, hd, hR⟩ := hz.get (List.getElem?_eq_getElem (by omega : j < zs.length))
      rw [List.getElem?_map, List.getElem?_eq_getElem hj] at hd
      obtain rfl := (Option.some.inj hd).symm
      rw [List.getElem?_eq_getElem (by omega : j < zs.length), rp_pdO hR, List.getElem?_eq_getElem hj]
      rfl
    · have gm := g.many
      generalize row.2 = m2 at a2 gm
      cases a2 with
      | non => exact .inl ⟨rfl, rfl⟩
      | int m => exact .inr ⟨m, rfl, rfl, of_decide_eq_true gm⟩
      | _ => cases gm
  rcases he with rfl | rfl
  · cases h with
    | @tup b xs _ hb hxs =>
      obtain ⟨t, zs, vm, rfl, r⟩ := core (b := b) hxs (.inr hb)
      exact ⟨b, t, zs, vm, rfl, r⟩
  · cases h with
    | @lst b xs _ hb hxs =>
      obtain ⟨t, zs, vm, rfl, r⟩ := core (b := b) hxs (.inl hb)
      exact ⟨b, t, zs, vm, rfl, r⟩
def spPeo : Sp := fun vs H Q _ => ∃ v rs es, ∃ n : Int, ∃ most : Nat, vs = [v, .int n] ∧ n = (most : Int) ∧ Rp H v (.list es) ∧ RowsL rs es ∧ Fine rs ∧ most ≤ 900 ∧ ∀ p H', Same H H' → H p = none → H' p = some (.lst ((said most [] rs).map optV)) → Q (.ref p) H'
section
variable {P : Program} {w : World} {K : PySem.W.Frag} {mg : Str → Option Value} {base : Heap}
theorem ok_peo {f : Addr} {fd : FuncData} (F : Fun K "_law_people" "_law_people" sPeo f fd) (T : Nm mg) (hrange : mg "range" = none) (hmin : mg "min" = none) : FnOk P w K mg base CX0 1 f fd ["plan", "most"] spPeo := by
  refine F.ok scPeo (fun vs H Q E ⟨v, rs, es, n, most, e, _⟩ => by rw [e]; rfl) (fun cdv A outer s H vs Q E hr h => ?_)
  obtain ⟨v, rs, es, _, most, rfl, rfl, hR, hre, hF, hm, q⟩ := h
  have nd := scPeo.nd
  refine ⟨_, (pss_cons (ps_set (i := 2) nd rfl (.inl rfl) (pe_lst pa_nil))
      (pss_cons (ps_for PassesOwn.never rfl (pi_list (pv 0)) (pg_seq rfl (pgs_cons (pg_name (i := 3) nd rfl (.inr rfl)) (pgs_cons (pg_name (i := 4) nd rfl (.inl rfl)) pgs_nil))) (pss_cons (ps_set (i := 5) nd rfl (.inl rfl) (pe_ifExp (pt_cmp (pc_isN (pv 4))) (pe_op op_sub (pv 1) (pe_callB call_len_seq (by rfl) T.len PySem.boot_len (pa_cons (pv 2) pa_nil))) (pe_callB (call_min2 rfl) (by rfl) hmin (by decide +kernel) (pa_cons (pv 4) (pa_cons (pe_op op_sub (pv 1) (pe_callB call_len_seq (by rfl) T.len PySem.boot_len (pa_cons (pv 2) pa_nil))) pa_nil)))))
      (pss_one (ps_set (i := 2) nd rfl (.inl rfl) (pe_op op_cat (pv 2) (pe_lc (own := [("k", 6)]) (g := (gName 6)) (tt := tYes) rfl nd (pi_range1 (by rfl) hrange (pa_cons (pv 5) pa_nil)) (blkOk_by (own := [("k", 6)]) (N := nPeo) (sc := (defScope sPeo)) (by decide +kernel)) (fun _ _ _ _ _ => (pg_name (i := 6) nd rfl (.inl rfl))) (fun _ _ _ _ _ => pts_nil) (fun _ _ _ _ _ => (pe_ix ix_blk (pv 3) (pe_op op_mod (pv 6) (pe_callB len_blk (by rfl) T.len PySem.boot_len (pa_cons (pv 3) pa_nil))) (fun _ _ => rfl)))))))))
      (pss_one (ps_ret (pv 2))))), ?_⟩
  refine ⟨Nat.zero_le _, fun F0 n0 => ?_⟩
  have s0 : Same H (upd H F0 (.lst [])) := same_upd n0
  have e0 : (upd H F0 (.lst [])) F0 = some (.lst []) := upd_same
  show tSeq _ _ _ [some v, some (.int (most : Int)), some (.ref F0), none, none, none, none] (upd H F0 (.lst []))
  generalize upd H F0 (.lst []) = G at s0 e0
  obtain ⟨p, xs, rfl, hp, hx⟩ := rp_list hR
  have hlx : xs.length = rs.length := by rw [hx.length, hre.len]
  have sz : 5000 ≤ sizeLine := by decide
  refine ⟨.ref p, rfl, p, rfl, ⟨_, SqL.of (s0 _ _ hp)⟩, for_list (xs := xs) (fun i σ H2 => ∃ F1 y3 y4 y5, σ = [some (.ref p), some (.int (most : Int)), some (.ref F1), y3, y4, y5, none] ∧ Same H H2 ∧ H F1 = none ∧ H2 F1 = some (.lst ((said most [] (rs.take i)).map optV)))
    ⟨F0, none, none, none, rfl, s0, n0, e0⟩ (fun i σ H2 _ ⟨_, _, _, _, _, s, _⟩ => SqL.of (s _ _ hp)) (fun i x σ H2 hxi hP => ?_) (fun σ H2 hP => ?_)⟩
  · obtain ⟨F1, y3, y4, y5, rfl, s2, n1, e1⟩ := hP
    obtain ⟨d, hd, hRx⟩ := hx.get hxi
    obtain ⟨row, hrow, hrl⟩ := hre.get hd
    have g := hF.row row (List.mem_of_getElem? hrow)
    obtain ⟨b, t, zs, vm, rfl, hb, ht, hzl, hz, hvm⟩ := rowL_at hrl (Rp.sm s2 hRx) g
    have la := said_le most (rs.take i) [] (Nat.zero_le _)
    have est : said most [] (rs.take (i + 1)) = said most [] (rs.take i) ++ seg row (sizeO most (said most [] (rs.take i)).length row.2) := by
      rw [List.take_add_one, hrow]
      exact said_snoc most (rs.take i) [] row
    rw [est]
    generalize said most [] (rs.take i) = acc at e1 la
    have hso := sizeO_le most acc.length row.2
    refine ⟨b, [.ref t, vm], rfl, hb, rfl, .ref t, [vm], rfl, vm, [], rfl, rfl, ?_⟩
    have size : ∀ {σ : L2.St} {R : VK}, σ[4]? = some (some vm) → σ[1]? = some (some (.int (most : Int))) → σ[2]? = some (some (.ref F1)) → R (.int ((sizeO most acc.length row.2 : Nat) : Int)) H2 → (tIf (tB (tIsN (tVar 4))) (tOp (rI0 fun i j => .int (i - j)) (tVar 1) (tCB (fun xs H Q => ∃ p ys, xs = [.ref p] ∧ (SqL K H p ys ∨ SqT K H p ys) ∧ Q (.int ys.length) H) (tCons (tVar 2) tNil)))
        (tCB (fun xs H Q => ∃ i j, xs = [.int i, .int j] ∧ Q (.int (if j < i then j else i)) H) (tCons (tVar 4) (tCons (tOp (rI0 fun i j => .int (i - j)) (tVar 1) (tCB (fun xs H Q => ∃ p ys, xs = [.ref p] ∧ (SqL K H p ys ∨ SqT K H p ys) ∧ Q (.int ys.length) H) (tCons (tVar 2) tNil))) tNil)))) σ H2 R := fun {σ R} h4 h1 h2 hR => by
      have el : ((acc.map optV).length : Int) = (acc.length : Int) := by rw [List.length_map]
      rcases hvm with ⟨em, rfl⟩ | ⟨m, em, rfl, hm0⟩
      · rw [em] at hR
        refine ⟨.non, h4, _, rfl, iteT ⟨.int (most : Int), h1, .ref F1, h2, F1, _, rfl, .inl (SqL.of e1), (most : Int), _, rfl, rfl, ?_⟩⟩
        have e : (most : Int) - ((acc.map optV).length : Int) = ((sizeO most acc.length .none : Nat) : Int) := by
          show _ = ((most - acc.length : Nat) : Int)
          omega
        show R (.int ((most : Int) - ((acc.map optV).length : Int))) H2
        rw [e]
        exact hR
      · rw [em] at hR
        refine ⟨.int m, h4, _, rfl, iteF ⟨.int m, h4, .int (most : Int), h1, .ref F1, h2, F1, _, rfl, .inl (SqL.of e1), (most : Int), _, rfl, rfl, m, _, rfl, ?_⟩⟩
        have e : (if (most : Int) - ((acc.map optV).length : Int) < m then (most : Int) - ((acc.map optV).length : Int) else m) = ((sizeO most acc.length (.int m) : Nat) : Int) := by
          show _ = ((min m.toNat (most - acc.length) : Nat) : Int)
          split <;> omega
        rw [e]
        exact hR
    refine size rfl rfl rfl ?_
    generalize hsz : sizeO most acc.length row.2 = sn at hso
    refine ⟨.ref F1, rfl, .int (sn : Int), rfl, (sn : Int), rfl, by omega, by omega, fun D hD => ?_⟩
    have ltn : ((sn : Int)).toNat = sn := rfl
    refine lc_range (lo := 0) (n := ((sn : Int)).toNat) (fun j H5 => H5 = upd H2 D (.lst ((seg row j).map optV))) rfl (fun j H5 hj e => ?_) (fun H5 e => ?_)
    · subst e
      have sD : Same H2 (upd H2 D (.lst ((seg row j).map optV))) := same_upd hD
      have l1 := g.lo
      refine ⟨rfl, yesT ?_⟩
      have hjm : j % row.1.length < row.1.length := Nat.mod_lt _ (by omega)
      have em : (0 + (j : Int)) % (zs.length : Int) = ((j % row.1.length : Nat) : Int) := by rw [Int.zero_add, hzl]; rfl
      refine ⟨.ref t, rfl, .int (0 + (j : Int)), rfl, .ref t, rfl, t, zs, rfl, .inl (SqL.of (sD _ _ ht)), 0 + (j : Int), (zs.length : Int), rfl, rfl, by show (0 : Int) < (zs.length : Int); omega, t, zs, (0 + (j : Int)) % (zs.length : Int), _, rfl, rfl, SqL.of (sD _ _ ht), by rw [em]; exact atI_nat (hz _ hjm), (seg row j).map optV, upd_same, by rw [List.length_map, seg_len]; omega, ?_⟩
      rw [upd_upd, seg_succ, List.map_append]
      rfl
    · rw [ltn] at e
      have sD : Same H2 H5 := by rw [e]; exact same_upd hD
      have eD : H5 D = some (.lst ((seg row sn).map optV)) := by rw [e]; exact upd_same
      refine ⟨F1, D, _, _, rfl, rfl, sD _ _ e1, eD, by rw [List.length_map, List.length_map, seg_len]; omega, fun F2 n2 => ?_⟩
      have s5 := s2.trans sD
      exact ⟨F2, _, _, _, rfl, s5.trans (same_upd n2), s5.free n2, by rw [upd_same, List.map_append]⟩
  · obtain ⟨F1, y3, y4, y5, rfl, s2, n1, e1⟩ := hP
    rw [hlx, List.take_length] at e1
    exact ⟨.ref F1, rfl, q F1 H2 s2 n1 e1⟩
end
end CL
set_option Elab.async false
set_option linter.all false
set_option pp.maxSteps 900
set_option maxRecDepth 100000
set_option maxHeartbeats 4000000
namespace CL
open PySem PySem.Spec PyProof.Rows L2 GE
abbrev sNea : Stmt := topS 40
abbrev nNea : List Str := ["spring", "ends", "found", "k", "wide", "turn", "at"]
theorem scNea : FnScope nNea ["spring", "ends"] (defScope sNea) := ⟨rfl, rfl, rfl, by decide +kernel, rfl, by decide +kernel, by decide +kernel⟩
/-- few pieces of few people -/
structure NearR (rs : List RowT) : Prop where
  l5 : rs.length ≤ 5
  few : ∀ x ∈ rs, worth x.2 ≤ 24
  short : ∀ x ∈ rs, x.1.length ≤ 5
theorem pick3n {a b c : Int} {x : Int} (h0 : 0 ≤ x) (h1 : x < 3) : ∃ z, atI [V.int a, .int b, .int c] x = some (.int z) ∧ (z = a ∨ z = b ∨ z = c) := by
  have hh : x = 0 ∨ x = 1 ∨ x = 2 := by omega
  rcases hh with z | z | z <;> rw [z]
  · exact ⟨a, atI_nat (j := 0) rfl, .inl rfl⟩
  · exact ⟨b, atI_nat (j := 1) rfl, .inr (.inl rfl)⟩
  · exact ⟨c, atI_nat (j := 2) rfl, .inr (.inr rfl)⟩
def spNea (r : Addr) : Sp := fun vs H Q _ => ∃ b : Bool, vs = [.ref r, .bl b] ∧ ReelAt H r ∧ ∀ p rs H', ReelAt H' r → Mv r H H' → Rp (Hw (fun b => b = r) H') (.ref p) (.list (rs.map rowD)) → Fine rs → NearR rs → (b = true → ∀ x ∈ rs, isNone x.2 = false) → Q (.ref p) H'
section
variable {P : Program} {w : World} {K : PySem.W.Frag} {mg : Str → Option Value} {base : Heap}
theorem ok_nea {f r : Addr} {fd : FuncData} (F : Fun K "_law_near" "_law_near" sNea f fd) (T : Nm mg) (hrange : mg "range" = none) (CD : Cal P w K mg base 2 "_law_draw" ["spring", "many"] (spDraw r)) : FnOk P w K mg base CX0 3 f fd ["spring", "ends"] (spNea r) := by
  refine F.ok scNea (fun vs H Q E ⟨b, e, _⟩ => by rw [e]; rfl) (fun cdv A outer s H vs Q E hr h => ?_)
  obtain ⟨b, rfl, hre, q⟩ := h
  have nd := scNea.nd
  refine ⟨_, (pss_cons (ps_set (i := 2) nd rfl (.inl rfl) (pe_lst pa_nil))
      (pss_cons (ps_for PassesOwn.never rfl (pi_range1 (by rfl) hrange (pa_cons (pe_op op_add pe_int (pe_cal CD hr (by rfl) (pa_cons (pv 0) (pa_cons pe_int pa_nil)))) pa_nil)) (pg_name (i := 3) nd rfl (.inl rfl)) (pss_cons (ps_set (i := 4) nd rfl (.inr rfl) (pe_ix ix_list (pe_lst (pa_cons pe_int (pa_cons pe_int (pa_cons pe_int pa_nil)))) (pe_cal CD hr (by rfl) (pa_cons (pv 0) (pa_cons pe_int pa_nil))) (fun _ _ => rfl)))
      (pss_cons (ps_setLc (i := 5) (own := [("at", 6)]) (g := (gName 6)) (tt := tYes) rfl nd rfl rfl (sw_true rfl rfl rfl (by decide +kernel)) (pi_range1 (by rfl) hrange (pa_cons (pe_op op_add pe_int (pe_cal CD hr (by rfl) (pa_cons (pv 0) (pa_cons pe_int pa_nil)))) pa_nil)) (blkOk_by (own := [("at", 6)]) (N := nNea) (sc := (defScope sNea)) (by decide +kernel)) (fun _ _ _ _ _ => (pg_name (i := 6) nd rfl (.inl rfl))) (fun _ _ _ _ _ => pts_nil) (fun _ _ _ _ _ => (pe_cal CD hr (by rfl) (pa_cons (pv 0) (pa_cons (pv 4) pa_nil)))))
      (pss_cons (ps_if (pt_cmpR op_eq (pe_cal CD hr (by rfl) (pa_cons (pv 0) (pa_cons pe_int pa_nil))) pe_int (nomark _)) (pss_one (ps_asg pe_non (pg_sub (pv 5) (pe_cal CD hr (by rfl) (pa_cons (pv 0) (pa_cons (pe_callB call_len_seq (by rfl) T.len PySem.boot_len (pa_cons (pv 5) pa_nil)) pa_nil))) set_list))) pss_nil)
      (pss_one (ps_expr (pe_bm PySem.F.plainAttrs_list PySem.F.slot_list_append PySem.F.type_list_append mt_append (pv 2) (pa_cons (pe_tup (pa_cons (pv 5) (pa_cons (pe_cal CD hr (by rfl) (pa_cons (pv 0) (pa_cons (pe_ix ix_list (pe_lst (pa_cons pe_int (pa_cons pe_int (pa_cons pe_int pa_nil)))) (pe_cal CD hr (by rfl) (pa_cons (pv 0) (pa_cons pe_int pa_nil))) (fun _ _ => rfl)) pa_nil))) pa_nil))) pa_nil))))))))
      (pss_cons (ps_if (PW.pt (pw_and (pt_not (pt_val (pv 1))) (pw_and1 (pt_cmpR op_eq (pe_cal CD hr (by rfl) (pa_cons (pv 0) (pa_cons pe_int pa_nil))) pe_int (nomark _))))) (pss_one (ps_asg (pe_tup (pa_cons (pe_ix ix_tup (pe_ix ix_list (pv 2) (pe_un un_neg pe_int) (fun _ _ => rfl)) pe_int (fun _ _ => rfl)) (pa_cons pe_non pa_nil))) (pg_sub (pv 2) (pe_un un_neg pe_int) set_list))) pss_nil)
      (pss_one (ps_ret (pv 2)))))), ?_⟩
  refine ⟨Nat.zero_le _, fun fp nfp => ?_⟩
  have frf := hre.new nfp
  have re0 := hre.store (o := .lst []) frf
  have m0 := (Mv.refl r H).upd (o := .lst []) nfp
  have e0 : (upd H fp (.lst [])) fp = some (.lst []) := upd_same
  generalize hH0 : upd H fp (.lst []) = H0 at re0 m0 e0
  refine ⟨.ref r, rfl, 5, rfl, re0, by decide, by decide, fun y H1 re1 m1 y0 y1 => ⟨1, y, rfl, rfl, 1 + y, rfl, by omega, by omega, ?_⟩⟩
  have e1 := m1.keep fp _ frf e0
  refine for_range (lo := 0) (n := (1 + y).toNat) (fun i σ H2 => ∃ (fvs : List V) (rs : List RowT) (y3 y4 y5 : Option V), σ = [some (.ref r), some (.bl b), some (.ref fp), y3, y4, y5, none] ∧ ReelAt H2 r ∧ Mv r H H2 ∧ H2 fp = some (.lst fvs) ∧ rs.length = i ∧
      RpAll (Hw (fun b => b = r ∨ b = fp) H2) fvs (rs.map rowD) ∧ (∀ x ∈ rs, GoodRow x ∧ isNone x.2 = false) ∧ (∀ x ∈ rs, worth x.2 ≤ 24 ∧ x.1.length ≤ 5) ∧ 0 ≤ sumW rs ∧ sumW rs ≤ 24 * (i : Int))
    ⟨[], [], none, none, none, rfl, re1, m0.trans m1, e1, rfl, .nil, (fun x hx => absurd hx (by simp)), (fun x hx => absurd hx (by simp)), by decide, by decide⟩
    (fun i σ H2 hi hP => ?_) (fun σ H2 hP => ?_)
  · obtain ⟨fvs, rs, y3, y4, y5, rfl, re2, m2, e2, lrs, hA, hgood, hw24, hs0, hs1⟩ := hP
    have hi5 : i < 5 := by omega
    -- wide
    refine ⟨small_le (by show 3 ≤ 1000; decide), fun p1 np1 => ?_⟩
    have s3 := same_upd (o := .lst [.int 2, .int 6, .int 41]) np1
    have ep1 : (upd H2 p1 (.lst [.int 2, .int 6, .int 41])) p1 = some (.lst [.int 2, .int 6, .int 41]) := upd_same
    have rp1 := re2.new np1
    have re3 := re2.same s3
    generalize upd H2 p1 (.lst [.int 2, .int 6, .int 41]) = H3 at s3 ep1 re3 ⊢
    refine ⟨.ref r, rfl, 3, rfl, re3, by decide, by decide, fun x H4 re4 m4 x0 x1 => ?_⟩
    obtain ⟨wide, hwd, hwd3⟩ := pick3n (a := 2) (b := 6) (c := 41) x0 x1
    have hw1 : 2 ≤ wide ∧ wide ≤ 41 := by omega
    refine ⟨p1, _, x, .int wide, rfl, rfl, SqL.of (m4.keep p1 _ rp1 ep1), hwd, ?_⟩
    have m24 : Mv r H2 H4 := (Mv.of s3).trans m4
    -- turn
    show tSeq _ _ _ [some (.ref r), some (.bl b), some (.ref fp), some (.int (0 + (i : Int))), some (.int wide), y5, none] H4
    refine ⟨.ref r, rfl, 5, rfl, re4, by decide, by decide, fun z H5 re5 m5 z0 z1 => ⟨1, z, rfl, rfl, 1 + z, rfl, by omega, by omega, fun t nt => ?_⟩⟩
    have frt := re5.new nt
    have m25 := m24.trans m5
    refine lc_range (lo := 0) (n := (1 + z).toNat) (fun j H6 => ∃ (os : List (Option Int)), ReelAt H6 r ∧ Mv r H5 H6 ∧ H6 t = some (.lst (os.map pvO)) ∧ os.length = j ∧ ∀ o ∈ os, goodO o)
      ⟨[], re5.store frt, (Mv.refl r H5).upd nt, upd_same, rfl, fun o ho => absurd ho (by simp)⟩ (fun j H6 hj ⟨os, re6, m6, et6, los, hos⟩ => ?_) (fun H6 ⟨os, re6, m6, et6, los, hos⟩ => ?_)
    · have hj8 : j < 8 := by omega
      refine ⟨rfl, yesT ⟨.ref r, rfl, .int wide, rfl, wide, rfl, re6, by omega, by rw [p140]; omega, fun o H7 re7 m7 o0 o1 => ?_⟩⟩
      have et7 := m7.keep t _ frt et6
      exact ⟨os.map pvO, et7, by rw [List.length_map]; exact small1000 (by omega), os ++ [some o], re7.store frt, (m6.trans m7).upd nt, by rw [upd_same, List.map_append]; rfl, by rw [List.length_append, los]; rfl, fun x hx => by
        rcases List.mem_append.mp hx with hx | hx
        · exact hos x hx
        · rw [List.mem_singleton.mp hx]
          exact ⟨o0, by show o ≤ (1000000000000000000000000000000 : Int); omega⟩⟩
    have m26 := m25.trans m6
    dsimp only [gName]
    show tSeq _ _ _ [some (.ref r), some (.bl b), some (.ref fp), some (.int (0 + (i : Int))), some (.int wide), some (.ref t), none] H6
    refine seqP (fun σ' H7 => ∃ os : List (Option Int), σ' = [some (.ref r), some (.bl b), some (.ref fp), some (.int (0 + (i : Int))), some (.int wide), some (.ref t), none] ∧ ReelAt H7 r ∧ Mv r H H7 ∧ Mv r H2 H7 ∧ H7 t = some (.lst (os.map pvO)) ∧ 1 ≤ os.length ∧ os.length ≤ 5 ∧ ∀ o ∈ os, goodO o) (fun σ' H7 hR => ?_) (fun nx hnx => ?_)
    rotate_left
    · refine ⟨.ref r, rfl, 5, rfl, re6, by decide, by decide, fun g H7 re7 m7 g0 g1 => ⟨rfl, _, rfl, ite2 (fun _ => ?_) (fun _ => hnx _ _ ⟨os, rfl, re7, (m2.trans m26).trans m7, m26.trans m7, m7.keep t _ frt et6, by omega, by omega, hos⟩)⟩⟩
      have et7 := m7.keep t _ frt et6
      refine ⟨.ref t, rfl, .ref r, rfl, .ref t, rfl, t, _, rfl, .inl (SqL.of et7), ((os.map pvO).length : Int), rfl, re7, by rw [List.length_map]; omega, by rw [List.length_map, p140]; omega, fun j H8 re8 m8 j0 j1 => ?_⟩
      obtain ⟨jn, rfl⟩ : ∃ n : Nat, j = (n : Int) := ⟨j.toNat, by omega⟩
      have hjn : jn < (os.map pvO).length := by omega
      have et8 := m8.keep t _ frt et7
      have m28 := (m26.trans m7).trans m8
      have nt2 : ∀ {o : HO}, Mv r H2 (upd H8 t o) := fun {o} => ⟨fun b x nb hb => by
        rw [upd_ne (fun z => by
          rw [z] at hb
          have := m25.keep t x frt hb
          rw [nt] at this
          cases this)]
        exact m28.keep b x nb hb⟩
      refine ⟨t, _, (jn : Int), jn, rfl, rfl, et8, ixN_of hjn, hnx _ _ ⟨os.set jn none, rfl, re8.store frt, m2.trans nt2, nt2, by rw [upd_same, List.map_set]; rfl, by rw [List.length_set]; omega, by rw [List.length_set]; omega, fun o ho => ?_⟩⟩
      rcases List.mem_or_eq_of_mem_set ho with h | rfl
      · exact hos o h
      · trivial
    obtain ⟨os2, rfl, re7, m7, m27, et7, lo1, lo8, hos2⟩ := hR
    -- append
    have ef7 := m27.keep fp _ frf e2
    refine ⟨.ref fp, rfl, .inl ⟨rfl, _, SqL.of ef7⟩, .ref t, rfl, .ref r, rfl, small_le (by show 3 ≤ 1000; decide), fun p2 np2 => ?_⟩
    have s8 := same_upd (o := .lst [.int 3, .int 9, .int 25]) np2
    have ep2 : (upd H7 p2 (.lst [.int 3, .int 9, .int 25])) p2 = some (.lst [.int 3, .int 9, .int 25]) := upd_same
    have rp2 := re7.new np2
    have re8 := re7.same s8
    generalize upd H7 p2 (.lst [.int 3, .int 9, .int 25]) = H8 at s8 ep2 re8 ⊢
    refine ⟨.ref r, rfl, 3, rfl, re8, by decide, by decide, fun x2 H9 re9 m9 x20 x21 => ?_⟩
    obtain ⟨mny, hmny, hmny3⟩ := pick3n (a := 3) (b := 9) (c := 25) x20 x21
    refine ⟨p2, _, x2, .int mny, rfl, rfl, SqL.of (m9.keep p2 _ rp2 ep2), hmny, mny, rfl, re9, by omega, by rw [p140]; omega, fun lot H10 re10 m10 l0 l1 => ⟨small_le (by show 2 ≤ 1000; decide), fun p3 np3 => ?_⟩⟩
    have m710 : Mv r H7 H10 := (Mv.of s8).trans (m9.trans m10)
    have m210 := m27.trans m710
    have ef10 := m710.keep fp _ frf ef7
    have et10 := m710.keep t _ frt et7
    have s11 := same_upd (o := .tup [.ref t, .int lot]) np3
    have ep3 : (upd H10 p3 (.tup [.ref t, .int lot])) p3 = some (.tup [.ref t, .int lot]) := upd_same
    have np3f : p3 ≠ fp := fun z => by rw [z, ef10] at np3; cases np3
    have np3r := re10.new np3
    have ntf : t ≠ fp := fun z => by
      have := m25.keep fp _ frf e2
      rw [← z, nt] at this
      cases this
    generalize upd H10 p3 (.tup [.ref t, .int lot]) = H11 at s11 ep3 ⊢
    have lf : fvs.length = rs.length := by have := hA.length; rw [List.length_map] at this; exact this
    refine ⟨fp, _, _, rfl, rfl, s11 _ _ ef10, small1000 (by omega), ?_⟩
    refine ⟨fvs ++ [.ref p3], rs ++ [(os2, .int lot)], _, _, _, rfl, (re10.same s11).store frf, (((m2.trans m210)).trans (Mv.of s11)).upd nfp, upd_same, by rw [List.length_append, lrs]; rfl, ?_, fun x hx => ?_, fun x hx => ?_, ?_, ?_⟩
    · rw [hw_upd (.inr rfl), List.map_append]
      have m211 := m210.trans (Mv.of (r := r) s11)
      refine (RpAll.sm (m211.hw (W := fun b => b = r ∨ b = fp) (.inl rfl)) hA).snoc (.tup (by rw [Hw.at (W := fun b => b = r ∨ b = fp) (fun z => z.elim np3r np3f)]; exact ep3) (.cons (.lst (by rw [Hw.at (W := fun b => b = r ∨ b = fp) (fun z => z.elim frt ntf)]; exact s11 _ _ et10) (rp_Os os2)) (.cons (.int lot) .nil)))
    · rcases List.mem_append.mp hx with hx | hx
      · exact hgood x hx
      · rw [List.mem_singleton.mp hx]
        exact ⟨⟨lo1, by show os2.length ≤ 8; omega, hos2, decide_eq_true l0⟩, rfl⟩
    · rcases List.mem_append.mp hx with hx | hx
      · exact hw24 x hx
      · rw [List.mem_singleton.mp hx]
        exact ⟨by show lot ≤ 24; omega, lo8⟩
    · rw [sumW_snoc2]
      show 0 ≤ sumW rs + lot
      omega
    · rw [sumW_snoc2]
      show sumW rs + lot ≤ _
      omega
  · obtain ⟨fvs, rs, y3, y4, y5, rfl, re2, m2, e2, lrs, hA, hgood, hw24, hs0, hs1⟩ := hP
    have n1 : 1 ≤ rs.length := by omega
    have n8 : rs.length ≤ 5 := by omega
    have sum_le : sumW rs ≤ GREAT := by
      show _ ≤ (1000000000000000000000000000000 : Int)
      omega
    have ret : ∀ {H3 : Hp}, ReelAt H3 r → Mv r H2 H3 → (b = true → True) → Q (.ref fp) H3 := fun {H3} re3 m3 _ => q fp rs H3 re3 (m2.trans m3) (.lst (by rw [Hw.at (W := fun b => b = r) frf]; exact m3.keep fp _ frf e2) (RpAll.sm (Hw.less (W := fun b => b = r) (W' := fun b => b = r ∨ b = fp) fun b hb => .inl hb) (RpAll.sm (m3.hw (W := fun b => b = r ∨ b = fp) (.inl rfl)) hA))) ⟨n1, by omega, fun x hx => (hgood x hx).1, fun x hx => (hgood x (List.mem_of_mem_take hx)).2, sum_le⟩ ⟨n8, fun x hx => (hw24 x hx).1, fun x hx => (hw24 x hx).2⟩ (fun _ x hx => (hgood x hx).2)
    refine ⟨.bl b, rfl, b, rfl, ?_⟩
    cases b with
    | true => exact iteF (iteF ⟨.ref fp, rfl, ret re2 (Mv.refl r H2) fun _ => trivial⟩)
    | false =>
    refine iteT ⟨.ref r, rfl, 2, rfl, re2, by decide, by decide, fun x3 H3 re3 m3 _ _ => ⟨rfl, _, rfl, ?_⟩⟩
    have e3 := m3.keep fp _ frf e2
    have hA3 := RpAll.sm (m3.hw (W := fun b => b = r ∨ b = fp) (.inl rfl)) hA
    refine ite2 (fun _ => ?_) (fun _ => ⟨.ref fp, rfl, ret re3 m3 fun _ => trivial⟩)
    obtain ⟨rs', row, rfl⟩ : ∃ rs' row, rs = rs' ++ [row] := ⟨rs.dropLast, rs.getLast (by intro z; rw [z] at n1; exact absurd n1 (by decide)), (List.dropLast_concat_getLast _).symm⟩
    rw [List.map_append] at hA3
    obtain ⟨fvs', v, rfl, hA', hv⟩ := RpAll.unsnoc hA3
    obtain ⟨pats, m⟩ := row
    cases hv with
    | @tup b xs _ hb hxs =>
      cases hxs with
      | @cons vt _ _ _ ht hxs2 =>
        cases hxs2 with
        | @cons vm _ _ _ hm hxs3 =>
          cases hxs3
          have hb' := Hw.sub _ _ _ _ hb
          refine ⟨.ref fp, rfl, 1, rfl, fp, _, -1, .ref b, rfl, rfl, SqL.of e3, atI_last _ _, b, _, 0, vt, rfl, rfl, SqT.of hb', atI_nat (j := 0) rfl, small_le (by show 2 ≤ 1000; decide), fun p np => ?_⟩
          have s4 : Same H3 (upd H3 p (.tup [vt, .non])) := same_upd np
          have ep : (upd H3 p (.tup [vt, .non])) p = some (.tup [vt, .non]) := upd_same
          have npf : p ≠ fp := fun z => by rw [z, e3] at np; cases np
          have npr : p ≠ r := re3.new np
          have nWp : ¬ (p = r ∨ p = fp) := fun z => z.elim npr npf
          generalize hH4 : upd H3 p (.tup [vt, .non]) = H4 at s4 ep
          have re4 := re3.same s4
          have m4 := (m2.trans m3).trans (Mv.of (r := r) s4)
          refine ⟨.ref fp, rfl, 1, rfl, fp, _, -1, fvs'.length, rfl, rfl, s4 _ _ e3, by rw [List.length_append]; exact ix_last _, ?_⟩
          refine ⟨.ref fp, rfl, q fp (rs' ++ [(pats, PyData.none)]) _ (re4.store frf) (m4.upd nfp) (.lst (by rw [Hw.at (W := fun b => b = r) frf]; exact upd_same) ?_) ?_ ?_ (fun z => by cases z)⟩
          · have hX : RpAll (Hw (fun b => b = r ∨ b = fp) H4) (fvs' ++ [.ref p]) ((rs' ++ [(pats, PyData.none)]).map rowD) := by
              rw [List.map_append]
              exact (RpAll.sm (Same.hw s4) hA').snoc (.tup (by rw [Hw.at (W := fun b => b = r ∨ b = fp) nWp]; exact ep) (.cons (Rp.sm (Same.hw s4) ht) (.cons .non .nil)))
            have hs : (fvs' ++ [V.ref b]).set fvs'.length (.ref p) = fvs' ++ [.ref p] := by simp
            rw [hs]
            refine RpAll.sm (Hw.less (W := fun b => b = r) (W' := fun b => b = r ∨ b = fp) fun b hb => .inl hb) ?_
            rw [hw_upd (.inr rfl)]
            exact hX
          · rw [List.length_append, List.length_singleton] at n8
            have hrow := hgood (pats, m) (List.mem_append_right _ (List.mem_singleton.mpr rfl))
            refine ⟨by rw [List.length_append, List.length_singleton]; omega, by rw [List.length_append, List.length_singleton]; omega, fun x hx => ?_, fun x hx => ?_, ?_⟩
            · rcases List.mem_append.mp hx with hx | hx
              · exact (hgood x (List.mem_append_left _ hx)).1
              · rw [List.mem_singleton.mp hx]
                exact ⟨hrow.1.lo, hrow.1.hi, hrow.1.pat, rfl⟩
            · have : x ∈ rs' := by
                rw [List.length_append, List.length_singleton, Nat.add_sub_cancel, List.take_left'  rfl] at hx
                exact hx
              exact (hgood x (List.mem_append_left _ this)).2
            · rw [sumW_snoc2] at sum_le ⊢
              have hm0 : 0 ≤ worth m := by
                have := hrow.1.many
                cases m with
                | int i => exact of_decide_eq_true this
                | _ => exact Int.le_refl 0
              show sumW rs' + 0 ≤ GREAT
              have sl : sumW rs' + worth m ≤ GREAT := sum_le
              omega
          · refine ⟨by rw [List.length_append, List.length_singleton] at n8 ⊢; exact n8, fun x hx => ?_, fun x hx => ?_⟩
            · rcases List.mem_append.mp hx with hx | hx
              · exact (hw24 x (List.mem_append_left _ hx)).1
              · rw [List.mem_singleton.mp hx]
                show (0 : Int) ≤ 24
                decide
            · rcases List.mem_append.mp hx with hx | hx
              · exact (hw24 x (List.mem_append_left _ hx)).2
              · rw [List.mem_singleton.mp hx]
                exact (hw24 (pats, m) (List.mem_append_right _ (List.mem_singleton.mpr rfl))).2
end
end CL
set_option Elab.async false
set_option linter.all false
set_option pp.maxSteps 900
set_option maxRecDepth 100000
set_option maxHeartbeats 4000000
namespace CL
open PySem PySem.Spec PyProof.Rows L2 GE
abbrev sLis : Stmt := topS 38
abbrev nLis : List Str := ["thing", "inner"]
theorem scLis : FnScope nLis ["thing"] (defScope sLis) := ⟨rfl, rfl, rfl, by decide +kernel, rfl, by decide +kernel, by decide +kernel⟩
/-- a comprehension over a list or a tuple -/
theorem lc_seqW {K : PySem.W.Frag} {a : Addr} {xs : List V} {J : It} {g : TG} {tt : TT} {te : TE} {vs : List Nat} {σ : L2.St} {H1 : Hp} {D : Addr} {Qd : Hp → Prop} (Pv : Nat → Hp → Prop) (h0 : Pv 0 (upd H1 D (.lst []))) (hl : ∀ i H, Pv i H → StandsAs K a xs J H)
    (hs : ∀ i x H, xs[i]? = some x → Pv i H → g x (wipe σ vs) H fun σ2 H2 => wipe σ2 vs = wipe σ vs ∧ tt σ2 H2 fun b H3 => if b = true then te σ2 H3 fun y H4 => ∃ acc, H4 D = some (.lst acc) ∧ acc.length < sizeLine ∧ Pv (i + 1) (upd H4 D (.lst (acc ++ [y]))) else Pv (i + 1) H3) (hd : ∀ H, Pv xs.length H → Qd H) :
    ∃ W : Nat → Nat → Hp → Prop, (∃ m, W 0 m (upd H1 D (.lst []))) ∧ ∀ i m H, W i m H → (J.stop i H ∧ Qd H) ∨ (J.go i H ∧ ∃ Nx : Hp → Prop, (∀ H', Nx H' → ∃ m', m' < m ∧ W (i + 1) m' H') ∧ ∀ x H', J.yld i H x H' → g x (wipe σ vs) H' fun σ2 H2 => wipe σ2 vs = wipe σ vs ∧ tt σ2 H2 fun b H3 => if b = true then te σ2 H3 fun y H4 => ∃ acc, H4 D = some (.lst acc) ∧ acc.length < sizeLine ∧ Nx (upd H4 D (.lst (acc ++ [y]))) else Nx H3) := by
  refine ⟨fun i m H => m + i = xs.length ∧ Pv i H, ⟨xs.length, rfl, h0⟩, ?_⟩
  rintro i m H ⟨hm, p⟩
  have s := hl i H p
  cases m with
  | zero =>
    obtain rfl : i = xs.length := by omega
    exact .inl ⟨s.stop (Nat.le_refl _), hd H p⟩
  | succ m =>
    have lt : i < xs.length := by omega
    refine .inr ⟨s.go (List.getElem?_eq_getElem lt), Pv (i + 1), fun H' p' => ⟨m, Nat.lt_succ_self m, by omega, p'⟩, fun x H' y => ?_⟩
    obtain ⟨rfl, hx⟩ := s.yld y
    exact hs i x _ hx p
/-- a list of rows, as lists, whose first row's turns nothing else holds -/
inductive HeldAt : Hp → Addr → List RowT → Prop
  | mk (H : Hp) (p q t : Addr) (os : List (Option Int)) (o : Option Int) (vs : List V) (rest : List RowT) : H p = some (.lst (.ref q :: vs)) → H q = some (.lst [.ref t, optV o]) → H t = some (.lst (os.map optV)) → t ≠ p → t ≠ q → q ≠ p →
      RpAll (Hw (fun b => b = t ∨ b = p ∨ b = q) H) vs (rest.map fun x => PyData.list [.list (x.1.map pdO), x.2]) → HeldAt H p ((os, pdO o) :: rest)
def spLis0 : Sp := fun vs H Q _ => ∃ o : Option Int, vs = [optV o] ∧ ∀ H', Same H H' → Q (optV o) H'
def spLis1 : Sp := fun vs H Q _ => ∃ v, vs = [v] ∧ ((∃ o : Option Int, v = optV o ∧ ∀ H', Same H H' → Q v H') ∨ ∃ a : Addr, ∃ os : List (Option Int), v = .ref a ∧ H a = some (.lst (os.map optV)) ∧ os.length ≤ 8 ∧ ∀ t H', Same H H' → H t = none → H' t = some (.lst (os.map optV)) → Q (.ref t) H')
def spLis2 : Sp := fun vs H Q _ => ∃ b a : Addr, ∃ os : List (Option Int), ∃ o : Option Int, vs = [.ref b] ∧ H b = some (.tup [.ref a, optV o]) ∧ H a = some (.lst (os.map optV)) ∧ os.length ≤ 8 ∧ ∀ q t H', Same H H' → H q = none → H t = none → t ≠ q → H' t = some (.lst (os.map optV)) → H' q = some (.lst [.ref t, optV o]) → Q (.ref q) H'
def spLis3 : Sp := fun vs H Q _ => ∃ p0 : Addr, ∃ rs : List RowT, vs = [.ref p0] ∧ Rp H (.ref p0) (.list (rs.map rowD)) ∧ Fine rs ∧ ∀ p H', Same H H' → H p = none → HeldAt (Hw (fun b => H b ≠ none) H') p rs → Q (.ref p) H'
theorem rp_Ov {H : Hp} (os : List (Option Int)) : RpAll H (os.map optV) (os.map pdO) := by
  have e : os.map optV = os.map pvO := List.map_congr_left fun o _ => by cases o <;> rfl
  rw [e]
  exact rp_Os os
theorem hw_upd_out {W : Addr → Prop} {a : Addr} {H : Hp} {o : HO} (h : ¬ W a) : Hw W (upd H a o) = upd (Hw W H) a o := by
  funext b
  by_cases e : b = a
  · subst e
    rw [Hw.at h, upd_same, upd_same]
  · rw [upd_ne e]
    unfold Hw
    rw [upd_ne e]
theorem HeldAt.same {H H' : Hp} {p : Addr} {rs : List RowT} (s : Same H H') (h : HeldAt H p rs) : HeldAt H' p rs := by
  cases h with
  | mk q t os o vs rest h1 h2 h3 h4 h5 h7 h6 => exact .mk H' p q t os o vs rest (s _ _ h1) (s _ _ h2) (s _ _ h3) h4 h5 h7 (RpAll.sm (Same.hw s) h6)
theorem same_updN {H H' : Hp} {D : Addr} {o : HO} (s : Same H H') (h : H D = none) : Same H (upd H' D o) := fun b x e => by
  rw [upd_ne fun z => by rw [z, h] at e; cases e]
  exact s b x e
section
variable {P : Program} {w : World} {K : PySem.W.Frag} {mg : Str → Option Value} {base : Heap}
def spNo : Sp := fun _ _ _ _ => False
theorem ok_no {f : Addr} {fd : FuncData} (F : Fun K "_law_lists" "_law_lists" sLis f fd) : FnOk P w K mg base CX0 1 f fd ["thing"] spNo :=
  F.ok (k := 0) scLis (fun vs H Q E h => False.elim h) (fun cdv A outer s H vs Q E hr h => False.elim h)
theorem ok_lis0 {k : Nat} {f : Addr} {fd : FuncData} (F : Fun K "_law_lists" "_law_lists" sLis f fd) (T : Nm mg) (CD : Cal P w K mg base k "_law_lists" ["thing"] spNo) : FnOk P w K mg base CX0 (k + 1) f fd ["thing"] spLis0 := by
  refine F.ok scLis (fun vs H Q E ⟨o, e, _⟩ => by rw [e]; rfl) (fun cdv A outer s H vs Q E hr h => ?_)
  obtain ⟨o, rfl, q⟩ := h
  have nd := scLis.nd
  refine ⟨_, (pss_one (ps_ret (pe_ifExp (pt_val (pe_callB call_isiT (by rfl) T.isi (by decide +kernel) (pa_cons (pv 0) (pa_cons (pe_tup (pa_cons (pe_bltn (v := .ty "list") (by rfl) T.list PyProof.Rows.boot_list rfl) (pa_cons (pe_bltn (v := .ty "tuple") (by rfl) T.tuple PyProof.Rows.boot_tuple rfl) pa_nil))) pa_nil)))) (pe_lc (own := [("inner", 1)]) (g := (gName 1)) (tt := tYes) rfl nd (pi_seqW (pv 0)) (blkOk_by (own := [("inner", 1)]) (N := nLis) (sc := (defScope sLis)) (by decide +kernel)) (fun _ _ _ _ _ => (pg_name (i := 1) nd rfl (.inl rfl))) (fun _ _ _ _ _ => pts_nil) (fun _ _ _ _ _ => (pe_cal CD hr (by rfl) (pa_cons (pv 1) pa_nil)))) (pv 0)))), ?_⟩
  have hR : Rp H (optV o) (pdO o) := by cases o <;> constructor
  have hrow : isRow (pdO o) = false := by cases o <;> rfl
  refine ⟨optV o, rfl, by show 2 ≤ sizeLine; decide, fun p np => ⟨optV o, p, [.ty "list", .ty "tuple"], _, _, isRow (pdO o), rfl, upd_same, .cons (.ty _) (.cons (.ty _) .nil), (Rp.ex (Ex.new np) _ _ hR).ty, kit_rows _, _, rfl, ?_⟩⟩
  rw [hrow]
  exact iteF ⟨optV o, rfl, q _ (same_upd np)⟩
theorem ok_lis1 {k : Nat} {f : Addr} {fd : FuncData} (F : Fun K "_law_lists" "_law_lists" sLis f fd) (T : Nm mg) (CD : Cal P w K mg base k "_law_lists" ["thing"] spLis0) : FnOk P w K mg base CX0 (k + 1) f fd ["thing"] spLis1 := by
  refine F.ok scLis (fun vs H Q E ⟨o, e, _⟩ => by rw [e]; rfl) (fun cdv A outer s H vs Q E hr h => ?_)
  obtain ⟨v, rfl, h⟩ := h
  have nd := scLis.nd
  refine ⟨_, (pss_one (ps_ret (pe_ifExp (pt_val (pe_callB call_isiT (by rfl) T.isi (by decide +kernel) (pa_cons (pv 0) (pa_cons (pe_tup (pa_cons (pe_bltn (v := .ty "list") (by rfl) T.list PyProof.Rows.boot_list rfl) (pa_cons (pe_bltn (v := .ty "tuple") (by rfl) T.tuple PyProof.Rows.boot_tuple rfl) pa_nil))) pa_nil)))) (pe_lc (own := [("inner", 1)]) (g := (gName 1)) (tt := tYes) rfl nd (pi_seqW (pv 0)) (blkOk_by (own := [("inner", 1)]) (N := nLis) (sc := (defScope sLis)) (by decide +kernel)) (fun _ _ _ _ _ => (pg_name (i := 1) nd rfl (.inl rfl))) (fun _ _ _ _ _ => pts_nil) (fun _ _ _ _ _ => (pe_cal CD hr (by rfl) (pa_cons (pv 1) pa_nil)))) (pv 0)))), ?_⟩
  rcases h with ⟨o, rfl, q⟩ | ⟨a, os, rfl, ha, l8, q⟩
  · have hR : Rp H (optV o) (pdO o) := by cases o <;> constructor
    have hrow : isRow (pdO o) = false := by cases o <;> rfl
    refine ⟨optV o, rfl, by show 2 ≤ sizeLine; decide, fun p np => ⟨optV o, p, [.ty "list", .ty "tuple"], _, _, isRow (pdO o), rfl, upd_same, .cons (.ty _) (.cons (.ty _) .nil), (Rp.ex (Ex.new np) _ _ hR).ty, kit_rows _, _, rfl, ?_⟩⟩
    rw [hrow]
    exact iteF ⟨optV o, rfl, q _ (same_upd np)⟩
  · have hR : Rp H (.ref a) (.list (os.map pdO)) := .lst ha (rp_Ov os)
    refine ⟨.ref a, rfl, by show 2 ≤ sizeLine; decide, fun p np => ⟨.ref a, p, [.ty "list", .ty "tuple"], _, _, true, rfl, upd_same, .cons (.ty _) (.cons (.ty _) .nil), (Rp.ex (Ex.new np) _ _ hR).ty, kit_rows _, _, rfl, iteT ?_⟩⟩
    have s0 : Same H (upd H p (.tup [.ty "list", .ty "tuple"])) := same_upd np
    generalize upd H p (.tup [.ty "list", .ty "tuple"]) = H0 at s0 ⊢
    refine ⟨.ref a, rfl, a, os.map optV, rfl, ⟨.inl (s0 _ _ ha)⟩, fun J hJ D hD => ?_⟩
    refine lc_seqW (K := K) (a := a) (xs := os.map optV) (fun i H2 => Same H0 H2 ∧ H2 D = some (.lst ((os.take i).map optV))) ⟨same_upd hD, upd_same⟩ (fun i H2 hP => hJ H2 fun o ho => hP.1 _ _ ho) (fun i x H2 hx hP => ?_) (fun H2 hP => ?_)
    · obtain ⟨s2, e2⟩ := hP
      obtain ⟨o, ho, rfl⟩ : ∃ o, os[i]? = some o ∧ x = optV o := by
        rw [List.getElem?_map] at hx
        cases z : os[i]? with
        | none => rw [z] at hx; cases hx
        | some y => rw [z] at hx; cases hx; exact ⟨y, rfl, rfl⟩
      have li : i < os.length := (List.getElem?_eq_some_iff.mp ho).1
      refine ⟨rfl, yesT ⟨optV o, rfl, o, rfl, fun H3 s3 => ⟨_, s3 _ _ e2, by rw [List.length_map, List.length_take]; exact small1000 (by omega), same_updN (s2.trans s3) hD, ?_⟩⟩⟩
      rw [upd_same, List.take_add_one, ho, List.map_append]
      rfl
    · obtain ⟨s2, e2⟩ := hP
      rw [List.length_map, List.take_length] at e2
      exact q D H2 (s0.trans s2) (s0.free hD) e2
theorem ok_lis2 {k : Nat} {f : Addr} {fd : FuncData} (F : Fun K "_law_lists" "_law_lists" sLis f fd) (T : Nm mg) (CD : Cal P w K mg base k "_law_lists" ["thing"] spLis1) : FnOk P w K mg base CX0 (k + 1) f fd ["thing"] spLis2 := by
  refine F.ok scLis (fun vs H Q E ⟨_, _, _, _, e, _⟩ => by rw [e]; rfl) (fun cdv A outer s H vs Q E hr h => ?_)
  obtain ⟨b, a, os, o, rfl, hb, ha, l8, q⟩ := h
  have nd := scLis.nd
  refine ⟨_, (pss_one (ps_ret (pe_ifExp (pt_val (pe_callB call_isiT (by rfl) T.isi (by decide +kernel) (pa_cons (pv 0) (pa_cons (pe_tup (pa_cons (pe_bltn (v := .ty "list") (by rfl) T.list PyProof.Rows.boot_list rfl) (pa_cons (pe_bltn (v := .ty "tuple") (by rfl) T.tuple PyProof.Rows.boot_tuple rfl) pa_nil))) pa_nil)))) (pe_lc (own := [("inner", 1)]) (g := (gName 1)) (tt := tYes) rfl nd (pi_seqW (pv 0)) (blkOk_by (own := [("inner", 1)]) (N := nLis) (sc := (defScope sLis)) (by decide +kernel)) (fun _ _ _ _ _ => (pg_name (i := 1) nd rfl (.inl rfl))) (fun _ _ _ _ _ => pts_nil) (fun _ _ _ _ _ => (pe_cal CD hr (by rfl) (pa_cons (pv 1) pa_nil)))) (pv 0)))), ?_⟩
  have hR : Rp H (.ref b) (.tuple [.list (os.map pdO), pdO o]) := .tup hb (.cons (.lst ha (rp_Ov os)) (.cons (by cases o <;> constructor) .nil))
  refine ⟨.ref b, rfl, by show 2 ≤ sizeLine; decide, fun p np => ⟨.ref b, p, [.ty "list", .ty "tuple"], _, _, true, rfl, upd_same, .cons (.ty _) (.cons (.ty _) .nil), (Rp.ex (Ex.new np) _ _ hR).ty, kit_rows _, _, rfl, iteT ?_⟩⟩
  have s0 : Same H (upd H p (.tup [.ty "list", .ty "tuple"])) := same_upd np
  generalize upd H p (.tup [.ty "list", .ty "tuple"]) = H0 at s0 ⊢
  refine ⟨.ref b, rfl, b, [.ref a, optV o], rfl, ⟨.inr (s0 _ _ hb)⟩, fun J hJ D hD => ?_⟩
  refine lc_seqW (K := K) (a := b) (xs := [.ref a, optV o]) (fun i H2 => Same H0 H2 ∧ ((i = 0 ∧ H2 D = some (.lst [])) ∨ ∃ t, H0 t = none ∧ t ≠ D ∧ H2 t = some (.lst (os.map optV)) ∧ ((i = 1 ∧ H2 D = some (.lst [.ref t])) ∨ (i = 2 ∧ H2 D = some (.lst [.ref t, optV o]))))) ⟨same_upd hD, .inl ⟨rfl, upd_same⟩⟩ (fun i H2 hP => hJ H2 fun o ho => hP.1 _ _ ho) (fun i x H2 hx hP => ?_) (fun H2 hP => ?_)
  · obtain ⟨s2, hP⟩ := hP
    have hn0 : ((0 : Nat) : Int) = 0 := rfl
    rcases hP with ⟨rfl, e2⟩ | ⟨t, t0, tD, et, ⟨rfl, e2⟩ | ⟨rfl, e2⟩⟩
    · cases hx
      refine ⟨rfl, yesT ⟨.ref a, rfl, .ref a, rfl, .inr ⟨a, os, rfl, s2 _ _ (s0 _ _ ha), l8, fun t H3 s3 nt et => ?_⟩⟩⟩
      have tD : t ≠ D := fun z => by rw [z, e2] at nt; cases nt
      exact ⟨[], s3 _ _ e2, small1000 (by decide), same_updN (s2.trans s3) hD, .inr ⟨t, s2.free nt, tD, by rw [upd_ne tD]; exact et, .inl ⟨rfl, upd_same⟩⟩⟩
    · cases hx
      refine ⟨rfl, yesT ⟨optV o, rfl, optV o, rfl, .inl ⟨o, rfl, fun H3 s3 => ?_⟩⟩⟩
      exact ⟨[.ref t], s3 _ _ e2, small1000 (by rw [List.length_singleton]; decide), same_updN (s2.trans s3) hD, .inr ⟨t, t0, tD, by rw [upd_ne tD]; exact s3 _ _ et, .inr ⟨rfl, upd_same⟩⟩⟩
    · cases hx
  · obtain ⟨s2, hP⟩ := hP
    rcases hP with ⟨z, e2⟩ | ⟨t, t0, tD, et, ⟨z, e2⟩ | ⟨_, e2⟩⟩
    · cases z
    · cases z
    · exact q D t H2 (s0.trans s2) (s0.free hD) (s0.free t0) tD et e2
theorem goodrow_o {x : RowT} (g : GoodRow x) : ∃ o, x.2 = pdO o := by
  have h := g.many
  cases e : x.2 with
  | int m => exact ⟨some m, rfl⟩
  | none => exact ⟨none, rfl⟩
  | _ => rw [e] at h; cases h
theorem rpO_eq {H : Hp} : ∀ (os : List (Option Int)) (ys : List V), RpAll H ys (os.map pdO) → ys = os.map optV
  | [], _, h => by cases h; rfl
  | o :: os, _, h => by
    cases h with
    | cons h1 h2 =>
      rw [rp_pdO h1, rpO_eq os _ h2]
      rfl
/-- what a row's value is -/
theorem row_at {H : Hp} {v : V} {os : List (Option Int)} {o : Option Int} (h : Rp H v (rowD (os, pdO o))) : ∃ b a, v = .ref b ∧ H b = some (.tup [.ref a, optV o]) ∧ H a = some (.lst (os.map optV)) := by
  cases h with
  | @tup b xs _ hb hxs =>
    cases hxs with
    | @cons vt _ _ _ ht hxs2 =>
      cases hxs2 with
      | @cons vm _ _ _ hm hxs3 =>
        cases hxs3
        obtain rfl := rp_pdO hm
        cases ht with
        | @lst a ys _ ha hys =>
          refine ⟨b, a, rfl, hb, ?_⟩
          have e : ys = os.map optV := rpO_eq os ys hys
          rw [← e]
          exact ha
theorem ok_lis3 {k : Nat} {f : Addr} {fd : FuncData} (F : Fun K "_law_lists" "_law_lists" sLis f fd) (T : Nm mg) (CD : Cal P w K mg base k "_law_lists" ["thing"] spLis2) : FnOk P w K mg base CX0 (k + 1) f fd ["thing"] spLis3 := by
  refine F.ok scLis (fun vs H Q E ⟨_, _, e, _⟩ => by rw [e]; rfl) (fun cdv A outer s H vs Q E hr h => ?_)
  obtain ⟨p0, rs, rfl, hR, hF, q⟩ := h
  have nd := scLis.nd
  refine ⟨_, (pss_one (ps_ret (pe_ifExp (pt_val (pe_callB call_isiT (by rfl) T.isi (by decide +kernel) (pa_cons (pv 0) (pa_cons (pe_tup (pa_cons (pe_bltn (v := .ty "list") (by rfl) T.list PyProof.Rows.boot_list rfl) (pa_cons (pe_bltn (v := .ty "tuple") (by rfl) T.tuple PyProof.Rows.boot_tuple rfl) pa_nil))) pa_nil)))) (pe_lc (own := [("inner", 1)]) (g := (gName 1)) (tt := tYes) rfl nd (pi_seqW (pv 0)) (blkOk_by (own := [("inner", 1)]) (N := nLis) (sc := (defScope sLis)) (by decide +kernel)) (fun _ _ _ _ _ => (pg_name (i := 1) nd rfl (.inl rfl))) (fun _ _ _ _ _ => pts_nil) (fun _ _ _ _ _ => (pe_cal CD hr (by rfl) (pa_cons (pv 1) pa_nil)))) (pv 0)))), ?_⟩
  refine ⟨.ref p0, rfl, by show 2 ≤ sizeLine; decide, fun p np => ⟨.ref p0, p, [.ty "list", .ty "tuple"], _, _, true, rfl, upd_same, .cons (.ty _) (.cons (.ty _) .nil), (Rp.ex (Ex.new np) _ _ hR).ty, kit_rows _, _, rfl, iteT ?_⟩⟩
  have s0 : Same H (upd H p (.tup [.ty "list", .ty "tuple"])) := same_upd np
  generalize upd H p (.tup [.ty "list", .ty "tuple"]) = H0 at s0 ⊢
  obtain ⟨_, xs, e, hp, hx⟩ := rp_list hR
  cases e
  have hlx : xs.length = rs.length := by rw [hx.length, List.length_map]
  refine ⟨.ref p0, rfl, p0, xs, rfl, ⟨.inl (s0 _ _ hp)⟩, fun J hJ D hD => ?_⟩
  refine lc_seqW (K := K) (a := p0) (xs := xs) (fun i H2 => Same H0 H2 ∧ ((i = 0 ∧ H2 D = some (.lst [])) ∨ HeldAt (Hw (fun b => H0 b ≠ none) H2) D (rs.take i) ∧ ∀ ws, H2 D = some (.lst ws) → ws.length = i)) ⟨same_upd hD, .inl ⟨rfl, upd_same⟩⟩ (fun i H2 hP => hJ H2 fun o ho => hP.1 _ _ ho) (fun i x H2 hxi hP => ?_) (fun H2 hP => ?_)
  · obtain ⟨s2, hP⟩ := hP
    obtain ⟨d, hd, hRx⟩ := hx.get hxi
    obtain ⟨row, hrow, rfl⟩ : ∃ row, rs[i]? = some row ∧ d = rowD row := by
      rw [List.getElem?_map] at hd
      cases z : rs[i]? with
      | none => rw [z] at hd; cases hd
      | some y => rw [z] at hd; cases hd; exact ⟨y, rfl, rfl⟩
    have g := hF.row row (List.mem_of_getElem? hrow)
    have li : i < rs.length := (List.getElem?_eq_some_iff.mp hrow).1
    have n8 : rs.length ≤ 8 := hF.hi
    obtain ⟨os, m⟩ := row
    obtain ⟨o, hm⟩ := goodrow_o g
    dsimp only at hm
    subst hm
    obtain ⟨b, a, rfl, hb, ha⟩ := row_at hRx
    refine ⟨rfl, yesT ⟨.ref b, rfl, b, a, os, o, rfl, s2 _ _ (s0 _ _ hb), s2 _ _ (s0 _ _ ha), g.hi, fun qn t H3 s3 nq nt tq et eq => ?_⟩⟩
    rw [List.take_add_one, hrow]
    have eqW : ∀ o, Hw (fun b => H0 b ≠ none) (upd H3 D o) = upd (Hw (fun b => H0 b ≠ none) H3) D o := fun o => hw_upd_out fun z => z hD
    have at0 : ∀ {b : Addr}, H2 b = none → Hw (fun b => H0 b ≠ none) H3 b = H3 b := fun {b} nb => Hw.at fun z => z (s2.free nb)
    have s3w : Same (Hw (fun b => H0 b ≠ none) H2) (Hw (fun b => H0 b ≠ none) H3) := Same.hw s3
    rcases hP with ⟨rfl, e2⟩ | ⟨hH, hl⟩
    · have tD : t ≠ D := fun z => by rw [z, e2] at nt; cases nt
      have qD : qn ≠ D := fun z => by rw [z, e2] at nq; cases nq
      refine ⟨[], s3 _ _ e2, small1000 (by decide), same_updN (s2.trans s3) hD, .inr ⟨?_, fun ws hw => by rw [upd_same] at hw; cases hw; rfl⟩⟩
      rw [eqW]
      exact .mk _ D qn t os o [] [] upd_same (by rw [upd_ne qD, at0 nq]; exact eq) (by rw [upd_ne tD, at0 nt]; exact et) tD tq qD .nil
    · generalize hrt : rs.take i = rt at hH ⊢
      cases hH with
      | mk q1 t1 os1 o1 vs1 rest1 h1 h2 h3 h4 h5 h7 h6 =>
        have h1' := Hw.sub _ _ _ _ h1
        have h2' := Hw.sub _ _ _ _ h2
        have h3' := Hw.sub _ _ _ _ h3
        have hl1 := hl _ h1'
        have tD : t ≠ D := fun z => by rw [z, h1'] at nt; cases nt
        have qD : qn ≠ D := fun z => by rw [z, h1'] at nq; cases nq
        have q1D : q1 ≠ D := h7
        have tq1 : t ≠ q1 := fun z => by rw [z, h2'] at nt; cases nt
        have qq1 : qn ≠ q1 := fun z => by rw [z, h2'] at nq; cases nq
        have tt1 : t ≠ t1 := fun z => by rw [z, h3'] at nt; cases nt
        have qt1 : qn ≠ t1 := fun z => by rw [z, h3'] at nq; cases nq
        refine ⟨_, s3 _ _ h1', small1000 (by omega), same_updN (s2.trans s3) hD, .inr ⟨?_, fun ws hw => by rw [upd_same] at hw; cases hw; rw [List.length_append, hl1]; rfl⟩⟩
        rw [eqW]
        refine .mk _ D q1 t1 os1 o1 (vs1 ++ [.ref qn]) (rest1 ++ [(os, pdO o)]) upd_same (by rw [upd_ne q1D]; exact s3w _ _ h2) (by rw [upd_ne h4]; exact s3w _ _ h3) h4 h5 h7 ?_
        rw [hw_upd (.inr (.inl rfl)), List.map_append]
        refine (RpAll.sm (Same.hw s3w) h6).snoc (.lst (by rw [Hw.at (W := fun b => b = t1 ∨ b = D ∨ b = q1) (fun z => z.elim qt1 (fun z => z.elim qD qq1)), at0 nq]; exact eq) (.cons (.lst (by rw [Hw.at (W := fun b => b = t1 ∨ b = D ∨ b = q1) (fun z => z.elim tt1 (fun z => z.elim tD tq1)), at0 nt]; exact et) (rp_Ov os)) (.cons (by cases o <;> constructor) .nil)))
  · obtain ⟨s2, hP⟩ := hP
    rcases hP with ⟨z, e2⟩ | ⟨hH, hl⟩
    · have := hF.lo
      omega
    · rw [hlx, List.take_length] at hH
      exact q D H2 (s0.trans s2) (s0.free hD) (hH.same (Hw.less fun b hb hz => hb (s0.free hz)))
end
end CL
set_option Elab.async false
set_option linter.all false
set_option pp.maxSteps 900
set_option maxRecDepth 100000
set_option maxHeartbeats 4000000
namespace CL
open PySem PySem.Spec PyProof.Rows L2 GE
abbrev sHan : Stmt := topS 39
abbrev nHan : List Str := ["spring", "thing", "kind", "one"]
theorem scHan : FnScope nHan ["spring", "thing"] (defScope sHan) := ⟨rfl, rfl, rfl, by decide +kernel, rfl, by decide +kernel, by decide +kernel⟩
theorem rows_self : ∀ rs : List RowT, RowsL rs (rs.map rowD)
  | [] => .nil
  | x :: rs => .cons (.inl rfl) (rows_self rs)
theorem rows_lists : ∀ rs : List RowT, RowsL rs (rs.map fun x => PyData.list [.list (x.1.map pdO), x.2])
  | [] => .nil
  | x :: rs => .cons (.inr rfl) (rows_lists rs)
theorem RowsL.snoc : ∀ {rs : List RowT} {es : List PyData} {x : RowT} {e : PyData}, RowsL rs es → RowL x e → RowsL (rs ++ [x]) (es ++ [e])
  | _, _, _, _, .nil, h => .cons h .nil
  | _, _, _, _, .cons a b, h => .cons a (RowsL.snoc b h)
theorem HeldAt.rp {H : Hp} {p : Addr} {rs : List RowT} (h : HeldAt H p rs) : Rp H (.ref p) (.list (rs.map fun x => PyData.list [.list (x.1.map pdO), x.2])) := by
  cases h with
  | mk q t os o vs rest h1 h2 h3 h4 h5 h7 h6 =>
    exact .lst h1 (.cons (.lst h2 (.cons (.lst h3 (rp_Ov os)) (.cons (by cases o <;> constructor) .nil))) (RpAll.sm (Hw.sub _ _) h6))
/-- what is handed in: a list or a tuple of rows -/
def Handed (H : Hp) (v : V) (rs : List RowT) : Prop := ∃ p xs es, v = .ref p ∧ StSeq H p xs ∧ RpAll H xs es ∧ RowsL rs es
def spHan (r : Addr) : Sp := fun vs H Q _ => ∃ p0 rs, vs = [.ref r, .ref p0] ∧ ReelAt H r ∧ Rp (Hw (fun b => b = r) H) (.ref p0) (.list (rs.map rowD)) ∧ Fine rs ∧ ∀ v H', ReelAt H' r → Mv r H H' → Handed (Hw (fun b => b = r) H') v rs → Q v H'
section
variable {P : Program} {w : World} {K : PySem.W.Frag} {mg : Str → Option Value} {base : Heap}
theorem ok_han {k : Nat} {f r : Addr} {fd : FuncData} (F : Fun K "_law_handed" "_law_handed" sHan f fd) (T : Nm mg) (CD : Cal P w K mg base k "_law_draw" ["spring", "many"] (spDraw r)) (CL : Cal P w K mg base k "_law_lists" ["thing"] spLis2) (CLP : Cal P w K mg base k "_law_lists" ["thing"] spLis3) : FnOk P w K mg base CX0 (k + 1) f fd ["spring", "thing"] (spHan r) := by
  refine F.ok scHan (fun vs H Q E ⟨_, _, e, _⟩ => by rw [e]; rfl) (fun cdv A outer s H vs Q E hr h => ?_)
  obtain ⟨p0, rs, rfl, hre, hRw, hF, q⟩ := h
  have nd := scHan.nd
  refine ⟨_, (pss_cons (ps_set (i := 2) nd rfl (.inl rfl) (pe_cal CD hr (by rfl) (pa_cons (pv 0) (pa_cons pe_int pa_nil))))
      (pss_cons (ps_if (pt_cmpR op_eq (pv 2) pe_int (nomark _)) (pss_one (ps_ret (pe_cal CLP hr (by rfl) (pa_cons (pv 1) pa_nil)))) pss_nil)
      (pss_cons (ps_if (pt_cmpR op_eq (pv 2) pe_int (nomark _)) (pss_one (ps_ret (pe_lc (own := [("one", 3)]) (g := (gName 3)) (tt := tYes) rfl nd (pi_list (pv 1)) (blkOk_by (own := [("one", 3)]) (N := nHan) (sc := (defScope sHan)) (by decide +kernel)) (fun _ _ _ _ _ => (pg_name (i := 3) nd rfl (.inl rfl))) (fun _ _ _ _ _ => pts_nil) (fun _ _ _ _ _ => (pe_ifExp (pt_cmpR op_eq (pe_cal CD hr (by rfl) (pa_cons (pv 0) (pa_cons pe_int pa_nil))) pe_int (nomark _)) (pe_cal CL hr (by rfl) (pa_cons (pv 3) pa_nil)) (pv 3)))))) pss_nil)
      (pss_cons (ps_if (pt_cmpR op_eq (pv 2) pe_int (nomark _)) (pss_one (ps_ret (pe_callTy call_tuple_of (by rfl) T.tuple (by decide +kernel) (pa_cons (pe_lc (own := [("one", 3)]) (g := (gName 3)) (tt := tYes) rfl nd (pi_list (pv 1)) (blkOk_by (own := [("one", 3)]) (N := nHan) (sc := (defScope sHan)) (by decide +kernel)) (fun _ _ _ _ _ => (pg_name (i := 3) nd rfl (.inl rfl))) (fun _ _ _ _ _ => pts_nil) (fun _ _ _ _ _ => (pe_cal CL hr (by rfl) (pa_cons (pv 3) pa_nil)))) pa_nil)))) pss_nil)
      (pss_one (ps_ret (pe_ifExp (pt_cmpR op_eq (pv 2) pe_int (nomark _)) (pe_callTy call_tuple_of (by rfl) T.tuple (by decide +kernel) (pa_cons (pv 1) pa_nil)) (pv 1)))))))), ?_⟩
  have hR : Rp H (.ref p0) (.list (rs.map rowD)) := Rp.sm (Hw.sub _ _) hRw
  obtain ⟨_, xs, e, hp0, hx⟩ := rp_list hRw
  cases e
  have hpr : p0 ≠ r := Hw.ne (W := fun b => b = r) hp0
  have hp := Hw.sub _ _ _ _ hp0
  have hlx : xs.length = rs.length := by rw [hx.length, List.length_map]
  have n8 : rs.length ≤ 8 := hF.hi
  refine ⟨.ref r, rfl, 5, rfl, hre, by decide, by decide, fun x H1 re1 m1 x0 x1 => ?_⟩
  have m1w : Same (Hw (fun b => b = r) H) (Hw (fun b => b = r) H1) := m1.hw (W := fun b => b = r) rfl
  have hp1 := m1.keep p0 _ hpr hp
  have hx1 := RpAll.sm m1w hx
  have rowat : ∀ {i : Nat} {v : V} {H2 : Hp}, Mv r H1 H2 → xs[i]? = some v → ∃ (b a : Addr) (os : List (Option Int)) (o : Option Int), rs[i]? = some (os, pdO o) ∧ v = .ref b ∧ b ≠ r ∧ a ≠ r ∧ H2 b = some (.tup [.ref a, optV o]) ∧ H2 a = some (.lst (os.map optV)) ∧ os.length ≤ 8 := fun {i v H2} m2 hv => by
    obtain ⟨d, hd, hRv⟩ := hx1.get hv
    obtain ⟨row, hrow, rfl⟩ : ∃ row, rs[i]? = some row ∧ d = rowD row := by
      rw [List.getElem?_map] at hd
      cases z : rs[i]? with
      | none => rw [z] at hd; cases hd
      | some y => rw [z] at hd; cases hd; exact ⟨y, rfl, rfl⟩
    have g := hF.row row (List.mem_of_getElem? hrow)
    obtain ⟨os, m⟩ := row
    obtain ⟨o, hm⟩ := goodrow_o g
    dsimp only at hm
    subst hm
    obtain ⟨b, a, rfl, hb, ha⟩ := row_at (Rp.sm (m2.hw (W := fun b => b = r) rfl) hRv)
    exact ⟨b, a, os, o, hrow, rfl, Hw.ne (W := fun b => b = r) hb, Hw.ne (W := fun b => b = r) ha, Hw.sub _ _ _ _ hb, Hw.sub _ _ _ _ ha, g.hi⟩
  have finish : ∀ {H2 : Hp} {p : Addr} {ys : List V} {es : List PyData}, ReelAt H2 r → Mv r H1 H2 → p ≠ r → (H2 p = some (.lst ys) ∨ H2 p = some (.tup ys)) → RpAll (Hw (fun b => b = r) H2) ys es → RowsL rs es → Q (.ref p) H2 := fun {H2 p ys es} re2 m2 hpr hp hys hes =>
    q _ H2 re2 (m1.trans m2) ⟨p, ys, es, rfl, ⟨by rw [Hw.at (W := fun b => b = r) hpr]; exact hp⟩, hys, hes⟩
  refine ⟨.int x, rfl, rfl, _, rfl, ite2 (fun _ => ?_) (fun _ => ?_)⟩
  · refine ⟨.ref p0, rfl, p0, rs, rfl, Rp.sm (Hw.sub (fun b => b = r) H1) (Rp.sm m1w hRw), hF, fun p H2 s2 np hH => ?_⟩
    have hw : HeldAt (Hw (fun b => b = r) H2) p rs := hH.same (Hw.less (W := fun b => b = r) (W' := fun b => H1 b ≠ none) fun b hb => by rw [hb]; exact re1.some)
    obtain ⟨_, ys, e, hp', hys⟩ := rp_list hw.rp
    cases e
    exact q _ H2 (re1.same s2) (m1.trans (Mv.of s2)) ⟨p, ys, _, rfl, ⟨.inl hp'⟩, hys, rows_lists rs⟩
  have grow : ∀ {D : Addr} {ws : List V} {es : List PyData} {i : Nat} {H2 H3 : Hp} {v : V} {e : PyData} {os : List (Option Int)} {o : Option Int}, H1 D = none → D ≠ r → rs[i]? = some (os, pdO o) → ReelAt H3 r → Mv r H1 H2 → Mv r H2 H3 → H2 D = some (.lst ws) → ws.length = i → RpAll (Hw (fun b => b = r ∨ b = D) H2) ws es → RowsL (rs.take i) es → Rp (Hw (fun b => b = r ∨ b = D) H3) v e → RowL (os, pdO o) e →
      ∃ acc, H3 D = some (.lst acc) ∧ acc.length < sizeLine ∧ ∃ ws es, ReelAt (upd H3 D (.lst (acc ++ [v]))) r ∧ Mv r H1 (upd H3 D (.lst (acc ++ [v]))) ∧ (upd H3 D (.lst (acc ++ [v]))) D = some (.lst ws) ∧ ws.length = i + 1 ∧ RpAll (Hw (fun b => b = r ∨ b = D) (upd H3 D (.lst (acc ++ [v])))) ws es ∧ RowsL (rs.take (i + 1)) es := fun {D ws es i H2 H3 v e os o} hD Dr hrow re3 m2 m3 eD hl hw hes hv he => by
    have li : i < rs.length := (List.getElem?_eq_some_iff.mp hrow).1
    refine ⟨ws, m3.keep _ _ Dr eD, small1000 (by omega), ws ++ [v], es ++ [e], re3.store Dr, (m2.trans m3).upd hD, upd_same, by rw [List.length_append, hl]; rfl, ?_, ?_⟩
    · rw [hw_upd (.inr rfl)]
      exact (RpAll.sm (m3.hw (W := fun b => b = r ∨ b = D) (.inl rfl)) hw).snoc hv
    · rw [List.take_add_one, hrow]
      exact hes.snoc he
  refine ⟨.int x, rfl, rfl, _, rfl, ite2 (fun _ => ?_) (fun _ => ?_)⟩
  · refine ⟨.ref p0, rfl, p0, rfl, ⟨xs, SqL.of hp1⟩, fun D hD => ?_⟩
    have Dr := re1.new hD
    refine lc_list (xs := xs) (fun i H2 => ∃ ws es, ReelAt H2 r ∧ Mv r H1 H2 ∧ H2 D = some (.lst ws) ∧ ws.length = i ∧ RpAll (Hw (fun b => b = r ∨ b = D) H2) ws es ∧ RowsL (rs.take i) es) ⟨[], [], re1.same (same_upd hD), Mv.of (same_upd hD), upd_same, rfl, .nil, .nil⟩ (fun i H2 _ ⟨_, _, _, m2, _⟩ => SqL.of (m2.keep _ _ hpr hp1)) (fun i x H2 hxi hP => ?_) (fun H2 hP => ?_)
    · obtain ⟨ws, es, re2, m2, eD, hl, hw, hes⟩ := hP
      refine ⟨rfl, yesT ⟨.ref r, rfl, 2, rfl, re2, by decide, by decide, fun y H3 re3 m3 _ _ => ⟨rfl, _, rfl, ite2 (fun _ => ?_) (fun _ => ?_)⟩⟩⟩
      · obtain ⟨b, a, os, o, hrow, rfl, br, ar, hb, ha, l8⟩ := rowat (m2.trans m3) hxi
        refine ⟨.ref b, rfl, b, a, os, o, rfl, hb, ha, l8, fun qn t H4 s4 nq nt tq et eq => ?_⟩
        have eD3 := m3.keep _ _ Dr eD
        have qD : qn ≠ D := fun z => by rw [z, eD3] at nq; cases nq
        have tD : t ≠ D := fun z => by rw [z, eD3] at nt; cases nt
        exact grow hD Dr hrow (re3.same s4) m2 (m3.trans (Mv.of s4)) eD hl hw hes (.lst (by rw [Hw.at (W := fun b => b = r ∨ b = D) (fun z => z.elim (re3.new nq) qD)]; exact eq) (.cons (.lst (by rw [Hw.at (W := fun b => b = r ∨ b = D) (fun z => z.elim (re3.new nt) tD)]; exact et) (rp_Ov os)) (.cons (by cases o <;> constructor) .nil))) (.inr rfl)
      · obtain ⟨b, a, os, o, hrow, rfl, br, ar, hb, ha, l8⟩ := rowat (m2.trans m3) hxi
        obtain ⟨b1, a1, os1, o1, hrow1, e1, _, _, hb1, ha1, _⟩ := rowat (Mv.refl r H1) hxi
        cases e1
        have bD : b ≠ D := fun z => by rw [z, hD] at hb1; cases hb1
        have a1D : a1 ≠ D := fun z => by rw [z, hD] at ha1; cases ha1
        have ea : a = a1 := by
          have := (m2.trans m3).keep b _ br hb1
          rw [hb] at this
          injection this with this
          injection this with this
          injection this with this
          injection this
        refine ⟨.ref b, rfl, grow hD Dr hrow re3 m2 m3 eD hl hw hes (.tup (by rw [Hw.at (W := fun b => b = r ∨ b = D) (fun z => z.elim br bD)]; exact hb) (.cons (.lst (by rw [Hw.at (W := fun b => b = r ∨ b = D) (fun z => z.elim ar (by rw [ea]; exact a1D))]; exact ha) (rp_Ov os)) (.cons (by cases o <;> constructor) .nil))) (.inl rfl)⟩
    · obtain ⟨ws, es, re2, m2, eD, hl, hw, hes⟩ := hP
      rw [hlx, List.take_length] at hes
      exact finish re2 m2 Dr (.inl eD) (RpAll.sm (Hw.less (W := fun b => b = r) (W' := fun b => b = r ∨ b = D) fun b hb => .inl hb) hw) hes
  refine ⟨.int x, rfl, rfl, _, rfl, ite2 (fun _ => ?_) (fun _ => ?_)⟩
  · refine ⟨.ref p0, rfl, p0, rfl, ⟨xs, SqL.of hp1⟩, fun D hD => ?_⟩
    have Dr := re1.new hD
    refine lc_list (xs := xs) (fun i H2 => ∃ ws es, ReelAt H2 r ∧ Mv r H1 H2 ∧ H2 D = some (.lst ws) ∧ ws.length = i ∧ RpAll (Hw (fun b => b = r ∨ b = D) H2) ws es ∧ RowsL (rs.take i) es) ⟨[], [], re1.same (same_upd hD), Mv.of (same_upd hD), upd_same, rfl, .nil, .nil⟩ (fun i H2 _ ⟨_, _, _, m2, _⟩ => SqL.of (m2.keep _ _ hpr hp1)) (fun i x H2 hxi hP => ?_) (fun H2 hP => ?_)
    · obtain ⟨ws, es, re2, m2, eD, hl, hw, hes⟩ := hP
      obtain ⟨b, a, os, o, hrow, rfl, br, ar, hb, ha, l8⟩ := rowat m2 hxi
      refine ⟨rfl, yesT ⟨.ref b, rfl, b, a, os, o, rfl, hb, ha, l8, fun qn t H4 s4 nq nt tq et eq => ?_⟩⟩
      have qD : qn ≠ D := fun z => by rw [z, eD] at nq; cases nq
      have tD : t ≠ D := fun z => by rw [z, eD] at nt; cases nt
      exact grow hD Dr hrow (re2.same s4) m2 (Mv.of s4) eD hl hw hes (.lst (by rw [Hw.at (W := fun b => b = r ∨ b = D) (fun z => z.elim (re2.new nq) qD)]; exact eq) (.cons (.lst (by rw [Hw.at (W := fun b => b = r ∨ b = D) (fun z => z.elim (re2.new nt) tD)]; exact et) (rp_Ov os)) (.cons (by cases o <;> constructor) .nil))) (.inr rfl)
    · obtain ⟨ws, es, re2, m2, eD, hl, hw, hes⟩ := hP
      rw [hlx, List.take_length] at hes
      refine ⟨D, ws, rfl, .inl ⟨SqL.of eD, fun l nl => ?_⟩⟩
      have sl : Same H2 (upd H2 l (.tup ws)) := same_upd nl
      exact finish (re2.same sl) (m2.trans (Mv.of sl)) (re2.new nl) (.inr upd_same) (RpAll.sm (Same.hw sl) (RpAll.sm (Hw.less (W := fun b => b = r) (W' := fun b => b = r ∨ b = D) fun b hb => .inl hb) hw)) hes
  refine ⟨.int x, rfl, rfl, _, rfl, ite2 (fun _ => ?_) (fun _ => ?_)⟩
  · refine ⟨.ref p0, rfl, p0, xs, rfl, .inl ⟨SqL.of hp1, fun l nl => ?_⟩⟩
    have sl : Same H1 (upd H1 l (.tup xs)) := same_upd nl
    exact finish (re1.same sl) (Mv.of sl) (re1.new nl) (.inr upd_same) (RpAll.sm (Same.hw sl) hx1) (rows_self rs)
  · exact ⟨.ref p0, rfl, finish re1 (Mv.refl r H1) hpr (.inl hp1) hx1 (rows_self rs)⟩
end
end CL
set_option Elab.async false
set_option linter.all false
set_option pp.maxSteps 900
set_option maxRecDepth 100000
set_option maxHeartbeats 4000000
namespace CL
open PySem PySem.Spec PyProof.Rows L2 GE
abbrev sSam : Stmt := topS 37
abbrev nSam : List Str := ["found", "due", "k"]
theorem scSam : FnScope nSam ["found", "due"] (defScope sSam) := ⟨rfl, rfl, rfl, by decide +kernel, rfl, by decide +kernel, by decide +kernel⟩
theorem ixS_blk {X : Cx} {s : Shared} {H : Hp} {scope : Scope} {cenv : Env} {fp : List Addr} : IxR (X.blk s H scope cenv fp) (rIx X.K) := ix_seq
/-- data of no text, no dict, so deep at most -/
def Dep : Nat → PyData → Prop
  | _, .none => True
  | _, .bool _ => True
  | _, .int _ => True
  | n + 1, .list ds => ds.length ≤ 1000 ∧ ∀ x ∈ ds, Dep n x
  | n + 1, .tuple ds => ds.length ≤ 1000 ∧ ∀ x ∈ ds, Dep n x
  | _, _ => False
def spSam (n : Nat) : Sp := fun vs H Q _ => ∃ v u d, vs = [v, u] ∧ Rp H v d ∧ Rp H u d ∧ Dep n d ∧ ∀ H', Same H H' → Q (.bl true) H'
def spSamP : Nat → Sp
  | 0 => spNo
  | n + 1 => spSam n
def isStrB : PyData → Bool
  | .str _ => true
  | _ => false
theorem kit_str {K : PySem.W.Frag} (d : PyData) : PySem.W.kitOne K (.type (tyName d)) (.type "str") = some (isStrB d) := by cases d <;> (refine kit_ty ?_; dsimp only [tyName, isStrB]; decide +kernel)
theorem StSeq.sm {H H' : Hp} {a : Addr} {xs : List V} (h : StSeq H a xs) (s : Same H H') : StSeq H' a xs := h.ex (Ex.of s)
section
variable {P : Program} {w : World} {K : PySem.W.Frag} {mg : Str → Option Value} {base : Heap}
theorem ok_samNo {f : Addr} {fd : FuncData} (F : Fun K "_law_same" "_law_same" sSam f fd) : FnOk P w K mg base CX0 1 f fd ["found", "due"] spNo :=
  F.ok (k := 0) scSam (fun vs H Q E h => False.elim h) (fun cdv A outer s H vs Q E hr h => False.elim h)
theorem ok_sam {k n : Nat} {f : Addr} {fd : FuncData} (F : Fun K "_law_same" "_law_same" sSam f fd) (T : Nm mg) (hrange : mg "range" = none) (hstr : mg "str" = none) (CS : Cal P w K mg base k "_law_same" ["found", "due"] (spSamP n)) : FnOk P w K mg base CX0 (k + 1) f fd ["found", "due"] (spSam n) := by
  refine F.ok scSam (fun vs H Q E ⟨_, _, _, e, _⟩ => by rw [e]; rfl) (fun cdv A outer s H vs Q E hr h => ?_)
  obtain ⟨v, u, d, rfl, hv, hu, hd, q⟩ := h
  have nd := scSam.nd
  refine ⟨_, (pss_cons (ps_if (pt_val (pe_callB call_isiT (by rfl) T.isi (by decide +kernel) (pa_cons (pv 1) (pa_cons (pe_tup (pa_cons (pe_bltn (v := .ty "list") (by rfl) T.list PyProof.Rows.boot_list rfl) (pa_cons (pe_bltn (v := .ty "tuple") (by rfl) T.tuple PyProof.Rows.boot_tuple rfl) pa_nil))) pa_nil)))) (pss_cons (ps_if (PW.pt (pw_or (pt_cmpR op_ne (pe_callB call_isi (by rfl) T.isi (by decide +kernel) (pa_cons (pv 0) (pa_cons (pe_bltn (v := .ty "list") (by rfl) T.list PyProof.Rows.boot_list rfl) pa_nil))) (pe_callB call_isi (by rfl) T.isi (by decide +kernel) (pa_cons (pv 1) (pa_cons (pe_bltn (v := .ty "list") (by rfl) T.list PyProof.Rows.boot_list rfl) pa_nil))) (nomark _)) (pw_or1 (pt_cmpR op_ne (pe_callB call_isi (by rfl) T.isi (by decide +kernel) (pa_cons (pv 0) (pa_cons (pe_bltn (v := .ty "tuple") (by rfl) T.tuple PyProof.Rows.boot_tuple rfl) pa_nil))) (pe_callB call_isi (by rfl) T.isi (by decide +kernel) (pa_cons (pv 1) (pa_cons (pe_bltn (v := .ty "tuple") (by rfl) T.tuple PyProof.Rows.boot_tuple rfl) pa_nil))) (nomark _))))) (pss_one (ps_ret pe_bl)) pss_nil)
      (pss_one (ps_ret (pe_and (pe_cmpR op_eq (pe_callB call_len_seq (by rfl) T.len PySem.boot_len (pa_cons (pv 0) pa_nil)) (pe_callB call_len_seq (by rfl) T.len PySem.boot_len (pa_cons (pv 1) pa_nil)) (nomark _)) (pe_one (pe_callB (cr_all rfl) (by rfl) T.all (by decide +kernel) (pa_cons (pe_lc (own := [("k", 2)]) (g := (gName 2)) (tt := tYes) rfl nd (pi_range1 (by rfl) hrange (pa_cons (pe_callB call_len_seq (by rfl) T.len PySem.boot_len (pa_cons (pv 1) pa_nil)) pa_nil)) (blkOk_by (own := [("k", 2)]) (N := nSam) (sc := (defScope sSam)) (by decide +kernel)) (fun _ _ _ _ _ => (pg_name (i := 2) nd rfl (.inl rfl))) (fun _ _ _ _ _ => pts_nil) (fun _ _ _ _ _ => (pe_cal CS hr (by rfl) (pa_cons (pe_ix ixS_blk (pv 0) (pv 2) (fun _ _ => rfl)) (pa_cons (pe_ix ixS_blk (pv 1) (pv 2) (fun _ _ => rfl)) pa_nil))))) pa_nil))))))) pss_nil)
      (pss_cons (ps_if (PW.pt (pw_or (pt_cmp (pc_isN (pv 1))) (pw_or1 (pt_cmp (pc_isN (pv 0)))))) (pss_one (ps_ret (pe_and (pe_cmp (pc_isN (pv 1)) rfl) (pe_one (pe_cmp (pc_isN (pv 0)) rfl))))) pss_nil)
      (pss_cons (ps_if (PW.pt (pw_or (pt_cmpR op_ne (pe_callB call_isi (by rfl) T.isi (by decide +kernel) (pa_cons (pv 1) (pa_cons (pe_bltn (v := .ty "bool") (by rfl) T.bool PyProof.Rows.boot_bool rfl) pa_nil))) (pe_callB call_isi (by rfl) T.isi (by decide +kernel) (pa_cons (pv 0) (pa_cons (pe_bltn (v := .ty "bool") (by rfl) T.bool PyProof.Rows.boot_bool rfl) pa_nil))) (nomark _)) (pw_or1 (pt_cmpR op_ne (pe_callB call_isi (by rfl) T.isi (by decide +kernel) (pa_cons (pv 1) (pa_cons (pe_bltn (v := .ty "str") (by rfl) hstr PyProof.Rows.boot_str rfl) pa_nil))) (pe_callB call_isi (by rfl) T.isi (by decide +kernel) (pa_cons (pv 0) (pa_cons (pe_bltn (v := .ty "str") (by rfl) hstr PyProof.Rows.boot_str rfl) pa_nil))) (nomark _))))) (pss_one (ps_ret pe_bl)) pss_nil)
      (pss_one (ps_ret (pe_cmpR op_eq (pv 0) (pv 1) (nomark _))))))), ?_⟩
  refine ⟨u, rfl, by show 2 ≤ sizeLine; decide, fun p np => ⟨u, p, [.ty "list", .ty "tuple"], _, _, isRow d, rfl, upd_same, .cons (.ty _) (.cons (.ty _) .nil), (Rp.ex (Ex.new np) _ _ hu).ty, kit_rows d, _, rfl, ?_⟩⟩
  have s0 : Same H (upd H p (.tup [.ty "list", .ty "tuple"])) := same_upd np
  generalize upd H p (.tup [.ty "list", .ty "tuple"]) = H0 at s0 ⊢
  refine ite2 (fun hrow => ?_) (fun hrow => ?_)
  · obtain ⟨m, ds, xs, ys, a, b, rfl, rfl, rfl, hsx, hsy, hx, hy, hlen, hdep⟩ : ∃ m ds xs ys a b, n = m + 1 ∧ v = .ref a ∧ u = .ref b ∧ StSeq H0 a xs ∧ StSeq H0 b ys ∧ RpAll H0 xs ds ∧ RpAll H0 ys ds ∧ ds.length ≤ 1000 ∧ ∀ x ∈ ds, Dep m x := by
      cases hv with
      | lst h1 h2 =>
        cases hu with
        | lst h3 h4 =>
          cases n with
          | zero => exact hd.elim
          | succ m => exact ⟨m, _, _, _, _, _, rfl, rfl, rfl, ⟨.inl (s0 _ _ h1)⟩, ⟨.inl (s0 _ _ h3)⟩, RpAll.sm s0 h2, RpAll.sm s0 h4, hd.1, hd.2⟩
      | tup h1 h2 =>
        cases hu with
        | tup h3 h4 =>
          cases n with
          | zero => exact hd.elim
          | succ m => exact ⟨m, _, _, _, _, _, rfl, rfl, rfl, ⟨.inr (s0 _ _ h1)⟩, ⟨.inr (s0 _ _ h3)⟩, RpAll.sm s0 h2, RpAll.sm s0 h4, hd.1, hd.2⟩
      | _ => cases hrow
    refine ⟨.ref a, rfl, .ref a, .ty "list", _, _, _, rfl, .ty _, (Rp.ex (Ex.of s0) d _ hv).ty, kit_list d, ?_⟩
    refine ⟨.ref b, rfl, .ref b, .ty "list", _, _, _, rfl, .ty _, (Rp.ex (Ex.of s0) d _ hu).ty, kit_list d, rfl, _, rfl, ite2 (fun z => absurd z (by simp)) (fun _ => ?_)⟩
    refine ⟨.ref a, rfl, .ref a, .ty "tuple", _, _, _, rfl, .ty _, (Rp.ex (Ex.of s0) d _ hv).ty, kit_tuple d, ?_⟩
    refine ⟨.ref b, rfl, .ref b, .ty "tuple", _, _, _, rfl, .ty _, (Rp.ex (Ex.of s0) d _ hu).ty, kit_tuple d, rfl, _, rfl, ite2 (fun z => absurd z (by simp)) (fun _ => ?_)⟩
    have sz : 5000 ≤ sizeLine := by decide
    have lx := hx.length
    have ly := hy.length
    refine ⟨.ref a, rfl, a, xs, rfl, hsx.sq, .ref b, rfl, b, ys, rfl, hsy.sq, rfl, ?_⟩
    refine ⟨_, rfl, ite2 (fun _ => ?_) (fun z => absurd (by rw [lx, ly]; simp) z)⟩
    refine ⟨.ref b, rfl, b, ys, rfl, hsy.sq, (ys.length : Int), rfl, by omega, by omega, fun D hD => ?_⟩
    refine lc_range (lo := 0) (n := ((ys.length : Int)).toNat) (fun i H2 => Same H0 H2 ∧ H2 D = some (.lst ((List.replicate i true).map V.bl))) ⟨same_upd hD, upd_same⟩ (fun i H2 hi hP => ?_) (fun H2 hP => ?_)
    · obtain ⟨s2, eD⟩ := hP
      have hiy : i < ys.length := hi
      have e0 : (0 + (i : Int)) = (i : Int) := Int.zero_add _
      obtain ⟨e, he, hRy⟩ := hy.get (List.getElem?_eq_getElem hiy)
      obtain ⟨e', he', hRx⟩ := hx.get (List.getElem?_eq_getElem (show i < xs.length by omega))
      rw [he] at he'
      cases he'
      refine ⟨rfl, yesT ?_⟩
      refine ⟨.ref a, rfl, .int (0 + (i : Int)), rfl, ?_⟩
      rw [e0]
      refine rix_of (i := i) (hsx.sm s2) (List.getElem?_eq_getElem (show i < xs.length by omega)) ⟨.ref b, rfl, .int (i : Int), by rw [← e0]; rfl, rix_of (i := i) (hsy.sm s2) (List.getElem?_eq_getElem hiy) ⟨_, _, e, rfl, Rp.sm s2 hRx, Rp.sm s2 hRy, hdep e (List.mem_of_getElem? he), fun H3 s3 => ?_⟩⟩
      refine ⟨_, s3 _ _ eD, by rw [List.length_map, List.length_replicate]; exact small1000 (by omega), same_updN (s2.trans s3) hD, ?_⟩
      rw [upd_same, List.replicate_succ', List.map_append]
      rfl
    · obtain ⟨s2, eD⟩ := hP
      refine ⟨D, _, rfl, SqL.of eD, ?_⟩
      have z : (List.replicate ((ys.length : Int)).toNat true).all id = true := by
        rw [List.all_eq_true]
        intro x hx
        rw [(List.mem_replicate.mp hx).2]
        rfl
      rw [z]
      exact q _ (s0.trans s2)
  · have sc : v = u ∧ (v = .non ∨ v ≠ .non ∧ scal v v = true) ∧ (d = .none ↔ v = .non) := by
      cases hv with
      | non => cases hu; exact ⟨rfl, .inl rfl, by simp⟩
      | bl => cases hu; exact ⟨rfl, .inr ⟨nofun, rfl⟩, by simp⟩
      | int => cases hu; exact ⟨rfl, .inr ⟨nofun, rfl⟩, by simp⟩
      | str => cases n <;> exact hd.elim
      | lst => exact absurd rfl hrow
      | tup => exact absurd rfl hrow
      | dct => cases n <;> exact hd.elim
    obtain ⟨rfl, hs, hdn⟩ := sc
    rcases hs with rfl | ⟨nv, hs⟩
    · refine ⟨.non, rfl, _, rfl, ite2 (fun _ => ?_) (fun z => absurd rfl z)⟩
      exact ⟨.non, rfl, _, rfl, iteT ⟨.non, rfl, q _ s0⟩⟩
    · refine ⟨v, rfl, decide (v = .non), rfl, ite2 (fun z => absurd (of_decide_eq_true z) nv) (fun _ => ⟨v, rfl, decide (v = .non), rfl, ite2 (fun z => absurd (of_decide_eq_true z) nv) (fun _ => ?_)⟩)⟩
      refine ⟨v, rfl, v, .ty "bool", _, _, _, rfl, .ty _, (Rp.ex (Ex.of s0) d _ hu).ty, kit_bool d, ?_⟩
      refine ⟨v, rfl, v, .ty "bool", _, _, _, rfl, .ty _, (Rp.ex (Ex.of s0) d _ hu).ty, kit_bool d, rfl, _, rfl, ite2 (fun z => absurd z (by simp)) (fun _ => ?_)⟩
      refine ⟨v, rfl, v, .ty "str", _, _, _, rfl, .ty _, (Rp.ex (Ex.of s0) d _ hu).ty, kit_str d, ?_⟩
      refine ⟨v, rfl, v, .ty "str", _, _, _, rfl, .ty _, (Rp.ex (Ex.of s0) d _ hu).ty, kit_str d, rfl, _, rfl, ite2 (fun z => absurd z (by simp)) (fun _ => ?_)⟩
      refine ⟨v, rfl, v, rfl, hs, ?_⟩
      have z : decide (v = v) = true := decide_eq_true rfl
      rw [z]
      exact q _ s0
end
end CL
set_option Elab.async false
set_option linter.all false
set_option pp.maxSteps 900
set_option maxRecDepth 100000
set_option maxHeartbeats 4000000
namespace CL
open PySem PySem.Spec PyProof.Rows L2 GE
/-! ### what is told of a plan that is handed in as lists or tuples -/
structure Sh (r P1 P2 : Addr) (v : V) (d : PyData) (H : Hp) : Prop where
  re : ReelAt H r
  tb : Tb P1 P2 H
  rp : Rp (Hw (fun b => b = r) H) v d
theorem Sh.mv {r P1 P2 : Addr} {v : V} {d : PyData} {H H' : Hp} (s : Sh r P1 P2 v d H) (re : ReelAt H' r) (m : Mv r H H') : Sh r P1 P2 v d H' := ⟨re, s.tb.mv s.re m, Rp.sm (m.hw (W := fun b => b = r) rfl) s.rp⟩
theorem Sh.sm {r P1 P2 : Addr} {v : V} {d : PyData} {H H' : Hp} (s : Sh r P1 P2 v d H) (m : Same H H') : Sh r P1 P2 v d H' := s.mv (s.re.same m) (Mv.of m)
theorem Sh.ex {r P1 P2 : Addr} {v : V} {d : PyData} {H H' : Hp} (s : Sh r P1 P2 v d H) (e : Ex H H') (t : Tb P1 P2 H') : Sh r P1 P2 v d H' := ⟨s.re.kx e, t, Rp.ex e.hw _ _ s.rp⟩
theorem Sh.rpH {r P1 P2 : Addr} {v : V} {d : PyData} {H : Hp} (s : Sh r P1 P2 v d H) : Rp H v d := Rp.sm (Hw.sub _ _) s.rp
section
variable {r P1 P2 C C2 C3 C4 : Addr} {v : V} {rs : List RowT} {d : PyData} {H : Hp} {Q : VK} {E : XK} {σ : L2.St} {i j l3 : Nat}
theorem partsA (hF : Fine rs) (hA : AlikeP rs d) : ∃ ps pc, piecesOf d = ps ++ [pc] ∧ psR rs = ps ++ [pc] ∧ pc.2.1 = dueO rs := by
  obtain ⟨ps, pc, e, e2, e3⟩ := parts hF
  exact ⟨ps, pc, (alike_plan hA hF).2.trans e2, e2, e3⟩
theorem h_last (hF : Fine rs) (hA : AlikeP rs d) (s : Sh r P1 P2 v d H) {n : Int} (ha : Asks rs n) (q : ∀ l H', LasR rs n l → Ex H H' → Sh r P1 P2 v d H' → Q (optV l) H') : spLastOf P1 P2 C C2 [v, .int n] H Q E := by
  obtain ⟨ps, pc, e, e2, e3⟩ := partsA hF hA
  refine ⟨v, .int n, _, .int n, rfl, s.rpH, .int n, fun m em => by cases em; exact ha.hi, s.tb, fun z => absurd (alike_plan hA hF).1 (by rw [z]; simp), fun _ => ⟨ps, pc, e, fun z => absurd ha.ok (by rw [← e3, z]; simp), fun _ m l H' em hl ex tb => ?_⟩⟩
  cases em
  refine q l H' ?_ ex (s.ex ex tb)
  unfold LasR bR
  rw [e2, ← e3]
  exact hl
theorem h_went (hF : Fine rs) (hA : AlikeP rs d) (s : Sh r P1 P2 v d H) {n m : Int} (ha : Asks rs n) (hm : momentOk (dueO rs) (.int m) = true) (hlt : n < m) (q : ∀ l H', LasR rs n l → Ex H H' → Sh r P1 P2 v d H' → Q (.int (pastV l n m)) H') : spWent P1 P2 C C2 C3 [v, .int n, .int m] H Q E := by
  obtain ⟨ps, pc, e, e2, e3⟩ := partsA hF hA
  refine ⟨v, .int n, .int m, _, .int n, .int m, rfl, s.rpH, .int n, .int m, fun k em => by cases em; exact ha.hi, s.tb, fun z => absurd (alike_plan hA hF).1 (by rw [z]; simp), fun _ => ⟨ps, pc, e, fun z => absurd ha.ok (by rw [← e3, z]; simp), fun _ => ⟨fun z => absurd hm (by rw [← e3, z]; simp), fun _ n' m' en em => ?_⟩⟩⟩
  cases en
  cases em
  refine ⟨fun z => absurd z (by omega), fun _ l H' hl ex tb => q l H' ?_ ex (s.ex ex tb)⟩
  unfold LasR bR
  rw [e2, ← e3]
  exact hl
theorem h_who (hF : Fine rs) (hA : AlikeP rs d) (s : Sh r P1 P2 v d H) {n m : Int} (ha : Asks rs n) (hb : Asks rs m) (hne : n ≠ m) (q : ∀ l H', LasR rs (if m < n then m else n) l → Ex H H' → Sh r P1 P2 v d H' → Q (.int (whoV l (if m < n then m else n) (if m > n then m else n))) H') : spWho P1 P2 C C2 C4 [v, .int n, .int m] H Q E := by
  obtain ⟨ps, pc, e, e2, e3⟩ := partsA hF hA
  refine ⟨v, .int n, .int m, _, .int n, .int m, rfl, s.rpH, .int n, .int m, fun k em => by cases em; exact ha.hi, fun k em => by cases em; exact hb.hi, s.tb, fun z => absurd (alike_plan hA hF).1 (by rw [z]; simp), fun _ => ⟨ps, pc, e, fun z => absurd ha.ok (by rw [← e3, z]; simp), fun _ => ⟨fun z => absurd hb.ok (by rw [← e3, z]; simp), fun _ n' m' en em => ?_⟩⟩⟩
  cases en
  cases em
  refine ⟨fun z => absurd z hne, fun _ l H' hl ex tb => q l H' ?_ ex (s.ex ex tb)⟩
  unfold LasR bR
  rw [e2, ← e3]
  exact hl
theorem h_uns (hF : Fine rs) (hA : AlikeP rs d) (s : Sh r P1 P2 v d H) {m : Int} (ha : momentOk (dueO rs) (.int m) = true) (q : ∀ n H', Uns (psR rs) m n → Ex H H' → Sh r P1 P2 v d H' → Q (.int n) H') : spUnsafe P1 P2 C C3 [v, .int m] H Q E := by
  obtain ⟨ps, pc, e, e2, e3⟩ := partsA hF hA
  refine ⟨v, .int m, _, .int m, rfl, s.rpH, .int m, s.tb, fun z => absurd (alike_plan hA hF).1 (by rw [z]; simp), fun _ => ⟨ps, pc, e, fun z => absurd ha (by rw [← e3, z]; simp), fun _ m' n H' em hn ex tb => ?_⟩⟩
  cases em
  exact q n H' (by rw [e2]; exact hn) ex (s.ex ex tb)
theorem h_ref (hF : Fine rs) (hA : AlikeP rs d) (s : Sh r P1 P2 v d H) {m : Int} (ha : momentOk (dueO rs) (.int m) = true) (q : ∀ o H', Ref (psR rs) m o → Ex H H' → Sh r P1 P2 v d H' → Q (optV o) H') : spRefuser P1 P2 C C3 [v, .int m] H Q E := by
  obtain ⟨ps, pc, e, e2, e3⟩ := partsA hF hA
  refine ⟨v, .int m, _, .int m, rfl, s.rpH, .int m, s.tb, fun z => absurd (alike_plan hA hF).1 (by rw [z]; simp), fun _ => ⟨ps, pc, e, fun z => absurd ha (by rw [← e3, z]; simp), fun _ m' o H' em hn ex tb => ?_⟩⟩
  cases em
  exact q o H' (by rw [e2]; exact hn) ex (s.ex ex tb)
end
theorem rowsL_b {rs : List RowT} {es : List PyData} (f : Fine rs) (h : RowsL rs es) : ∀ e ∈ es, B 8 3500 e := fun e he => by
  obtain ⟨i, hi⟩ := List.getElem?_of_mem he
  obtain ⟨x, hx, hr⟩ := h.get hi
  have g := f.row x (List.mem_of_getElem? hx)
  have hb : B 6 1700 (.list (x.1.map pdO)) := (B.list (k := 5) (u := 200) (n := 8) (fun y hy => by
    obtain ⟨o, ho, rfl⟩ := List.mem_map.mp hy
    exact pdO_b (g.pat o ho)) (by rw [List.length_map]; exact g.hi)).mono (by decide) (by decide)
  have hsum : sumW rs ≤ 1000000000000000000000000000000 := f.sum
  have hm : B 6 1700 x.2 := by
    have h1 := g.many
    have h2 := worth_le (fun y hy => (f.row y hy).many) x (List.mem_of_getElem? hx)
    cases e : x.2 with
    | int m =>
      rw [e] at h1 h2
      have h3 : 0 ≤ m := of_decide_eq_true h1
      have h4 : m ≤ sumW rs := h2
      exact (b_int (k := 6) (by omega)).mono (Nat.le_refl _) (by decide)
    | none => exact (b_none (k := 6)).mono (Nat.le_refl _) (by decide)
    | _ => rw [e] at h1; cases h1
  rcases hr with rfl | rfl
  · exact (B.tuple (k := 6) (u := 1700) (n := 2) (ds := [.list (x.1.map pdO), x.2]) (fun y hy => by
      rcases List.mem_cons.mp hy with rfl | hy
      · exact hb
      · rcases List.mem_cons.mp hy with rfl | hy
        · exact hm
        · cases hy) (Nat.le_refl 2)).mono (by decide) (by decide)
  · exact (B.list (k := 6) (u := 1700) (n := 2) (ds := [.list (x.1.map pdO), x.2]) (fun y hy => by
      rcases List.mem_cons.mp hy with rfl | hy
      · exact hb
      · rcases List.mem_cons.mp hy with rfl | hy
        · exact hm
        · cases hy) (Nat.le_refl 2)).mono (by decide) (by decide)
/-- as data: what is handed in -/
theorem handed_at {H : Hp} {v : V} {rs : List RowT} (f : Fine rs) (h : Handed H v rs) : ∃ d p, v = .ref p ∧ Rp H v d ∧ AlikeP rs d ∧ B 100 10000000 d := by
  obtain ⟨p, xs, es, rfl, hs, hx, hr⟩ := h
  have hl : es.length ≤ 8 := by rw [hr.len]; exact f.hi
  have hb := rowsL_b f hr
  rcases hs.or with hq | hq
  · exact ⟨.list es, p, rfl, .lst hq hx, ⟨es, rfl, hr.alike⟩, (B.list hb hl).mono (by decide) (by decide)⟩
  · exact ⟨.tuple es, p, rfl, .tup hq hx, ⟨es, rfl, hr.alike⟩, (B.tuple hb hl).mono (by decide) (by decide)⟩
end CL
set_option Elab.async false
set_option linter.all false
set_option pp.maxSteps 900
set_option maxRecDepth 100000
set_option maxHeartbeats 4000000
namespace CL
open PySem PySem.Spec PyProof.Rows L2 GE
section
variable {ps : List PieceT} {b : Option Int}
theorem rch_gap {s x : Int} (h : Rch ps b s x) : ∀ {y w : Int}, Rch ps b s y → x < y → WP ps b x w → x + max w 1 ≤ y := by
  induction h with
  | here =>
    intro y w h' hxy hw
    cases h' with
    | here => omega
    | on h1 h2 => have e := wp_uniq h1 hw; subst e; exact rch_le h2
  | on h1 h2 ih =>
    intro y w h' hxy hw
    cases h' with
    | here => have := rch_le h2; omega
    | on h3 h4 => have e := wp_uniq h1 h3; subst e; exact ih h4 hxy hw
theorem ref_uniq {m : Int} {o o' : Option Int} (h : Ref ps m o) (h' : Ref ps m o') : o = o' := by
  rcases h with ⟨e, hz⟩ | ⟨who, w, e, h1, h2, h3, h4, h5⟩ <;> rcases h' with ⟨e', hz'⟩ | ⟨who', w', e', k1, k2, k3, k4, k5⟩
  · rw [e, e']
  · have := wp_uniq k2 (spr_wp (hz who' (rch_le k1) (by omega)))
    omega
  · have := wp_uniq h2 (spr_wp (hz' who (rch_le h1) (by omega)))
    omega
  · rw [e, e']
    rcases Int.lt_or_le who who' with c | c
    · have := rch_gap h1 k1 c h2
      have := wp_uniq k2 (spr_wp (h5 who' (by omega) (by omega)))
      omega
    · rcases Int.lt_or_eq_of_le c with c | c
      · have := rch_gap k1 h1 c k2
        have := wp_uniq h2 (spr_wp (k5 who (by omega) (by omega)))
        omega
      · rw [c]
end
theorem Firsts.take {rs : List RowT} {os : List (Option Int)} (h : Firsts rs os) (n : Nat) : Firsts rs (os.take n) := by
  have hl : (os.take n).length ≤ os.length := by rw [List.length_take]; omega
  refine ⟨h.f, fun x o ho => h.pt x o ?_, fun s e => ?_, ?_⟩
  · rw [List.getElem?_take] at ho
    split at ho
    · exact ho
    · cases ho
  · have := h.du s e
    omega
  · have := h.hi
    omega
/-- at this spot stands one who has no patience left -/
def isZ (qs : List Int) (left : List (Option Int)) (p : Nat) : Prop := ∃ k : Nat, qs[p]? = some ((k : Nat) : Int) ∧ left[k]? = some (some 0)
/-- the spots so far -/
structure Spots (qs : List Int) (left : List (Option Int)) (i : Nat) (ps : List Int) : Prop where
  len : ps.length ≤ i
  last : (ps = [] ∧ ∀ p, p < i → ¬ isZ qs left p) ∨ ∃ ps' s, ps = ps' ++ [((s : Nat) : Int)] ∧ s < i ∧ isZ qs left s ∧ ∀ p, s < p → p < i → ¬ isZ qs left p
theorem Spots.yes {qs : List Int} {left : List (Option Int)} {i : Nat} {ps : List Int} (h : Spots qs left i ps) (hz : isZ qs left i) : Spots qs left (i + 1) (ps ++ [(i : Int)]) :=
  ⟨by rw [List.length_append, List.length_singleton]; have := h.len; omega, .inr ⟨ps, i, rfl, Nat.lt_succ_self i, hz, fun p h1 h2 => absurd h1 (by omega)⟩⟩
theorem Spots.no {qs : List Int} {left : List (Option Int)} {i : Nat} {ps : List Int} (h : Spots qs left i ps) (hz : ¬ isZ qs left i) : Spots qs left (i + 1) ps := by
  refine ⟨by have := h.len; omega, ?_⟩
  rcases h.last with ⟨e, h1⟩ | ⟨ps', s, e, hs, h1, h2⟩
  · exact .inl ⟨e, fun p hp => by
      by_cases c : p = i
      · rw [c]; exact hz
      · exact h1 p (by omega)⟩
  · exact .inr ⟨ps', s, e, by omega, h1, fun p hp1 hp2 => by
      by_cases c : p = i
      · rw [c]; exact hz
      · exact h2 p hp1 (by omega)⟩
/-- what the spots tell -/
theorem spots_due {rs : List RowT} {os left : List (Option Int)} {qs past ps : List Int} {n : Int} {o : Option Int} (hf : Firsts rs os) (hs : Sim rs os os.length qs past left) (hn : Uns (psR rs) (os.length : Int) n) (hr : Ref (psR rs) (os.length : Int) o) (h : Spots qs left os.length ps) :
    (ps = [] ∧ n = (os.length : Int) ∧ o = none) ∨ ∃ ps' s w, ps = ps' ++ [((s : Nat) : Int)] ∧ s < os.length ∧ n = (os.length : Int) - 1 - s ∧ qs[s]? = some w ∧ o = some w := by
  have hle : 0 ≤ n ∧ n ≤ (os.length : Int) := ⟨cnt_nn hn, by have := cnt_up (psR_ok hf.f) hn; omega⟩
  have hlq := hs.lq
  -- no spot at or behind m - n
  have lets : ∀ p : Nat, (os.length : Int) - n ≤ p → ¬ isZ qs left p := fun p hp ⟨k, h1, h2⟩ => by
    obtain ⟨k', o', e1, e2, e3⟩ := hs.lets hf (Nat.le_refl _) hn h1 hp
    have : k = k' := by omega
    subst this
    rw [h2] at e2
    exact e3 (Option.some.inj e2).symm
  have keeps : n < (os.length : Int) → ∃ p : Nat, (p : Int) = (os.length : Int) - n - 1 ∧ isZ qs left p ∧ ∃ w, qs[p]? = some w ∧ o = some w := fun hlt => by
    obtain ⟨p, hp⟩ : ∃ p : Nat, (p : Int) = (os.length : Int) - n - 1 := ⟨((os.length : Int) - n - 1).toNat, by omega⟩
    have hpl : p < qs.length := by omega
    obtain ⟨⟨k, e1, e2⟩, hr2⟩ := hs.keeps hf (Nat.le_refl _) hn (List.getElem?_eq_getElem hpl) hp
    exact ⟨p, hp, ⟨k, by rw [List.getElem?_eq_getElem hpl, e1], e2⟩, _, List.getElem?_eq_getElem hpl, ref_uniq hr hr2⟩
  rcases h.last with ⟨e, h1⟩ | ⟨ps', s, e, hsl, h1, h2⟩
  · rcases Int.lt_or_eq_of_le hle.2 with c | c
    · obtain ⟨p, hp, hz, _⟩ := keeps c
      exact absurd hz (h1 p (by omega))
    · exact .inl ⟨e, c, ref_uniq hr (Sim.none (qs := qs) (past := past) (left := left) hf (Nat.le_refl _) hn c.symm)⟩
  · have hlt : n < (os.length : Int) := by
      rcases Int.lt_or_eq_of_le hle.2 with c | c
      · exact c
      · exact absurd h1 (lets s (by omega))
    obtain ⟨p, hp, hz, w, hw, ho⟩ := keeps hlt
    have : p = s := by
      rcases Nat.lt_trichotomy p s with c | c | c
      · exact absurd h1 (lets s (by omega))
      · exact c
      · exact absurd hz (h2 p c (by omega))
    subst this
    exact .inr ⟨ps', p, w, e, hsl, by omega, hw, ho⟩
end CL
set_option Elab.async false
set_option linter.all false
set_option pp.maxSteps 900
set_option maxRecDepth 100000
set_option maxHeartbeats 4000000
namespace CL
open PySem PySem.Spec PyProof.Rows L2 GE
/-- where one stands in the queue -/
theorem idx_of {rs : List RowT} {om left : List (Option Int)} {qs past : List Int} (hf : Firsts rs om) (hs : Sim rs om om.length qs past left) {x : Int} (h0 : 0 ≤ x) (h1 : x < om.length) : ∃ p : Nat, qs[p]? = some x ∧ At (psR rs) ((om.length : Int) - 1) 0 x p ∧ ∀ (m : Nat) z, m < p → qs[m]? = some z → z ≠ x := by
  have hm := hf.mo (m := om.length) (n := om.length) (by omega) (Nat.le_refl _) (Nat.le_refl _)
  have hp := psR_ok hf.f
  obtain ⟨p, hp1⟩ := at_total hp _ (bd := (om.length : Int) - 1) (s := 0) (x := x) rfl h0 (hm.pts (by omega))
  obtain ⟨i1, i2⟩ := at_in hp hp1 (by omega)
  obtain ⟨pn, rfl⟩ : ∃ pn : Nat, p = (pn : Int) := ⟨p.toNat, by omega⟩
  have hl : pn < qs.length := by rw [hs.lq]; omega
  obtain ⟨y0, y1, ha⟩ := hs.at_ pn _ (List.getElem?_eq_getElem hl)
  have e : x = qs[pn] := at_one hp hp1 (by omega) (by omega) rfl ha
  refine ⟨pn, by rw [List.getElem?_eq_getElem hl, ← e], hp1, fun m z hlt hz ez => ?_⟩
  obtain ⟨_, _, hb⟩ := hs.at_ m z hz
  rw [ez] at hb
  have := at_uniq hp1 hb
  omega
theorem whoV_or (l : Option Int) (a b : Int) : whoV l a b = a ∨ whoV l a b = b := by
  cases l with
  | none => exact .inr rfl
  | some k =>
    show (if k ≥ b then b else a) = a ∨ (if k ≥ b then b else a) = b
    split
    · exact .inr rfl
    · exact .inl rfl
theorem who_first {rs : List RowT} {mo x y p q : Int} {l : Option Int} (h : Mo rs mo mo) (hx1 : x < mo) (hy1 : y < mo) (hp : At (psR rs) (mo - 1) 0 x p) (hq : At (psR rs) (mo - 1) 0 y q) (hne : x ≠ y) (hl : LasR rs (if y < x then y else x) l) : whoV l (if y < x then y else x) (if y > x then y else x) = if p < q then x else y := by
  have e := who_place h hx1 hy1 hp hq hne hl
  have o : whoV l (if y < x then y else x) (if y > x then y else x) = x ∨ whoV l (if y < x then y else x) (if y > x then y else x) = y := by
    have o1 := whoV_or l (if y < x then y else x) (if y > x then y else x)
    generalize whoV l (if y < x then y else x) (if y > x then y else x) = z at o1
    rcases Int.lt_or_gt_of_ne hne with c | c
    · rw [if_neg (by omega), if_pos (show y > x from c)] at o1
      exact o1
    · rw [if_pos (show y < x from c), if_neg (by omega)] at o1
      exact o1.symm
  generalize whoV l (if y < x then y else x) (if y > x then y else x) = z at e o
  by_cases c : p < q
  · rw [if_pos c]
    rw [decide_eq_true c] at e
    exact of_decide_eq_true e
  · rw [if_neg c]
    rw [decide_eq_false c] at e
    rcases o with o | o
    · exact absurd o (of_decide_eq_false e)
    · exact o
/-- another one -/
theorem mod_ne {x y m : Int} (x0 : 0 ≤ x) (x1 : x < m) (y0 : 0 ≤ y) (y1 : y < m - 1) : 0 ≤ (x + 1 + y) % m ∧ (x + 1 + y) % m < m ∧ (x + 1 + y) % m ≠ x := by
  refine ⟨Int.emod_nonneg _ (by omega), Int.emod_lt_of_pos _ (by omega), fun e => ?_⟩
  have h := Int.emod_add_mul_ediv (x + 1 + y) m
  rw [e] at h
  rcases Int.lt_or_le 0 ((x + 1 + y) / m) with c | c
  · have := Int.mul_le_mul_of_nonneg_left (show (1 : Int) ≤ (x + 1 + y) / m by omega) (show 0 ≤ m by omega)
    omega
  · have := Int.mul_le_mul_of_nonneg_left c (show 0 ≤ m by omega)
    omega
theorem eqV_int {a b : Int} : eqV (.int a) (.int b) = (a == b) := rfl
theorem flat_ints (xs : List Int) : (xs.map V.int).all flatV = true := by
  rw [List.all_eq_true]
  intro v hv
  obtain ⟨i, _, rfl⟩ := List.mem_map.mp hv
  rfl
end CL
set_option Elab.async false
set_option linter.all false
set_option pp.maxSteps 900
set_option maxRecDepth 100000
set_option maxHeartbeats 4000000
namespace CL
open PySem PySem.Spec PyProof.Rows L2 GE
def spE (sp : Addr → Sp) : Sp := fun vs H Q E => ∃ r, sp r vs H Q E
theorem HeldAt.ex {H H' : Hp} {p : Addr} {rs : List RowT} (s : Ex H H') (h : HeldAt H p rs) : HeldAt H' p rs := by
  cases h with
  | mk q t os o vs rest h1 h2 h3 h4 h5 h7 h6 => exact .mk H' p q t os o vs rest (s.lst h1) (s.lst h2) (s.lst h3) h4 h5 h7 (RpAll.ex s.hw _ _ h6)
theorem HeldAt.set {H : Hp} {p q t : Addr} {os' : List (Option Int)} {o : Option Int} {vs : List V} {rest : List RowT} (h1 : H p = some (.lst (.ref q :: vs))) (h2 : H q = some (.lst [.ref t, optV o])) (h4 : t ≠ p) (h5 : t ≠ q) (h7 : q ≠ p)
    (h6 : RpAll (Hw (fun b => b = t ∨ b = p ∨ b = q) H) vs (rest.map fun x => PyData.list [.list (x.1.map pdO), x.2])) : HeldAt (upd H t (.lst (os'.map optV))) p ((os', pdO o) :: rest) :=
  .mk _ p q t os' o vs rest (by rw [upd_ne h4.symm]; exact h1) (by rw [upd_ne h5.symm]; exact h2) upd_same h4 h5 h7 (by rw [hw_upd (.inl rfl)]; exact h6)
theorem fine_head {os os' : List (Option Int)} {m : PyData} {rest : List RowT} (f : Fine ((os, m) :: rest)) (l1 : 1 ≤ os'.length) (l8 : os'.length ≤ 8) (hg : ∀ o ∈ os', goodO o) : Fine ((os', m) :: rest) := by
  refine ⟨f.lo, f.hi, fun x hx => ?_, fun x hx => ?_, f.sum⟩
  · rcases List.mem_cons.mp hx with rfl | hx
    · exact ⟨l1, l8, hg, (f.row _ List.mem_cons_self).many⟩
    · exact f.row x (List.mem_cons_of_mem _ hx)
  · have h := f.last
    rw [List.length_cons, Nat.add_sub_cancel] at h hx
    cases rest with
    | nil => cases hx
    | cons y ys =>
      rw [List.length_cons, List.take_succ_cons] at h hx
      rcases List.mem_cons.mp hx with rfl | hx
      · exact h (os, m) List.mem_cons_self
      · exact h x (List.mem_cons_of_mem _ hx)
section
variable {r P1 P2 C C2 C3 C4 : Addr} {v : V} {rs : List RowT} {d : PyData} {H : Hp} {Q : VK} {E : XK} {σ : L2.St} {i j l3 : Nat}
theorem g_uns (hi : σ[i]? = some (some v)) {m : Int} (hj : σ[j]? = some (some (.int m))) (hF : Fine rs) (hA : AlikeP rs d) (s : Sh r P1 P2 v d H) (ha : momentOk (dueO rs) (.int m) = true) (q : ∀ n H', Uns (psR rs) m n → Ex H H' → Sh r P1 P2 v d H' → Q (.int n) H') : tCall (spUnsafe P1 P2 C C3) [] E (tCons (tVar i) (tCons (tVar j) tNil)) σ H Q := ⟨v, hi, .int m, hj, (h_uns hF hA s ha q : spUnsafe P1 P2 C C3 [v, .int m] H Q E)⟩
theorem g_ref (hi : σ[i]? = some (some v)) {m : Int} (hj : σ[j]? = some (some (.int m))) (hF : Fine rs) (hA : AlikeP rs d) (s : Sh r P1 P2 v d H) (ha : momentOk (dueO rs) (.int m) = true) (q : ∀ o H', Ref (psR rs) m o → Ex H H' → Sh r P1 P2 v d H' → Q (optV o) H') : tCall (spRefuser P1 P2 C C3) [] E (tCons (tVar i) (tCons (tVar j) tNil)) σ H Q := ⟨v, hi, .int m, hj, (h_ref hF hA s ha q : spRefuser P1 P2 C C3 [v, .int m] H Q E)⟩
theorem g_who (hi : σ[i]? = some (some v)) {n m : Int} (hj : σ[j]? = some (some (.int n))) (hl : σ[l3]? = some (some (.int m))) (hF : Fine rs) (hA : AlikeP rs d) (s : Sh r P1 P2 v d H) (ha : Asks rs n) (hb : Asks rs m) (hne : n ≠ m) (q : ∀ l H', LasR rs (if m < n then m else n) l → Ex H H' → Sh r P1 P2 v d H' → Q (.int (whoV l (if m < n then m else n) (if m > n then m else n))) H') : tCall (spWho P1 P2 C C2 C4) [] E (tCons (tVar i) (tCons (tVar j) (tCons (tVar l3) tNil))) σ H Q := ⟨v, hi, .int n, hj, .int m, hl, (h_who hF hA s ha hb hne q : spWho P1 P2 C C2 C4 [v, .int n, .int m] H Q E)⟩
/-- with the length of a list as the moment -/
theorem g_unsL {K : PySem.W.Frag} {D : Addr} {xs : List V} {R : List V → Hp → VK → Prop} (hi : σ[i]? = some (some v)) (hj : σ[j]? = some (some (.ref D))) (eD : H D = some (.lst xs)) {m : Nat} (hm : xs.length = m) (hF : Fine rs) (hA : AlikeP rs d) (s : Sh r P1 P2 v d H) (ha : momentOk (dueO rs) (.int (m : Int)) = true) (q : ∀ n H', Uns (psR rs) (m : Int) n → Ex H H' → Sh r P1 P2 v d H' → Q (.int n) H') : tCall (spUnsafe P1 P2 C C3) [] E (tCons (tVar i) (tCons (tCB (fun xs H Q => ∃ p ys, xs = [V.ref p] ∧ (SqL K H p ys ∨ SqT K H p ys) ∧ Q (.int ys.length) H) (tCons (tVar j) tNil)) tNil)) σ H Q := ⟨v, hi, .ref D, hj, D, xs, rfl, .inl (SqL.of eD), (by rw [hm]; exact (h_uns hF hA s ha q : spUnsafe P1 P2 C C3 [v, .int (m : Int)] H Q E))⟩
theorem g_refL {K : PySem.W.Frag} {D : Addr} {xs : List V} {R : List V → Hp → VK → Prop} (hi : σ[i]? = some (some v)) (hj : σ[j]? = some (some (.ref D))) (eD : H D = some (.lst xs)) {m : Nat} (hm : xs.length = m) (hF : Fine rs) (hA : AlikeP rs d) (s : Sh r P1 P2 v d H) (ha : momentOk (dueO rs) (.int (m : Int)) = true) (q : ∀ o H', Ref (psR rs) (m : Int) o → Ex H H' → Sh r P1 P2 v d H' → Q (optV o) H') : tCall (spRefuser P1 P2 C C3) [] E (tCons (tVar i) (tCons (tCB (fun xs H Q => ∃ p ys, xs = [V.ref p] ∧ (SqL K H p ys ∨ SqT K H p ys) ∧ Q (.int ys.length) H) (tCons (tVar j) tNil)) tNil)) σ H Q := ⟨v, hi, .ref D, hj, D, xs, rfl, .inl (SqL.of eD), (by rw [hm]; exact (h_ref hF hA s ha q : spRefuser P1 P2 C C3 [v, .int (m : Int)] H Q E))⟩
end
theorem mom_ok {rs : List RowT} {os : List (Option Int)} (h : Firsts rs os) {m : Nat} (hm : m ≤ os.length) : momentOk (dueO rs) (.int (m : Int)) = true := by
  have h1 := h.hi
  have G0 : GREAT = 1000000000000000000000000000000 := rfl
  rw [momentOk_int, decide_eq_true (show (0 : Int) ≤ (m : Int) by omega), decide_eq_true (show (m : Int) ≤ GREAT by omega)]
  cases z : dueO rs with
  | none => rfl
  | some s =>
    have := h.du s z
    exact decide_eq_true (show (m : Int) ≤ s by omega)
theorem dep_two (n : Int) (o : Option Int) : Dep 2 (.list [.int n, pdO o]) := ⟨by rw [List.length_cons, List.length_singleton]; decide, fun x hx => by
  rcases List.mem_cons.mp hx with rfl | hx
  · trivial
  · rw [List.mem_singleton.mp hx]
    cases o <;> trivial⟩
/-- what is kept while the plan is asked -/
structure L8 (r P1 P2 pl pe : Addr) (vh : V) (rs : List RowT) (os : List (Option Int)) (d : PyData) (H : Hp) : Prop where
  re : ReelAt H r
  tb : Tb P1 P2 H
  fpl : Rp (Hw (fun b => b = r) H) (.ref pl) (.list (rs.map rowD))
  fpe : H pe = some (.lst (os.map optV))
  fha : Rp (Hw (fun b => b = r) H) vh d
  fne : pe ≠ r
theorem L8.mv {r P1 P2 pl pe : Addr} {vh : V} {rs : List RowT} {os : List (Option Int)} {d : PyData} {H H' : Hp} (s : L8 r P1 P2 pl pe vh rs os d H) (re : ReelAt H' r) (m : Mv r H H') : L8 r P1 P2 pl pe vh rs os d H' := ⟨re, s.tb.mv s.re m, Rp.sm (m.hw (W := fun b => b = r) rfl) s.fpl, m.keep _ _ s.fne s.fpe, Rp.sm (m.hw (W := fun b => b = r) rfl) s.fha, s.fne⟩
theorem L8.sm {r P1 P2 pl pe : Addr} {vh : V} {rs : List RowT} {os : List (Option Int)} {d : PyData} {H H' : Hp} (s : L8 r P1 P2 pl pe vh rs os d H) (m : Same H H') : L8 r P1 P2 pl pe vh rs os d H' := s.mv (s.re.same m) (Mv.of m)
theorem L8.ex {r P1 P2 pl pe : Addr} {vh : V} {rs : List RowT} {os : List (Option Int)} {d : PyData} {H H' : Hp} (s : L8 r P1 P2 pl pe vh rs os d H) (e : Ex H H') (t : Tb P1 P2 H') : L8 r P1 P2 pl pe vh rs os d H' := ⟨s.re.kx e, t, Rp.ex e.hw _ _ s.fpl, e.lst s.fpe, Rp.ex e.hw _ _ s.fha, s.fne⟩
theorem L8.sh {r P1 P2 pl pe : Addr} {vh : V} {rs : List RowT} {os : List (Option Int)} {d : PyData} {H : Hp} (s : L8 r P1 P2 pl pe vh rs os d H) : Sh r P1 P2 vh d H := ⟨s.re, s.tb, s.fha⟩
structure G8 (r P1 P2 hp : Addr) (rs : List RowT) (H : Hp) : Prop where
  re : ReelAt H r
  tb : Tb P1 P2 H
  he : HeldAt (Hw (fun b => b = r) H) hp rs
theorem G8.sm {r P1 P2 hp : Addr} {rs : List RowT} {H H' : Hp} (s : G8 r P1 P2 hp rs H) (m : Same H H') : G8 r P1 P2 hp rs H' := ⟨s.re.same m, s.tb.same m, s.he.same (Same.hw m)⟩
theorem G8.ex {r P1 P2 hp : Addr} {rs : List RowT} {H H' : Hp} (s : G8 r P1 P2 hp rs H) (e : Ex H H') (t : Tb P1 P2 H') : G8 r P1 P2 hp rs H' := ⟨s.re.kx e, t, s.he.ex e.hw⟩
abbrev lsD (rs : List RowT) : PyData := .list (rs.map fun x => PyData.list [.list (x.1.map pdO), x.2])
theorem G8.sh {r P1 P2 hp : Addr} {rs : List RowT} {H : Hp} (s : G8 r P1 P2 hp rs H) : Sh r P1 P2 (.ref hp) (lsD rs) H := ⟨s.re, s.tb, s.he.rp⟩
theorem ls_alike (rs : List RowT) : AlikeP rs (lsD rs) := ⟨_, rfl, (rows_lists rs).alike⟩
theorem two_at {j : Nat} (h : j < 2) : ∃ o : Option Int, atI [V.int 2, V.non] (0 + (j : Int)) = some (optV o) ∧ goodO o := by
  have hj : j = 0 ∨ j = 1 := by omega
  rcases hj with rfl | rfl
  · exact ⟨some 2, atI_nat (j := 0) rfl, by decide, by decide⟩
  · exact ⟨none, atI_nat (j := 1) rfl, trivial⟩
end CL
set_option Elab.async false
set_option linter.all false
set_option pp.maxSteps 900
set_option maxRecDepth 100000
set_option maxHeartbeats 4000000
namespace CL
open PySem PySem.Spec PyProof.Rows L2 GE
/-- all but the spring and the tables stays -/
def Kx (r : Addr) (H H' : Hp) : Prop := Ex (Hw (fun b => b = r) H) (Hw (fun b => b = r) H')
theorem Kx.refl (r : Addr) (H : Hp) : Kx r H H := Ex.refl _
theorem Kx.trans {r : Addr} {H H1 H2 : Hp} (a : Kx r H H1) (b : Kx r H1 H2) : Kx r H H2 := Ex.trans a b
theorem Kx.mv {r : Addr} {H H' : Hp} (m : Mv r H H') : Kx r H H' := Ex.of (m.hw (W := fun b => b = r) rfl)
theorem Kx.sm {r : Addr} {H H' : Hp} (m : Same H H') : Kx r H H' := Ex.of (Same.hw m)
theorem Kx.of {r : Addr} {H H' : Hp} (m : Ex H H') : Kx r H H' := m.hw
theorem Kx.lst {r a : Addr} {H H' : Hp} {xs : List V} (k : Kx r H H') (n : a ≠ r) (h : H a = some (.lst xs)) : H' a = some (.lst xs) := Hw.sub _ _ _ _ (Ex.lst k (by rw [Hw.at (W := fun b => b = r) n]; exact h))
/-- a spring, a plan, what is handed in -/
structure Pl (r P1 P2 pl : Addr) (vh : V) (rs : List RowT) (d : PyData) (H : Hp) : Prop where
  re : ReelAt H r
  tb : Tb P1 P2 H
  fpl : Rp (Hw (fun b => b = r) H) (.ref pl) (.list (rs.map rowD))
  fha : Rp (Hw (fun b => b = r) H) vh d
theorem Pl.kx {r P1 P2 pl : Addr} {vh : V} {rs : List RowT} {d : PyData} {H H' : Hp} (s : Pl r P1 P2 pl vh rs d H) (re : ReelAt H' r) (tb : Tb P1 P2 H') (k : Kx r H H') : Pl r P1 P2 pl vh rs d H' := ⟨re, tb, Rp.ex k _ _ s.fpl, Rp.ex k _ _ s.fha⟩
theorem Pl.sm {r P1 P2 pl : Addr} {vh : V} {rs : List RowT} {d : PyData} {H H' : Hp} (s : Pl r P1 P2 pl vh rs d H) (m : Same H H') : Pl r P1 P2 pl vh rs d H' := s.kx (s.re.same m) (s.tb.same m) (Kx.sm m)
theorem Pl.mv {r P1 P2 pl : Addr} {vh : V} {rs : List RowT} {d : PyData} {H H' : Hp} (s : Pl r P1 P2 pl vh rs d H) (re : ReelAt H' r) (m : Mv r H H') : Pl r P1 P2 pl vh rs d H' := s.kx re (s.tb.mv s.re m) (Kx.mv m)
theorem Pl.ex {r P1 P2 pl : Addr} {vh : V} {rs : List RowT} {d : PyData} {H H' : Hp} (s : Pl r P1 P2 pl vh rs d H) (m : Ex H H') (tb : Tb P1 P2 H') : Pl r P1 P2 pl vh rs d H' := s.kx (s.re.kx m) tb (Kx.of m)
theorem Pl.sh {r P1 P2 pl : Addr} {vh : V} {rs : List RowT} {d : PyData} {H : Hp} (s : Pl r P1 P2 pl vh rs d H) : Sh r P1 P2 vh d H := ⟨s.re, s.tb, s.fha⟩
theorem dep_ints {xs : List Int} (h : xs.length ≤ 1000) : Dep 2 (.list ((xs.map some).map pdO)) := ⟨by rw [List.length_map, List.length_map]; exact h, fun x hx => by
  obtain ⟨o, ho, rfl⟩ := List.mem_map.mp hx
  obtain ⟨i, _, rfl⟩ := List.mem_map.mp ho
  trivial⟩
theorem pick2n {a b x : Int} (h0 : 0 ≤ x) (h1 : x < 2) : ∃ z, atI [V.int a, .int b] x = some (.int z) ∧ (z = a ∨ z = b) := by
  have hh : x = 0 ∨ x = 1 := by omega
  rcases hh with z | z <;> rw [z]
  · exact ⟨a, atI_nat (j := 0) rfl, .inl rfl⟩
  · exact ⟨b, atI_nat (j := 1) rfl, .inr rfl⟩
theorem cl_blk {X : Cx} {s : Shared} {H : Hp} {scope : Scope} {cenv : Env} {fp : List Addr} : CallR (X.blk s H scope cenv fp) (.type "list") (fun xs H Q => ∃ p ys, xs = [.ref p] ∧ (SqL X.K H p ys ∨ SqT X.K H p ys) ∧ ∀ l, H l = none → Q (.ref l) (upd H l (.lst ys))) := call_list_of
theorem G8.kx {r P1 P2 hp : Addr} {rs : List RowT} {H H' : Hp} (s : G8 r P1 P2 hp rs H) (re : ReelAt H' r) (tb : Tb P1 P2 H') (k : Kx r H H') : G8 r P1 P2 hp rs H' := ⟨re, tb, s.he.ex k⟩
/-- what a row's value is, a list -/
theorem rowl_at {H : Hp} {v : V} {os : List (Option Int)} {o : Option Int} (h : Rp H v (.list [.list (os.map pdO), pdO o])) : ∃ b a, v = .ref b ∧ H b = some (.lst [.ref a, optV o]) ∧ H a = some (.lst (os.map optV)) := by
  cases h with
  | @lst b xs _ hb hxs =>
    cases hxs with
    | @cons vt _ _ _ ht hxs2 =>
      cases hxs2 with
      | @cons vm _ _ _ hm hxs3 =>
        cases hxs3
        obtain rfl := rp_pdO hm
        cases ht with
        | @lst a ys _ ha hys =>
          refine ⟨b, a, rfl, hb, ?_⟩
          rw [← rpO_eq os ys hys]
          exact ha
theorem near_sum : ∀ {rs : List RowT}, (∀ x ∈ rs, worth x.2 ≤ 24) → sumW rs ≤ 24 * (rs.length : Int)
  | [], _ => by show (0 : Int) ≤ _; simp
  | x :: rs, h => by
    have ih := near_sum (rs := rs) fun y hy => h y (List.mem_cons_of_mem _ hy)
    have hx := h x List.mem_cons_self
    rw [sumW_cons, List.length_cons]
    omega
theorem rgV_ints (n : Nat) : rgV 0 (n : Int) = ((List.range n).map fun i => ((i : Nat) : Int)).map V.int := by
  unfold rgV
  rw [List.map_map, Int.sub_zero, Int.toNat_natCast]
  refine List.map_congr_left fun i _ => ?_
  show V.int (0 + (i : Int)) = V.int (i : Int)
  rw [Int.zero_add]
section
variable {r P1 P2 C C2 C3 C4 : Addr} {v : V} {rs : List RowT} {d : PyData} {H : Hp} {Q : VK} {E : XK} {σ : L2.St} {i j l3 l4 : Nat}
theorem h_place (hF : Fine rs) (hA : AlikeP rs d) (s : Sh r P1 P2 v d H) {m n : Int} (hm : momentOk (dueO rs) (.int m) = true) (h0 : 0 ≤ n) (h1 : n < m) (q : ∀ p H', At (psR rs) (m - 1) 0 n p → Ex H H' → Sh r P1 P2 v d H' → Q (.int p) H') : spPlaceOf P1 P2 C C3 C2 [v, .int m, .int n] H Q E := by
  obtain ⟨ps, pc, e, e2, e3⟩ := partsA hF hA
  refine ⟨v, .int m, .int n, _, .int m, .int n, rfl, s.rpH, .int m, .int n, s.tb, fun z => absurd (alike_plan hA hF).1 (by rw [z]; simp), fun _ => ⟨ps, pc, e, fun z => absurd hm (by rw [← e3, z]; simp), fun _ m' em => ?_⟩⟩
  cases em
  refine ⟨fun z => absurd (stOk_mk h0 h1) (by rw [z]; simp), fun _ n' p H' en ha ex tb => ?_⟩
  cases en
  exact q p H' (by rw [e2]; exact ha) ex (s.ex ex tb)
theorem h_pers (hF : Fine rs) (hA : AlikeP rs d) (s : Sh r P1 P2 v d H) {m n : Int} (hm : momentOk (dueO rs) (.int m) = true) (h0 : 0 ≤ n) (h1 : n < m) (q : ∀ x H', At (psR rs) (m - 1) 0 x n → 0 ≤ x → x < m → Ex H H' → Sh r P1 P2 v d H' → Q (.int x) H') : spPersonAt P1 P2 C C3 C2 [v, .int m, .int n] H Q E := by
  obtain ⟨ps, pc, e, e2, e3⟩ := partsA hF hA
  refine ⟨v, .int m, .int n, _, .int m, .int n, rfl, s.rpH, .int m, .int n, s.tb, fun z => absurd (alike_plan hA hF).1 (by rw [z]; simp), fun _ => ⟨ps, pc, e, fun z => absurd hm (by rw [← e3, z]; simp), fun _ m' em => ?_⟩⟩
  cases em
  refine ⟨fun z => absurd (stOk_mk h0 h1) (by rw [z]; simp), fun _ n' x H' en ha x0 x1 ex tb => ?_⟩
  cases en
  exact q x H' (by rw [e2]; exact ha) x0 x1 ex (s.ex ex tb)
theorem g_pers (hi : σ[i]? = some (some v)) {m n : Int} (hj : σ[j]? = some (some (.int m))) (hl : σ[l3]? = some (some (.int n))) (hF : Fine rs) (hA : AlikeP rs d) (s : Sh r P1 P2 v d H) (hm : momentOk (dueO rs) (.int m) = true) (h0 : 0 ≤ n) (h1 : n < m) (q : ∀ x H', At (psR rs) (m - 1) 0 x n → 0 ≤ x → x < m → Ex H H' → Sh r P1 P2 v d H' → Q (.int x) H') : tCall (spPersonAt P1 P2 C C3 C2) [] E (tCons (tVar i) (tCons (tVar j) (tCons (tVar l3) tNil))) σ H Q := ⟨v, hi, .int m, hj, .int n, hl, (h_pers hF hA s hm h0 h1 q : spPersonAt P1 P2 C C3 C2 [v, .int m, .int n] H Q E)⟩
/-- place_of of one of a list -/
theorem g_placeL {K : PySem.W.Frag} {D : Addr} {xs : List Int} {b : Nat} (hi : σ[i]? = some (some v)) {m n : Int} (hj : σ[j]? = some (some (.int m))) (hD : σ[l3]? = some (some (.ref D))) (hk : σ[l4]? = some (some (.int (b : Int)))) (eD : H D = some (.lst (xs.map V.int))) (hx : xs[b]? = some n) (hF : Fine rs) (hA : AlikeP rs d) (s : Sh r P1 P2 v d H) (hm : momentOk (dueO rs) (.int m) = true) (h0 : 0 ≤ n) (h1 : n < m) (q : ∀ p H', At (psR rs) (m - 1) 0 n p → Ex H H' → Sh r P1 P2 v d H' → Q (.int p) H') : tCall (spPlaceOf P1 P2 C C3 C2) [] E (tCons (tVar i) (tCons (tVar j) (tCons (tOp (rIxL K) (tVar l3) (tVar l4)) tNil))) σ H Q := ⟨v, hi, .int m, hj, .ref D, hD, .int (b : Int), hk, D, _, (b : Int), .int n, rfl, rfl, SqL.of eD, atI_nat (by rw [List.getElem?_map, hx]; rfl), (h_place hF hA s hm h0 h1 q : spPlaceOf P1 P2 C C3 C2 [v, .int m, .int n] H Q E)⟩
end
end CL
set_option Elab.async false
set_option linter.all false
set_option pp.maxSteps 900
set_option maxRecDepth 100000
set_option maxHeartbeats 4000000
namespace CL
open PySem PySem.Spec PyProof.Rows L2 GE
abbrev sRgt : Stmt := topS 43
abbrev nRgt : List Str := ["spring", "plan", "handed", "people", "stays", "again", "moment", "queue", "spots", "spot", "beside"]
theorem scRgt : FnScope nRgt ["spring", "plan", "handed"] (defScope sRgt) := ⟨rfl, rfl, rfl, by decide +kernel, rfl, by decide +kernel, by decide +kernel⟩
def spRgt (r P1 P2 : Addr) : Sp := fun vs H Q _ => ∃ pl ph rs d, vs = [.ref r, .ref pl, .ref ph] ∧ Pl r P1 P2 pl (.ref ph) rs d H ∧ Fine rs ∧ AlikeP rs d ∧ B 100 10000000 d ∧ ∀ H', ReelAt H' r → Tb P1 P2 H' → Kx r H H' → Q (.bl true) H'
section
variable {P : Program} {w : World} {K : PySem.W.Frag} {mg : Str → Option Value} {base : Heap}
theorem ok_rgt {f r P1 P2 C C2 C3 C5 : Addr} {fd : FuncData} (F : Fun K "_law_right" "_law_right" sRgt f fd) (T : Nm mg) (T2 : Nm2 mg) (hsys : ∃ o, base.get? sysModules = some o) (CD : Cal P w K mg base 1 "_law_draw" ["spring", "many"] (spDraw r)) (CPe : Cal P w K mg base 1 "_law_people" ["plan", "most"] spPeo) (CSt : Cal P w K mg base 1 "_law_stood" ["patiences"] (spStd K)) (CSm : Cal P w K mg base 10 "_law_same" ["found", "due"] (spSam 2)) (CPr : CalX P w K mg base 10 "person_at" ["plan", "moment", "place"] (spPersonAt P1 P2 C C3 C5)) (CPl : CalX P w K mg base 10 "place_of" ["plan", "moment", "person"] (spPlaceOf P1 P2 C C3 C2)) : FnG P w K mg base 11 f fd ["spring", "plan", "handed"] (spRgt r P1 P2) := by
  refine fng_of F scRgt (fun vs H Q E ⟨_, _, _, _, e, _⟩ => by rw [e]; rfl) (fun cdv A outer s H vs Q E hgd hr h => ?_)
  obtain ⟨pl, ph, rs, d, rfl, S0, hF, hA, hB, q⟩ := h
  have nd := scRgt.nd
  refine ⟨_, (pss_cons (ps_set (i := 3) nd rfl (.inl rfl) (pe_cal (CPe.mono (by decide)) hr (by rfl) (pa_cons (pv 1) (pa_cons pe_int pa_nil))))
      (pss_cons (ps_set (i := 4) nd rfl (.inl rfl) (pe_callB (call_reprD hgd hr hsys) (by rfl) T2.repr (by decide +kernel) (pa_cons (pv 2) pa_nil)))
      (pss_cons (ps_for PassesOwn.never rfl (pi_range1 (by rfl) T2.range (pa_cons pe_int pa_nil)) (pg_name (i := 5) nd rfl (.inl rfl)) (pss_cons (ps_set (i := 6) nd rfl (.inr rfl) (pe_ix ix_list (pe_lst (pa_cons (pe_cal (CD.mono (by decide)) hr (by rfl) (pa_cons (pv 0) (pa_cons (pe_op op_add (pe_callB call_len_seq (by rfl) T.len PySem.boot_len (pa_cons (pv 3) pa_nil)) pe_int) pa_nil))) (pa_cons (pe_callB call_len_seq (by rfl) T.len PySem.boot_len (pa_cons (pv 3) pa_nil)) pa_nil))) (pe_cal (CD.mono (by decide)) hr (by rfl) (pa_cons (pv 0) (pa_cons pe_int pa_nil))) (fun _ _ => rfl)))
      (pss_cons (ps_set (i := 7) nd rfl (.inr rfl) (pe_ix ix_tup (pe_cal (CSt.mono (by decide)) hr (by rfl) (pa_cons (pe_slice sl_list (pv 3) po_none (po_some (pv 6))) pa_nil)) pe_int (fun _ _ => rfl)))
      (pss_cons (ps_set (i := 8) nd rfl (.inl rfl) (pe_listRg rfl (by rfl) T.list (prg_1 (by rfl) T2.range (pv 6))))
      (pss_cons (ps_if (pt_cmpR op_gt (pv 6) pe_int (nomark _)) (pss_one (ps_set (i := 8) nd rfl (.inl rfl) (pe_op op_cat (pe_lst (pa_cons pe_int (pa_cons (pe_op op_sub (pv 6) pe_int) pa_nil))) (pe_lc (own := [("beside", 10)]) (g := (gName 10)) (tt := tYes) rfl nd (pi_range1 (by rfl) T2.range (pa_cons pe_int pa_nil)) (blkOk_by (own := [("beside", 10)]) (N := nRgt) (sc := (defScope sRgt)) (by decide +kernel)) (fun _ _ _ _ _ => (pg_name (i := 10) nd rfl (.inl rfl))) (fun _ _ _ _ _ => pts_nil) (fun _ _ _ _ _ => (pe_cal (CD.mono (by decide)) hr (by rfl) (pa_cons (pv 0) (pa_cons (pv 6) pa_nil)))))))) pss_nil)
      (pss_cons (ps_if (pt_not (pt_val (pe_cal CSm hr (by rfl) (pa_cons (pe_lc (own := [("spot", 9)]) (g := (gName 9)) (tt := tYes) rfl nd (pi_list (pv 8)) (blkOk_by (own := [("spot", 9)]) (N := nRgt) (sc := (defScope sRgt)) (by decide +kernel)) (fun _ _ _ _ _ => (pg_name (i := 9) nd rfl (.inl rfl))) (fun _ _ _ _ _ => pts_nil) (fun _ _ _ _ _ => (pe_calX CPr hr (by rfl) (passes_call takes0 fun _ _ _ _ h => h) (pa_cons (pv 2) (pa_cons (pv 6) (pa_cons (pv 9) pa_nil)))))) (pa_cons (pe_lc (own := [("spot", 9)]) (g := (gName 9)) (tt := tYes) rfl nd (pi_list (pv 8)) (blkOk_by (own := [("spot", 9)]) (N := nRgt) (sc := (defScope sRgt)) (by decide +kernel)) (fun _ _ _ _ _ => (pg_name (i := 9) nd rfl (.inl rfl))) (fun _ _ _ _ _ => pts_nil) (fun _ _ _ _ _ => (pe_ix ix_blk (pv 7) (pv 9) (fun _ _ => rfl)))) pa_nil))))) (pss_one (ps_ret pe_bl)) pss_nil)
      (pss_one (ps_if (pt_not (pt_val (pe_cal CSm hr (by rfl) (pa_cons (pe_lc (own := [("spot", 9)]) (g := (gName 9)) (tt := tYes) rfl nd (pi_list (pv 8)) (blkOk_by (own := [("spot", 9)]) (N := nRgt) (sc := (defScope sRgt)) (by decide +kernel)) (fun _ _ _ _ _ => (pg_name (i := 9) nd rfl (.inl rfl))) (fun _ _ _ _ _ => pts_nil) (fun _ _ _ _ _ => (pe_calX CPl hr (by rfl) (passes_call takes0 fun _ _ _ _ h => h) (pa_cons (pv 2) (pa_cons (pv 6) (pa_cons (pe_ix ix_blk (pv 7) (pv 9) (fun _ _ => rfl)) pa_nil)))))) (pa_cons (pv 8) pa_nil))))) (pss_one (ps_ret pe_bl)) pss_nil))))))))
      (pss_one (ps_ret (pe_cmpR op_eq (pe_callB (call_reprD hgd hr hsys) (by rfl) T2.repr (by decide +kernel) (pa_cons (pv 2) pa_nil)) (pv 4) (nomark _))))))), ?_⟩
  refine ⟨.ref pl, rfl, .ref pl, rs, rs.map rowD, 120, 120, rfl, rfl, Rp.sm (Hw.sub _ _) S0.fpl, rows_self rs, hF, by decide, fun pe H1 s1 npe epe => ?_⟩
  obtain ⟨hfi, hl120, _, _⟩ := said_firsts (most := 120) hF (by decide)
  have S1 := S0.sm s1
  generalize said 120 [] rs = os at epe hfi hl120
  have per : pe ≠ r := S0.re.new npe
  have lo : (os.map optV).length = os.length := List.length_map ..
  refine ⟨.ref ph, rfl, .ref ph, d, ph, rfl, rfl, S1.sh.rpH, hB, ?_⟩
  generalize hst : d.shown = st
  refine ⟨2, rfl, by decide, by decide, ?_⟩
  refine for_range (lo := 0) (n := (2 : Int).toNat) (fun j σ H6 => ∃ z5 z6 z7 z8 z9 z10, σ = [some (.ref r), some (.ref pl), some (.ref ph), some (.ref pe), some (.str st), z5, z6, z7, z8, z9, z10] ∧ Pl r P1 P2 pl (.ref ph) rs d H6 ∧ Kx r H1 H6) ⟨none, none, none, none, none, none, rfl, S1, Kx.refl r H1⟩ (fun j σ H6 _ hP => ?_) (fun σ H6 hP => ?_)
  rotate_left
  · obtain ⟨z5, z6, z7, z8, z9, z10, rfl, S6, k6⟩ := hP
    refine ⟨.ref ph, rfl, .ref ph, d, ph, rfl, rfl, S6.sh.rpH, hB, ?_⟩
    rw [hst]
    refine ⟨.str st, rfl, rfl, ?_⟩
    rw [show decide (V.str st = V.str st) = true from decide_eq_true rfl]
    exact q H6 S6.re S6.tb ((Kx.sm s1).trans k6)
  obtain ⟨z5, z6, z7, z8, z9, z10, rfl, S6, k6⟩ := hP
  have epe6 := k6.lst per epe
  refine ⟨.ref r, rfl, .ref pe, rfl, pe, _, rfl, .inl (SqL.of epe6), _, 1, rfl, rfl, _, rfl, S6.re, by omega, by rw [p140]; omega, fun x H7 re7 m7 x0 x1 => ?_⟩
  have S7 := S6.mv re7 m7
  have epe7 := m7.keep _ _ per epe6
  refine ⟨.ref pe, rfl, pe, _, rfl, .inl (SqL.of epe7), small_le (by show 2 ≤ 1000; decide), fun p1 np1 => ?_⟩
  have s8 := same_upd (o := .lst [.int x, .int ((os.map optV).length : Int)]) np1
  have ep1 : (upd H7 p1 (.lst [.int x, .int ((os.map optV).length : Int)])) p1 = some (.lst [.int x, .int ((os.map optV).length : Int)]) := upd_same
  have p1r := S7.re.new np1
  have S8 := S7.sm s8
  have epe8 := s8 _ _ epe7
  generalize upd H7 p1 (.lst [.int x, .int ((os.map optV).length : Int)]) = H8 at s8 ep1 S8 epe8 ⊢
  refine ⟨.ref r, rfl, 2, rfl, S8.re, by decide, by decide, fun z H9 re9 m9 z0 z1 => ?_⟩
  have S9 := S8.mv re9 m9
  have epe9 := m9.keep _ _ per epe8
  have k9 : Kx r H1 H9 := ((k6.trans (Kx.mv m7)).trans (Kx.sm s8)).trans (Kx.mv m9)
  obtain ⟨mo, hmo, hmo3⟩ := pick2n (a := x) (b := ((os.map optV).length : Int)) z0 z1
  have hm0 : 0 ≤ mo ∧ mo ≤ (os.length : Int) := by omega
  clear hmo3 x0 x1
  refine ⟨p1, _, z, .int mo, rfl, rfl, SqL.of (m9.keep p1 _ p1r ep1), hmo, ?_⟩
  obtain ⟨mn, rfl⟩ : ∃ mn : Nat, mo = (mn : Int) := ⟨mo.toNat, by omega⟩
  have hmn : mn ≤ os.length := by omega
  clear hmo ep1
  show tSeq _ _ _ [some (.ref r), some (.ref pl), some (.ref ph), some (.ref pe), some (.str st), some (.int (0 + (j : Int))), some (.int (mn : Int)), z7, z8, z9, z10] H9
  refine ⟨.ref pe, rfl, .int (mn : Int), rfl, (mn : Int), rfl, pe, _, rfl, SqL.of epe9, fun ta nta => ?_⟩
  rw [show cutV (os.map optV) none (some (mn : Int)) = (os.take mn).map optV by rw [cut_to, List.map_take]]
  have s10 := same_upd (o := .lst ((os.take mn).map optV)) nta
  have eta : (upd H9 ta (.lst ((os.take mn).map optV))) ta = some (.lst ((os.take mn).map optV)) := upd_same
  have S10 := S9.sm s10
  generalize upd H9 ta (.lst ((os.take mn).map optV)) = H10 at s10 eta S10 ⊢
  have lt : (os.take mn).length = mn := by rw [List.length_take]; omega
  have hfm := hfi.take mn
  refine ⟨ta, rs, os.take mn, rfl, SqL.of eta, hfm, by omega, fun tt qa la pa qs past left H11 s11 nqa npa ett eqa epa ela hSim => ?_⟩
  have S11 := S10.sm s11
  have par : pa ≠ r := S10.re.new npa
  generalize os.take mn = om at lt hfm hSim
  refine ⟨tt, _, 0, .ref qa, rfl, rfl, SqT.of ett, atI_nat (j := 0) rfl, ?_⟩
  have qar : qa ≠ r := S10.re.new nqa
  have k11 : Kx r H1 H11 := (k9.trans (Kx.sm s10)).trans (Kx.sm s11)
  show tSeq _ _ _ [some (.ref r), some (.ref pl), some (.ref ph), some (.ref pe), some (.str st), some (.int (0 + (j : Int))), some (.int (mn : Int)), some (.ref qa), z8, z9, z10] H11
  refine ⟨.int (mn : Int), rfl, (mn : Int), rfl, ⟨by decide, by decide, by omega, by omega, by omega⟩, fun so nso => ?_⟩
  rw [rgV_ints]
  have s12 := same_upd (o := .lst (((List.range mn).map fun i => ((i : Nat) : Int)).map V.int)) nso
  have eso : (upd H11 so (.lst (((List.range mn).map fun i => ((i : Nat) : Int)).map V.int))) so = some (.lst (((List.range mn).map fun i => ((i : Nat) : Int)).map V.int)) := upd_same
  have S12 := S11.sm s12
  have eqa12 := s12 _ _ eqa
  have k12 := k11.trans (Kx.sm s12)
  have sor : so ≠ r := S11.re.new nso
  have hxs : ∀ x ∈ ((List.range mn).map fun i => ((i : Nat) : Int)), 0 ≤ x ∧ x < (mn : Int) := fun x hx => by
    obtain ⟨i, hi, rfl⟩ := List.mem_map.mp hx
    have := List.mem_range.mp hi
    omega
  have hxl : ((List.range mn).map fun i => ((i : Nat) : Int)).length ≤ 130 := by rw [List.length_map, List.length_range]; omega
  generalize upd H11 so (.lst (((List.range mn).map fun i => ((i : Nat) : Int)).map V.int)) = H12 at s12 eso S12 eqa12 k12 ⊢
  generalize ((List.range mn).map fun i => ((i : Nat) : Int)) = xs0 at eso hxs hxl
  dsimp only []
  show tSeq _ _ _ [some (.ref r), some (.ref pl), some (.ref ph), some (.ref pe), some (.str st), some (.int (0 + (j : Int))), some (.int (mn : Int)), some (.ref qa), some (.ref so), z9, z10] H12
  refine seqP (fun σ' H13 => ∃ (so : Addr) (xs : List Int) (u9 u10 : Option V), σ' = [some (.ref r), some (.ref pl), some (.ref ph), some (.ref pe), some (.str st), some (.int (0 + (j : Int))), some (.int (mn : Int)), some (.ref qa), some (.ref so), u9, u10] ∧ Pl r P1 P2 pl (.ref ph) rs d H13 ∧ Kx r H1 H13 ∧ H13 qa = some (.lst (qs.map V.int)) ∧ H13 so = some (.lst (xs.map V.int)) ∧ (∀ x ∈ xs, 0 ≤ x ∧ x < (mn : Int)) ∧ xs.length ≤ 130) (fun σ' H13 hR => ?_) (fun nx hnx => ?_)
  rotate_left
  · refine ⟨.int (mn : Int), rfl, (mn : Int), 25, rfl, rfl, _, rfl, ite2 (fun c => ?_) (fun _ => hnx _ _ ⟨so, xs0, _, _, rfl, S12, k12, eqa12, eso, hxs, hxl⟩)⟩
    have c' : (mn : Int) > 25 := of_decide_eq_true c
    refine ⟨.int (mn : Int), rfl, (mn : Int), 1, rfl, rfl, small_le (by show 2 ≤ 1000; decide), fun p1 np1 => ?_⟩
    have s1' := same_upd (o := .lst [.int 0, .int ((mn : Int) - 1)]) np1
    have ep1 : (upd H12 p1 (.lst [.int 0, .int ((mn : Int) - 1)])) p1 = some (.lst ([0, (mn : Int) - 1].map V.int)) := upd_same
    have p1r := S12.re.new np1
    have S13 := S12.sm s1'
    have eqa13 := s1' _ _ eqa12
    generalize upd H12 p1 (.lst [.int 0, .int ((mn : Int) - 1)]) = H13 at s1' ep1 S13 eqa13 ⊢
    refine ⟨20, rfl, by decide, by decide, fun D hD => ?_⟩
    have Dr := S13.re.new hD
    refine lc_range (lo := 0) (n := (20 : Int).toNat) (fun i H2 => ∃ ys : List Int, ReelAt H2 r ∧ Mv r H13 H2 ∧ H2 D = some (.lst (ys.map V.int)) ∧ ys.length = i ∧ ∀ x ∈ ys, 0 ≤ x ∧ x < (mn : Int)) ⟨[], S13.re.same (same_upd hD), Mv.of (same_upd hD), upd_same, rfl, fun x hx => absurd hx (by simp)⟩ (fun i H2 hi hP => ?_) (fun H2 hP => ?_)
    · obtain ⟨ys, re2, m2, eD, hl, hx⟩ := hP
      have hi20 : i < 20 := hi
      refine ⟨rfl, yesT ⟨.ref r, rfl, .int (mn : Int), rfl, (mn : Int), rfl, re2, by omega, by rw [p140]; omega, fun y H3 re3 m3 y0 y1 => ?_⟩⟩
      refine ⟨_, m3.keep _ _ Dr eD, by rw [List.length_map]; exact small1000 (by omega), ys ++ [y], re3.store Dr, (m2.trans m3).upd hD, by rw [upd_same, List.map_append]; rfl, by rw [List.length_append, hl]; rfl, fun z hz => ?_⟩
      rcases List.mem_append.mp hz with hz | hz
      · exact hx z hz
      · rw [List.mem_singleton.mp hz]
        exact ⟨y0, y1⟩
    · obtain ⟨ys, re2, m2, eD, hl, hx⟩ := hP
      have hl20 : ys.length = 20 := hl
      have e1 := m2.keep _ _ p1r ep1
      refine ⟨p1, D, _, _, rfl, rfl, e1, eD, by rw [List.length_map, List.length_map, hl20]; exact small_le (by show 2 + 20 ≤ 1000; decide), fun p2 np2 => ?_⟩
      rw [← List.map_append]
      have s3 := same_upd (o := .lst (([0, (mn : Int) - 1] ++ ys).map V.int)) np2
      refine hnx _ _ ⟨p2, [0, (mn : Int) - 1] ++ ys, _, _, rfl, (S13.mv re2 m2).sm s3, ((k12.trans (Kx.sm s1')).trans (Kx.mv m2)).trans (Kx.sm s3), s3 _ _ (m2.keep _ _ qar eqa13), upd_same, fun x hx2 => ?_, by rw [List.length_append, hl20]; show 2 + 20 ≤ 130; decide⟩
      rcases List.mem_append.mp hx2 with h1 | h1
      · rcases List.mem_cons.mp h1 with rfl | h1
        · omega
        · rw [List.mem_singleton.mp h1]
          omega
      · exact hx x h1
  clear eso hxs hxl S12 k12 eqa12 sor
  obtain ⟨so, xs, u9, u10, rfl, S13, k13, eqa13, eso13, hxs, hxl⟩ := hR
  have hMo : ∀ {x : Int}, 0 ≤ x → x < (mn : Int) → Mo rs (mn : Int) (mn : Int) := fun h0 h1 => by
    have := hfm.mo (m := mn) (n := mn) (by omega) (Nat.le_refl _) (by omega)
    exact this
  have hps := psR_ok hF
  -- who stands where
  have hat : ∀ x ∈ xs, ∃ (xn : Nat) (y : Int), x = (xn : Int) ∧ qs[xn]? = some y ∧ 0 ≤ y ∧ y < (mn : Int) ∧ At (psR rs) ((mn : Int) - 1) 0 y x := fun x hx => by
    obtain ⟨x0, x1⟩ := hxs x hx
    obtain ⟨xn, rfl⟩ : ∃ xn : Nat, x = (xn : Int) := ⟨x.toNat, by omega⟩
    have hl : xn < qs.length := by rw [hSim.lq]; omega
    obtain ⟨y0, y1, ha⟩ := hSim.at_ xn _ (List.getElem?_eq_getElem hl)
    rw [lt] at y1 ha
    exact ⟨xn, _, rfl, List.getElem?_eq_getElem hl, y0, y1, ha⟩
  refine ⟨.ref so, rfl, so, rfl, ⟨_, SqL.of eso13⟩, fun D hD => ?_⟩
  refine lc_ints (K := K) (P1 := P1) (P2 := P2) (fun x z => ∃ xn : Nat, x = (xn : Int) ∧ qs[xn]? = some z) eso13 S13.tb (by omega) hD (fun i x H14 k Fq hx ex14 tb14 hk => ?_) (fun H14 zs ex14 tb14 eD lz hz => ?_)
  · have S14 := S13.ex ex14 tb14
    have hm := List.mem_of_getElem? hx
    obtain ⟨x0, x1⟩ := hxs x hm
    obtain ⟨xn, y, ex, hq, y0, y1, ha⟩ := hat x hm
    refine ⟨rfl, yesT ?_⟩
    refine g_pers (i := 2) (j := 6) (l3 := 9) rfl rfl rfl hF hA S14.sh ((hMo x0 x1).mom (by omega) (Int.le_refl _)) x0 x1 fun z H15 hz z0 z1 ex15 S15 => ?_
    refine hk _ _ ⟨xn, ex, ?_⟩ ex15 S15.tb
    rw [hq]
    exact congrArg some (at_one hps ha (by omega) (by omega) rfl hz)
  have S14 := S13.ex ex14 tb14
  have k14 := k13.trans (Kx.of ex14)
  have eqa14 := ex14.lst eqa13
  have eso14 := ex14.lst eso13
  dsimp only [tNil]
  refine ⟨.ref so, rfl, so, rfl, ⟨_, SqL.of eso14⟩, fun D2 hD2 => ?_⟩
  refine lc_list (xs := xs.map V.int) (fun i H15 => Same H14 H15 ∧ H15 D2 = some (.lst ((zs.take i).map V.int))) ⟨same_upd hD2, upd_same⟩ (fun i H15 _ ⟨s15, _⟩ => SqL.of (s15 _ _ eso14)) (fun i xv H15 hx hP => ?_) (fun H15 hP => ?_)
  · obtain ⟨s15, eD2⟩ := hP
    obtain ⟨x, hxi, rfl⟩ : ∃ x, xs[i]? = some x ∧ xv = .int x := by
      rw [List.getElem?_map] at hx
      cases z : xs[i]? with
      | none => rw [z] at hx; cases hx
      | some y => rw [z] at hx; cases hx; exact ⟨y, rfl, rfl⟩
    obtain ⟨zv, hzi, xn, rfl, hc⟩ := hz i x hxi
    have li : i < zs.length := (List.getElem?_eq_some_iff.mp hzi).1
    refine ⟨rfl, yesT ⟨.ref qa, rfl, .int (xn : Int), rfl, qa, _, (xn : Int), .int zv, rfl, rfl, SqL.of (s15 _ _ eqa14), atI_nat (by rw [List.getElem?_map, hc]; rfl), _, eD2, by rw [List.length_map, List.length_take]; exact small1000 (by omega), same_updN s15 hD2, ?_⟩⟩
    rw [upd_same, List.take_add_one, hzi, List.map_append]
    rfl
  obtain ⟨s15, eD2⟩ := hP
  have S15 := S14.sm s15
  rw [List.length_map, ← lz, List.take_length] at eD2
  have eD15 := s15 _ _ eD
  refine ⟨.ref D, .ref D2, .list ((zs.map some).map pdO), rfl, .lst eD15 (rp_ints zs), .lst eD2 (rp_ints zs), dep_ints (by omega), fun H16 s16 => ⟨_, rfl, iteF ?_⟩⟩
  have S16 := S15.sm s16
  have k16 := (k14.trans (Kx.sm s15)).trans (Kx.sm s16)
  have eqa16 := s16 _ _ (s15 _ _ eqa14)
  have eso16 := s16 _ _ (s15 _ _ eso14)
  dsimp only [tNext]
  show tIfS _ _ _ _ [some (.ref r), some (.ref pl), some (.ref ph), some (.ref pe), some (.str st), some (.int (0 + (j : Int))), some (.int (mn : Int)), some (.ref qa), some (.ref so), u9, u10] H16
  refine ⟨.ref so, rfl, so, rfl, ⟨_, SqL.of eso16⟩, fun D3 hD3 => ?_⟩
  refine lc_ints (K := K) (P1 := P1) (P2 := P2) (fun x z => z = x) eso16 S16.tb (by omega) hD3 (fun i x H17 k Fq hx ex17 tb17 hk => ?_) (fun H17 ts ex17 tb17 eD3 lt3 ht => ?_)
  · have S17 := S16.ex ex17 tb17
    have hm := List.mem_of_getElem? hx
    obtain ⟨x0, x1⟩ := hxs x hm
    obtain ⟨xn, y, rfl, hq, y0, y1, ha⟩ := hat x hm
    refine ⟨rfl, yesT ?_⟩
    refine g_placeL (i := 2) (j := 6) (l3 := 7) (l4 := 9) rfl rfl rfl rfl (ex17.lst eqa16) hq hF hA S17.sh ((hMo x0 x1).mom (by omega) (Int.le_refl _)) y0 y1 fun p H18 hp ex18 S18 => ?_
    exact hk _ _ (at_uniq hp ha) ex18 S18.tb
  have S17 := S16.ex ex17 tb17
  have k17 := k16.trans (Kx.of ex17)
  have eso17 := ex17.lst eso16
  have ets : ts = xs := by
    refine List.ext_getElem? fun i => ?_
    cases e : xs[i]? with
    | none =>
      rw [List.getElem?_eq_none_iff] at e ⊢
      omega
    | some x =>
      obtain ⟨z, hz1, hz2⟩ := ht i x e
      rw [hz1, hz2]
  rw [ets] at eD3
  dsimp only [tNil]
  refine ⟨.ref so, rfl, .ref D3, .ref so, .list ((xs.map some).map pdO), rfl, .lst eD3 (rp_ints xs), .lst eso17 (rp_ints xs), dep_ints (by omega), fun H18 s18 => ⟨_, rfl, iteF ?_⟩⟩
  exact ⟨_, _, _, _, _, _, rfl, S17.sm s18, k17.trans (Kx.sm s18)⟩
end
end CL
set_option Elab.async false
set_option linter.all false
set_option pp.maxSteps 900
set_option maxRecDepth 100000
set_option maxHeartbeats 4000000
namespace CL
open PySem PySem.Spec PyProof.Rows L2 GE
abbrev sNst : Stmt := topS 44
abbrev nNst : List Str := ["spring", "by", "top", "row", "k"]
theorem scNst : FnScope nNst ["spring"] (defScope sNst) := ⟨rfl, rfl, rfl, by decide +kernel, rfl, by decide +kernel, by decide +kernel⟩
theorem cut_eight (ns : List Int) (a : Nat) : cutV (ns.map V.int) (some (a : Int)) (some ((a + 8 : Nat) : Int)) = ((ns.drop a).take 8).map V.int := by
  unfold cutV
  have e0 : HT.sIx (ns.map V.int).length 0 (some (a : Int)) = min a (ns.map V.int).length := HT.sIx_nat _ _ _
  have e1 : HT.sIx (ns.map V.int).length (ns.map V.int).length (some ((a + 8 : Nat) : Int)) = min (a + 8) (ns.map V.int).length := HT.sIx_nat _ _ _
  rw [e0, e1, List.map_take, List.map_drop]
  have hl : (ns.map V.int).length = (ns.map V.int).length := rfl
  generalize ns.map V.int = xs
  rcases Nat.le_total (a + 8) xs.length with c | c
  · rw [Nat.min_eq_left c, Nat.min_eq_left (by omega), show a + 8 - a = 8 by omega]
  · rw [Nat.min_eq_right c]
    rcases Nat.le_total a xs.length with c2 | c2
    · rw [Nat.min_eq_left c2, List.take_of_length_le (by rw [List.length_drop]; omega), List.take_of_length_le (by rw [List.length_drop]; omega)]
    · rw [Nat.min_eq_right c2, List.drop_of_length_le (Nat.le_refl _), List.drop_of_length_le c2, List.take_nil, List.take_nil]
def rowC (ns : List Int) (j : Nat) : RowT := (((ns.drop (8 * j)).take 8).map some, .int (((ns.drop (8 * j)).take 8).length : Int))
def endC : RowT := ([some 0, some 1], .none)
def rowsC (ns : List Int) (c : Nat) : List RowT := (List.range c).map (rowC ns) ++ [endC]
theorem rowC_good {ns : List Int} (hb : ∀ z ∈ ns, 0 ≤ z ∧ z ≤ GREAT) {j : Nat} (hj : 8 * j < ns.length) : GoodRow (rowC ns j) ∧ worth (rowC ns j).2 ≤ 8 := by
  have l : 1 ≤ ((ns.drop (8 * j)).take 8).length ∧ ((ns.drop (8 * j)).take 8).length ≤ 8 := by rw [List.length_take, List.length_drop]; omega
  refine ⟨⟨by show 1 ≤ (((ns.drop (8 * j)).take 8).map some).length; rw [List.length_map]; exact l.1, by show (((ns.drop (8 * j)).take 8).map some).length ≤ 8; rw [List.length_map]; exact l.2, fun o ho => ?_, by show decide (0 ≤ (((ns.drop (8 * j)).take 8).length : Int)) = true; exact decide_eq_true (by omega)⟩, by show (((ns.drop (8 * j)).take 8).length : Int) ≤ 8; omega⟩
  obtain ⟨z, hz, rfl⟩ := List.mem_map.mp (show o ∈ ((ns.drop (8 * j)).take 8).map some from ho)
  exact hb z (List.mem_of_mem_drop (List.mem_of_mem_take hz))
theorem sum8 : ∀ {rs : List RowT}, (∀ x ∈ rs, worth x.2 ≤ 8) → sumW rs ≤ 8 * (rs.length : Int)
  | [], _ => by show (0 : Int) ≤ _; simp
  | x :: rs, h => by
    have ih := sum8 (rs := rs) fun y hy => h y (List.mem_cons_of_mem _ hy)
    have hx := h x List.mem_cons_self
    rw [sumW_cons, List.length_cons]
    omega
theorem nestC_fine {ns : List Int} {c : Nat} (hb : ∀ z ∈ ns, 0 ≤ z ∧ z ≤ GREAT) (hc : c ≤ 7) (hcl : 8 * c ≤ ns.length + 7) : Fine (rowsC ns c) := by
  have hll : (rowsC ns c).length = c + 1 := by unfold rowsC; rw [List.length_append, List.length_map, List.length_range, List.length_singleton]
  have hg : ∀ x ∈ rowsC ns c, GoodRow x ∧ worth x.2 ≤ 8 := fun x hx => by
    rcases List.mem_append.mp hx with h | h
    · obtain ⟨j, hj, rfl⟩ := List.mem_map.mp h
      have := List.mem_range.mp hj
      exact rowC_good hb (by omega)
    · rw [List.mem_singleton.mp h]
      refine ⟨⟨by decide, by decide, fun o ho => ?_, rfl⟩, by decide⟩
      simp only [endC, List.mem_cons, List.not_mem_nil, or_false] at ho
      rcases ho with rfl | rfl <;> exact ⟨by decide, by decide⟩
  refine ⟨by omega, by omega, fun x hx => (hg x hx).1, fun x hx => ?_, ?_⟩
  · rw [hll, Nat.add_sub_cancel] at hx
    have h2 : x ∈ (List.range c).map (rowC ns) := by
      unfold rowsC at hx
      rw [List.take_left' (by rw [List.length_map, List.length_range])] at hx
      exact hx
    obtain ⟨j, hj, rfl⟩ := List.mem_map.mp h2
    rfl
  · have := sum8 fun x hx => (hg x hx).2
    have G0 : GREAT = 1000000000000000000000000000000 := rfl
    omega
theorem rg8 : ∀ L : Fin 65, Builtin.Range.small 0 ((L.val : Nat) : Int) 8 = true ∧ Builtin.Range.rangeSize 0 ((L.val : Nat) : Int) 8 = (((L.val + 7) / 8 : Nat)) := by decide +kernel
def spNst (r : Addr) : Sp := fun vs H Q _ => vs = [.ref r] ∧ ReelAt H r ∧ ∀ p rs H', ReelAt H' r → Mv r H H' → Rp (Hw (fun b => b = r) H') (.ref p) (.list (rs.map rowD)) → Fine rs → Q (.ref p) H'
section
variable {P : Program} {w : World} {K : PySem.W.Frag} {mg : Str → Option Value} {base : Heap}
theorem ok_nst {f r : Addr} {fd : FuncData} (F : Fun K "_law_nest" "_law_nest" sNst f fd) (T : Nm mg) (hrange : mg "range" = none) (CD : Cal P w K mg base 1 "_law_draw" ["spring", "many"] (spDraw r)) : FnOk P w K mg base CX0 3 f fd ["spring"] (spNst r) := by
  refine F.ok scNst (fun vs H Q E ⟨e, _⟩ => by rw [e]; rfl) (fun cdv A outer s H vs Q E hr h => ?_)
  obtain ⟨rfl, re, q⟩ := h
  have nd := scNst.nd
  refine ⟨_, (pss_cons (ps_set (i := 1) nd rfl (.inr rfl) (pe_op op_add pe_int (pe_cal (CD.mono (by decide)) hr (by rfl) (pa_cons (pv 0) (pa_cons pe_int pa_nil)))))
      (pss_cons (ps_set (i := 2) nd rfl (.inr rfl) (pe_op op_add pe_int (pe_cal (CD.mono (by decide)) hr (by rfl) (pa_cons (pv 0) (pa_cons pe_int pa_nil)))))
      (pss_cons (ps_set (i := 3) nd rfl (.inr rfl) (pe_lc (own := [("k", 4)]) (g := (gName 4)) rfl nd (pi_range1 (by rfl) hrange (pa_cons pe_int pa_nil)) (blkOk_by (own := [("k", 4)]) (N := nNst) (sc := (defScope sNst)) (by decide +kernel)) (fun _ _ _ _ _ => (pg_name (i := 4) nd rfl (.inl rfl))) (fun _ _ _ _ _ => pts_one (pt_cmpR op_gt (pe_op op_sub (pv 2) (pe_op op_mul (pv 1) (pv 4))) pe_int (nomark _))) (fun _ _ _ _ _ => (pe_op op_sub (pv 2) (pe_op op_mul (pv 1) (pv 4))))))
      (pss_one (ps_ret (pe_op op_cat (pe_slice sl_list (pe_lc (own := [("k", 4)]) (g := (gName 4)) (tt := tYes) rfl nd (pi_range3 (by rfl) hrange (pa_cons pe_int (pa_cons (pe_callB call_len_seq (by rfl) T.len PySem.boot_len (pa_cons (pv 3) pa_nil)) (pa_cons pe_int pa_nil)))) (blkOk_by (own := [("k", 4)]) (N := nNst) (sc := (defScope sNst)) (by decide +kernel)) (fun _ _ _ _ _ => (pg_name (i := 4) nd rfl (.inl rfl))) (fun _ _ _ _ _ => pts_nil) (fun _ _ _ _ _ => (pe_tup (pa_cons (pe_slice sl_blk (pv 3) (po_some (pv 4)) (po_some (pe_op op_add (pv 4) pe_int))) (pa_cons (pe_callB len_blk (by rfl) T.len PySem.boot_len (pa_cons (pe_slice sl_blk (pv 3) (po_some (pv 4)) (po_some (pe_op op_add (pv 4) pe_int))) pa_nil)) pa_nil))))) po_none (po_some pe_int)) (pe_lst (pa_cons (pe_tup (pa_cons (pe_lst (pa_cons pe_int (pa_cons pe_int pa_nil))) (pa_cons pe_non pa_nil))) pa_nil)))))))), ?_⟩
  refine ⟨.ref r, rfl, 3, rfl, re, by decide, by decide, fun x H1 re1 m1 x0 x1 => ⟨1, x, rfl, rfl, ?_⟩⟩
  refine ⟨.ref r, rfl, 90, rfl, re1, by decide, by decide, fun y H2 re2 m2 y0 y1 => ⟨20, y, rfl, rfl, ?_⟩⟩
  have m12 := m1.trans m2
  show tSeq _ _ _ [some (.ref r), some (.int (1 + x)), some (.int (20 + y)), none, none] H2
  generalize hb : 1 + x = b
  generalize ht : 20 + y = t
  refine ⟨64, rfl, by decide, by decide, fun R hR => ?_⟩
  have Rr := re2.new hR
  refine lc_range (lo := 0) (n := (64 : Int).toNat) (fun i H3 => Same H2 H3 ∧ ∃ ns : List Int, H3 R = some (.lst (ns.map V.int)) ∧ ns.length ≤ i ∧ (0 < i → 1 ≤ ns.length) ∧ ∀ z ∈ ns, 0 ≤ z ∧ z ≤ GREAT) ⟨same_upd hR, [], upd_same, Nat.le_refl 0, fun z => absurd z (Nat.lt_irrefl 0), fun z hz => absurd hz (by simp)⟩ (fun i H3 hi hP => ?_) (fun H3 hP => ?_)
  · obtain ⟨s3, ns, eR, hl, hl1, hz⟩ := hP
    have hi64 : i < 64 := hi
    have e0 : (0 + (i : Int)) = (i : Int) := Int.zero_add _
    refine ⟨rfl, ?_⟩
    refine ⟨.int t, rfl, .int b, rfl, .int (0 + (i : Int)), rfl, b, 0 + (i : Int), rfl, rfl, .inl ⟨by omega, by omega⟩, t, b * (0 + (i : Int)), rfl, rfl, t - b * (0 + (i : Int)), 0, rfl, rfl, ?_⟩
    have hbi : 0 ≤ b * (0 + (i : Int)) := Int.mul_nonneg (by omega) (by omega)
    by_cases c : t - b * (0 + (i : Int)) > 0
    · refine ⟨_, rfl, ?_⟩
      refine ite2 (fun _ => ?_) (fun z => absurd (decide_eq_true c) z)
      refine ⟨.int t, rfl, .int b, rfl, .int (0 + (i : Int)), rfl, b, 0 + (i : Int), rfl, rfl, .inl ⟨by omega, by omega⟩, t, b * (0 + (i : Int)), rfl, rfl, _, eR, by rw [List.length_map]; exact small1000 (by omega), same_updN s3 hR, ns ++ [t - b * (0 + (i : Int))], by rw [upd_same, List.map_append]; rfl, by rw [List.length_append, List.length_singleton]; omega, fun _ => by rw [List.length_append, List.length_singleton]; omega, fun z hz' => ?_⟩
      have G0 : GREAT = 1000000000000000000000000000000 := rfl
      rcases List.mem_append.mp hz' with h | h
      · exact hz z h
      · rw [List.mem_singleton.mp h]
        omega
    · refine ⟨_, rfl, ?_⟩
      refine ite2 (fun z => absurd (of_decide_eq_true z) c) (fun _ => ⟨s3, ns, eR, by omega, fun _ => ?_, hz⟩)
      by_cases i0 : i = 0
      · subst i0
        exact absurd (show t - b * (0 + ((0 : Nat) : Int)) > 0 by rw [show (0 + ((0 : Nat) : Int)) = 0 from rfl, Int.mul_zero]; omega) c
      · exact hl1 (by omega)
  obtain ⟨s3, ns, eR, hl, hl1, hz⟩ := hP
  have hl64 : ns.length ≤ 64 := hl
  have hlp : 1 ≤ ns.length := hl1 (by decide)
  have lm : (ns.map V.int).length = ns.length := List.length_map ..
  have re3 := re2.same s3
  obtain ⟨g1, g2⟩ := rg8 ⟨ns.length, by omega⟩
  refine ⟨.ref R, rfl, R, _, rfl, .inl (SqL.of eR), 0, _, 8, (ns.length + 7) / 8, rfl, ⟨by decide, by decide, by rw [lm]; exact g1, by rw [lm]; exact g2⟩, fun D hD => ?_⟩
  have Dr := re3.new hD
  refine lcC (lo := 0) (c := 8) (n := (ns.length + 7) / 8) (fun i H4 => ∃ acc, H4 D = some (.lst acc) ∧ acc.length = i ∧ Same H3 H4 ∧ RpAll (Hw (fun b => b = r ∨ b = D) H4) acc (((List.range i).map (rowC ns)).map rowD)) ⟨[], upd_same, rfl, same_upd hD, .nil⟩ (fun i H4 hi ⟨acc, e4, l4, s4, rp4⟩ => ?_) (fun H4 ⟨acc, e4, l4, s4, rp4⟩ => ?_)
  · have ek : (0 : Int) + (i : Nat) * 8 = ((8 * i : Nat) : Int) := by omega
    rw [ek]
    have eR4 := s4 _ _ eR
    have re4 := re3.same s4
    have hi' : i < (ns.length + 7) / 8 := hi
    refine ⟨rfl, yesT ⟨.ref R, rfl, .int ((8 * i : Nat) : Int), rfl, ((8 * i : Nat) : Int), rfl, .int ((8 * i : Nat) : Int), rfl, ((8 * i : Nat) : Int), 8, rfl, rfl, ((8 * i + 8 : Nat) : Int), rfl, R, ns.map V.int, rfl, SqL.of eR4, fun p np => ?_⟩⟩
    rw [cut_eight]
    have s5 := same_upd (o := .lst (((ns.drop (8 * i)).take 8).map V.int)) np
    have ep5 : (upd H4 p (.lst (((ns.drop (8 * i)).take 8).map V.int))) p = some (.lst (((ns.drop (8 * i)).take 8).map V.int)) := upd_same
    have pr : p ≠ r := re4.new np
    have pD : p ≠ D := fun z => by rw [z, e4] at np; cases np
    have re5 := re4.same s5
    have eR5 := s5 _ _ eR4
    have e5 := s5 _ _ e4
    have rp5 := RpAll.sm (Same.hw (W := fun b => b = r ∨ b = D) s5) rp4
    have s35 := s4.trans s5
    generalize upd H4 p (.lst (((ns.drop (8 * i)).take 8).map V.int)) = H5 at s5 ep5 re5 eR5 e5 rp5 s35 ⊢
    refine ⟨.ref R, rfl, .int ((8 * i : Nat) : Int), rfl, ((8 * i : Nat) : Int), rfl, .int ((8 * i : Nat) : Int), rfl, ((8 * i : Nat) : Int), 8, rfl, rfl, ((8 * i + 8 : Nat) : Int), rfl, R, ns.map V.int, rfl, SqL.of eR5, fun p' np' => ?_⟩
    rw [cut_eight]
    have s6 := same_upd (o := .lst (((ns.drop (8 * i)).take 8).map V.int)) np'
    have ep6 : (upd H5 p' (.lst (((ns.drop (8 * i)).take 8).map V.int))) p' = some (.lst (((ns.drop (8 * i)).take 8).map V.int)) := upd_same
    have re6 := re5.same s6
    have ep6' := s6 _ _ ep5
    have e6 := s6 _ _ e5
    have rp6 := RpAll.sm (Same.hw (W := fun b => b = r ∨ b = D) s6) rp5
    have s36 := s35.trans s6
    generalize upd H5 p' (.lst (((ns.drop (8 * i)).take 8).map V.int)) = H6 at s6 ep6 re6 ep6' e6 rp6 s36 ⊢
    refine ⟨p', _, rfl, .inl (SqL.of ep6), small_le (by show 2 ≤ 1000; decide), fun t' nt => ?_⟩
    rw [List.length_map]
    have tr : t' ≠ r := re6.new nt
    have tD : t' ≠ D := fun z => by rw [z, e6] at nt; cases nt
    have s7 := same_upd (o := .tup [.ref p, .int (((ns.drop (8 * i)).take 8).length : Int)]) nt
    have et7 : (upd H6 t' (.tup [.ref p, .int (((ns.drop (8 * i)).take 8).length : Int)])) t' = some (.tup [.ref p, .int (((ns.drop (8 * i)).take 8).length : Int)]) := upd_same
    refine ⟨acc, s7 _ _ e6, by rw [l4]; exact small1000 (by omega), acc ++ [.ref t'], upd_same, by rw [List.length_append, l4]; rfl, same_updN (s36.trans s7) hD, ?_⟩
    rw [hw_upd (.inr rfl), List.range_succ, List.map_append, List.map_append]
    exact (RpAll.sm (Same.hw s7) rp6).snoc (.tup (by rw [Hw.at (W := fun b => b = r ∨ b = D) (fun z => z.elim tr tD)]; exact et7) (.cons (.lst (by rw [Hw.at (W := fun b => b = r ∨ b = D) (fun z => z.elim pr pD)]; exact s7 _ _ ep6') (rp_ints _)) (.cons (.int _) .nil)))
  · have re4 := re3.same s4
    refine ⟨7, rfl, D, acc, rfl, SqL.of e4, fun p5 np5 => ?_⟩
    rw [show cutV acc none (some 7) = acc.take 7 from cut_to _ 7]
    have s5 := same_upd (o := .lst (acc.take 7)) np5
    have ep5 : (upd H4 p5 (.lst (acc.take 7))) p5 = some (.lst (acc.take 7)) := upd_same
    have re5 := re4.same s5
    have s25 := (s3.trans s4).trans s5
    have rp5 := RpAll.sm (Same.hw (W := fun b => b = r) s5) (RpAll.sm (Hw.less (W := fun b => b = r) (W' := fun b => b = r ∨ b = D) fun b hb => .inl hb) rp4)
    generalize upd H4 p5 (.lst (acc.take 7)) = H5 at s5 ep5 re5 s25 rp5 ⊢
    refine ⟨small_le (by show 2 ≤ 1000; decide), fun a6 na6 => ?_⟩
    have s6 := same_upd (o := .lst [.int 0, .int 1]) na6
    have e6 : (upd H5 a6 (.lst [.int 0, .int 1])) a6 = some (.lst [.int 0, .int 1]) := upd_same
    have a6r : a6 ≠ r := re5.new na6
    have re6 := re5.same s6
    have ep6 := s6 _ _ ep5
    have s26 := s25.trans s6
    have rp6 := RpAll.sm (Same.hw (W := fun b => b = r) s6) rp5
    generalize upd H5 a6 (.lst [.int 0, .int 1]) = H6 at s6 e6 re6 ep6 s26 rp6 ⊢
    refine ⟨small_le (by show 2 ≤ 1000; decide), fun a7 na7 => ?_⟩
    have s7 := same_upd (o := .tup [.ref a6, .non]) na7
    have e7 : (upd H6 a7 (.tup [.ref a6, .non])) a7 = some (.tup [.ref a6, .non]) := upd_same
    have a7r : a7 ≠ r := re6.new na7
    have re7 := re6.same s7
    have ep7 := s7 _ _ ep6
    have e67 := s7 _ _ e6
    have s27 := s26.trans s7
    have rp7 := RpAll.sm (Same.hw (W := fun b => b = r) s7) rp6
    generalize upd H6 a7 (.tup [.ref a6, .non]) = H7 at s7 e7 re7 ep7 e67 s27 rp7 ⊢
    refine ⟨small_le (by show 1 ≤ 1000; decide), fun a8 na8 => ?_⟩
    have s8 := same_upd (o := .lst [.ref a7]) na8
    have e8 : (upd H7 a8 (.lst [.ref a7])) a8 = some (.lst [.ref a7]) := upd_same
    have re8 := re7.same s8
    have ep8 := s8 _ _ ep7
    have e68 := s8 _ _ e67
    have e78 := s8 _ _ e7
    have s28 := s27.trans s8
    have rp8 := RpAll.sm (Same.hw (W := fun b => b = r) s8) rp7
    generalize upd H7 a8 (.lst [.ref a7]) = H8 at s8 e8 re8 ep8 e68 e78 s28 rp8 ⊢
    refine ⟨p5, a8, acc.take 7, [.ref a7], rfl, rfl, ep8, e8, small_add (by rw [List.length_take]; omega) (by rw [List.length_singleton]; decide), fun a9 na9 => ?_⟩
    have s9 := same_upd (o := .lst (acc.take 7 ++ [.ref a7])) na9
    have a9r : a9 ≠ r := re8.new na9
    refine q a9 (rowsC ns (min 7 ((ns.length + 7) / 8))) _ (re8.same s9) (m12.trans (Mv.of (s28.trans s9))) (.lst (by rw [Hw.at (W := fun b => b = r) a9r]; exact upd_same) ?_) (nestC_fine hz (Nat.min_le_left _ _) (by omega))
    have et : ((List.range (min 7 ((ns.length + 7) / 8))).map (rowC ns)).map rowD = (((List.range ((ns.length + 7) / 8)).map (rowC ns)).map rowD).take 7 := by
      rw [← List.map_take, ← List.map_take, List.take_range]
    unfold rowsC
    rw [List.map_append, et]
    refine RpAll.append (RpAll.sm (Same.hw s9) (rp8.take 7)) (.cons (.tup (by rw [Hw.at (W := fun b => b = r) a7r]; exact s9 _ _ e78) (.cons (.lst (by rw [Hw.at (W := fun b => b = r) a6r]; exact s9 _ _ e68) (.cons (.int 0) (.cons (.int 1) .nil))) (.cons .non .nil))) .nil)
end
end CL
set_option Elab.async false
set_option linter.all false
set_option pp.maxSteps 900
set_option maxRecDepth 100000
set_option maxHeartbeats 4000000
namespace CL
open PySem PySem.Spec PyProof.Rows L2 GE
structure CalG (P : Program) (w : World) (K : PySem.W.Frag) (mg : Str → Option Value) (base : Heap) (k : Nat) (x : Str) (ps : List Str) (sp : Sp) : Prop where
  ex : ∃ f fd, mg x = some (.ref f) ∧ PySem.W.keepIn K (.ref f) = true ∧ Binds K fd ps [] ∧ FnG P w K mg base k f fd ps sp
theorem pe_calG {X : Cx} {k : Nat} {x : Str} {ps : List Str} {sp : Sp} {p pos : Pos} {e : Expr} {es : List Expr} {t : TA} (C : CalG X.prog X.w X.K X.mg X.base k x ps sp) (hgd : X.A.guards = some []) (len : ∀ vs H Q E, sp vs H Q E → vs.length = ps.length) (hr : Room k X.A) (hg : Gl X x) (ha : PA X (e :: es) t) (hdb : (x == ("__debug__" : Str)) = false := by decide)
    (he : starEach (e :: es) X.env = (false, eval e X.env) :: starEach es X.env := by rfl) (hpl : (backTo pos (starEach es X.env)).any (·.1) = false := by rfl) : PE X (.Call (.Name x p) (e :: es) [] pos) (tCall sp [] E0 t) := by
  obtain ⟨f, fd, h1, h2, h3, h4⟩ := C.ex
  refine ⟨fun pins s σ H Q I h => wpAny_Call_Name_kw (ld_glob I hg h1 ?_ hdb)⟩
  have run := ha.run pos pins s σ H _ I h
  refine PySem.W.callWith_K (h₀ := X.base) I.ok.mod.kin h2 (thn run fun us s1 ⟨vs, H1, I1, r, q⟩ => ⟨I1.kIn, ?_⟩) he hpl
  have q : sp (vs ++ []) H1 Q E0 := q
  rw [List.append_nil] at q
  have b := h3 s1 us I1.kIn (by rw [List.append_nil, ← r.length]; exact len _ _ _ _ q)
  rw [List.append_nil] at b
  exact wpAny_call (codeAny_mono (h4.run X.A X.stack s1 H1 ⟨us, []⟩ us vs Q E0 hgd hr I1.env0 b r q) fun z s' hz => match z, hz with
    | .ok (.ret _), hz => I1.after hz
    | .error e, hz => pass0 pins σ H1 s1 e s' I1 hz)

theorem fnGE {P : Program} {w : World} {K : PySem.W.Frag} {mg : Str → Option Value} {base : Heap} {j k : Nat} {f : Addr} {fd : FuncData} {ps : List Str} {sp : Addr → Sp} (hjk : j ≤ k) (h : ∀ r, FnG P w K mg base j f fd ps (sp r)) : FnG P w K mg base k f fd ps (spE sp) :=
  ⟨fun A outer s H args us vs Q E hg hr he hb hv ⟨r, hs⟩ => (h r).run A outer s H args us vs Q E hg (hr.mono hjk) he hb hv hs⟩
abbrev sLaw : Stmt := topS 45
abbrev nLaw : List Str := ["script", "spring", "turn", "plan", "held", "again", "nest", "row", "lot"]
theorem scLaw : FnScope nLaw ["script"] (defScope sLaw) := ⟨rfl, rfl, rfl, by decide +kernel, rfl, by decide +kernel, by decide +kernel⟩
def spLaw (K : PySem.W.Frag) (P1 P2 : Addr) : Sp := fun vs H Q _ => ∃ (a : Addr) (ns : List Int), vs = [.ref a] ∧ SqL K H a (ns.map V.int) ∧ ns.length ≤ 63 ∧ Tb P1 P2 H ∧ ∀ H', Q (.bl true) H'
theorem len_rgt {P1 P2 : Addr} : ∀ vs H Q E, (spE fun r => spRgt r P1 P2) vs H Q E → vs.length = ["spring", "plan", "handed"].length := fun vs H Q E ⟨_, _, _, _, _, e, _⟩ => by rw [e]; rfl
theorem two_at12 {j : Nat} (h : j < 2) : ∃ o : Option Int, atI [V.int 4, V.non] (0 + (j : Int)) = some (optV o) ∧ goodO o := by
  have hj : j = 0 ∨ j = 1 := by omega
  rcases hj with rfl | rfl
  · exact ⟨some 4, atI_nat (j := 0) rfl, by decide, by decide⟩
  · exact ⟨none, atI_nat (j := 1) rfl, trivial⟩
theorem alike_self (rs : List RowT) : AlikeP rs (.list (rs.map rowD)) := ⟨_, rfl, (rows_self rs).alike⟩
theorem lsD_b {rs : List RowT} (f : Fine rs) : B 100 10000000 (lsD rs) := (B.list (n := 8) (rowsL_b f (rows_lists rs)) (by rw [List.length_map]; exact f.hi)).mono (by decide) (by decide)
section
variable {P : Program} {w : World} {K : PySem.W.Frag} {mg : Str → Option Value} {base : Heap}
theorem ok_law {f P1 P2 : Addr} {fd : FuncData} (F : Fun K "law" "law" sLaw f fd) (T : Nm mg) (T2 : Nm2 mg)
    (CS : Cal P w K mg base 1 "_law_spring" ["script"] (spSpring K)) (CNe : Cal P w K mg base 3 "_law_near" ["spring", "ends"] (spE spNea))
    (CHa : Cal P w K mg base 6 "_law_handed" ["spring", "thing"] (spE spHan)) (CLi : Cal P w K mg base 5 "_law_lists" ["thing"] spLis3)
    (CRg : CalG P w K mg base 12 "_law_right" ["spring", "plan", "handed"] (spE fun r => spRgt r P1 P2)) (CNs : Cal P w K mg base 3 "_law_nest" ["spring"] (spE spNst)) : FnG P w K mg base 13 f fd ["script"] (spLaw K P1 P2) := by
  refine fng_of F scLaw (fun vs H Q E ⟨a, ns, e, _⟩ => by rw [e]; rfl) (fun cdv A outer s H vs Q E hgd hr h => ?_)
  obtain ⟨a, ns, rfl, hS, h63, hTb, q⟩ := h
  have nd := scLaw.nd
  refine ⟨_, (pss_cons (ps_set (i := 1) nd rfl (.inl rfl) (pe_cal (CS.mono (by decide)) hr (by rfl) (pa_cons (pv 0) pa_nil)))
      (pss_cons (ps_for PassesOwn.never rfl (pi_range1 (by rfl) T2.range (pa_cons (pe_op op_add pe_int (pe_callB (call_min2 rfl) (by rfl) T2.min (by decide +kernel) (pa_cons (pe_callB call_len_seq (by rfl) T.len PySem.boot_len (pa_cons (pv 0) pa_nil)) (pa_cons pe_int pa_nil)))) pa_nil)) (pg_name (i := 2) nd rfl (.inl rfl)) (pss_cons (ps_set (i := 3) nd rfl (.inl rfl) (pe_cal (CNe.mono (by decide)) hr (by rfl) (pa_cons (pv 1) (pa_cons pe_bl pa_nil))))
      (pss_cons (ps_if (pt_not (pt_val (pe_calG CRg hgd len_rgt hr (by rfl) (pa_cons (pv 1) (pa_cons (pv 3) (pa_cons (pe_cal (CHa.mono (by decide)) hr (by rfl) (pa_cons (pv 1) (pa_cons (pv 3) pa_nil))) pa_nil)))))) (pss_one (ps_ret pe_bl)) pss_nil)
      (pss_cons (ps_set (i := 4) nd rfl (.inl rfl) (pe_cal (CLi.mono (by decide)) hr (by rfl) (pa_cons (pv 3) pa_nil)))
      (pss_one (ps_for PassesOwn.never rfl (pi_range1 (by rfl) T2.range (pa_cons pe_int pa_nil)) (pg_name (i := 5) nd rfl (.inl rfl)) (pss_cons (ps_if (pt_not (pt_val (pe_calG CRg hgd len_rgt hr (by rfl) (pa_cons (pv 1) (pa_cons (pe_lc (own := [("row", 7), ("lot", 8)]) (g := (gSeq K 2 (gCons (gName 7) (gCons (gName 8) gNil)))) (tt := tYes) rfl nd (pi_list (pv 4)) (blkOk_by (own := [("row", 7), ("lot", 8)]) (N := nLaw) (sc := (defScope sLaw)) (by decide +kernel)) (fun _ _ _ _ _ => (pg_seq rfl (pgs_cons (pg_name (i := 7) nd rfl (.inl rfl) (.inr rfl)) (pgs_cons (pg_name (i := 8) nd rfl (.inl rfl) (.inr rfl)) pgs_nil)))) (fun _ _ _ _ _ => pts_nil) (fun _ _ _ _ _ => (pe_tup (pa_cons (pe_callTy cl_blk (by rfl) T.list (by decide +kernel) (pa_cons (pv 7) pa_nil)) (pa_cons (pv 8) pa_nil))))) (pa_cons (pv 4) pa_nil)))))) (pss_one (ps_ret pe_bl)) pss_nil)
      (pss_cons (ps_asg (pe_ix ix_list (pe_lst (pa_cons pe_int (pa_cons pe_non pa_nil))) (pv 5) (fun _ _ => rfl)) (pg_sub (pe_ix ix_list (pe_ix ix_list (pv 4) pe_int (fun _ _ => rfl)) pe_int (fun _ _ => rfl)) pe_int set_list))
      (pss_one (ps_expr (pe_bm PySem.F.plainAttrs_list PySem.F.slot_list_append PySem.F.type_list_append mt_append (pe_ix ix_list (pe_ix ix_list (pv 4) pe_int (fun _ _ => rfl)) pe_int (fun _ _ => rfl)) (pa_cons pe_int pa_nil))))))))))))
      (pss_cons (ps_set (i := 6) nd rfl (.inl rfl) (pe_cal (CNs.mono (by decide)) hr (by rfl) (pa_cons (pv 1) pa_nil)))
      (pss_one (ps_ret (pe_calG CRg hgd len_rgt hr (by rfl) (pa_cons (pv 1) (pa_cons (pv 6) (pa_cons (pv 6) pa_nil))))))))), ?_⟩
  refine ⟨.ref a, rfl, a, ns, rfl, hS, h63, fun r H1 s1 nr re1 => ?_⟩
  have lm : (ns.map V.int).length = ns.length := List.length_map ..
  refine ⟨.ref a, rfl, a, ns.map V.int, rfl, .inl (s1.seq hS), (ns.map V.int).length, 3, rfl, 2, _, rfl, rfl, _, rfl, by split <;> omega, by split <;> omega, ?_⟩
  refine for_range (lo := 0) (n := ((2 : Int) + (if (3 : Int) < ((ns.map V.int).length : Int) then 3 else ((ns.map V.int).length : Int))).toNat) (fun i σ H2 => ∃ y2 y3 y4 y5 y6 y7 y8, σ = [some (.ref a), some (.ref r), y2, y3, y4, y5, y6, y7, y8] ∧ ReelAt H2 r ∧ Tb P1 P2 H2)
    ⟨none, none, none, none, none, none, none, rfl, re1, hTb.same s1⟩ (fun i σ H2 hi hP => ?_) (fun σ H2 hP => ?_)
  rotate_left
  · obtain ⟨y2, y3, y4, y5, y6, y7, y8, rfl, re2, tb2⟩ := hP
    dsimp only []
    show tSeq _ _ _ [some (.ref a), some (.ref r), y2, y3, y4, y5, y6, y7, y8] H2
    refine ⟨.ref r, rfl, r, rfl, re2, fun np rs H3 re3 m3 rp3 hF => ?_⟩
    refine ⟨.ref r, rfl, .ref np, rfl, .ref np, rfl, r, np, np, rs, _, rfl, ⟨re3, tb2.mv re2 m3, rp3, rp3⟩, hF, alike_self rs, (rows_b hF).mono (by decide) (by decide), fun H4 _ _ _ => q H4⟩
  obtain ⟨y2, y3, y4, y5, y6, y7, y8, rfl, re2, tb2⟩ := hP
  refine ⟨.ref r, rfl, r, false, rfl, re2, fun pl rs H3 re3 m3 rp3 hF hN _ => ?_⟩
  have tb3 := tb2.mv re2 m3
  dsimp only []
  show tSeq _ _ _ [some (.ref a), some (.ref r), some (.int (0 + (i : Int))), some (.ref pl), y4, y5, y6, y7, y8] H3
  refine ⟨.ref r, rfl, .ref pl, rfl, .ref r, rfl, .ref pl, rfl, r, pl, rs, rfl, re3, rp3, hF, fun vh H5 re5 m5 hh => ?_⟩
  obtain ⟨d, ph, rfl, hd, hA, hB⟩ := handed_at hF hh
  have S5 : Pl r P1 P2 pl (.ref ph) rs d H5 := ⟨re5, tb3.mv re3 m5, Rp.sm (m5.hw (W := fun b => b = r) rfl) rp3, hd⟩
  refine ⟨r, pl, ph, rs, d, rfl, S5, hF, hA, hB, fun H6 re6 tb6 k6 => ⟨_, rfl, iteF ?_⟩⟩
  have S7 := S5.kx re6 tb6 k6
  dsimp only [tNext]
  refine ⟨.ref pl, rfl, pl, rs, rfl, Rp.sm (Hw.sub _ _) S7.fpl, hF, fun hp H8 s8 nhp hh8 => ?_⟩
  have G8' : G8 r P1 P2 hp rs H8 := ⟨S7.re.same s8, S7.tb.same s8, hh8.same (Hw.less (W := fun b => b = r) (W' := fun b => H6 b ≠ none) fun b hb => by rw [hb]; exact S7.re.some)⟩
  clear S5 S7 hA hB hd hh rp3 hh8
  refine ⟨2, rfl, by decide, by decide, ?_⟩
  refine for_range (lo := 0) (n := (2 : Int).toNat) (fun j σ H9 => ∃ w5 w6 w7 w8, σ = [some (.ref a), some (.ref r), some (.int (0 + (i : Int))), some (.ref pl), some (.ref hp), w5, w6, w7, w8] ∧ ∃ rs2, G8 r P1 P2 hp rs2 H9 ∧ Fine rs2 ∧ ∀ x, rs2.head? = some x → x.1.length ≤ 5 + j) ⟨y5, y6, y7, y8, rfl, rs, G8', hF, fun x hx => hN.short x (List.mem_of_mem_head? hx)⟩ (fun j σ H9 hj hP => ?_) (fun σ H9 hP => ?_)
  rotate_left
  · obtain ⟨w5, w6, w7, w8, rfl, rs2, G9, _, _⟩ := hP
    exact ⟨_, _, _, _, _, _, _, rfl, G9.re, G9.tb⟩
  obtain ⟨w5, w6, w7, w8, rfl, rs2, G9, hF2, hhd⟩ := hP
  have hj2 : j < 2 := hj
  obtain ⟨_, ys, e, hhp, hys⟩ := rp_list G9.he.rp
  cases e
  have hlx : ys.length = rs2.length := by rw [hys.length, List.length_map]
  have n8 : rs2.length ≤ 8 := hF2.hi
  dsimp only [gName]
  show tSeq _ _ _ [some (.ref a), some (.ref r), some (.int (0 + (i : Int))), some (.ref pl), some (.ref hp), some (.int (0 + (j : Int))), w6, w7, w8] H9
  refine ⟨.ref r, rfl, .ref hp, rfl, hp, rfl, ⟨_, SqL.of (Hw.sub _ _ _ _ hhp)⟩, fun D hD => ?_⟩
  have Dr := G9.re.new hD
  refine lc_list (xs := ys) (fun i H10 => Same H9 H10 ∧ ∃ ws, H10 D = some (.lst ws) ∧ ws.length = i ∧ RpAll (Hw (fun b => b = r ∨ b = D) H10) ws ((rs2.take i).map rowD)) ⟨same_upd hD, [], upd_same, rfl, .nil⟩ (fun i H10 _ ⟨s10, _⟩ => SqL.of (s10 _ _ (Hw.sub _ _ _ _ hhp))) (fun i xv H10 hx hP => ?_) (fun H10 hP => ?_)
  · obtain ⟨s10, ws, eD, lw, hw⟩ := hP
    obtain ⟨dx, hdx, hRx⟩ := hys.get hx
    obtain ⟨row, hrow, rfl⟩ : ∃ row, rs2[i]? = some row ∧ dx = .list [.list (row.1.map pdO), row.2] := by
      rw [List.getElem?_map] at hdx
      cases z : rs2[i]? with
      | none => rw [z] at hdx; cases hdx
      | some y => rw [z] at hdx; cases hdx; exact ⟨y, rfl, rfl⟩
    have li : i < rs2.length := (List.getElem?_eq_some_iff.mp hrow).1
    have g := hF2.row row (List.mem_of_getElem? hrow)
    obtain ⟨os, m⟩ := row
    obtain ⟨o, hm⟩ := goodrow_o g
    dsimp only at hm
    subst hm
    obtain ⟨b, ta, rfl, hb, hta⟩ := rowl_at hRx
    have hb' := s10 _ _ (Hw.sub _ _ _ _ hb)
    have hta' := s10 _ _ (Hw.sub _ _ _ _ hta)
    refine ⟨b, _, rfl, ⟨.inl hb'⟩, rfl, .ref ta, _, rfl, optV o, _, rfl, rfl, rfl, yesT ?_⟩
    refine ⟨.ref ta, rfl, ta, _, rfl, .inl (SqL.of hta'), fun A2 nA2 => ?_⟩
    have sA := same_upd (o := .lst (os.map optV)) nA2
    have eA : (upd H10 A2 (.lst (os.map optV))) A2 = some (.lst (os.map optV)) := upd_same
    have A2r : A2 ≠ r := (G9.re.same s10).new nA2
    have A2D : A2 ≠ D := fun z => by rw [z, eD] at nA2; cases nA2
    have eD2 := sA _ _ eD
    have s11 := s10.trans sA
    have hw2 := RpAll.sm (Same.hw (W := fun b => b = r ∨ b = D) sA) hw
    generalize upd H10 A2 (.lst (os.map optV)) = H11 at sA eA eD2 s11 hw2 ⊢
    refine ⟨optV o, rfl, small_le (by show 2 ≤ 1000; decide), fun p2 np2 => ?_⟩
    have sB := same_upd (o := .tup [.ref A2, optV o]) np2
    have eB : (upd H11 p2 (.tup [.ref A2, optV o])) p2 = some (.tup [.ref A2, optV o]) := upd_same
    have p2r : p2 ≠ r := (G9.re.same s11).new np2
    have p2D : p2 ≠ D := fun z => by rw [z, eD2] at np2; cases np2
    have hw3 := RpAll.sm (Same.hw (W := fun b => b = r ∨ b = D) sB) hw2
    have eA3 := sB _ _ eA
    have eD3 := sB _ _ eD2
    have s12 := s11.trans sB
    generalize upd H11 p2 (.tup [.ref A2, optV o]) = H12 at sB eB hw3 eA3 eD3 s12 ⊢
    refine ⟨ws, eD3, small1000 (by omega), same_updN s12 hD, ws ++ [.ref p2], upd_same, by rw [List.length_append, lw]; rfl, ?_⟩
    rw [hw_upd (.inr rfl), List.take_add_one, hrow, List.map_append]
    refine hw3.snoc (.tup (by rw [Hw.at (W := fun b => b = r ∨ b = D) (fun z => z.elim p2r p2D)]; exact eB) (.cons (.lst (by rw [Hw.at (W := fun b => b = r ∨ b = D) (fun z => z.elim A2r A2D)]; exact eA3) (rp_Ov os)) (.cons (by cases o <;> constructor) .nil)))
  · obtain ⟨s10, ws, eD, lw, hw⟩ := hP
    rw [hlx, List.take_length] at hw
    have G10 : G8 r P1 P2 hp rs2 H10 := G9.sm s10
    have P10 : Pl r P1 P2 D (.ref hp) rs2 (lsD rs2) H10 := ⟨G10.re, G10.tb, .lst (by rw [Hw.at (W := fun b => b = r) Dr]; exact eD) (RpAll.sm (Hw.less (W := fun b => b = r) (W' := fun b => b = r ∨ b = D) fun b hb => .inl hb) hw), G10.he.rp⟩
    dsimp only [tNil]
    refine ⟨.ref hp, rfl, r, D, hp, rs2, lsD rs2, rfl, P10, hF2, ls_alike rs2, lsD_b hF2, fun H15 re15 tb15 k15 => ⟨_, rfl, iteF ?_⟩⟩
    have S15 := G10.kx re15 tb15 k15
    clear P10 G10 G9 G8' hw
    dsimp only [tNext]
    refine ⟨small_le (by show 2 ≤ 1000; decide), fun q1 nq1 => ?_⟩
    have s18 := same_upd (o := .lst [.int 4, .non]) nq1
    have eq1 : (upd H15 q1 (.lst [.int 4, .non])) q1 = some (.lst [.int 4, .non]) := upd_same
    have S18 := S15.sm s18
    generalize upd H15 q1 (.lst [.int 4, .non]) = H18 at s18 eq1 S18 ⊢
    obtain ⟨ov, hov, hgo⟩ := two_at12 hj2
    have G18 := S18.he
    obtain ⟨re18, tb18, _⟩ := S18
    cases G18 with
    | mk qn tn os o2 vs rest h1 h2 h3 h4 h5 h7 h6 =>
    have tnr : tn ≠ r := Hw.ne (W := fun b => b = r) h3
    have l5 : os.length ≤ 5 + j := hhd _ rfl
    have g0 := hF2.row _ List.mem_cons_self
    have l1 : 1 ≤ os.length := g0.lo
    have h3' := Hw.sub _ _ _ _ h3
    refine ⟨.int (0 + (j : Int)), rfl, q1, _, 0 + (j : Int), optV ov, rfl, rfl, SqL.of eq1, hov, ?_⟩
    refine ⟨.ref hp, rfl, hp, _, 0, .ref qn, rfl, rfl, SqL.of (Hw.sub _ _ _ _ h1), atI_nat (j := 0) rfl, qn, _, 0, .ref tn, rfl, rfl, SqL.of (Hw.sub _ _ _ _ h2), atI_nat (j := 0) rfl, tn, _, ((0 : Nat) : Int), (0 : Nat), rfl, rfl, h3', ixN_of (show (0 : Nat) < (os.map optV).length by rw [List.length_map]; omega), ?_⟩
    rw [← List.map_set]
    have re19 := re18.store (o := .lst ((os.set 0 ov).map optV)) tnr
    have tb19 := tb_upd (o := .lst ((os.set 0 ov).map optV)) tb18 h3'
    have G19 : HeldAt (Hw (fun b => b = r) (upd H18 tn (.lst ((os.set 0 ov).map optV)))) hp ((os.set 0 ov, pdO o2) :: rest) := by
      rw [hw_upd_out (W := fun b => b = r) tnr]
      exact HeldAt.set h1 h2 h4 h5 h7 h6
    have e19 : (upd H18 tn (.lst ((os.set 0 ov).map optV))) tn = some (.lst ((os.set 0 ov).map optV)) := upd_same
    have k1 : (upd H18 tn (.lst ((os.set 0 ov).map optV))) hp = some (.lst (.ref qn :: vs)) := by rw [upd_ne h4.symm]; exact Hw.sub _ _ _ _ h1
    have k2 : (upd H18 tn (.lst ((os.set 0 ov).map optV))) qn = some (.lst [.ref tn, optV o2]) := by rw [upd_ne h5.symm]; exact Hw.sub _ _ _ _ h2
    have w1 : (Hw (fun b => b = r) (upd H18 tn (.lst ((os.set 0 ov).map optV)))) hp = some (.lst (.ref qn :: vs)) := by
      rw [hw_upd_out (W := fun b => b = r) tnr, upd_ne h4.symm]
      exact h1
    have w2 : (Hw (fun b => b = r) (upd H18 tn (.lst ((os.set 0 ov).map optV)))) qn = some (.lst [.ref tn, optV o2]) := by
      rw [hw_upd_out (W := fun b => b = r) tnr, upd_ne h5.symm]
      exact h2
    have w6 : RpAll (Hw (fun b => b = tn ∨ b = hp ∨ b = qn) (Hw (fun b => b = r) (upd H18 tn (.lst ((os.set 0 ov).map optV))))) vs (rest.map fun x => PyData.list [.list (x.1.map pdO), x.2]) := by
      rw [hw_upd_out (W := fun b => b = r) tnr, hw_upd (.inl rfl)]
      exact h6
    generalize upd H18 tn (.lst ((os.set 0 ov).map optV)) = H19 at re19 tb19 G19 e19 k1 k2 w1 w2 w6 ⊢
    refine ⟨.ref hp, rfl, hp, _, 0, .ref qn, rfl, rfl, SqL.of k1, atI_nat (j := 0) rfl, qn, _, 0, .ref tn, rfl, rfl, SqL.of k2, atI_nat (j := 0) rfl, .inl ⟨rfl, _, SqL.of e19⟩, tn, _, _, rfl, rfl, e19, small1000 (by rw [List.length_map, List.length_set]; omega), ?_⟩
    have e20 : (os.set 0 ov).map optV ++ [V.int 0] = (os.set 0 ov ++ [some 0]).map optV := by rw [List.map_append]; rfl
    rw [e20]
    refine ⟨_, _, _, _, rfl, (os.set 0 ov ++ [some 0], pdO o2) :: rest, ⟨re19.store tnr, tb_upd tb19 e19, ?_⟩, ?_, fun x hx => ?_⟩
    · rw [hw_upd_out (W := fun b => b = r) tnr]
      exact HeldAt.set w1 w2 h4 h5 h7 w6
    · refine fine_head hF2 (by rw [List.length_append, List.length_set]; omega) (by rw [List.length_append, List.length_set, List.length_singleton]; omega) fun y hy => ?_
      rcases List.mem_append.mp hy with hy | hy
      · rcases List.mem_or_eq_of_mem_set hy with hy | rfl
        · exact g0.pat y hy
        · exact hgo
      · rw [List.mem_singleton.mp hy]
        exact ⟨by decide, by decide⟩
    · cases hx
      show (os.set 0 ov ++ [some 0]).length ≤ _
      rw [List.length_append, List.length_set, List.length_singleton]
      omega
end
end CL
set_option Elab.async false
set_option linter.all false
set_option maxRecDepth 100000
set_option maxHeartbeats 4000000
namespace CL
open PySem PySem.Spec PyProof.Rows L2 GE
/-! ### the end: what is tracked when the law is called, and that the run leaves the heap as it was but for the tables -/
def H0 (ts : List Addr) (K : PySem.W.Frag) (a : Addr) (vs : List Value) (ns : List Int) : Hp := fun b =>
  if b ∈ ts then some (.tbl #[]) else if b = a ∧ (K.lookup a).isNone = true then some (.frz { cls := .type "list", data := .seq vs.toArray } (.lst (ns.map V.int))) else none
section
variable {ts : List Addr} {K : PySem.W.Frag} {a : Addr} {vs : List Value} {ns : List Int} {h : Heap}
theorem H0.tab {b : Addr} (m : b ∈ ts) : H0 ts K a vs ns b = some (.tbl #[]) := if_pos m
theorem H0.cases {b : Addr} {u : HO} (e : H0 ts K a vs ns b = some u) : (b ∈ ts ∧ u = .tbl #[]) ∨ (b = a ∧ K.lookup a = none ∧ u = .frz { cls := .type "list", data := .seq vs.toArray } (.lst (ns.map V.int))) := by
  unfold H0 at e
  split at e
  · rename_i m
    exact .inl ⟨m, (Option.some.inj e).symm⟩
  · split at e
    · rename_i z
      exact .inr ⟨z.1, Option.isNone_iff_eq_none.mp z.2, (Option.some.inj e).symm⟩
    · cases e
/-- an object that is no list and no empty table is not tracked -/
theorem H0.other (hT : ∀ b ∈ ts, h.get? b = some { cls := .none, data := .fields #[] }) (ha : h.get? a = some { cls := .type "list", data := .seq vs.toArray }) {b : Addr} {o : Obj} (e : h.get? b = some o) (h1 : o.data ≠ .seq vs.toArray) (h2 : o.data ≠ .fields #[]) :
    H0 ts K a vs ns b = none := by
  cases q : H0 ts K a vs ns b with
  | none => rfl
  | some u =>
    rcases H0.cases q with ⟨m, _⟩ | ⟨rfl, _, _⟩
    · rw [hT b m] at e
      cases e
      exact absurd rfl h2
    · rw [ha] at e
      cases e
      exact absurd rfl h1
end
theorem end_own {P : Program} {w : World} {K : PySem.W.Frag} {mg mb : Str → Option Value} {q : Program} {loose : List Str} {mean : ExcName → Option Value} {k : Nat} {fa a : Addr} {fd : FuncData} {x : Str} {sp : Sp} {s₁ : Shared} {vs : List Value} {ns : List Int} (ts : List Addr)
    (KX : K.In s₁.heap) (T : Top q loose mean mg mb s₁.heap) (hi0 : importsNone q = true) (hg : s₁.gens = #[])
    (hT : ∀ b ∈ ts, s₁.heap.get? b = some { cls := .none, data := .fields #[] }) (hC : ∀ b ∈ ts, ∃ c, PySem.W.codeHdIn K c b = true) (nT : ∀ b ∈ ts, K.lookup b = none)
    (ha : s₁.heap.get? a = some { cls := .type "list", data := .seq vs.toArray }) (hi : IntsAre vs ns) (hl : ns.length ≤ sizeLine) (hr : Room k callerA)
    (F : ∀ base : Heap, K.In base → base.Ns mainGlobals mg → (∃ o, base.get? sysModules = some o) → (∀ b ∈ ts, base.BuiltinsAt mg b ∧ mainGlobals ≠ b) → FnG P w K mg base k fa fd [x] sp)
    (hbind : ∀ (s : Shared) (u : Value), BindsTo s fd ⟨[u], []⟩ [(x, u)])
    (hsp : ∀ H : Hp, (∀ b ∈ ts, H b = some (.tbl #[])) → SqL K H a (ns.map V.int) → sp [.ref a] H (fun v _ => v = .bl true) fun _ _ _ => False) :
    codeAny (model P w) callerA (.call (.ref fa) ⟨[.ref a], []⟩) (fun r s' => r = .ok (.ret (.bool true)) ∧ OldK s₁.heap s'.heap ∧ s'.os = s₁.os ∧ AllBare s'.gens) s₁ := by
  have rv := vals_ints hi
  have aT : a ∉ ts := fun m => by
    have z := hT a m
    rw [ha] at z
    cases z
  generalize hH : H0 ts K a vs ns = H
  have tabs : ∀ b ∈ ts, H b = some (.tbl #[]) := fun b m => by rw [← hH]; exact H0.tab m
  have cs : ∀ {b : Addr} {u : HO}, H b = some u → (b ∈ ts ∧ u = .tbl #[]) ∨ (b = a ∧ K.lookup a = none ∧ u = .frz { cls := .type "list", data := .seq vs.toArray } (.lst (ns.map V.int))) := fun e => by
    rw [← hH] at e
    exact H0.cases e
  have oth : ∀ {b : Addr} {o : Obj}, s₁.heap.get? b = some o → o.data ≠ .seq vs.toArray → o.data ≠ .fields #[] → H b = none := fun e h1 h2 => by
    rw [← hH]
    exact H0.other hT ha e h1 h2
  have inB : ∀ {b : Addr} {o : Obj}, s₁.heap.get? b = some o → H b = none → (hidT s₁.heap H).get? b = some o := fun e n => hidT_get e n
  have nsB : ∀ {b : Addr} {m : Str → Option Value}, s₁.heap.Ns b m → (hidT s₁.heap H).Ns b m := fun ⟨o, es, ep, e, d, r⟩ => ⟨o, es, ep, inB e (oth e (by rw [d]; exact nofun) (by rw [d]; exact nofun)), d, r⟩
  have hok : HOk P w H s₁.heap := fun b u e => by
    rcases cs e with ⟨m, rfl⟩ | ⟨rfl, _, rfl⟩
    · exact hT b m
    · exact ⟨ha, by rw [List.length_map]; exact hl, vs, _, rv, ha⟩
  have hS : SqL K H a (ns.map V.int) := by
    cases hk : K.lookup a with
    | some o =>
      have e := KX a o hk
      rw [ha] at e
      cases e
      exact .inr ⟨_, vs.toArray, _, hk, rfl, rfl, rfl, by rw [List.size_toArray, hi.length]; exact hl, by simpa using rv⟩
    | none =>
      have e : H a = some (.frz { cls := .type "list", data := .seq vs.toArray } (.lst (ns.map V.int))) := by
        rw [← hH]
        unfold H0
        rw [if_neg aT, if_pos ⟨rfl, by rw [hk]; rfl⟩]
      exact .inl (.inr ⟨_, e⟩)
  have KB : K.In (hidT s₁.heap H) := fun b o e => inB (KX b o e) (by
    cases z : H b with
    | none => rfl
    | some u =>
      rcases cs z with ⟨m, _⟩ | ⟨rfl, n, _⟩
      · rw [nT b m] at e; cases e
      · rw [n] at e; cases e)
  have hM : L2.Mod K mg (hidT s₁.heap H) := ⟨KB, nsB T.g, ⟨mb, nsB T.b, T.builtins⟩, let ⟨mc, h1, h2⟩ := T.nolimit; ⟨mc, nsB h1, h2⟩⟩
  have sysB : ∃ o, (hidT s₁.heap H).get? sysModules = some o := by
    obtain ⟨mm, ⟨o, es, ep, e, d, _⟩, _⟩ := (T.seer hi0).mods
    exact ⟨o, inB e (oth e (by rw [d]; exact nofun) (by rw [d]; exact nofun))⟩
  have gB : ∀ b ∈ ts, mainGlobals ≠ b := fun b m z => by
    obtain ⟨o, es, ep, e, d, _⟩ := T.g
    rw [z, hT b m] at e
    cases e
    cases d
  have bB : ∀ b ∈ ts, (hidT s₁.heap H).BuiltinsAt mg b := fun b m => by
    obtain ⟨bm, ob, b1, b2, b3, b4, b5, b6⟩ := T.bmain
    refine ⟨bm, ob, b1, b2, fun z => ?_, fun z => ?_, inB b3 (oth b3 (by rw [b6]; exact nofun) (by rw [b6]; exact nofun)), b4, b5, b6⟩
    · obtain ⟨o, es, ep, e, d, _⟩ := T.g
      rw [z, e] at b3
      cases b3
      rw [d] at b6
      cases b6
    · rw [z, hT b m] at b3
      cases b3
      cases b6
  have e0 : Env0 P w K mg (hidT s₁.heap H) callerA [] s₁ H := ⟨rfl, hM, fun b o e => of_hidT e, Nat.le_of_eq (hidT_size _ _), trivial, fun b hb => absurd (show b ∈ ([] : List Addr) from hb) (by simp), hok, .of_eq hg⟩
  have G := F _ KB (nsB T.g) sysB fun b m => ⟨bB b m, gB b m⟩
  refine codeAny_mono (G.run callerA [] s₁ H ⟨[.ref a], []⟩ [.ref a] [.ref a] _ _ rfl hr e0 (hbind s₁ (.ref a)) (.cons rfl .nil) (hsp H tabs hS)) fun r s' z => ?_
  cases r with
  | error e => exact False.elim z
  | ok fl =>
    cases fl with
    | next => exact False.elim z
    | brk => exact False.elim z
    | cont => exact False.elim z
    | ret u =>
      obtain ⟨v, H', os, bare, un, hok', r', e'⟩ := z
      obtain rfl : v = .bl true := e'
      obtain rfl : u = Value.bool true := r'
      have stays : ∀ b o, b ∉ ts → s₁.heap.get? b = some o → s'.heap.get? b = some o := fun b o nb e => by
        cases z : H b with
        | none => exact un.keep b o e z (fun y => absurd (show b ∈ ([] : List Addr) from y) (by simp)) (by simp)
        | some u =>
          rcases cs z with ⟨m, _⟩ | ⟨rfl, _, rfl⟩
          · exact absurd m nb
          · rw [ha] at e
            cases e
            exact (hok' _ _ (un.frzs _ _ _ z)).1
      have grow : ∀ b ∈ ts, ∃ more : Array Value, s'.heap.get? b = some { cls := .none, data := .fields more } := fun b m => by
        obtain ⟨more, e⟩ := un.tbls b #[] (tabs b m)
        exact ⟨_, hok' b _ e⟩
      refine ⟨rfl, ⟨fun b o e => ?_, fun b o e => ?_⟩, os, bare⟩
      · by_cases m : b ∈ ts
        · obtain ⟨c, hc⟩ := hC b m
          obtain ⟨more, hm⟩ := grow b m
          rw [hT b m] at e
          cases e
          exact .inr (.inl ⟨((PySem.W.codeHd_of_K KX hc).tab (hT b m)).isCodeTable, rfl, #[], more, rfl, by rw [Array.empty_append]; exact hm⟩)
        · exact .inl (stays b o m e)
      · by_cases m : b ∈ ts
        · obtain ⟨more, hm⟩ := grow b m
          exact ⟨_, hm⟩
        · exact ⟨o, stays b o m e⟩
end CL
set_option Elab.async false
set_option linter.all false
set_option maxRecDepth 100000
set_option maxHeartbeats 4000000
namespace CL
open PySem PySem.Spec PyProof.Rows L2 GE
theorem fnE {P : Program} {w : World} {K : PySem.W.Frag} {mg : Str → Option Value} {base : Heap} {k : Nat} {f : Addr} {fd : FuncData} {ps : List Str} {sp : Addr → Sp} (F : ∀ r, FnOk P w K mg base CX0 k f fd ps (sp r)) : FnOk P w K mg base CX0 k f fd ps (spE sp) :=
  ⟨fun vs H Q E ⟨r, h⟩ => (F r).len vs H Q E h, fun A outer s H args us vs Q E hr e0 hb rv ⟨r, h⟩ => (F r).run A outer s H args us vs Q E hr e0 hb rv h⟩
/-- the table of a def of the program is empty when the law is called -/
theorem tab_of {q : Program} {loose : List Str} {mean : ExcName → Option Value} {mg mb : Str → Option Value} {h : Heap} {K : PySem.W.Frag} {n : Str} {f c P : Addr} {o : Obj} {fd : FuncData} (T : Top q loose mean mg mb h) (KX : K.In h) (hr : ((recsOf q).any fun e => e.name == n) = true)
    (hm : mg n = some (.ref f)) (k1 : K.lookup f = some o) (k2 : o.data = .func fd) (k3 : fd.code = .ref c) (hh : PySem.W.codeHdIn K c P = true) : h.get? P = some { cls := .none, data := .fields #[] } := by
  obtain ⟨d, hd, e⟩ := List.any_eq_true.mp hr
  have e' : d.name = n := beq_iff_eq.mp e
  obtain ⟨a', o', fd', c', P', t1, t2, t3, t4, t5, t6⟩ := T.tab d hd
  rw [e', hm] at t1
  cases t1
  rw [KX _ _ k1] at t2
  cases t2
  rw [k2] at t3
  cases t3
  rw [k3] at t4
  cases t4
  obtain ⟨⟨oc, vc, g1, _, g3, g4⟩, g5⟩ := t6
  obtain ⟨oh, uh, _, _, _, _, _, _, _, i1, _, i2, i3, _⟩ := PySem.W.codeHd_of_K KX hh
  rw [g1] at i1
  cases i1
  rw [g3] at i2
  cases i2
  rw [g4] at i3
  cases i3
  exact g5
/-- what the head must know of the law's def -/
def AtLaw (l : PySem.W.OpenLaw) (w : World) (K : PySem.W.Frag) (mg : Str → Option Value) (fa : Addr) (h : Heap) : Prop :=
  ∃ (fd : FuncData) (P1 P2 : Addr), (∀ b ∈ [P1, P2], h.get? b = some { cls := .none, data := .fields #[] }) ∧ (∀ b ∈ [P1, P2], ∃ c, PySem.W.codeHdIn K c b = true) ∧ (∀ b ∈ [P1, P2], K.lookup b = none) ∧ (∀ (s : Shared) (u : Value), BindsTo s fd ⟨[u], []⟩ [("script", u)]) ∧
    ∀ base : Heap, K.In base → base.Ns mainGlobals mg → (∃ o, base.get? sysModules = some o) → (∀ b ∈ [P1, P2], base.BuiltinsAt mg b ∧ mainGlobals ≠ b) → FnG l.prog w K mg base 13 fa fd ["script"] (spLaw K P1 P2)
theorem walk {l : PySem.W.OpenLaw} {q : Program} {loose : List Str} {XP : (Str → Option Value) → Heap → Prop} {YP : World → Heap → Prop} {d : DefRec} {K : Params → PySem.W.Frag} (hn : l.most = some 63) (hdf : d.params.defaults = []) (hi0 : importsNone q = true)
    (hY : ∀ (w : World) (h : Heap), YP w h → (K w.params).In h)
    (F : ∀ (w : World) (mg mb : Str → Option Value) (mean : ExcName → Option Value) (lo : List Str) (fa : Addr) (h : Heap), (K w.params).In h → Top q lo mean mg mb h → mg d.name = some (.ref fa) → AtLaw l w (K w.params) mg fa h) :
    PySem.W.WalkO q loose XP YP l.row.toRowW d [] (fun f vs => PySem.call f vs) := by
  refine Att.attach_callB hn hdf fun w s₀ s₁ mg mb fa o pm cd doc a vs ns G Y ho hd hcd hmg hobj hints hlen _ hg => ?_
  obtain ⟨fd, P1, P2, h1, h2, h3, h4, h5⟩ := F w mg mb _ _ fa s₁.heap (hY w _ Y) G.T hmg
  exact end_own [P1, P2] (hY w _ Y) G.T hi0 hg h1 h2 h3 hobj hints (Nat.le_trans hlen (by decide)) ⟨rfl, by decide, by decide⟩ h5 h4 fun H t hS => ⟨a, ns, rfl, hS, hlen, ⟨⟨#[], t P1 (by simp), trivial⟩, ⟨#[], t P2 (by simp), trivial⟩⟩, fun _ => rfl⟩
theorem all_mk {l : PySem.W.OpenLaw} {w : World} {K : PySem.W.Frag} {q : Program} {lo : List Str} {mean : ExcName → Option Value} {h : Heap} {mg mb : Str → Option Value} {fa fW fR fA fT fI fL fck fG fM fV fN fIn fse fwi fss fro fls fso fsa fwa fpo fpe fE fD fms flt fhd fnr fpp fsd frg fns fZ cT cL PT PL X1 X2 X3 X5 CR : Addr} (X : K.In h) (G : Top q lo mean mg mb h) (hfa : mg "law" = some (.ref fa))
    {odW anW : Option Addr} {slW : Array (Option Value)} {ocW kVW dcW pmW cdW ctW : Value}
    {odR anR : Option Addr} {slR : Array (Option Value)} {ocR kVR dcR pmR cdR ctR : Value}
    {odA anA : Option Addr} {slA : Array (Option Value)} {ocA kVA dcA pmA cdA ctA : Value}
    {odT anT : Option Addr} {slT : Array (Option Value)} {ocT kVT dcT pmT ctT : Value}
    {odI anI : Option Addr} {slI : Array (Option Value)} {ocI kVI dcI pmI cdI ctI : Value}
    {odL anL : Option Addr} {slL : Array (Option Value)} {ocL kVL dcL pmL ctL : Value}
    {odck anck : Option Addr} {slck : Array (Option Value)} {occk kVck dcck pmck cdck ctck : Value}
    {odG anG : Option Addr} {slG : Array (Option Value)} {ocG kVG dcG pmG cdG ctG : Value}
    {odM anM : Option Addr} {slM : Array (Option Value)} {ocM kVM dcM pmM cdM ctM : Value}
    {odV anV : Option Addr} {slV : Array (Option Value)} {ocV kVV dcV pmV cdV ctV : Value}
    {odN anN : Option Addr} {slN : Array (Option Value)} {ocN kVN dcN pmN cdN ctN : Value}
    {odIn anIn : Option Addr} {slIn : Array (Option Value)} {ocIn kVIn dcIn pmIn cdIn ctIn : Value}
    {odse anse : Option Addr} {slse : Array (Option Value)} {ocse kVse dcse pmse cdse ctse : Value}
    {odwi anwi : Option Addr} {slwi : Array (Option Value)} {ocwi kVwi dcwi pmwi cdwi ctwi : Value}
    {odss anss : Option Addr} {slss : Array (Option Value)} {ocss kVss dcss pmss cdss ctss : Value}
    {odro anro : Option Addr} {slro : Array (Option Value)} {ocro kVro dcro pmro cdro ctro : Value}
    {odls anls : Option Addr} {slls : Array (Option Value)} {ocls kVls dcls pmls cdls ctls : Value}
    {odso anso : Option Addr} {slso : Array (Option Value)} {ocso kVso dcso pmso cdso ctso : Value}
    {odsa ansa : Option Addr} {slsa : Array (Option Value)} {ocsa kVsa dcsa pmsa cdsa ctsa : Value}
    {odwa anwa : Option Addr} {slwa : Array (Option Value)} {ocwa kVwa dcwa pmwa cdwa ctwa : Value}
    {odpo anpo : Option Addr} {slpo : Array (Option Value)} {ocpo kVpo dcpo pmpo cdpo ctpo : Value}
    {odpe anpe : Option Addr} {slpe : Array (Option Value)} {ocpe kVpe dcpe pmpe cdpe ctpe : Value}
    {odE anE : Option Addr} {slE : Array (Option Value)} {ocE kVE dcE pmE cdE ctE : Value}
    {odD anD : Option Addr} {slD : Array (Option Value)} {ocD kVD dcD pmD cdD ctD : Value}
    {odms anms : Option Addr} {slms : Array (Option Value)} {ocms kVms dcms pmms cdms ctms : Value}
    {odlt anlt : Option Addr} {sllt : Array (Option Value)} {oclt kVlt dclt pmlt cdlt ctlt : Value}
    {odhd anhd : Option Addr} {slhd : Array (Option Value)} {ochd kVhd dchd pmhd cdhd cthd : Value}
    {odnr annr : Option Addr} {slnr : Array (Option Value)} {ocnr kVnr dcnr pmnr cdnr ctnr : Value}
    {odpp anpp : Option Addr} {slpp : Array (Option Value)} {ocpp kVpp dcpp pmpp cdpp ctpp : Value}
    {odsd ansd : Option Addr} {slsd : Array (Option Value)} {ocsd kVsd dcsd pmsd cdsd ctsd : Value}
    {odrg anrg : Option Addr} {slrg : Array (Option Value)} {ocrg kVrg dcrg pmrg cdrg ctrg : Value}
    {odns anns : Option Addr} {slns : Array (Option Value)} {ocns kVns dcns pmns cdns ctns : Value}
    {odZ anZ : Option Addr} {slZ : Array (Option Value)} {ocZ kVZ dcZ pmZ cdZ ctZ : Value} {eT : Value} {dT : Option Addr} {usT : Array Value} {wT : Array (Option Value)} {eL : Value} {dL : Option Addr} {usL : Array Value} {wL : Array (Option Value)}
    (gR : PySem.W.nsIn K mainGlobals "Run" = some (some (.ref CR)))
    (pgR : PySem.W.plainGet K CR Str.empty = true)
    (hdR : PySem.W.hasDictIn K CR = true)
    (poR : PySem.W.plainOver K CR = true)
    (saR : PySem.W.findIn K (.ref CR) "__setattr__" = some (some (.builtin "object.__setattr__")))
    (mkR : PySem.W.makesIn K CR = true)
    (kcR : PySem.W.keepIn K (.ref CR) = true)
    (nSt : PySem.W.findIn K (.ref CR) "steps" = some none)
    (nSp : PySem.W.findIn K (.ref CR) "spare" = some none)
    (nLe : PySem.W.findIn K (.ref CR) "length" = some none)
    (nTi : PySem.W.findIn K (.ref CR) "times" = some none)
    (aW : PySem.W.nsIn K mainGlobals "is_whole" = some (some (.ref fW))) (lW : K.lookup fW = some ⟨ocW, odW, .func (PySem.W.fnOf "is_whole" "is_whole" (defArgs sWhole) (defBody sWhole) (defScope sWhole) .none kVW dcW pmW anW cdW ctW), slW⟩) (Wc : PySem.W.codeIn K cdW "is_whole" = true) (kW : PySem.W.keepIn K (.ref fW) = true)
    (aR : PySem.W.nsIn K mainGlobals "is_row" = some (some (.ref fR))) (lR : K.lookup fR = some ⟨ocR, odR, .func (PySem.W.fnOf "is_row" "is_row" (defArgs sRow) (defBody sRow) (defScope sRow) .none kVR dcR pmR anR cdR ctR), slR⟩) (Rc : PySem.W.codeIn K cdR "is_row" = true) (kR : PySem.W.keepIn K (.ref fR) = true)
    (aA : PySem.W.nsIn K mainGlobals "is_patience" = some (some (.ref fA))) (lA : K.lookup fA = some ⟨ocA, odA, .func (PySem.W.fnOf "is_patience" "is_patience" (defArgs sPat) (defBody sPat) (defScope sPat) .none kVA dcA pmA anA cdA ctA), slA⟩) (Ac : PySem.W.codeIn K cdA "is_patience" = true) (kA : PySem.W.keepIn K (.ref fA) = true)
    (aT : PySem.W.nsIn K mainGlobals "is_turns" = some (some (.ref fT))) (lT : K.lookup fT = some ⟨ocT, odT, .func (PySem.W.fnOf "is_turns" "is_turns" (defArgs sTurns) (defBody sTurns) (defScope sTurns) .none kVT dcT pmT anT (.ref cT) ctT), slT⟩) (Tc : PySem.W.codeIn K (.ref cT) "is_turns" = true) (kT : PySem.W.keepIn K (.ref fT) = true)
    (aI : PySem.W.nsIn K mainGlobals "is_piece" = some (some (.ref fI))) (lI : K.lookup fI = some ⟨ocI, odI, .func (PySem.W.fnOf "is_piece" "is_piece" (defArgs sPiece) (defBody sPiece) (defScope sPiece) .none kVI dcI pmI anI cdI ctI), slI⟩) (Ic : PySem.W.codeIn K cdI "is_piece" = true) (kI : PySem.W.keepIn K (.ref fI) = true)
    (aL : PySem.W.nsIn K mainGlobals "is_plan" = some (some (.ref fL))) (lL : K.lookup fL = some ⟨ocL, odL, .func (PySem.W.fnOf "is_plan" "is_plan" (defArgs sPlan) (defBody sPlan) (defScope sPlan) .none kVL dcL pmL anL (.ref cL) ctL), slL⟩) (Lc : PySem.W.codeIn K (.ref cL) "is_plan" = true) (kL : PySem.W.keepIn K (.ref fL) = true)
    (ack : PySem.W.nsIn K mainGlobals "check_plan" = some (some (.ref fck))) (lck : K.lookup fck = some ⟨occk, odck, .func (PySem.W.fnOf "check_plan" "check_plan" (defArgs sCheck) (defBody sCheck) (defScope sCheck) .none kVck dcck pmck anck cdck ctck), slck⟩) (ckc : PySem.W.codeIn K cdck "check_plan" = true) (kck : PySem.W.keepIn K (.ref fck) = true)
    (aG : PySem.W.nsIn K mainGlobals "pieces_of" = some (some (.ref fG))) (lG : K.lookup fG = some ⟨ocG, odG, .func (PySem.W.fnOf "pieces_of" "pieces_of" (defArgs sPieces) (defBody sPieces) (defScope sPieces) .none kVG dcG pmG anG cdG ctG), slG⟩) (Gc : PySem.W.codeIn K cdG "pieces_of" = true) (kG : PySem.W.keepIn K (.ref fG) = true)
    (aM : PySem.W.nsIn K mainGlobals "many_in" = some (some (.ref fM))) (lM : K.lookup fM = some ⟨ocM, odM, .func (PySem.W.fnOf "many_in" "many_in" (defArgs sMany) (defBody sMany) (defScope sMany) .none kVM dcM pmM anM cdM ctM), slM⟩) (Mc : PySem.W.codeIn K cdM "many_in" = true) (kM : PySem.W.keepIn K (.ref fM) = true)
    (aV : PySem.W.nsIn K mainGlobals "piece_number" = some (some (.ref fV))) (lV : K.lookup fV = some ⟨ocV, odV, .func (PySem.W.fnOf "piece_number" "piece_number" (defArgs sPieceNo) (defBody sPieceNo) (defScope sPieceNo) .none kVV dcV pmV anV cdV ctV), slV⟩) (Vc : PySem.W.codeIn K cdV "piece_number" = true) (kV : PySem.W.keepIn K (.ref fV) = true)
    (aN : PySem.W.nsIn K mainGlobals "check_moment" = some (some (.ref fN))) (lN : K.lookup fN = some ⟨ocN, odN, .func (PySem.W.fnOf "check_moment" "check_moment" (defArgs sCkM) (defBody sCkM) (defScope sCkM) .none kVN dcN pmN anN cdN ctN), slN⟩) (Nc : PySem.W.codeIn K cdN "check_moment" = true) (kN : PySem.W.keepIn K (.ref fN) = true)
    (aIn : PySem.W.findIn K (.ref CR) "__init__" = some (some (.ref fIn))) (lIn : K.lookup fIn = some ⟨ocIn, odIn, .func (PySem.W.fnOf "__init__" "Run.__init__" (defArgs sInit) (defBody sInit) (defScope sInit) .none kVIn dcIn pmIn anIn cdIn ctIn), slIn⟩) (Inc : PySem.W.codeIn K cdIn "Run.__init__" = true) (kIn : PySem.W.keepIn K (.ref fIn) = true)
    (ase : PySem.W.nsIn K mainGlobals "stretch_end" = some (some (.ref fse))) (lse : K.lookup fse = some ⟨ocse, odse, .func (PySem.W.fnOf "stretch_end" "stretch_end" (defArgs sEnd) (defBody sEnd) (defScope sEnd) .none kVse dcse pmse anse cdse ctse), slse⟩) (sec : PySem.W.codeIn K cdse "stretch_end" = true) (kse : PySem.W.keepIn K (.ref fse) = true)
    (awi : PySem.W.nsIn K mainGlobals "window_widths" = some (some (.ref fwi))) (lwi : K.lookup fwi = some ⟨ocwi, odwi, .func (PySem.W.fnOf "window_widths" "window_widths" (defArgs sWid) (defBody sWid) (defScope sWid) .none kVwi dcwi pmwi anwi cdwi ctwi), slwi⟩) (wic : PySem.W.codeIn K cdwi "window_widths" = true) (kwi : PySem.W.keepIn K (.ref fwi) = true)
    (ass : PySem.W.nsIn K mainGlobals "stretch_steps" = some (some (.ref fss))) (lss : K.lookup fss = some ⟨ocss, odss, .func (PySem.W.fnOf "stretch_steps" "stretch_steps" (defArgs sSteps) (defBody sSteps) (defScope sSteps) .none kVss dcss pmss anss cdss ctss), slss⟩) (ssc : PySem.W.codeIn K cdss "stretch_steps" = true) (kss : PySem.W.keepIn K (.ref fss) = true)
    (aro : PySem.W.nsIn K mainGlobals "runs_on" = some (some (.ref fro))) (lro : K.lookup fro = some ⟨ocro, odro, .func (PySem.W.fnOf "runs_on" "runs_on" (defArgs sRuns) (defBody sRuns) (defScope sRuns) .none kVro dcro pmro anro cdro ctro), slro⟩) (roc : PySem.W.codeIn K cdro "runs_on" = true) (kro : PySem.W.keepIn K (.ref fro) = true)
    (als : PySem.W.nsIn K mainGlobals "last_step" = some (some (.ref fls))) (lls : K.lookup fls = some ⟨ocls, odls, .func (PySem.W.fnOf "last_step" "last_step" (defArgs sLstStep) (defBody sLstStep) (defScope sLstStep) .none kVls dcls pmls anls cdls ctls), slls⟩) (lsc : PySem.W.codeIn K cdls "last_step" = true) (kls : PySem.W.keepIn K (.ref fls) = true)
    (aso : PySem.W.nsIn K mainGlobals "spare_on" = some (some (.ref fso))) (lso : K.lookup fso = some ⟨ocso, odso, .func (PySem.W.fnOf "spare_on" "spare_on" (defArgs sSpareOn) (defBody sSpareOn) (defScope sSpareOn) .none kVso dcso pmso anso cdso ctso), slso⟩) (soc : PySem.W.codeIn K cdso "spare_on" = true) (kso : PySem.W.keepIn K (.ref fso) = true)
    (asa : PySem.W.nsIn K mainGlobals "spare_at" = some (some (.ref fsa))) (lsa : K.lookup fsa = some ⟨ocsa, odsa, .func (PySem.W.fnOf "spare_at" "spare_at" (defArgs sSpareAt) (defBody sSpareAt) (defScope sSpareAt) .none kVsa dcsa pmsa ansa cdsa ctsa), slsa⟩) (sac : PySem.W.codeIn K cdsa "spare_at" = true) (ksa : PySem.W.keepIn K (.ref fsa) = true)
    (awa : PySem.W.nsIn K mainGlobals "window_at" = some (some (.ref fwa))) (lwa : K.lookup fwa = some ⟨ocwa, odwa, .func (PySem.W.fnOf "window_at" "window_at" (defArgs sWinAt) (defBody sWinAt) (defScope sWinAt) .none kVwa dcwa pmwa anwa cdwa ctwa), slwa⟩) (wac : PySem.W.codeIn K cdwa "window_at" = true) (kwa : PySem.W.keepIn K (.ref fwa) = true)
    (apo : PySem.W.nsIn K mainGlobals "place_of" = some (some (.ref fpo))) (lpo : K.lookup fpo = some ⟨ocpo, odpo, .func (PySem.W.fnOf "place_of" "place_of" (defArgs sPlaceOf) (defBody sPlaceOf) (defScope sPlaceOf) .none kVpo dcpo pmpo anpo cdpo ctpo), slpo⟩) (poc : PySem.W.codeIn K cdpo "place_of" = true) (kpo : PySem.W.keepIn K (.ref fpo) = true)
    (ape : PySem.W.nsIn K mainGlobals "person_at" = some (some (.ref fpe))) (lpe : K.lookup fpe = some ⟨ocpe, odpe, .func (PySem.W.fnOf "person_at" "person_at" (defArgs sPersonAt) (defBody sPersonAt) (defScope sPersonAt) .none kVpe dcpe pmpe anpe cdpe ctpe), slpe⟩) (pec : PySem.W.codeIn K cdpe "person_at" = true) (kpe : PySem.W.keepIn K (.ref fpe) = true)
    (aE : PySem.W.nsIn K mainGlobals "_law_spring" = some (some (.ref fE))) (lE : K.lookup fE = some ⟨ocE, odE, .func (PySem.W.fnOf "_law_spring" "_law_spring" (defArgs sSpring) (defBody sSpring) (defScope sSpring) .none kVE dcE pmE anE cdE ctE), slE⟩) (Ec : PySem.W.codeIn K cdE "_law_spring" = true) (kE : PySem.W.keepIn K (.ref fE) = true)
    (aD : PySem.W.nsIn K mainGlobals "_law_draw" = some (some (.ref fD))) (lD : K.lookup fD = some ⟨ocD, odD, .func (PySem.W.fnOf "_law_draw" "_law_draw" (defArgs sDraw) (defBody sDraw) (defScope sDraw) .none kVD dcD pmD anD cdD ctD), slD⟩) (Dc : PySem.W.codeIn K cdD "_law_draw" = true) (kD : PySem.W.keepIn K (.ref fD) = true)
    (ams : PySem.W.nsIn K mainGlobals "_law_same" = some (some (.ref fms))) (lms : K.lookup fms = some ⟨ocms, odms, .func (PySem.W.fnOf "_law_same" "_law_same" (defArgs sSam) (defBody sSam) (defScope sSam) .none kVms dcms pmms anms cdms ctms), slms⟩) (msc : PySem.W.codeIn K cdms "_law_same" = true) (kms : PySem.W.keepIn K (.ref fms) = true)
    (alt : PySem.W.nsIn K mainGlobals "_law_lists" = some (some (.ref flt))) (llt : K.lookup flt = some ⟨oclt, odlt, .func (PySem.W.fnOf "_law_lists" "_law_lists" (defArgs sLis) (defBody sLis) (defScope sLis) .none kVlt dclt pmlt anlt cdlt ctlt), sllt⟩) (ltc : PySem.W.codeIn K cdlt "_law_lists" = true) (klt : PySem.W.keepIn K (.ref flt) = true)
    (ahd : PySem.W.nsIn K mainGlobals "_law_handed" = some (some (.ref fhd))) (lhd : K.lookup fhd = some ⟨ochd, odhd, .func (PySem.W.fnOf "_law_handed" "_law_handed" (defArgs sHan) (defBody sHan) (defScope sHan) .none kVhd dchd pmhd anhd cdhd cthd), slhd⟩) (hdc : PySem.W.codeIn K cdhd "_law_handed" = true) (khd : PySem.W.keepIn K (.ref fhd) = true)
    (anr : PySem.W.nsIn K mainGlobals "_law_near" = some (some (.ref fnr))) (lnr : K.lookup fnr = some ⟨ocnr, odnr, .func (PySem.W.fnOf "_law_near" "_law_near" (defArgs sNea) (defBody sNea) (defScope sNea) .none kVnr dcnr pmnr annr cdnr ctnr), slnr⟩) (nrc : PySem.W.codeIn K cdnr "_law_near" = true) (knr : PySem.W.keepIn K (.ref fnr) = true)
    (app : PySem.W.nsIn K mainGlobals "_law_people" = some (some (.ref fpp))) (lpp : K.lookup fpp = some ⟨ocpp, odpp, .func (PySem.W.fnOf "_law_people" "_law_people" (defArgs sPeo) (defBody sPeo) (defScope sPeo) .none kVpp dcpp pmpp anpp cdpp ctpp), slpp⟩) (ppc : PySem.W.codeIn K cdpp "_law_people" = true) (kpp : PySem.W.keepIn K (.ref fpp) = true)
    (asd : PySem.W.nsIn K mainGlobals "_law_stood" = some (some (.ref fsd))) (lsd : K.lookup fsd = some ⟨ocsd, odsd, .func (PySem.W.fnOf "_law_stood" "_law_stood" (defArgs sStd) (defBody sStd) (defScope sStd) .none kVsd dcsd pmsd ansd cdsd ctsd), slsd⟩) (sdc : PySem.W.codeIn K cdsd "_law_stood" = true) (ksd : PySem.W.keepIn K (.ref fsd) = true)
    (arg : PySem.W.nsIn K mainGlobals "_law_right" = some (some (.ref frg))) (lrg : K.lookup frg = some ⟨ocrg, odrg, .func (PySem.W.fnOf "_law_right" "_law_right" (defArgs sRgt) (defBody sRgt) (defScope sRgt) .none kVrg dcrg pmrg anrg cdrg ctrg), slrg⟩) (rgc : PySem.W.codeIn K cdrg "_law_right" = true) (krg : PySem.W.keepIn K (.ref frg) = true)
    (ans : PySem.W.nsIn K mainGlobals "_law_nest" = some (some (.ref fns))) (lns : K.lookup fns = some ⟨ocns, odns, .func (PySem.W.fnOf "_law_nest" "_law_nest" (defArgs sNst) (defBody sNst) (defScope sNst) .none kVns dcns pmns anns cdns ctns), slns⟩) (nsc : PySem.W.codeIn K cdns "_law_nest" = true) (kns : PySem.W.keepIn K (.ref fns) = true)
    (aZ : PySem.W.nsIn K mainGlobals "law" = some (some (.ref fZ))) (lZ : K.lookup fZ = some ⟨ocZ, odZ, .func (PySem.W.fnOf "law" "law" (defArgs sLaw) (defBody sLaw) (defScope sLaw) .none kVZ dcZ pmZ anZ cdZ ctZ), slZ⟩) (Zc : PySem.W.codeIn K cdZ "law" = true) (kZ : PySem.W.keepIn K (.ref fZ) = true)
    (iIn : PySem.W.isFn K (.ref fIn) = true)
    (z_isinstance : PySem.W.nsIn K mainGlobals "isinstance" = some none) (z_len : PySem.W.nsIn K mainGlobals "len" = some none) (z_all : PySem.W.nsIn K mainGlobals "all" = some none) (z_any : PySem.W.nsIn K mainGlobals "any" = some none) (z_sum : PySem.W.nsIn K mainGlobals "sum" = some none) (z_int : PySem.W.nsIn K mainGlobals "int" = some none) (z_bool : PySem.W.nsIn K mainGlobals "bool" = some none) (z_list : PySem.W.nsIn K mainGlobals "list" = some none) (z_tuple : PySem.W.nsIn K mainGlobals "tuple" = some none) (z_range : PySem.W.nsIn K mainGlobals "range" = some none) (z_min : PySem.W.nsIn K mainGlobals "min" = some none) (z_repr : PySem.W.nsIn K mainGlobals "repr" = some none) (z_enumerate : PySem.W.nsIn K mainGlobals "enumerate" = some none) (z_max : PySem.W.nsIn K mainGlobals "max" = some none) (z_divmod : PySem.W.nsIn K mainGlobals "divmod" = some none) (z_abs : PySem.W.nsIn K mainGlobals "abs" = some none) (z_str : PySem.W.nsIn K mainGlobals "str" = some none)
    (mT : K.lookup cT = some ⟨eT, dT, .fields usT, wT⟩) (pT : usT[11]? = some (.ref PT)) (qT : PySem.W.codeHdIn K cT PT = true) (nT : (K.lookup PT).isNone = true) (rT : ((recsOf q).any fun e => e.name == "is_turns") = true)
    (mL : K.lookup cL = some ⟨eL, dL, .fields usL, wL⟩) (pL : usL[11]? = some (.ref PL)) (qL : PySem.W.codeHdIn K cL PL = true) (nL : (K.lookup PL).isNone = true) (rL : ((recsOf q).any fun e => e.name == "is_plan") = true)
    (xg1 : PySem.W.nsIn K mainGlobals "NoPlan" = some (some (.ref X1)))
    (xx1 : PySem.W.excIn K X1 [.type "ValueError", .type "Exception", .type "BaseException", .type "object"] "ValueError.__new__" = true)
    (xk1 : PySem.W.keepIn K (.ref X1) = true)
    (xb1 : PySem.W.subIn K (.ref X1) (.type "BaseException") = some true)
    (xt1 : PySem.W.typeIn K (.ref X1) = some (.type "type"))
    (xg2 : PySem.W.nsIn K mainGlobals "NoPerson" = some (some (.ref X2)))
    (xx2 : PySem.W.excIn K X2 [.type "ValueError", .type "Exception", .type "BaseException", .type "object"] "ValueError.__new__" = true)
    (xk2 : PySem.W.keepIn K (.ref X2) = true)
    (xb2 : PySem.W.subIn K (.ref X2) (.type "BaseException") = some true)
    (xt2 : PySem.W.typeIn K (.ref X2) = some (.type "type"))
    (xg3 : PySem.W.nsIn K mainGlobals "NoMoment" = some (some (.ref X3)))
    (xx3 : PySem.W.excIn K X3 [.type "ValueError", .type "Exception", .type "BaseException", .type "object"] "ValueError.__new__" = true)
    (xk3 : PySem.W.keepIn K (.ref X3) = true)
    (xb3 : PySem.W.subIn K (.ref X3) (.type "BaseException") = some true)
    (xt3 : PySem.W.typeIn K (.ref X3) = some (.type "type"))
    (xg5 : PySem.W.nsIn K mainGlobals "NoPlace" = some (some (.ref X5)))
    (xx5 : PySem.W.excIn K X5 [.type "ValueError", .type "Exception", .type "BaseException", .type "object"] "ValueError.__new__" = true)
    (xk5 : PySem.W.keepIn K (.ref X5) = true)
    (xb5 : PySem.W.subIn K (.ref X5) (.type "BaseException") = some true)
    (xt5 : PySem.W.typeIn K (.ref X5) = some (.type "type"))
    {tg tl : Tok} (gG : PySem.W.nsIn K mainGlobals "GREATEST" = some (some (.int GREAT tg))) (gL : PySem.W.nsIn K mainGlobals "LONGEST" = some (some (.int 8 tl))) : AtLaw l w K mg fa h := by
  have e := hfa.symm.trans (PySem.W.mg_of X G.g aZ)
  cases e
  have FW := fun_mk (st := sWhole) lW Wc kW
  have FR := fun_mk (st := sRow) lR Rc kR
  have FA := fun_mk (st := sPat) lA Ac kA
  have FT := fun_mk (st := sTurns) lT Tc kT
  have FI := fun_mk (st := sPiece) lI Ic kI
  have FL := fun_mk (st := sPlan) lL Lc kL
  have Fck := fun_mk (st := sCheck) lck ckc kck
  have FG := fun_mk (st := sPieces) lG Gc kG
  have FM := fun_mk (st := sMany) lM Mc kM
  have FV := fun_mk (st := sPieceNo) lV Vc kV
  have FN := fun_mk (st := sCkM) lN Nc kN
  have FIn := fun_mk (st := sInit) lIn Inc kIn
  have Fse := fun_mk (st := sEnd) lse sec kse
  have Fwi := fun_mk (st := sWid) lwi wic kwi
  have Fss := fun_mk (st := sSteps) lss ssc kss
  have Fro := fun_mk (st := sRuns) lro roc kro
  have Fls := fun_mk (st := sLstStep) lls lsc kls
  have Fso := fun_mk (st := sSpareOn) lso soc kso
  have Fsa := fun_mk (st := sSpareAt) lsa sac ksa
  have Fwa := fun_mk (st := sWinAt) lwa wac kwa
  have Fpo := fun_mk (st := sPlaceOf) lpo poc kpo
  have Fpe := fun_mk (st := sPersonAt) lpe pec kpe
  have FE := fun_mk (st := sSpring) lE Ec kE
  have FD := fun_mk (st := sDraw) lD Dc kD
  have Fms := fun_mk (st := sSam) lms msc kms
  have Flt := fun_mk (st := sLis) llt ltc klt
  have Fhd := fun_mk (st := sHan) lhd hdc khd
  have Fnr := fun_mk (st := sNea) lnr nrc knr
  have Fpp := fun_mk (st := sPeo) lpp ppc kpp
  have Fsd := fun_mk (st := sStd) lsd sdc ksd
  have Frg := fun_mk (st := sRgt) lrg rgc krg
  have Fns := fun_mk (st := sNst) lns nsc kns
  have FZ := fun_mk (st := sLaw) lZ Zc kZ
  have bW := FW.binds (ps := ["thing"]) fun _ _ _ _ _ _ us hl => match us, hl with | [_], _ => rfl
  have bR := FR.binds (ps := ["thing"]) fun _ _ _ _ _ _ us hl => match us, hl with | [_], _ => rfl
  have bA := FA.binds (ps := ["thing"]) fun _ _ _ _ _ _ us hl => match us, hl with | [_], _ => rfl
  have bT := FT.binds (ps := ["thing"]) fun _ _ _ _ _ _ us hl => match us, hl with | [_], _ => rfl
  have bI := FI.binds (ps := ["thing"]) fun _ _ _ _ _ _ us hl => match us, hl with | [_], _ => rfl
  have bL := FL.binds (ps := ["thing"]) fun _ _ _ _ _ _ us hl => match us, hl with | [_], _ => rfl
  have bck := Fck.binds (ps := ["thing"]) fun _ _ _ _ _ _ us hl => match us, hl with | [_], _ => rfl
  have bG := FG.binds (ps := ["plan"]) fun _ _ _ _ _ _ us hl => match us, hl with | [_], _ => rfl
  have bM := FM.binds (ps := ["pieces"]) fun _ _ _ _ _ _ us hl => match us, hl with | [_], _ => rfl
  have bV := FV.binds (ps := ["pieces", "person"]) fun _ _ _ _ _ _ us hl => match us, hl with | [_, _], _ => rfl
  have bN := FN.binds (ps := ["pieces", "moment"]) fun _ _ _ _ _ _ us hl => match us, hl with | [_, _], _ => rfl
  have bIn := FIn.binds (ps := ["self", "steps", "room"]) fun _ _ _ _ _ _ us hl => match us, hl with | [_, _, _], _ => rfl
  have bse := Fse.binds (ps := ["piece", "start", "bound", "stop"]) fun _ _ _ _ _ _ us hl => match us, hl with | [_, _, _, _], _ => rfl
  have bwi := Fwi.binds (ps := ["turns", "start", "bound"]) fun _ _ _ _ _ _ us hl => match us, hl with | [_, _, _], _ => rfl
  have bss := Fss.binds (ps := ["piece", "start", "bound", "end"]) fun _ _ _ _ _ _ us hl => match us, hl with | [_, _, _, _], _ => rfl
  have bro := Fro.binds (ps := ["pieces", "start", "bound", "stop"]) fun _ _ _ _ _ _ us hl => match us, hl with | [_, _, _, _], _ => rfl
  have bls := Fls.binds (ps := ["runs"]) fun _ _ _ _ _ _ us hl => match us, hl with | [_], _ => rfl
  have bso := Fso.binds (ps := ["runs"]) fun _ _ _ _ _ _ us hl => match us, hl with | [_], _ => rfl
  have bsa := Fsa.binds (ps := ["runs", "number"]) fun _ _ _ _ _ _ us hl => match us, hl with | [_, _], _ => rfl
  have bwa := Fwa.binds (ps := ["runs", "place"]) fun _ _ _ _ _ _ us hl => match us, hl with | [_, _], _ => rfl
  have bpo := Fpo.binds (ps := ["plan", "moment", "person"]) fun _ _ _ _ _ _ us hl => match us, hl with | [_, _, _], _ => rfl
  have bpe := Fpe.binds (ps := ["plan", "moment", "place"]) fun _ _ _ _ _ _ us hl => match us, hl with | [_, _, _], _ => rfl
  have bE := FE.binds (ps := ["script"]) fun _ _ _ _ _ _ us hl => match us, hl with | [_], _ => rfl
  have bD := FD.binds (ps := ["spring", "many"]) fun _ _ _ _ _ _ us hl => match us, hl with | [_, _], _ => rfl
  have bms := Fms.binds (ps := ["found", "due"]) fun _ _ _ _ _ _ us hl => match us, hl with | [_, _], _ => rfl
  have blt := Flt.binds (ps := ["thing"]) fun _ _ _ _ _ _ us hl => match us, hl with | [_], _ => rfl
  have bhd := Fhd.binds (ps := ["spring", "thing"]) fun _ _ _ _ _ _ us hl => match us, hl with | [_, _], _ => rfl
  have bnr := Fnr.binds (ps := ["spring", "ends"]) fun _ _ _ _ _ _ us hl => match us, hl with | [_, _], _ => rfl
  have bpp := Fpp.binds (ps := ["plan", "most"]) fun _ _ _ _ _ _ us hl => match us, hl with | [_, _], _ => rfl
  have bsd := Fsd.binds (ps := ["patiences"]) fun _ _ _ _ _ _ us hl => match us, hl with | [_], _ => rfl
  have brg := Frg.binds (ps := ["spring", "plan", "handed"]) fun _ _ _ _ _ _ us hl => match us, hl with | [_, _, _], _ => rfl
  have bns := Fns.binds (ps := ["spring"]) fun _ _ _ _ _ _ us hl => match us, hl with | [_], _ => rfl
  have bZ := FZ.binds (ps := ["script"]) fun _ _ _ _ _ _ us hl => match us, hl with | [_], _ => rfl
  have CT : FunC K "is_turns" "is_turns" sTurns fT _ cT := ⟨⟨ocT, odT, kVT, dcT, pmT, anT, ctT, slT, rfl, lT, Tc⟩, kT⟩
  have CL : FunC K "is_plan" "is_plan" sPlan fL _ cL := ⟨⟨ocL, odL, kVL, dcL, pmL, anL, ctL, slL, rfl, lL, Lc⟩, kL⟩
  have m := fun {n : Str} (e : PySem.W.nsIn K mainGlobals n = some none) => PySem.W.mg_none_of X G.g e
  have g := fun {n : Str} {v : Value} (e : PySem.W.nsIn K mainGlobals n = some (some v)) => PySem.W.mg_of X G.g e
  have T : Nm mg := ⟨m z_isinstance, m z_len, m z_all, m z_any, m z_sum, m z_int, m z_bool, m z_list, m z_tuple, ⟨_, g gG⟩, ⟨_, g gL⟩⟩
  have T2 : Nm2 mg := ⟨m z_range, m z_min, m z_repr, m z_enumerate⟩
  have XC1 : ExcC K mg "NoPlan" X1 := ⟨g xg1, xx1, xk1, xb1, xt1⟩
  have XC2 : ExcC K mg "NoPerson" X2 := ⟨g xg2, xx2, xk2, xb2, xt2⟩
  have XC3 : ExcC K mg "NoMoment" X3 := ⟨g xg3, xx3, xk3, xb3, xt3⟩
  have XC5 : ExcC K mg "NoPlace" X5 := ⟨g xg5, xx5, xk5, xb5, xt5⟩
  have TR : RunC K mg CR fIn := ⟨⟨pgR, hdR, poR, saR⟩, nSt, nSp, nLe, nTi, g gR, ⟨mkR, aIn, iIn, kcR⟩⟩
  have nT' := Option.isNone_iff_eq_none.mp nT
  have nL' := Option.isNone_iff_eq_none.mp nL
  refine ⟨PySem.W.fnOf "law" "law" (defArgs sLaw) (defBody sLaw) (defScope sLaw) .none kVZ dcZ pmZ anZ cdZ ctZ, PT, PL, fun b hb => ?_, fun b hb => ?_, fun b hb => ?_, fun s v => .of_eq rfl, fun base _ _ hsys hB => ?_⟩
  · rcases List.mem_cons.mp hb with rfl | hb
    · exact tab_of G X rT (PySem.W.mg_of X G.g aT) lT rfl rfl qT
    · rw [List.mem_singleton.mp hb]
      exact tab_of G X rL (PySem.W.mg_of X G.g aL) lL rfl rfl qL
  · rcases List.mem_cons.mp hb with rfl | hb
    · exact ⟨_, qT⟩
    · rw [List.mem_singleton.mp hb]
      exact ⟨_, qL⟩
  · rcases List.mem_cons.mp hb with rfl | hb
    · exact nT'
    · rw [List.mem_singleton.mp hb]
      exact nL'
  · have XB : K.In base := ‹K.In base›
    have TB1 : GxR.TabB base mg cT PT := ⟨PySem.W.codeHd_of_K XB qT, (hB PT (by simp)).1, (hB PT (by simp)).2⟩
    have TB2 : GxR.TabB base mg cL PL := ⟨PySem.W.codeHd_of_K XB qL, (hB PL (by simp)).1, (hB PL (by simp)).2⟩
    have KW : Cal l.prog w K mg base 1 "is_whole" ["thing"] (spOne isWhole) := ⟨fW, _, g aW, kW, bW, ok_whole FW T⟩
    have KR : Cal l.prog w K mg base 1 "is_row" ["thing"] (spOne isRow) := ⟨fR, _, g aR, kR, bR, ok_row FR T⟩
    have KA : Cal l.prog w K mg base 2 "is_patience" ["thing"] (spOne isPatience) := ⟨fA, _, g aA, kA, bA, ok_pat FA T KW⟩
    have KT : Cal l.prog w K mg base 4 "is_turns" ["thing"] (spTab PT PL isTurns) := ⟨fT, _, g aT, kT, bT, ok_turns CT T TB1 KR KA⟩
    have KI : Cal l.prog w K mg base 5 "is_piece" ["thing"] (spTab PT PL isPiece) := ⟨fI, _, g aI, kI, bI, ok_piece FI T KW KR KT⟩
    have KP : Cal l.prog w K mg base 7 "is_plan" ["thing"] (spTab PT PL isPlan) := ⟨fL, _, g aL, kL, bL, ok_plan CL T TB2 KR KI⟩
    have Kck : CalX l.prog w K mg base 8 "check_plan" ["thing"] (spCheck PT PL X1) := ⟨fck, _, g ack, kck, bck, ok_check Fck XC1 KP⟩
    have KG : CalX l.prog w K mg base 9 "pieces_of" ["plan"] (spPieces PT PL X1) := ⟨fG, _, g aG, kG, bG, ok_pieces FG T Kck⟩
    have KM : Cal l.prog w K mg base 1 "many_in" ["pieces"] (spMany) := ⟨fM, _, g aM, kM, bM, ok_many FM⟩
    have KV : Cal l.prog w K mg base 1 "piece_number" ["pieces", "person"] (spPieceNo) := ⟨fV, _, g aV, kV, bV, ok_pieceNo FV⟩
    have KN : CalX l.prog w K mg base 2 "check_moment" ["pieces", "moment"] (spCkM X3) := ⟨fN, _, g aN, kN, bN, ok_ckm FN T XC3 KM KW⟩
    have Kse : Cal l.prog w K mg base 1 "stretch_end" ["piece", "start", "bound", "stop"] (spEnd) := ⟨fse, _, g ase, kse, bse, ok_end Fse (m z_min)⟩
    have Kwi : Cal l.prog w K mg base 1 "window_widths" ["turns", "start", "bound"] (spWid) := ⟨fwi, _, g awi, kwi, bwi, ok_wid Fwi⟩
    have Kss : Cal l.prog w K mg base 2 "stretch_steps" ["piece", "start", "bound", "end"] (spSteps) := ⟨fss, _, g ass, kss, bss, ok_steps Fss T (m z_max) Kwi⟩
    have FI1 := ok_init (P := l.prog) (w := w) (base := base) FIn T (m z_max) TR
    have Kro : Cal l.prog w K mg base 3 "runs_on" ["pieces", "start", "bound", "stop"] (spRuns CR) := ⟨fro, _, g aro, kro, bro, ok_runs Fro TR FI1 bIn KV Kse Kss⟩
    have Kls : Cal l.prog w K mg base 1 "last_step" ["runs"] (spLast CR) := ⟨fls, _, g als, kls, bls, ok_last Fls TR⟩
    have Kso : Cal l.prog w K mg base 1 "spare_on" ["runs"] (spSpareOn CR) := ⟨fso, _, g aso, kso, bso, ok_spareOn Fso T TR⟩
    have Ksa : Cal l.prog w K mg base 1 "spare_at" ["runs", "number"] (spSpareAt CR) := ⟨fsa, _, g asa, ksa, bsa, ok_spareAt Fsa (m z_divmod) TR⟩
    have Kwa : Cal l.prog w K mg base 1 "window_at" ["runs", "place"] (spWinAt CR) := ⟨fwa, _, g awa, kwa, bwa, ok_winAt Fwa (m z_divmod) TR⟩
    have Kpo : CalX l.prog w K mg base 10 "place_of" ["plan", "moment", "person"] (spPlaceOf PT PL X1 X3 X2) := ⟨fpo, _, g apo, kpo, bpo, ok_placeOf Fpo XC2 KW KG KN Kro Kls Kso⟩
    have Kpe : CalX l.prog w K mg base 10 "person_at" ["plan", "moment", "place"] (spPersonAt PT PL X1 X3 X5) := ⟨fpe, _, g ape, kpe, bpe, ok_personAt Fpe XC5 KW KG KN Kro Kso Ksa Kwa⟩
    have KE : Cal l.prog w K mg base 1 "_law_spring" ["script"] (spSpring K) := ⟨fE, _, g aE, kE, bE, ok_spring FE (m z_abs)⟩
    have kd : ∀ r, Cal l.prog w K mg base 1 "_law_draw" ["spring", "many"] (spDraw r) := fun r => ⟨fD, _, g aD, kD, bD, ok_draw FD⟩
    have KD : Cal l.prog w K mg base 1 "_law_draw" ["spring", "many"] (spE spDraw) := ⟨fD, _, g aD, kD, bD, fnE fun r => ok_draw FD⟩
    have ks0 : Cal l.prog w K mg base 1 "_law_same" ["found", "due"] (spNo) := ⟨fms, _, g ams, kms, bms, ok_samNo Fms⟩
    have ks1 : Cal l.prog w K mg base 2 "_law_same" ["found", "due"] (spSam 0) := ⟨fms, _, g ams, kms, bms, ok_sam (n := 0) Fms T T2.range (m z_str) ks0⟩
    have ks2 : Cal l.prog w K mg base 3 "_law_same" ["found", "due"] (spSam 1) := ⟨fms, _, g ams, kms, bms, ok_sam (n := 1) Fms T T2.range (m z_str) ks1⟩
    have Ksm : Cal l.prog w K mg base 4 "_law_same" ["found", "due"] (spSam 2) := ⟨fms, _, g ams, kms, bms, ok_sam (n := 2) Fms T T2.range (m z_str) ks2⟩
    have kl0 : Cal l.prog w K mg base 1 "_law_lists" ["thing"] (spNo) := ⟨flt, _, g alt, klt, blt, ok_no Flt⟩
    have kl1 : Cal l.prog w K mg base 2 "_law_lists" ["thing"] (spLis0) := ⟨flt, _, g alt, klt, blt, ok_lis0 Flt T kl0⟩
    have kl2 : Cal l.prog w K mg base 3 "_law_lists" ["thing"] (spLis1) := ⟨flt, _, g alt, klt, blt, ok_lis1 Flt T kl1⟩
    have kl3 : Cal l.prog w K mg base 4 "_law_lists" ["thing"] (spLis2) := ⟨flt, _, g alt, klt, blt, ok_lis2 Flt T kl2⟩
    have Klt : Cal l.prog w K mg base 5 "_law_lists" ["thing"] (spLis3) := ⟨flt, _, g alt, klt, blt, ok_lis3 Flt T kl3⟩
    have Khd : Cal l.prog w K mg base 6 "_law_handed" ["spring", "thing"] (spE spHan) := ⟨fhd, _, g ahd, khd, bhd, fnE fun r => ok_han Fhd T ((kd r).mono (by decide)) (kl3.mono (by decide)) Klt⟩
    have Knr : Cal l.prog w K mg base 3 "_law_near" ["spring", "ends"] (spE spNea) := ⟨fnr, _, g anr, knr, bnr, fnE fun r => ok_nea Fnr T T2.range ((kd r).mono (by decide))⟩
    have Kpp : Cal l.prog w K mg base 1 "_law_people" ["plan", "most"] (spPeo) := ⟨fpp, _, g app, kpp, bpp, ok_peo Fpp T T2.range T2.min⟩
    have Ksd : Cal l.prog w K mg base 1 "_law_stood" ["patiences"] (spStd K) := ⟨fsd, _, g asd, ksd, bsd, ok_std Fsd T T2.range⟩
    have Krg : CalG l.prog w K mg base 12 "_law_right" ["spring", "plan", "handed"] (spE fun r => spRgt r PT PL) := ⟨frg, _, g arg, krg, brg, fnGE (j := 11) (by decide) fun r => ok_rgt Frg T T2 hsys (kd r) Kpp Ksd (Ksm.mono (by decide)) Kpe Kpo⟩
    have Kns : Cal l.prog w K mg base 3 "_law_nest" ["spring"] (spE spNst) := ⟨fns, _, g ans, kns, bns, fnE fun r => ok_nst Fns T T2.range (kd r)⟩
    exact ok_law FZ T T2 KE Knr Khd Klt Krg Kns
end CL
open PySem PySem.W PyProof.Rows
set_option maxRecDepth 100000 in
set_option maxHeartbeats 0 in
theorem PySem.Challenge.cw_comersline_k12_places_near_holds : PySem.Challenge.rw_comersline_k12_places_near.Holds := by
  w_on; o_law; k_head; (case hw => w_witness2)
  k_fill
  refine CL.walk (l := PySem.Challenge.rw_comersline_k12_places_near) rfl rfl (by decide +kernel) (fun w h Y => PySem.W.kIn_of Y) ?F
  case F =>
    intro w mg mb mean lo fa h KX G hmg
    refine' CL.all_mk KX G hmg ?gR ?pgR ?hdR ?poR ?saR ?mkR ?kcR ?nSt ?nSp ?nLe ?nTi ?aW ?lW ?Wc ?kW ?aR ?lR ?Rc ?kR ?aA ?lA ?Ac ?kA ?aT ?lT ?Tc ?kT ?aI ?lI ?Ic ?kI ?aL ?lL ?Lc ?kL ?ack ?lck ?ckc ?kck ?aG ?lG ?Gc ?kG ?aM ?lM ?Mc ?kM ?aV ?lV ?Vc ?kV ?aN ?lN ?Nc ?kN ?aIn ?lIn ?Inc ?kIn ?ase ?lse ?sec ?kse ?awi ?lwi ?wic ?kwi ?ass ?lss ?ssc ?kss ?aro ?lro ?roc ?kro ?als ?lls ?lsc ?kls ?aso ?lso ?soc ?kso ?asa ?lsa ?sac ?ksa ?awa ?lwa ?wac ?kwa ?apo ?lpo ?poc ?kpo ?ape ?lpe ?pec ?kpe ?aE ?lE ?Ec ?kE ?aD ?lD ?Dc ?kD ?ams ?lms ?msc ?kms ?alt ?llt ?ltc ?klt ?ahd ?lhd ?hdc ?khd ?anr ?lnr ?nrc ?knr ?app ?lpp ?ppc ?kpp ?asd ?lsd ?sdc ?ksd ?arg ?lrg ?rgc ?krg ?ans ?lns ?nsc ?kns ?aZ ?lZ ?Zc ?kZ ?iIn ?z_isinstance ?z_len ?z_all ?z_any ?z_sum ?z_int ?z_bool ?z_list ?z_tuple ?z_range ?z_min ?z_repr ?z_enumerate ?z_max ?z_divmod ?z_abs ?z_str ?mT ?pT ?qT ?nT ?rT ?mL ?pL ?qL ?nL ?rL ?xg1 ?xx1 ?xk1 ?xb1 ?xt1 ?xg2 ?xx2 ?xk2 ?xb2 ?xt2 ?xg3 ?xx3 ?xk3 ?xb3 ?xt3 ?xg5 ?xx5 ?xk5 ?xb5 ?xt5 ?gG ?gL
    (case gR => k_is)
    (case pgR => k_is)
    (case hdR => k_is)
    (case poR => k_is)
    (case saR => k_is)
    (case mkR => k_is)
    (case kcR => k_is)
    (case nSt => k_is)
    (case nSp => k_is)
    (case nLe => k_is)
    (case nTi => k_is)
    (case aW => k_is)
    (case lW => k_is)
    (case Wc => k_is)
    (case kW => k_is)
    (case aR => k_is)
    (case lR => k_is)
    (case Rc => k_is)
    (case kR => k_is)
    (case aA => k_is)
    (case lA => k_is)
    (case Ac => k_is)
    (case kA => k_is)
    (case aT => k_is)
    (case lT => k_is)
    (case Tc => k_is)
    (case kT => k_is)
    (case aI => k_is)
    (case lI => k_is)
    (case Ic => k_is)
    (case kI => k_is)
    (case aL => k_is)
    (case lL => k_is)
    (case Lc => k_is)
    (case kL => k_is)
    (case ack => k_is)
    (case lck => k_is)
    (case ckc => k_is)
    (case kck => k_is)
    (case aG => k_is)
    (case lG => k_is)
    (case Gc => k_is)
    (case kG => k_is)
    (case aM => k_is)
    (case lM => k_is)
    (case Mc => k_is)
    (case kM => k_is)
    (case aV => k_is)
    (case lV => k_is)
    (case Vc => k_is)
    (case kV => k_is)
    (case aN => k_is)
    (case lN => k_is)
    (case Nc => k_is)
    (case kN => k_is)
    (case aIn => k_is)
    (case lIn => k_is)
    (case Inc => k_is)
    (case kIn => k_is)
    (case ase => k_is)
    (case lse => k_is)
    (case sec => k_is)
    (case kse => k_is)
    (case awi => k_is)
    (case lwi => k_is)
    (case wic => k_is)
    (case kwi => k_is)
    (case ass => k_is)
    (case lss => k_is)
    (case ssc => k_is)
    (case kss => k_is)
    (case aro => k_is)
    (case lro => k_is)
    (case roc => k_is)
    (case kro => k_is)
    (case als => k_is)
    (case lls => k_is)
    (case lsc => k_is)
    (case kls => k_is)
    (case aso => k_is)
    (case lso => k_is)
    (case soc => k_is)
    (case kso => k_is)
    (case asa => k_is)
    (case lsa => k_is)
    (case sac => k_is)
    (case ksa => k_is)
    (case awa => k_is)
    (case lwa => k_is)
    (case wac => k_is)
    (case kwa => k_is)
    (case apo => k_is)
    (case lpo => k_is)
    (case poc => k_is)
    (case kpo => k_is)
    (case ape => k_is)
    (case lpe => k_is)
    (case pec => k_is)
    (case kpe => k_is)
    (case aE => k_is)
    (case lE => k_is)
    (case Ec => k_is)
    (case kE => k_is)
    (case aD => k_is)
    (case lD => k_is)
    (case Dc => k_is)
    (case kD => k_is)
    (case ams => k_is)
    (case lms => k_is)
    (case msc => k_is)
    (case kms => k_is)
    (case alt => k_is)
    (case llt => k_is)
    (case ltc => k_is)
    (case klt => k_is)
    (case ahd => k_is)
    (case lhd => k_is)
    (case hdc => k_is)
    (case khd => k_is)
    (case anr => k_is)
    (case lnr => k_is)
    (case nrc => k_is)
    (case knr => k_is)
    (case app => k_is)
    (case lpp => k_is)
    (case ppc => k_is)
    (case kpp => k_is)
    (case asd => k_is)
    (case lsd => k_is)
    (case sdc => k_is)
    (case ksd => k_is)
    (case arg => k_is)
    (case lrg => k_is)
    (case rgc => k_is)
    (case krg => k_is)
    (case ans => k_is)
    (case lns => k_is)
    (case nsc => k_is)
    (case kns => k_is)
    (case aZ => k_is)
    (case lZ => k_is)
    (case Zc => k_is)
    (case kZ => k_is)
    (case iIn => k_is)
    (case z_isinstance => k_is)
    (case z_len => k_is)
    (case z_all => k_is)
    (case z_any => k_is)
    (case z_sum => k_is)
    (case z_int => k_is)
    (case z_bool => k_is)
    (case z_list => k_is)
    (case z_tuple => k_is)
    (case z_range => k_is)
    (case z_min => k_is)
    (case z_repr => k_is)
    (case z_enumerate => k_is)
    (case z_max => k_is)
    (case z_divmod => k_is)
    (case z_abs => k_is)
    (case z_str => k_is)
    (case mT => k_is)
    (case pT => rfl)
    (case qT => kernel_rfl)
    (case nT => kernel_rfl)
    (case rT => kernel_rfl)
    (case mL => k_is)
    (case pL => rfl)
    (case qL => kernel_rfl)
    (case nL => kernel_rfl)
    (case rL => kernel_rfl)
    (case xg1 => k_is)
    (case xx1 => k_exc)
    (case xk1 => k_is)
    (case xb1 => k_is)
    (case xt1 => k_is)
    (case xg2 => k_is)
    (case xx2 => k_exc)
    (case xk2 => k_is)
    (case xb2 => k_is)
    (case xt2 => k_is)
    (case xg3 => k_is)
    (case xx3 => k_exc)
    (case xk3 => k_is)
    (case xb3 => k_is)
    (case xt3 => k_is)
    (case xg5 => k_is)
    (case xx5 => k_exc)
    (case xk5 => k_is)
    (case xb5 => k_is)
    (case xt5 => k_is)
    (case gG => k_is)
    (case gL => k_is)
